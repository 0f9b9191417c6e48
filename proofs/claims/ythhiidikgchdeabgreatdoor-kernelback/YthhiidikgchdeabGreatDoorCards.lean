/-
  DERIVED. GIVEN WITH THE SEED: THE CARDS: each row of YthhiidikgchdeabGreatDoorRows.lean that lists a variable, with what it lists TIED to the program's text (the seventh form; the later family's looks); each row that meets fmt, with fmt's text TOLD by the authors' own Lean function (tested against real Go, not proved from fmt's source: count such statements apart). THE CARD IS WHAT COUNTS. Prove the row's statement (the work); the ties are given (YthhiidikgchdeabGreatDoorTie.lean); close each card by the builder's one call (the guide's Derived/Test/ToyasCard.lean, 'card_holds'). Laid BY PROGRAM, IN A SANDBOX (cutbox-door.mjs). By AI agents, Wed Nov 11 2026. No macro, syntax, notation, axiom, sorry.
-/
import Derived.Test.YthhiidikgchdeabGreatDoorRows
import GoSem.ClaimSeven
namespace Go.Proofs.YthhiidikgchdeabGreatDoor
namespace Rows

/-- THE TIED CARD OF 'slipsticklaw.KernelCircle'. -/
def kernelCircleCard : Claim7 := { stood := { row := kernelCircleRow, standIns := [], harness := (true, "fbe7ea0c5842408c68ea263e49b2eceaf02ad0c8eaaed8d2f836760094de999e"), looks := false }, kinds := [], alts := [], laidByText := true, laidKinds := [.data], laidTests := true, laidLooks := .later }
def KernelCircleCardSaid : Prop := Claim7.holds Tryz.pinned (.plain (OpenSpec.ofChange kernelCircleSpec)) kernelCircleCard

/-- THE TIED CARD OF 'slipsticklaw.KernelBack'. -/
def kernelBackCard : Claim7 := { stood := { row := kernelBackRow, standIns := [], harness := (true, "fbe7ea0c5842408c68ea263e49b2eceaf02ad0c8eaaed8d2f836760094de999e"), looks := false }, kinds := [], alts := [], laidByText := true, laidKinds := [.data], laidTests := true, laidLooks := .later }
def KernelBackCardSaid : Prop := Claim7.holds Tryz.pinned (.plain (OpenSpec.ofChange kernelBackSpec)) kernelBackCard

/-- THE SECOND FORM's CARD OF 'slipsticklaw.KernelCircle'. -/
def kernelCircleUptoCard : Claim7 := { stood := { row := kernelCircleUptoRow, standIns := [], harness := (true, "fbe7ea0c5842408c68ea263e49b2eceaf02ad0c8eaaed8d2f836760094de999e"), looks := false }, kinds := [], alts := [], laidByText := true, laidKinds := [.data], laidTests := true, laidLooks := .later }
def KernelCircleUptoCardSaid : Prop := Claim7.holds Tryz.pinned (.plain (OpenSpec.upto kernelCircleSpec)) kernelCircleUptoCard

/-- THE SECOND FORM's CARD OF 'slipsticklaw.KernelBack'. -/
def kernelBackUptoCard : Claim7 := { stood := { row := kernelBackUptoRow, standIns := [], harness := (true, "fbe7ea0c5842408c68ea263e49b2eceaf02ad0c8eaaed8d2f836760094de999e"), looks := false }, kinds := [], alts := [], laidByText := true, laidKinds := [.data], laidTests := true, laidLooks := .later }
def KernelBackUptoCardSaid : Prop := Claim7.holds Tryz.pinned (.plain (OpenSpec.upto kernelBackSpec)) kernelBackUptoCard
end Rows
end Go.Proofs.YthhiidikgchdeabGreatDoor
