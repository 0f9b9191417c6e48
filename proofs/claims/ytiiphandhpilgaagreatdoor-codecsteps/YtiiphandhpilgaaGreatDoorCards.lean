/-
  DERIVED. GIVEN WITH THE SEED: THE CARDS: each row of YtiiphandhpilgaaGreatDoorRows.lean that lists a variable, with what it lists TIED to the program's text (the seventh form; the later family's looks); each row that meets fmt, with fmt's text TOLD by the authors' own Lean function (tested against real Go, not proved from fmt's source: count such statements apart). THE CARD IS WHAT COUNTS. Prove the row's statement (the work); the ties are given (YtiiphandhpilgaaGreatDoorTie.lean); close each card by the builder's one call (the guide's Derived/Test/ToyasCard.lean, 'card_holds'). Laid BY PROGRAM, IN A SANDBOX (cutbox-door.mjs). By AI agents, Wed Nov 11 2026. No macro, syntax, notation, axiom, sorry.
-/
import Derived.Test.YtiiphandhpilgaaGreatDoorRows
import GoSem.ClaimSeven
namespace Go.Proofs.YtiiphandhpilgaaGreatDoor
namespace Rows

/-- THE TIED CARD OF 'slipsticklaw.CodecEncodes'. -/
def codecEncodesCard : Claim7 := { stood := { row := codecEncodesRow, standIns := [], harness := (true, "a5ff61f701ec08b3012c7e39738bb1abb900ba7929daee748ee7e213b8517aae"), looks := false }, kinds := [], alts := [], laidByText := true, laidKinds := [.data], laidTests := true, laidLooks := .later }
def CodecEncodesCardSaid : Prop := Claim7.holds Tryz.pinned (.plain (OpenSpec.ofChange codecEncodesSpec)) codecEncodesCard

/-- THE TIED CARD OF 'slipsticklaw.CodecNexts'. -/
def codecNextsCard : Claim7 := { stood := { row := codecNextsRow, standIns := [], harness := (true, "a5ff61f701ec08b3012c7e39738bb1abb900ba7929daee748ee7e213b8517aae"), looks := false }, kinds := [], alts := [], laidByText := true, laidKinds := [.data], laidTests := true, laidLooks := .later }
def CodecNextsCardSaid : Prop := Claim7.holds Tryz.pinned (.plain (OpenSpec.ofChange codecNextsSpec)) codecNextsCard

/-- THE TIED CARD OF 'slipsticklaw.CodecSteps'. -/
def codecStepsCard : Claim7 := { stood := { row := codecStepsRow, standIns := [], harness := (true, "a5ff61f701ec08b3012c7e39738bb1abb900ba7929daee748ee7e213b8517aae"), looks := false }, kinds := [], alts := [], laidByText := true, laidKinds := [.data], laidTests := true, laidLooks := .later }
def CodecStepsCardSaid : Prop := Claim7.holds Tryz.pinned (.plain (OpenSpec.ofChange codecStepsSpec)) codecStepsCard

/-- THE SECOND FORM's CARD OF 'slipsticklaw.CodecEncodes'. -/
def codecEncodesUptoCard : Claim7 := { stood := { row := codecEncodesUptoRow, standIns := [], harness := (true, "a5ff61f701ec08b3012c7e39738bb1abb900ba7929daee748ee7e213b8517aae"), looks := false }, kinds := [], alts := [], laidByText := true, laidKinds := [.data], laidTests := true, laidLooks := .later }
def CodecEncodesUptoCardSaid : Prop := Claim7.holds Tryz.pinned (.plain (OpenSpec.upto codecEncodesSpec)) codecEncodesUptoCard

/-- THE SECOND FORM's CARD OF 'slipsticklaw.CodecNexts'. -/
def codecNextsUptoCard : Claim7 := { stood := { row := codecNextsUptoRow, standIns := [], harness := (true, "a5ff61f701ec08b3012c7e39738bb1abb900ba7929daee748ee7e213b8517aae"), looks := false }, kinds := [], alts := [], laidByText := true, laidKinds := [.data], laidTests := true, laidLooks := .later }
def CodecNextsUptoCardSaid : Prop := Claim7.holds Tryz.pinned (.plain (OpenSpec.upto codecNextsSpec)) codecNextsUptoCard

/-- THE SECOND FORM's CARD OF 'slipsticklaw.CodecSteps'. -/
def codecStepsUptoCard : Claim7 := { stood := { row := codecStepsUptoRow, standIns := [], harness := (true, "a5ff61f701ec08b3012c7e39738bb1abb900ba7929daee748ee7e213b8517aae"), looks := false }, kinds := [], alts := [], laidByText := true, laidKinds := [.data], laidTests := true, laidLooks := .later }
def CodecStepsUptoCardSaid : Prop := Claim7.holds Tryz.pinned (.plain (OpenSpec.upto codecStepsSpec)) codecStepsUptoCard
end Rows
end Go.Proofs.YtiiphandhpilgaaGreatDoor
