/-
  DERIVED. GIVEN WITH THE SEED: THE CARDS: each row of YtddkchlamdhgcaaGreatDoorRows.lean that lists a variable, with what it lists TIED to the program's text (the seventh form; the later family's looks); each row that meets fmt, with fmt's text TOLD by the authors' own Lean function (tested against real Go, not proved from fmt's source: count such statements apart). THE CARD IS WHAT COUNTS. Prove the row's statement (the work); the ties are given (YtddkchlamdhgcaaGreatDoorTie.lean); close each card by the builder's one call (the guide's Derived/Test/ToyasCard.lean, 'card_holds'). Laid BY PROGRAM, IN A SANDBOX (cutbox-door.mjs). By AI agents, Wed Nov 11 2026. No macro, syntax, notation, axiom, sorry.
-/
import Derived.Test.YtddkchlamdhgcaaGreatDoorRows
import GoSem.ClaimSeven
namespace Go.Proofs.YtddkchlamdhgcaaGreatDoor
namespace Rows

/-- THE TIED CARD OF 'slipsticklaw.ConvToInts'. -/
def convToIntsCard : Claim7 := { stood := { row := convToIntsRow, standIns := [], harness := (true, "f5cf41a71606a31311214d5248f9cb5f80ea95356baeaa32ac20149d3a6efb56"), looks := false }, kinds := [], alts := [], laidByText := true, laidKinds := [.data], laidTests := true, laidLooks := .later }
def ConvToIntsCardSaid : Prop := Claim7.holds Tryz.pinned (.plain (OpenSpec.ofChange convToIntsSpec)) convToIntsCard

/-- THE TIED CARD OF 'slipsticklaw.ConvExacts'. -/
def convExactsCard : Claim7 := { stood := { row := convExactsRow, standIns := [], harness := (true, "f5cf41a71606a31311214d5248f9cb5f80ea95356baeaa32ac20149d3a6efb56"), looks := false }, kinds := [], alts := [], laidByText := true, laidKinds := [.data], laidTests := true, laidLooks := .later }
def ConvExactsCardSaid : Prop := Claim7.holds Tryz.pinned (.plain (OpenSpec.ofChange convExactsSpec)) convExactsCard

/-- THE TIED CARD OF 'slipsticklaw.ConvBack'. -/
def convBackCard : Claim7 := { stood := { row := convBackRow, standIns := [], harness := (true, "f5cf41a71606a31311214d5248f9cb5f80ea95356baeaa32ac20149d3a6efb56"), looks := false }, kinds := [], alts := [], laidByText := true, laidKinds := [.data], laidTests := true, laidLooks := .later }
def ConvBackCardSaid : Prop := Claim7.holds Tryz.pinned (.plain (OpenSpec.ofChange convBackSpec)) convBackCard

/-- THE TIED CARD OF 'slipsticklaw.ConvThrough'. -/
def convThroughCard : Claim7 := { stood := { row := convThroughRow, standIns := [], harness := (true, "f5cf41a71606a31311214d5248f9cb5f80ea95356baeaa32ac20149d3a6efb56"), looks := false }, kinds := [], alts := [], laidByText := true, laidKinds := [.data], laidTests := true, laidLooks := .later }
def ConvThroughCardSaid : Prop := Claim7.holds Tryz.pinned (.plain (OpenSpec.ofChange convThroughSpec)) convThroughCard

/-- THE SECOND FORM's CARD OF 'slipsticklaw.ConvToInts'. -/
def convToIntsUptoCard : Claim7 := { stood := { row := convToIntsUptoRow, standIns := [], harness := (true, "f5cf41a71606a31311214d5248f9cb5f80ea95356baeaa32ac20149d3a6efb56"), looks := false }, kinds := [], alts := [], laidByText := true, laidKinds := [.data], laidTests := true, laidLooks := .later }
def ConvToIntsUptoCardSaid : Prop := Claim7.holds Tryz.pinned (.plain (OpenSpec.upto convToIntsSpec)) convToIntsUptoCard

/-- THE SECOND FORM's CARD OF 'slipsticklaw.ConvExacts'. -/
def convExactsUptoCard : Claim7 := { stood := { row := convExactsUptoRow, standIns := [], harness := (true, "f5cf41a71606a31311214d5248f9cb5f80ea95356baeaa32ac20149d3a6efb56"), looks := false }, kinds := [], alts := [], laidByText := true, laidKinds := [.data], laidTests := true, laidLooks := .later }
def ConvExactsUptoCardSaid : Prop := Claim7.holds Tryz.pinned (.plain (OpenSpec.upto convExactsSpec)) convExactsUptoCard

/-- THE SECOND FORM's CARD OF 'slipsticklaw.ConvBack'. -/
def convBackUptoCard : Claim7 := { stood := { row := convBackUptoRow, standIns := [], harness := (true, "f5cf41a71606a31311214d5248f9cb5f80ea95356baeaa32ac20149d3a6efb56"), looks := false }, kinds := [], alts := [], laidByText := true, laidKinds := [.data], laidTests := true, laidLooks := .later }
def ConvBackUptoCardSaid : Prop := Claim7.holds Tryz.pinned (.plain (OpenSpec.upto convBackSpec)) convBackUptoCard

/-- THE SECOND FORM's CARD OF 'slipsticklaw.ConvThrough'. -/
def convThroughUptoCard : Claim7 := { stood := { row := convThroughUptoRow, standIns := [], harness := (true, "f5cf41a71606a31311214d5248f9cb5f80ea95356baeaa32ac20149d3a6efb56"), looks := false }, kinds := [], alts := [], laidByText := true, laidKinds := [.data], laidTests := true, laidLooks := .later }
def ConvThroughUptoCardSaid : Prop := Claim7.holds Tryz.pinned (.plain (OpenSpec.upto convThroughSpec)) convThroughUptoCard
end Rows
end Go.Proofs.YtddkchlamdhgcaaGreatDoor
