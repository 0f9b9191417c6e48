/-
  DERIVED. GIVEN WITH THE SEED: THE CARDS: each row of YtgbccbmflokooaaGreatDoorRows.lean that lists a variable, with what it lists TIED to the program's text (the seventh form; the later family's looks); each row that meets fmt, with fmt's text TOLD by the authors' own Lean function (tested against real Go, not proved from fmt's source: count such statements apart). THE CARD IS WHAT COUNTS. Prove the row's statement (the work); the ties are given (YtgbccbmflokooaaGreatDoorTie.lean); close each card by the builder's one call (the guide's Derived/Test/ToyasCard.lean, 'card_holds'). Laid BY PROGRAM, IN A SANDBOX (cutbox-door.mjs). By AI agents, Wed Nov 11 2026. No macro, syntax, notation, axiom, sorry.
-/
import Derived.Test.YtgbccbmflokooaaGreatDoorRows
import GoSem.ClaimSeven
namespace Go.Proofs.YtgbccbmflokooaaGreatDoor
namespace Rows

/-- THE TIED CARD OF 'slipsticklaw.CodecDecodes'. -/
def codecDecodesCard : Claim7 := { stood := { row := codecDecodesRow, standIns := [], harness := (true, "102596719d8b415620e5f4ab2c55a5820c7b444e61bb1e9fba71c69d1930b7db"), looks := false }, kinds := [], alts := [], laidByText := true, laidKinds := [.data], laidTests := true, laidLooks := .later }
def CodecDecodesCardSaid : Prop := Claim7.holds Tryz.pinned (.plain (OpenSpec.ofChange codecDecodesSpec)) codecDecodesCard

/-- THE TIED CARD OF 'slipsticklaw.CodecClasses'. -/
def codecClassesCard : Claim7 := { stood := { row := codecClassesRow, standIns := [], harness := (true, "102596719d8b415620e5f4ab2c55a5820c7b444e61bb1e9fba71c69d1930b7db"), looks := false }, kinds := [], alts := [], laidByText := true, laidKinds := [.data], laidTests := true, laidLooks := .later }
def CodecClassesCardSaid : Prop := Claim7.holds Tryz.pinned (.plain (OpenSpec.ofChange codecClassesSpec)) codecClassesCard

/-- THE TIED CARD OF 'slipsticklaw.CodecEncodes'. -/
def codecEncodesCard : Claim7 := { stood := { row := codecEncodesRow, standIns := [], harness := (true, "102596719d8b415620e5f4ab2c55a5820c7b444e61bb1e9fba71c69d1930b7db"), looks := false }, kinds := [], alts := [], laidByText := true, laidKinds := [.data], laidTests := true, laidLooks := .later }
def CodecEncodesCardSaid : Prop := Claim7.holds Tryz.pinned (.plain (OpenSpec.ofChange codecEncodesSpec)) codecEncodesCard

/-- THE TIED CARD OF 'slipsticklaw.CodecNexts'. -/
def codecNextsCard : Claim7 := { stood := { row := codecNextsRow, standIns := [], harness := (true, "102596719d8b415620e5f4ab2c55a5820c7b444e61bb1e9fba71c69d1930b7db"), looks := false }, kinds := [], alts := [], laidByText := true, laidKinds := [.data], laidTests := true, laidLooks := .later }
def CodecNextsCardSaid : Prop := Claim7.holds Tryz.pinned (.plain (OpenSpec.ofChange codecNextsSpec)) codecNextsCard

/-- THE TIED CARD OF 'slipsticklaw.CodecSteps'. -/
def codecStepsCard : Claim7 := { stood := { row := codecStepsRow, standIns := [], harness := (true, "102596719d8b415620e5f4ab2c55a5820c7b444e61bb1e9fba71c69d1930b7db"), looks := false }, kinds := [], alts := [], laidByText := true, laidKinds := [.data], laidTests := true, laidLooks := .later }
def CodecStepsCardSaid : Prop := Claim7.holds Tryz.pinned (.plain (OpenSpec.ofChange codecStepsSpec)) codecStepsCard

/-- THE SECOND FORM's CARD OF 'slipsticklaw.CodecDecodes'. -/
def codecDecodesUptoCard : Claim7 := { stood := { row := codecDecodesUptoRow, standIns := [], harness := (true, "102596719d8b415620e5f4ab2c55a5820c7b444e61bb1e9fba71c69d1930b7db"), looks := false }, kinds := [], alts := [], laidByText := true, laidKinds := [.data], laidTests := true, laidLooks := .later }
def CodecDecodesUptoCardSaid : Prop := Claim7.holds Tryz.pinned (.plain (OpenSpec.upto codecDecodesSpec)) codecDecodesUptoCard

/-- THE SECOND FORM's CARD OF 'slipsticklaw.CodecClasses'. -/
def codecClassesUptoCard : Claim7 := { stood := { row := codecClassesUptoRow, standIns := [], harness := (true, "102596719d8b415620e5f4ab2c55a5820c7b444e61bb1e9fba71c69d1930b7db"), looks := false }, kinds := [], alts := [], laidByText := true, laidKinds := [.data], laidTests := true, laidLooks := .later }
def CodecClassesUptoCardSaid : Prop := Claim7.holds Tryz.pinned (.plain (OpenSpec.upto codecClassesSpec)) codecClassesUptoCard

/-- THE SECOND FORM's CARD OF 'slipsticklaw.CodecEncodes'. -/
def codecEncodesUptoCard : Claim7 := { stood := { row := codecEncodesUptoRow, standIns := [], harness := (true, "102596719d8b415620e5f4ab2c55a5820c7b444e61bb1e9fba71c69d1930b7db"), looks := false }, kinds := [], alts := [], laidByText := true, laidKinds := [.data], laidTests := true, laidLooks := .later }
def CodecEncodesUptoCardSaid : Prop := Claim7.holds Tryz.pinned (.plain (OpenSpec.upto codecEncodesSpec)) codecEncodesUptoCard

/-- THE SECOND FORM's CARD OF 'slipsticklaw.CodecNexts'. -/
def codecNextsUptoCard : Claim7 := { stood := { row := codecNextsUptoRow, standIns := [], harness := (true, "102596719d8b415620e5f4ab2c55a5820c7b444e61bb1e9fba71c69d1930b7db"), looks := false }, kinds := [], alts := [], laidByText := true, laidKinds := [.data], laidTests := true, laidLooks := .later }
def CodecNextsUptoCardSaid : Prop := Claim7.holds Tryz.pinned (.plain (OpenSpec.upto codecNextsSpec)) codecNextsUptoCard

/-- THE SECOND FORM's CARD OF 'slipsticklaw.CodecSteps'. -/
def codecStepsUptoCard : Claim7 := { stood := { row := codecStepsUptoRow, standIns := [], harness := (true, "102596719d8b415620e5f4ab2c55a5820c7b444e61bb1e9fba71c69d1930b7db"), looks := false }, kinds := [], alts := [], laidByText := true, laidKinds := [.data], laidTests := true, laidLooks := .later }
def CodecStepsUptoCardSaid : Prop := Claim7.holds Tryz.pinned (.plain (OpenSpec.upto codecStepsSpec)) codecStepsUptoCard
end Rows
end Go.Proofs.YtgbccbmflokooaaGreatDoor
