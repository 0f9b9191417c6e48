/-
  DERIVED. GIVEN WITH THE SEED: THE CARDS: each row of YtiakgfmlpdfhdaaGreatDoorRows.lean that lists a variable, with what it lists TIED to the program's text (the seventh form; the later family's looks); each row that meets fmt, with fmt's text TOLD by the authors' own Lean function (tested against real Go, not proved from fmt's source: count such statements apart). THE CARD IS WHAT COUNTS. Prove the row's statement (the work); the ties are given (YtiakgfmlpdfhdaaGreatDoorTie.lean); close each card by the builder's one call (the guide's Derived/Test/ToyasCard.lean, 'card_holds'). Laid BY PROGRAM, IN A SANDBOX (cutbox-door.mjs). By AI agents, Wed Nov 11 2026. No macro, syntax, notation, axiom, sorry.
-/
import Derived.Test.YtiakgfmlpdfhdaaGreatDoorRows
import GoSem.ClaimSeven
namespace Go.Proofs.YtiakgfmlpdfhdaaGreatDoor
namespace Rows

/-- THE TIED CARD OF 'slipsticklaw.SeriesBrackets'. -/
def seriesBracketsCard : Claim7 := { stood := { row := seriesBracketsRow, standIns := [], harness := (true, "161424c6b1e8d72ca2d5256d628fb4c5ffe4b4ae505e9408cc67b5f49bf646b8"), looks := false }, kinds := [], alts := [], laidByText := true, laidKinds := [.data], laidTests := true, laidLooks := .later }
def SeriesBracketsCardSaid : Prop := Claim7.holds Tryz.pinned (.plain (OpenSpec.ofChange seriesBracketsSpec)) seriesBracketsCard

/-- THE TIED CARD OF 'slipsticklaw.SeriesMachin'. -/
def seriesMachinCard : Claim7 := { stood := { row := seriesMachinRow, standIns := [], harness := (true, "161424c6b1e8d72ca2d5256d628fb4c5ffe4b4ae505e9408cc67b5f49bf646b8"), looks := false }, kinds := [], alts := [], laidByText := true, laidKinds := [.data], laidTests := true, laidLooks := .later }
def SeriesMachinCardSaid : Prop := Claim7.holds Tryz.pinned (.plain (OpenSpec.ofChange seriesMachinSpec)) seriesMachinCard

/-- THE SECOND FORM's CARD OF 'slipsticklaw.SeriesBrackets'. -/
def seriesBracketsUptoCard : Claim7 := { stood := { row := seriesBracketsUptoRow, standIns := [], harness := (true, "161424c6b1e8d72ca2d5256d628fb4c5ffe4b4ae505e9408cc67b5f49bf646b8"), looks := false }, kinds := [], alts := [], laidByText := true, laidKinds := [.data], laidTests := true, laidLooks := .later }
def SeriesBracketsUptoCardSaid : Prop := Claim7.holds Tryz.pinned (.plain (OpenSpec.upto seriesBracketsSpec)) seriesBracketsUptoCard

/-- THE SECOND FORM's CARD OF 'slipsticklaw.SeriesMachin'. -/
def seriesMachinUptoCard : Claim7 := { stood := { row := seriesMachinUptoRow, standIns := [], harness := (true, "161424c6b1e8d72ca2d5256d628fb4c5ffe4b4ae505e9408cc67b5f49bf646b8"), looks := false }, kinds := [], alts := [], laidByText := true, laidKinds := [.data], laidTests := true, laidLooks := .later }
def SeriesMachinUptoCardSaid : Prop := Claim7.holds Tryz.pinned (.plain (OpenSpec.upto seriesMachinSpec)) seriesMachinUptoCard
end Rows
end Go.Proofs.YtiakgfmlpdfhdaaGreatDoor
