/-
  DERIVED. GIVEN WITH THE SEED: THE CARDS: each row of YtiakgfmlpdfhdaaDoorRows.lean that lists a variable, with what it lists TIED to the program's text (the seventh form; the later family's looks); each row that meets fmt, with fmt's text TOLD by the authors' own Lean function (tested against real Go, not proved from fmt's source: count such statements apart). THE CARD IS WHAT COUNTS. Prove the row's statement (the work); the ties are given (YtiakgfmlpdfhdaaDoorTie.lean); close each card by the builder's one call (the guide's Derived/Test/ToyasCard.lean, 'card_holds'). Laid BY PROGRAM, IN A SANDBOX (cutbox-door.mjs). By AI agents, Wed Nov 11 2026. No macro, syntax, notation, axiom, sorry.
-/
import Derived.Test.YtiakgfmlpdfhdaaDoorRows
import GoSem.ClaimSeven
namespace Go.Proofs.YtiakgfmlpdfhdaaDoor
namespace Rows

/-- THE TIED CARD OF 'slipsticklaw.SeriesPis'. -/
def seriesPisCard : Claim7 := { stood := { row := seriesPisRow, standIns := [], harness := (true, "8d9efae1e274b125e172520f348f304542b80edd2d67c0a4171fe59cd2487ba9"), looks := false }, kinds := [], alts := [], laidByText := true, laidKinds := [.data], laidTests := true, laidLooks := .later }
def SeriesPisCardSaid : Prop := Claim7.holds Tryd.pinned (.plain (OpenSpec.ofChange seriesPisSpec)) seriesPisCard

/-- THE TIED CARD OF 'slipsticklaw.SeriesLn2s'. -/
def seriesLn2sCard : Claim7 := { stood := { row := seriesLn2sRow, standIns := [], harness := (true, "8d9efae1e274b125e172520f348f304542b80edd2d67c0a4171fe59cd2487ba9"), looks := false }, kinds := [], alts := [], laidByText := true, laidKinds := [.data], laidTests := true, laidLooks := .later }
def SeriesLn2sCardSaid : Prop := Claim7.holds Tryd.pinned (.plain (OpenSpec.ofChange seriesLn2sSpec)) seriesLn2sCard

/-- THE TIED CARD OF 'slipsticklaw.SeriesSums'. -/
def seriesSumsCard : Claim7 := { stood := { row := seriesSumsRow, standIns := [], harness := (true, "8d9efae1e274b125e172520f348f304542b80edd2d67c0a4171fe59cd2487ba9"), looks := false }, kinds := [], alts := [], laidByText := true, laidKinds := [.data], laidTests := true, laidLooks := .later }
def SeriesSumsCardSaid : Prop := Claim7.holds Tryd.pinned (.plain (OpenSpec.ofChange seriesSumsSpec)) seriesSumsCard

/-- THE TIED CARD OF 'slipsticklaw.SeriesNested'. -/
def seriesNestedCard : Claim7 := { stood := { row := seriesNestedRow, standIns := [], harness := (true, "8d9efae1e274b125e172520f348f304542b80edd2d67c0a4171fe59cd2487ba9"), looks := false }, kinds := [], alts := [], laidByText := true, laidKinds := [.data], laidTests := true, laidLooks := .later }
def SeriesNestedCardSaid : Prop := Claim7.holds Tryd.pinned (.plain (OpenSpec.ofChange seriesNestedSpec)) seriesNestedCard

/-- THE SECOND FORM's CARD OF 'slipsticklaw.SeriesPis'. -/
def seriesPisUptoCard : Claim7 := { stood := { row := seriesPisUptoRow, standIns := [], harness := (true, "8d9efae1e274b125e172520f348f304542b80edd2d67c0a4171fe59cd2487ba9"), looks := false }, kinds := [], alts := [], laidByText := true, laidKinds := [.data], laidTests := true, laidLooks := .later }
def SeriesPisUptoCardSaid : Prop := Claim7.holds Tryd.pinned (.plain (OpenSpec.upto seriesPisSpec)) seriesPisUptoCard

/-- THE SECOND FORM's CARD OF 'slipsticklaw.SeriesLn2s'. -/
def seriesLn2sUptoCard : Claim7 := { stood := { row := seriesLn2sUptoRow, standIns := [], harness := (true, "8d9efae1e274b125e172520f348f304542b80edd2d67c0a4171fe59cd2487ba9"), looks := false }, kinds := [], alts := [], laidByText := true, laidKinds := [.data], laidTests := true, laidLooks := .later }
def SeriesLn2sUptoCardSaid : Prop := Claim7.holds Tryd.pinned (.plain (OpenSpec.upto seriesLn2sSpec)) seriesLn2sUptoCard

/-- THE SECOND FORM's CARD OF 'slipsticklaw.SeriesSums'. -/
def seriesSumsUptoCard : Claim7 := { stood := { row := seriesSumsUptoRow, standIns := [], harness := (true, "8d9efae1e274b125e172520f348f304542b80edd2d67c0a4171fe59cd2487ba9"), looks := false }, kinds := [], alts := [], laidByText := true, laidKinds := [.data], laidTests := true, laidLooks := .later }
def SeriesSumsUptoCardSaid : Prop := Claim7.holds Tryd.pinned (.plain (OpenSpec.upto seriesSumsSpec)) seriesSumsUptoCard

/-- THE SECOND FORM's CARD OF 'slipsticklaw.SeriesNested'. -/
def seriesNestedUptoCard : Claim7 := { stood := { row := seriesNestedUptoRow, standIns := [], harness := (true, "8d9efae1e274b125e172520f348f304542b80edd2d67c0a4171fe59cd2487ba9"), looks := false }, kinds := [], alts := [], laidByText := true, laidKinds := [.data], laidTests := true, laidLooks := .later }
def SeriesNestedUptoCardSaid : Prop := Claim7.holds Tryd.pinned (.plain (OpenSpec.upto seriesNestedSpec)) seriesNestedUptoCard
end Rows
end Go.Proofs.YtiakgfmlpdfhdaaDoor
