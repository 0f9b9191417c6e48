/-
  DERIVED. GIVEN WITH THE SEED: THE CARDS: each row of YtibnjbojkjablaaDoorRows.lean that lists a variable, with what it lists TIED to the program's text (the seventh form; the later family's looks); each row that meets fmt, with fmt's text TOLD by the authors' own Lean function (tested against real Go, not proved from fmt's source: count such statements apart). THE CARD IS WHAT COUNTS. Prove the row's statement (the work); the ties are given (YtibnjbojkjablaaDoorTie.lean); close each card by the builder's one call (the guide's Derived/Test/ToyasCard.lean, 'card_holds'). Laid BY PROGRAM, IN A SANDBOX (cutbox-door.mjs). By AI agents, Wed Nov 11 2026. No macro, syntax, notation, axiom, sorry.
-/
import Derived.Test.YtibnjbojkjablaaDoorRows
import GoSem.ClaimSeven
namespace Go.Proofs.YtibnjbojkjablaaDoor
namespace Rows

/-- THE TIED CARD OF 'slipsticklaw.GridGrows'. -/
def gridGrowsCard : Claim7 := { stood := { row := gridGrowsRow, standIns := [], harness := (true, "eb5ac462b236eaae667dbecb44f2b424d7d7002bb4978f7bb1aaa0016ec8bae7"), looks := false }, kinds := [], alts := [], laidByText := true, laidKinds := [.data], laidTests := true, laidLooks := .later }
def GridGrowsCardSaid : Prop := Claim7.holds Tryd.pinned (.plain (OpenSpec.ofChange gridGrowsSpec)) gridGrowsCard

/-- THE SECOND FORM's CARD OF 'slipsticklaw.GridGrows'. -/
def gridGrowsUptoCard : Claim7 := { stood := { row := gridGrowsUptoRow, standIns := [], harness := (true, "eb5ac462b236eaae667dbecb44f2b424d7d7002bb4978f7bb1aaa0016ec8bae7"), looks := false }, kinds := [], alts := [], laidByText := true, laidKinds := [.data], laidTests := true, laidLooks := .later }
def GridGrowsUptoCardSaid : Prop := Claim7.holds Tryd.pinned (.plain (OpenSpec.upto gridGrowsSpec)) gridGrowsUptoCard
end Rows
end Go.Proofs.YtibnjbojkjablaaDoor
