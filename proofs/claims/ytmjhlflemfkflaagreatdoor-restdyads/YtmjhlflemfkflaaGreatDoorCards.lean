/-
  DERIVED. GIVEN WITH THE SEED: THE CARDS: each row of YtmjhlflemfkflaaGreatDoorRows.lean that lists a variable, with what it lists TIED to the program's text (the seventh form; the later family's looks); each row that meets fmt, with fmt's text TOLD by the authors' own Lean function (tested against real Go, not proved from fmt's source: count such statements apart). THE CARD IS WHAT COUNTS. Prove the row's statement (the work); the ties are given (YtmjhlflemfkflaaGreatDoorTie.lean); close each card by the builder's one call (the guide's Derived/Test/ToyasCard.lean, 'card_holds'). Laid BY PROGRAM, IN A SANDBOX (cutbox-door.mjs). By AI agents, Wed Nov 11 2026. No macro, syntax, notation, axiom, sorry.
-/
import Derived.Test.YtmjhlflemfkflaaGreatDoorRows
import GoSem.ClaimSeven
namespace Go.Proofs.YtmjhlflemfkflaaGreatDoor
namespace Rows

/-- THE TIED CARD OF 'slipsticklaw.BallSqrts'. -/
def ballSqrtsCard : Claim7 := { stood := { row := ballSqrtsRow, standIns := [], harness := (true, "7dc581bd4ceb8bc04ca2b7eef54d655cc147e7debe163fcb34a914ccbbe9726b"), looks := false }, kinds := [], alts := [], laidByText := true, laidKinds := [.data], laidTests := true, laidLooks := .later }
def BallSqrtsCardSaid : Prop := Claim7.holds Tryz.pinned (.plain (OpenSpec.ofChange ballSqrtsSpec)) ballSqrtsCard

/-- THE TIED CARD OF 'slipsticklaw.RestDyads'. -/
def restDyadsCard : Claim7 := { stood := { row := restDyadsRow, standIns := [], harness := (true, "7dc581bd4ceb8bc04ca2b7eef54d655cc147e7debe163fcb34a914ccbbe9726b"), looks := false }, kinds := [], alts := [], laidByText := true, laidKinds := [.data], laidTests := true, laidLooks := .later }
def RestDyadsCardSaid : Prop := Claim7.holds Tryz.pinned (.plain (OpenSpec.ofChange restDyadsSpec)) restDyadsCard

/-- THE SECOND FORM's CARD OF 'slipsticklaw.BallSqrts'. -/
def ballSqrtsUptoCard : Claim7 := { stood := { row := ballSqrtsUptoRow, standIns := [], harness := (true, "7dc581bd4ceb8bc04ca2b7eef54d655cc147e7debe163fcb34a914ccbbe9726b"), looks := false }, kinds := [], alts := [], laidByText := true, laidKinds := [.data], laidTests := true, laidLooks := .later }
def BallSqrtsUptoCardSaid : Prop := Claim7.holds Tryz.pinned (.plain (OpenSpec.upto ballSqrtsSpec)) ballSqrtsUptoCard

/-- THE SECOND FORM's CARD OF 'slipsticklaw.RestDyads'. -/
def restDyadsUptoCard : Claim7 := { stood := { row := restDyadsUptoRow, standIns := [], harness := (true, "7dc581bd4ceb8bc04ca2b7eef54d655cc147e7debe163fcb34a914ccbbe9726b"), looks := false }, kinds := [], alts := [], laidByText := true, laidKinds := [.data], laidTests := true, laidLooks := .later }
def RestDyadsUptoCardSaid : Prop := Claim7.holds Tryz.pinned (.plain (OpenSpec.upto restDyadsSpec)) restDyadsUptoCard
end Rows
end Go.Proofs.YtmjhlflemfkflaaGreatDoor
