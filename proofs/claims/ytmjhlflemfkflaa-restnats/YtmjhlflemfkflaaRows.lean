/-
  No cell of these rows narrows 'for every input' (looked for: loops, veiled, ifaces, maps, wideKeys, modest, calm, conditions, laid).
  DERIVED. THE GIVEN ROWS OF THIS SEAT. 3 by the template 'for every input the law returns true; each argument reads behind the call as it read before'; 0 by the template 'total and deterministic' (their statements: YtmjhlflemfkflaaTotals.lean).
  GIVEN WITH THE SEED: the statements are not yours to turn. If you find one false, say at which input.
  Laid BY PROGRAM, IN A SANDBOX (cutbox-rows.mjs): the forced cells as the released guide's own fill.sh prints them over the translation e8cce3896f440b6b… (all of the seat's roots in one cut). By AI agents, Wed Nov 11 2026. No macro, syntax, notation, axiom, sorry.
-/
import Derived.Test.YtmjhlflemfkflaaChecked
import GoSem.Claim
import GoSem.ClaimJoined
import GoSem.ClaimMapViews
import Derived.JoinedTies
import Derived.KernelRfl
namespace Go.Proofs.Ytmjhlflemfkflaa
/- THE CELL 'sum', in the pinned program and in every row, IS THE sha256 OF THE DUMP (.gsa) THAT YtmjhlflemfkflaaProg.lean LOADS. Nothing in Lean hashes anything: it is a label: what it is worth is what the hold of that sum in a sandbox is worth. -/
noncomputable def Try.pinned : Pinned := { name := "ytmjhlflemfkflaa", sum := "e8cce3896f440b6b3f0cd4b85d75ea9b8918e00ffd351b5faf427e547b4c10e9", checked := Try.checked }
namespace Rows
def none {H : Type} : Left H := { results := [], args := [] }

/-- 'slipsticklaw.RestNats': WHATEVER THE INPUT: true; the input reads as it did. -/
def restNatsSpec : ChangeSpec := { name := "restNats", fn := fun _ => fun
  | [d1, d2, d3] => { results := [.lit (.bool true)], args := [d1, d2, d3] }
  | _ => none }
def restNatsRow : OpenClaim := { program := "ytmjhlflemfkflaa", sum := "e8cce3896f440b6b3f0cd4b85d75ea9b8918e00ffd351b5faf427e547b4c10e9", func := "slipstick/slipsticklaw.RestNats", spec := "restNats", unfollowed := true, recurses := true, named := ["math/bits.overflowError"], apart := false }
def RestNatsSaid : Prop := restNatsRow.holds Try.pinned (OpenSpec.ofChange restNatsSpec)

/-- ITS FALSE NEIGHBOUR: 'it returns false'. Refute it at one input. -/
def restNatsWrong : ChangeSpec := { name := "restNats", fn := fun _ => fun
  | [d1, d2, d3] => { results := [.lit (.bool false)], args := [d1, d2, d3] }
  | _ => none }
def RestNatsWrongFalsely : Prop := restNatsRow.holds Try.pinned (OpenSpec.ofChange restNatsWrong)

/-- 'slipsticklaw.GridChecks': WHATEVER THE INPUT: true; the input reads as it did. -/
def gridChecksSpec : ChangeSpec := { name := "gridChecks", fn := fun _ => fun
  | [d] => { results := [.lit (.bool true)], args := [d] }
  | _ => none }
def gridChecksRow : OpenClaim := { program := "ytmjhlflemfkflaa", sum := "e8cce3896f440b6b3f0cd4b85d75ea9b8918e00ffd351b5faf427e547b4c10e9", func := "slipstick/slipsticklaw.GridChecks", spec := "gridChecks", unfollowed := true, recurses := true, named := ["math/bits.overflowError"], apart := false }
def GridChecksSaid : Prop := gridChecksRow.holds Try.pinned (OpenSpec.ofChange gridChecksSpec)

/-- ITS FALSE NEIGHBOUR: 'it returns false'. Refute it at one input. -/
def gridChecksWrong : ChangeSpec := { name := "gridChecks", fn := fun _ => fun
  | [d] => { results := [.lit (.bool false)], args := [d] }
  | _ => none }
def GridChecksWrongFalsely : Prop := gridChecksRow.holds Try.pinned (OpenSpec.ofChange gridChecksWrong)

/-- 'slipsticklaw.GridRounds': WHATEVER THE INPUT: true; the input reads as it did. -/
def gridRoundsSpec : ChangeSpec := { name := "gridRounds", fn := fun _ => fun
  | [d1, d2, d3] => { results := [.lit (.bool true)], args := [d1, d2, d3] }
  | _ => none }
def gridRoundsRow : OpenClaim := { program := "ytmjhlflemfkflaa", sum := "e8cce3896f440b6b3f0cd4b85d75ea9b8918e00ffd351b5faf427e547b4c10e9", func := "slipstick/slipsticklaw.GridRounds", spec := "gridRounds", unfollowed := true, recurses := true, named := ["math/bits.overflowError"], apart := false }
def GridRoundsSaid : Prop := gridRoundsRow.holds Try.pinned (OpenSpec.ofChange gridRoundsSpec)

/-- ITS FALSE NEIGHBOUR: 'it returns false'. Refute it at one input. -/
def gridRoundsWrong : ChangeSpec := { name := "gridRounds", fn := fun _ => fun
  | [d1, d2, d3] => { results := [.lit (.bool false)], args := [d1, d2, d3] }
  | _ => none }
def GridRoundsWrongFalsely : Prop := gridRoundsRow.holds Try.pinned (OpenSpec.ofChange gridRoundsWrong)

/- THE SECOND FORM. 'bulk': how many values and letters a reading holds, each counted each time it is reached (what is shared counts as often as it is met; a slice's spare places count too). A statement '..UptoSaid' is the law's where the arguments, and the package variables that the reading takes, are together of bulk at most 1048576: NARROWER than '..Said'. Prove '..Said' where nothing that the law and all that it calls make is longer than what came in: it says more and counts as full. Else prove '..UptoSaid'. A law counts once. -/
mutual
def uptoBulk {H : Type} : DataW H → Nat
  | .lit (.string bytes) => bytes.length + 1
  | .lit _ => 1
  | .nil => 1
  | .ptr d => uptoBulk d + 1
  | .slice elems spare => uptoBulkAll elems + uptoBulkAll spare + 1
  | .agg parts => uptoBulkAll parts + 1
  | .iface _ d => uptoBulk d + 1
  | .map entries => uptoBulkEntries entries + 1
  | .held _ => 1
def uptoBulkAll {H : Type} : List (DataW H) → Nat
  | [] => 0
  | d :: r => uptoBulk d + uptoBulkAll r
def uptoBulkEntries {H : Type} : List (Lit × DataW H) → Nat
  | [] => 0
  | x :: r => uptoBulkEntry x + uptoBulkEntries r
def uptoBulkEntry {H : Type} : Lit × DataW H → Nat
  | (.string bytes, d) => bytes.length + uptoBulk d + 1
  | (_, d) => uptoBulk d + 1
 end
def uptoSmall : (H : Type) → List (DataW H) → Bool := fun _ ds => decide (uptoBulkAll ds ≤ 1048576)
def OpenSpec.upto (s : _root_.Go.ChangeSpec) : _root_.Go.OpenSpec := { _root_.Go.OpenSpec.ofChange s with cond := some uptoSmall }

/-- 'slipsticklaw.RestNats', WHERE WHAT IT READS IS OF BULK AT MOST 1048576: true; the input reads as it did. -/
def restNatsUptoRow : OpenClaim := { program := "ytmjhlflemfkflaa", sum := "e8cce3896f440b6b3f0cd4b85d75ea9b8918e00ffd351b5faf427e547b4c10e9", func := "slipstick/slipsticklaw.RestNats", spec := "restNats", unfollowed := true, recurses := true, named := ["math/bits.overflowError"], apart := false, narrowed := true }
def RestNatsUptoSaid : Prop := restNatsUptoRow.holds Try.pinned (OpenSpec.upto restNatsSpec)

/-- 'slipsticklaw.GridChecks', WHERE WHAT IT READS IS OF BULK AT MOST 1048576: true; the input reads as it did. -/
def gridChecksUptoRow : OpenClaim := { program := "ytmjhlflemfkflaa", sum := "e8cce3896f440b6b3f0cd4b85d75ea9b8918e00ffd351b5faf427e547b4c10e9", func := "slipstick/slipsticklaw.GridChecks", spec := "gridChecks", unfollowed := true, recurses := true, named := ["math/bits.overflowError"], apart := false, narrowed := true }
def GridChecksUptoSaid : Prop := gridChecksUptoRow.holds Try.pinned (OpenSpec.upto gridChecksSpec)

/-- 'slipsticklaw.GridRounds', WHERE WHAT IT READS IS OF BULK AT MOST 1048576: true; the input reads as it did. -/
def gridRoundsUptoRow : OpenClaim := { program := "ytmjhlflemfkflaa", sum := "e8cce3896f440b6b3f0cd4b85d75ea9b8918e00ffd351b5faf427e547b4c10e9", func := "slipstick/slipsticklaw.GridRounds", spec := "gridRounds", unfollowed := true, recurses := true, named := ["math/bits.overflowError"], apart := false, narrowed := true }
def GridRoundsUptoSaid : Prop := gridRoundsUptoRow.holds Try.pinned (OpenSpec.upto gridRoundsSpec)

end Rows
end Go.Proofs.Ytmjhlflemfkflaa
