/-
  NARROWER THAN 'FOR EVERY INPUT', by the rows' own cells (each row's printed sentence says how): ConvToInts: laid · ConvExacts: laid · ConvBack: laid · ConvThrough: laid.
  DERIVED. THE GIVEN ROWS OF THIS SEAT. 4 by the template 'for every input the law returns true; each argument reads behind the call as it read before'; 0 by the template 'total and deterministic' (their statements: YtddkchlamdhgcaaGreatDoorTotals.lean).
  GIVEN WITH THE SEED: the statements are not yours to turn. If you find one false, say at which input.
  Laid BY PROGRAM, IN A SANDBOX (cutbox-rows.mjs): the forced cells as the released guide's own fill.sh prints them over the translation 50fa34b5e09f40e3… (all of the seat's roots in one cut). By AI agents, Wed Nov 11 2026. No macro, syntax, notation, axiom, sorry.
-/
import Derived.Test.YtddkchlamdhgcaaGreatDoorChecked
import GoSem.Claim
import GoSem.ClaimJoined
import GoSem.ClaimMapViews
import Derived.JoinedTies
import Derived.KernelRfl
namespace Go.Proofs.YtddkchlamdhgcaaGreatDoor
/- THE CELL 'sum', in the pinned program and in every row, IS THE sha256 OF THE DUMP (.gsa) THAT YtddkchlamdhgcaaGreatDoorProg.lean LOADS. Nothing in Lean hashes anything: it is a label: what it is worth is what the hold of that sum in a sandbox is worth. -/
noncomputable def Tryz.pinned : Pinned := { name := "ytddkchlamdhgcaagreatdoor", sum := "50fa34b5e09f40e30010b0f5886e58c6d17ac214300e718c3cf22a279f831b27", checked := Tryz.checked }
namespace Rows
def none {H : Type} : Left H := { results := [], args := [] }

/- WHAT THE LISTED PACKAGE-LEVEL VARIABLES READ AS WHEN THE CALL BEGINS. Each datum BY PROGRAM (the guide's laid-datum.mjs) off the statement by which the dump's own 'gosem.cut.vars' lays the variable. In a bare row this is a premise. The card (YtddkchlamdhgcaaGreatDoorCards.lean) ties it to the program's text. -/
def laid_math_bits_deBruijn32tab {H : Type} : DataW H := .agg [.lit (.int .u8 0), .lit (.int .u8 1), .lit (.int .u8 28), .lit (.int .u8 2), .lit (.int .u8 29), .lit (.int .u8 14), .lit (.int .u8 24), .lit (.int .u8 3), .lit (.int .u8 30), .lit (.int .u8 22), .lit (.int .u8 20), .lit (.int .u8 15), .lit (.int .u8 25), .lit (.int .u8 17), .lit (.int .u8 4), .lit (.int .u8 8), .lit (.int .u8 31), .lit (.int .u8 27), .lit (.int .u8 13), .lit (.int .u8 23), .lit (.int .u8 21), .lit (.int .u8 19), .lit (.int .u8 16), .lit (.int .u8 7), .lit (.int .u8 26), .lit (.int .u8 12), .lit (.int .u8 18), .lit (.int .u8 6), .lit (.int .u8 11), .lit (.int .u8 5), .lit (.int .u8 10), .lit (.int .u8 9)]

/-- 'slipsticklaw.ConvToInts': WHATEVER THE INPUT: true; the input reads as it did. -/
def convToIntsSpec : ChangeSpec := { name := "convToInts", fn := fun _ => fun
  | [d1, d2, d3] => { results := [.lit (.bool true)], args := [d1, d2, d3] }
  | _ => none }
def convToIntsRow : OpenClaim := { program := "ytddkchlamdhgcaagreatdoor", sum := "50fa34b5e09f40e30010b0f5886e58c6d17ac214300e718c3cf22a279f831b27", func := "slipstick/slipsticklaw.ConvToInts", spec := "convToInts", unfollowed := true, recurses := true, named := ["math/bits.deBruijn32tab", "math/bits.overflowError"], apart := false, laid := [("math/bits.deBruijn32tab", laid_math_bits_deBruijn32tab)] }
def ConvToIntsSaid : Prop := convToIntsRow.holds Tryz.pinned (OpenSpec.ofChange convToIntsSpec)

/-- ITS FALSE NEIGHBOUR: 'it returns false'. Refute it at one input. -/
def convToIntsWrong : ChangeSpec := { name := "convToInts", fn := fun _ => fun
  | [d1, d2, d3] => { results := [.lit (.bool false)], args := [d1, d2, d3] }
  | _ => none }
def ConvToIntsWrongFalsely : Prop := convToIntsRow.holds Tryz.pinned (OpenSpec.ofChange convToIntsWrong)

/-- 'slipsticklaw.ConvExacts': WHATEVER THE INPUT: true; the input reads as it did. -/
def convExactsSpec : ChangeSpec := { name := "convExacts", fn := fun _ => fun
  | [d1, d2, d3] => { results := [.lit (.bool true)], args := [d1, d2, d3] }
  | _ => none }
def convExactsRow : OpenClaim := { program := "ytddkchlamdhgcaagreatdoor", sum := "50fa34b5e09f40e30010b0f5886e58c6d17ac214300e718c3cf22a279f831b27", func := "slipstick/slipsticklaw.ConvExacts", spec := "convExacts", unfollowed := true, recurses := true, named := ["math/bits.deBruijn32tab", "math/bits.overflowError"], apart := false, laid := [("math/bits.deBruijn32tab", laid_math_bits_deBruijn32tab)] }
def ConvExactsSaid : Prop := convExactsRow.holds Tryz.pinned (OpenSpec.ofChange convExactsSpec)

/-- ITS FALSE NEIGHBOUR: 'it returns false'. Refute it at one input. -/
def convExactsWrong : ChangeSpec := { name := "convExacts", fn := fun _ => fun
  | [d1, d2, d3] => { results := [.lit (.bool false)], args := [d1, d2, d3] }
  | _ => none }
def ConvExactsWrongFalsely : Prop := convExactsRow.holds Tryz.pinned (OpenSpec.ofChange convExactsWrong)

/-- 'slipsticklaw.ConvBack': WHATEVER THE INPUT: true; the input reads as it did. -/
def convBackSpec : ChangeSpec := { name := "convBack", fn := fun _ => fun
  | [d1, d2, d3, d4] => { results := [.lit (.bool true)], args := [d1, d2, d3, d4] }
  | _ => none }
def convBackRow : OpenClaim := { program := "ytddkchlamdhgcaagreatdoor", sum := "50fa34b5e09f40e30010b0f5886e58c6d17ac214300e718c3cf22a279f831b27", func := "slipstick/slipsticklaw.ConvBack", spec := "convBack", unfollowed := true, recurses := true, named := ["math/bits.overflowError", "math/bits.deBruijn32tab"], apart := false, laid := [("math/bits.deBruijn32tab", laid_math_bits_deBruijn32tab)] }
def ConvBackSaid : Prop := convBackRow.holds Tryz.pinned (OpenSpec.ofChange convBackSpec)

/-- ITS FALSE NEIGHBOUR: 'it returns false'. Refute it at one input. -/
def convBackWrong : ChangeSpec := { name := "convBack", fn := fun _ => fun
  | [d1, d2, d3, d4] => { results := [.lit (.bool false)], args := [d1, d2, d3, d4] }
  | _ => none }
def ConvBackWrongFalsely : Prop := convBackRow.holds Tryz.pinned (OpenSpec.ofChange convBackWrong)

/-- 'slipsticklaw.ConvThrough': WHATEVER THE INPUT: true; the input reads as it did. -/
def convThroughSpec : ChangeSpec := { name := "convThrough", fn := fun _ => fun
  | [d1, d2, d3, d4, d5] => { results := [.lit (.bool true)], args := [d1, d2, d3, d4, d5] }
  | _ => none }
def convThroughRow : OpenClaim := { program := "ytddkchlamdhgcaagreatdoor", sum := "50fa34b5e09f40e30010b0f5886e58c6d17ac214300e718c3cf22a279f831b27", func := "slipstick/slipsticklaw.ConvThrough", spec := "convThrough", unfollowed := true, recurses := true, named := ["math/bits.overflowError", "math/bits.deBruijn32tab"], apart := false, laid := [("math/bits.deBruijn32tab", laid_math_bits_deBruijn32tab)] }
def ConvThroughSaid : Prop := convThroughRow.holds Tryz.pinned (OpenSpec.ofChange convThroughSpec)

/-- ITS FALSE NEIGHBOUR: 'it returns false'. Refute it at one input. -/
def convThroughWrong : ChangeSpec := { name := "convThrough", fn := fun _ => fun
  | [d1, d2, d3, d4, d5] => { results := [.lit (.bool false)], args := [d1, d2, d3, d4, d5] }
  | _ => none }
def ConvThroughWrongFalsely : Prop := convThroughRow.holds Tryz.pinned (OpenSpec.ofChange convThroughWrong)

/- THE SECOND FORM. 'bulk': how many values and letters a reading holds, each counted each time it is reached (what is shared counts as often as it is met; a slice's spare places count too). A statement '..UptoSaid' is the law's where the arguments, and the package variables that the reading takes, are together of bulk at most 1048576: NARROWER than '..Said'. Prove '..Said' where nothing that the law and all that it calls make is longer than what came in: it says more and counts as full. Else prove '..UptoSaid'. A law counts once. -/
mutual
def uptoBulk {H : Type} : DataW H → Nat
  | .lit (.string bytes) => bytes.length + 1
  | .lit _ => 1
  | .nil => 1
  | .ptr d => uptoBulk d + 1
  | .slice elems spare => uptoBulkAll elems + uptoBulkAll spare + 1
  | .agg parts => uptoBulkAll parts + 1
  | .iface _ d => uptoBulk d + 1
  | .map entries => uptoBulkEntries entries + 1
  | .held _ => 1
def uptoBulkAll {H : Type} : List (DataW H) → Nat
  | [] => 0
  | d :: r => uptoBulk d + uptoBulkAll r
def uptoBulkEntries {H : Type} : List (Lit × DataW H) → Nat
  | [] => 0
  | x :: r => uptoBulkEntry x + uptoBulkEntries r
def uptoBulkEntry {H : Type} : Lit × DataW H → Nat
  | (.string bytes, d) => bytes.length + uptoBulk d + 1
  | (_, d) => uptoBulk d + 1
 end
def uptoSmall : (H : Type) → List (DataW H) → Bool := fun _ ds => decide (uptoBulkAll ds ≤ 1048576)
def OpenSpec.upto (s : _root_.Go.ChangeSpec) : _root_.Go.OpenSpec := { _root_.Go.OpenSpec.ofChange s with cond := some uptoSmall }

/-- 'slipsticklaw.ConvToInts', WHERE WHAT IT READS IS OF BULK AT MOST 1048576: true; the input reads as it did. -/
def convToIntsUptoRow : OpenClaim := { program := "ytddkchlamdhgcaagreatdoor", sum := "50fa34b5e09f40e30010b0f5886e58c6d17ac214300e718c3cf22a279f831b27", func := "slipstick/slipsticklaw.ConvToInts", spec := "convToInts", unfollowed := true, recurses := true, named := ["math/bits.deBruijn32tab", "math/bits.overflowError"], apart := false, laid := [("math/bits.deBruijn32tab", laid_math_bits_deBruijn32tab)], narrowed := true }
def ConvToIntsUptoSaid : Prop := convToIntsUptoRow.holds Tryz.pinned (OpenSpec.upto convToIntsSpec)

/-- 'slipsticklaw.ConvExacts', WHERE WHAT IT READS IS OF BULK AT MOST 1048576: true; the input reads as it did. -/
def convExactsUptoRow : OpenClaim := { program := "ytddkchlamdhgcaagreatdoor", sum := "50fa34b5e09f40e30010b0f5886e58c6d17ac214300e718c3cf22a279f831b27", func := "slipstick/slipsticklaw.ConvExacts", spec := "convExacts", unfollowed := true, recurses := true, named := ["math/bits.deBruijn32tab", "math/bits.overflowError"], apart := false, laid := [("math/bits.deBruijn32tab", laid_math_bits_deBruijn32tab)], narrowed := true }
def ConvExactsUptoSaid : Prop := convExactsUptoRow.holds Tryz.pinned (OpenSpec.upto convExactsSpec)

/-- 'slipsticklaw.ConvBack', WHERE WHAT IT READS IS OF BULK AT MOST 1048576: true; the input reads as it did. -/
def convBackUptoRow : OpenClaim := { program := "ytddkchlamdhgcaagreatdoor", sum := "50fa34b5e09f40e30010b0f5886e58c6d17ac214300e718c3cf22a279f831b27", func := "slipstick/slipsticklaw.ConvBack", spec := "convBack", unfollowed := true, recurses := true, named := ["math/bits.overflowError", "math/bits.deBruijn32tab"], apart := false, laid := [("math/bits.deBruijn32tab", laid_math_bits_deBruijn32tab)], narrowed := true }
def ConvBackUptoSaid : Prop := convBackUptoRow.holds Tryz.pinned (OpenSpec.upto convBackSpec)

/-- 'slipsticklaw.ConvThrough', WHERE WHAT IT READS IS OF BULK AT MOST 1048576: true; the input reads as it did. -/
def convThroughUptoRow : OpenClaim := { program := "ytddkchlamdhgcaagreatdoor", sum := "50fa34b5e09f40e30010b0f5886e58c6d17ac214300e718c3cf22a279f831b27", func := "slipstick/slipsticklaw.ConvThrough", spec := "convThrough", unfollowed := true, recurses := true, named := ["math/bits.overflowError", "math/bits.deBruijn32tab"], apart := false, laid := [("math/bits.deBruijn32tab", laid_math_bits_deBruijn32tab)], narrowed := true }
def ConvThroughUptoSaid : Prop := convThroughUptoRow.holds Tryz.pinned (OpenSpec.upto convThroughSpec)

end Rows
end Go.Proofs.YtddkchlamdhgcaaGreatDoor
