/-
  NARROWER THAN 'FOR EVERY INPUT', by the rows' own cells (each row's printed sentence says how): BallBacks: laid · GridNumbers: laid · GridHolds: laid · GridSteps: laid · GridBetween: laid · GridKeeps: laid · GridGrows: laid.
  DERIVED. THE GIVEN ROWS OF THIS SEAT. 7 by the template 'for every input the law returns true; each argument reads behind the call as it read before'; 0 by the template 'total and deterministic' (their statements: YtmjhlflemfkflaaDoorTotals.lean).
  GIVEN WITH THE SEED: the statements are not yours to turn. If you find one false, say at which input.
  Laid BY PROGRAM, IN A SANDBOX (cutbox-rows.mjs): the forced cells as the released guide's own fill.sh prints them over the translation 775c995bf1420f81… (all of the seat's roots in one cut). By AI agents, Wed Nov 11 2026. No macro, syntax, notation, axiom, sorry.
-/
import Derived.Test.YtmjhlflemfkflaaDoorChecked
import GoSem.Claim
import GoSem.ClaimJoined
import GoSem.ClaimMapViews
import Derived.JoinedTies
import Derived.KernelRfl
namespace Go.Proofs.YtmjhlflemfkflaaDoor
/- THE CELL 'sum', in the pinned program and in every row, IS THE sha256 OF THE DUMP (.gsa) THAT YtmjhlflemfkflaaDoorProg.lean LOADS. Nothing in Lean hashes anything: it is a label: what it is worth is what the hold of that sum in a sandbox is worth. -/
noncomputable def Tryd.pinned : Pinned := { name := "ytmjhlflemfkflaadoor", sum := "775c995bf1420f817cdbc77779bd334b27e004d22ea73a6b02457f750a189076", checked := Tryd.checked }
namespace Rows
def none {H : Type} : Left H := { results := [], args := [] }

/- WHAT THE LISTED PACKAGE-LEVEL VARIABLES READ AS WHEN THE CALL BEGINS. Each datum BY PROGRAM (the guide's laid-datum.mjs) off the statement by which the dump's own 'gosem.cut.vars' lays the variable. In a bare row this is a premise. The card (YtmjhlflemfkflaaDoorCards.lean) ties it to the program's text. -/
def laid_math_bits_deBruijn32tab {H : Type} : DataW H := .agg [.lit (.int .u8 0), .lit (.int .u8 1), .lit (.int .u8 28), .lit (.int .u8 2), .lit (.int .u8 29), .lit (.int .u8 14), .lit (.int .u8 24), .lit (.int .u8 3), .lit (.int .u8 30), .lit (.int .u8 22), .lit (.int .u8 20), .lit (.int .u8 15), .lit (.int .u8 25), .lit (.int .u8 17), .lit (.int .u8 4), .lit (.int .u8 8), .lit (.int .u8 31), .lit (.int .u8 27), .lit (.int .u8 13), .lit (.int .u8 23), .lit (.int .u8 21), .lit (.int .u8 19), .lit (.int .u8 16), .lit (.int .u8 7), .lit (.int .u8 26), .lit (.int .u8 12), .lit (.int .u8 18), .lit (.int .u8 6), .lit (.int .u8 11), .lit (.int .u8 5), .lit (.int .u8 10), .lit (.int .u8 9)]

/-- 'slipsticklaw.BallBacks': WHATEVER THE INPUT: true; the input reads as it did. -/
def ballBacksSpec : ChangeSpec := { name := "ballBacks", fn := fun _ => fun
  | [d1, d2, d3] => { results := [.lit (.bool true)], args := [d1, d2, d3] }
  | _ => none }
def ballBacksRow : OpenClaim := { program := "ytmjhlflemfkflaadoor", sum := "775c995bf1420f817cdbc77779bd334b27e004d22ea73a6b02457f750a189076", func := "slipstick/slipsticklaw.BallBacks", spec := "ballBacks", unfollowed := true, recurses := true, named := ["math/bits.overflowError", "math/bits.deBruijn32tab"], apart := false, laid := [("math/bits.deBruijn32tab", laid_math_bits_deBruijn32tab)] }
def BallBacksSaid : Prop := ballBacksRow.holds Tryd.pinned (OpenSpec.ofChange ballBacksSpec)

/-- ITS FALSE NEIGHBOUR: 'it returns false'. Refute it at one input. -/
def ballBacksWrong : ChangeSpec := { name := "ballBacks", fn := fun _ => fun
  | [d1, d2, d3] => { results := [.lit (.bool false)], args := [d1, d2, d3] }
  | _ => none }
def BallBacksWrongFalsely : Prop := ballBacksRow.holds Tryd.pinned (OpenSpec.ofChange ballBacksWrong)

/-- 'slipsticklaw.GridNumbers': WHATEVER THE INPUT: true; the input reads as it did. -/
def gridNumbersSpec : ChangeSpec := { name := "gridNumbers", fn := fun _ => fun
  | [d1, d2] => { results := [.lit (.bool true)], args := [d1, d2] }
  | _ => none }
def gridNumbersRow : OpenClaim := { program := "ytmjhlflemfkflaadoor", sum := "775c995bf1420f817cdbc77779bd334b27e004d22ea73a6b02457f750a189076", func := "slipstick/slipsticklaw.GridNumbers", spec := "gridNumbers", unfollowed := true, recurses := true, named := ["math/bits.deBruijn32tab", "math/bits.overflowError"], apart := false, laid := [("math/bits.deBruijn32tab", laid_math_bits_deBruijn32tab)] }
def GridNumbersSaid : Prop := gridNumbersRow.holds Tryd.pinned (OpenSpec.ofChange gridNumbersSpec)

/-- ITS FALSE NEIGHBOUR: 'it returns false'. Refute it at one input. -/
def gridNumbersWrong : ChangeSpec := { name := "gridNumbers", fn := fun _ => fun
  | [d1, d2] => { results := [.lit (.bool false)], args := [d1, d2] }
  | _ => none }
def GridNumbersWrongFalsely : Prop := gridNumbersRow.holds Tryd.pinned (OpenSpec.ofChange gridNumbersWrong)

/-- 'slipsticklaw.GridHolds': WHATEVER THE INPUT: true; the input reads as it did. -/
def gridHoldsSpec : ChangeSpec := { name := "gridHolds", fn := fun _ => fun
  | [d1, d2] => { results := [.lit (.bool true)], args := [d1, d2] }
  | _ => none }
def gridHoldsRow : OpenClaim := { program := "ytmjhlflemfkflaadoor", sum := "775c995bf1420f817cdbc77779bd334b27e004d22ea73a6b02457f750a189076", func := "slipstick/slipsticklaw.GridHolds", spec := "gridHolds", unfollowed := true, recurses := true, named := ["math/bits.deBruijn32tab", "math/bits.overflowError"], apart := false, laid := [("math/bits.deBruijn32tab", laid_math_bits_deBruijn32tab)] }
def GridHoldsSaid : Prop := gridHoldsRow.holds Tryd.pinned (OpenSpec.ofChange gridHoldsSpec)

/-- ITS FALSE NEIGHBOUR: 'it returns false'. Refute it at one input. -/
def gridHoldsWrong : ChangeSpec := { name := "gridHolds", fn := fun _ => fun
  | [d1, d2] => { results := [.lit (.bool false)], args := [d1, d2] }
  | _ => none }
def GridHoldsWrongFalsely : Prop := gridHoldsRow.holds Tryd.pinned (OpenSpec.ofChange gridHoldsWrong)

/-- 'slipsticklaw.GridSteps': WHATEVER THE INPUT: true; the input reads as it did. -/
def gridStepsSpec : ChangeSpec := { name := "gridSteps", fn := fun _ => fun
  | [d1, d2, d3] => { results := [.lit (.bool true)], args := [d1, d2, d3] }
  | _ => none }
def gridStepsRow : OpenClaim := { program := "ytmjhlflemfkflaadoor", sum := "775c995bf1420f817cdbc77779bd334b27e004d22ea73a6b02457f750a189076", func := "slipstick/slipsticklaw.GridSteps", spec := "gridSteps", unfollowed := true, recurses := true, named := ["math/bits.deBruijn32tab", "math/bits.overflowError"], apart := false, laid := [("math/bits.deBruijn32tab", laid_math_bits_deBruijn32tab)] }
def GridStepsSaid : Prop := gridStepsRow.holds Tryd.pinned (OpenSpec.ofChange gridStepsSpec)

/-- ITS FALSE NEIGHBOUR: 'it returns false'. Refute it at one input. -/
def gridStepsWrong : ChangeSpec := { name := "gridSteps", fn := fun _ => fun
  | [d1, d2, d3] => { results := [.lit (.bool false)], args := [d1, d2, d3] }
  | _ => none }
def GridStepsWrongFalsely : Prop := gridStepsRow.holds Tryd.pinned (OpenSpec.ofChange gridStepsWrong)

/-- 'slipsticklaw.GridBetween': WHATEVER THE INPUT: true; the input reads as it did. -/
def gridBetweenSpec : ChangeSpec := { name := "gridBetween", fn := fun _ => fun
  | [d1, d2] => { results := [.lit (.bool true)], args := [d1, d2] }
  | _ => none }
def gridBetweenRow : OpenClaim := { program := "ytmjhlflemfkflaadoor", sum := "775c995bf1420f817cdbc77779bd334b27e004d22ea73a6b02457f750a189076", func := "slipstick/slipsticklaw.GridBetween", spec := "gridBetween", unfollowed := true, recurses := true, named := ["math/bits.overflowError", "math/bits.deBruijn32tab"], apart := false, laid := [("math/bits.deBruijn32tab", laid_math_bits_deBruijn32tab)] }
def GridBetweenSaid : Prop := gridBetweenRow.holds Tryd.pinned (OpenSpec.ofChange gridBetweenSpec)

/-- ITS FALSE NEIGHBOUR: 'it returns false'. Refute it at one input. -/
def gridBetweenWrong : ChangeSpec := { name := "gridBetween", fn := fun _ => fun
  | [d1, d2] => { results := [.lit (.bool false)], args := [d1, d2] }
  | _ => none }
def GridBetweenWrongFalsely : Prop := gridBetweenRow.holds Tryd.pinned (OpenSpec.ofChange gridBetweenWrong)

/-- 'slipsticklaw.GridKeeps': WHATEVER THE INPUT: true; the input reads as it did. -/
def gridKeepsSpec : ChangeSpec := { name := "gridKeeps", fn := fun _ => fun
  | [d1, d2, d3, d4] => { results := [.lit (.bool true)], args := [d1, d2, d3, d4] }
  | _ => none }
def gridKeepsRow : OpenClaim := { program := "ytmjhlflemfkflaadoor", sum := "775c995bf1420f817cdbc77779bd334b27e004d22ea73a6b02457f750a189076", func := "slipstick/slipsticklaw.GridKeeps", spec := "gridKeeps", unfollowed := true, recurses := true, named := ["math/bits.overflowError", "math/bits.deBruijn32tab"], apart := false, laid := [("math/bits.deBruijn32tab", laid_math_bits_deBruijn32tab)] }
def GridKeepsSaid : Prop := gridKeepsRow.holds Tryd.pinned (OpenSpec.ofChange gridKeepsSpec)

/-- ITS FALSE NEIGHBOUR: 'it returns false'. Refute it at one input. -/
def gridKeepsWrong : ChangeSpec := { name := "gridKeeps", fn := fun _ => fun
  | [d1, d2, d3, d4] => { results := [.lit (.bool false)], args := [d1, d2, d3, d4] }
  | _ => none }
def GridKeepsWrongFalsely : Prop := gridKeepsRow.holds Tryd.pinned (OpenSpec.ofChange gridKeepsWrong)

/-- 'slipsticklaw.GridGrows': WHATEVER THE INPUT: true; the input reads as it did. -/
def gridGrowsSpec : ChangeSpec := { name := "gridGrows", fn := fun _ => fun
  | [d1, d2, d3, d4] => { results := [.lit (.bool true)], args := [d1, d2, d3, d4] }
  | _ => none }
def gridGrowsRow : OpenClaim := { program := "ytmjhlflemfkflaadoor", sum := "775c995bf1420f817cdbc77779bd334b27e004d22ea73a6b02457f750a189076", func := "slipstick/slipsticklaw.GridGrows", spec := "gridGrows", unfollowed := true, recurses := true, named := ["math/bits.overflowError", "math/bits.deBruijn32tab"], apart := false, laid := [("math/bits.deBruijn32tab", laid_math_bits_deBruijn32tab)] }
def GridGrowsSaid : Prop := gridGrowsRow.holds Tryd.pinned (OpenSpec.ofChange gridGrowsSpec)

/-- ITS FALSE NEIGHBOUR: 'it returns false'. Refute it at one input. -/
def gridGrowsWrong : ChangeSpec := { name := "gridGrows", fn := fun _ => fun
  | [d1, d2, d3, d4] => { results := [.lit (.bool false)], args := [d1, d2, d3, d4] }
  | _ => none }
def GridGrowsWrongFalsely : Prop := gridGrowsRow.holds Tryd.pinned (OpenSpec.ofChange gridGrowsWrong)

/- THE SECOND FORM. 'bulk': how many values and letters a reading holds, each counted each time it is reached (what is shared counts as often as it is met; a slice's spare places count too). A statement '..UptoSaid' is the law's where the arguments, and the package variables that the reading takes, are together of bulk at most 1048576: NARROWER than '..Said'. Prove '..Said' where nothing that the law and all that it calls make is longer than what came in: it says more and counts as full. Else prove '..UptoSaid'. A law counts once. -/
mutual
def uptoBulk {H : Type} : DataW H → Nat
  | .lit (.string bytes) => bytes.length + 1
  | .lit _ => 1
  | .nil => 1
  | .ptr d => uptoBulk d + 1
  | .slice elems spare => uptoBulkAll elems + uptoBulkAll spare + 1
  | .agg parts => uptoBulkAll parts + 1
  | .iface _ d => uptoBulk d + 1
  | .map entries => uptoBulkEntries entries + 1
  | .held _ => 1
def uptoBulkAll {H : Type} : List (DataW H) → Nat
  | [] => 0
  | d :: r => uptoBulk d + uptoBulkAll r
def uptoBulkEntries {H : Type} : List (Lit × DataW H) → Nat
  | [] => 0
  | x :: r => uptoBulkEntry x + uptoBulkEntries r
def uptoBulkEntry {H : Type} : Lit × DataW H → Nat
  | (.string bytes, d) => bytes.length + uptoBulk d + 1
  | (_, d) => uptoBulk d + 1
 end
def uptoSmall : (H : Type) → List (DataW H) → Bool := fun _ ds => decide (uptoBulkAll ds ≤ 1048576)
def OpenSpec.upto (s : _root_.Go.ChangeSpec) : _root_.Go.OpenSpec := { _root_.Go.OpenSpec.ofChange s with cond := some uptoSmall }

/-- 'slipsticklaw.BallBacks', WHERE WHAT IT READS IS OF BULK AT MOST 1048576: true; the input reads as it did. -/
def ballBacksUptoRow : OpenClaim := { program := "ytmjhlflemfkflaadoor", sum := "775c995bf1420f817cdbc77779bd334b27e004d22ea73a6b02457f750a189076", func := "slipstick/slipsticklaw.BallBacks", spec := "ballBacks", unfollowed := true, recurses := true, named := ["math/bits.overflowError", "math/bits.deBruijn32tab"], apart := false, laid := [("math/bits.deBruijn32tab", laid_math_bits_deBruijn32tab)], narrowed := true }
def BallBacksUptoSaid : Prop := ballBacksUptoRow.holds Tryd.pinned (OpenSpec.upto ballBacksSpec)

/-- 'slipsticklaw.GridNumbers', WHERE WHAT IT READS IS OF BULK AT MOST 1048576: true; the input reads as it did. -/
def gridNumbersUptoRow : OpenClaim := { program := "ytmjhlflemfkflaadoor", sum := "775c995bf1420f817cdbc77779bd334b27e004d22ea73a6b02457f750a189076", func := "slipstick/slipsticklaw.GridNumbers", spec := "gridNumbers", unfollowed := true, recurses := true, named := ["math/bits.deBruijn32tab", "math/bits.overflowError"], apart := false, laid := [("math/bits.deBruijn32tab", laid_math_bits_deBruijn32tab)], narrowed := true }
def GridNumbersUptoSaid : Prop := gridNumbersUptoRow.holds Tryd.pinned (OpenSpec.upto gridNumbersSpec)

/-- 'slipsticklaw.GridHolds', WHERE WHAT IT READS IS OF BULK AT MOST 1048576: true; the input reads as it did. -/
def gridHoldsUptoRow : OpenClaim := { program := "ytmjhlflemfkflaadoor", sum := "775c995bf1420f817cdbc77779bd334b27e004d22ea73a6b02457f750a189076", func := "slipstick/slipsticklaw.GridHolds", spec := "gridHolds", unfollowed := true, recurses := true, named := ["math/bits.deBruijn32tab", "math/bits.overflowError"], apart := false, laid := [("math/bits.deBruijn32tab", laid_math_bits_deBruijn32tab)], narrowed := true }
def GridHoldsUptoSaid : Prop := gridHoldsUptoRow.holds Tryd.pinned (OpenSpec.upto gridHoldsSpec)

/-- 'slipsticklaw.GridSteps', WHERE WHAT IT READS IS OF BULK AT MOST 1048576: true; the input reads as it did. -/
def gridStepsUptoRow : OpenClaim := { program := "ytmjhlflemfkflaadoor", sum := "775c995bf1420f817cdbc77779bd334b27e004d22ea73a6b02457f750a189076", func := "slipstick/slipsticklaw.GridSteps", spec := "gridSteps", unfollowed := true, recurses := true, named := ["math/bits.deBruijn32tab", "math/bits.overflowError"], apart := false, laid := [("math/bits.deBruijn32tab", laid_math_bits_deBruijn32tab)], narrowed := true }
def GridStepsUptoSaid : Prop := gridStepsUptoRow.holds Tryd.pinned (OpenSpec.upto gridStepsSpec)

/-- 'slipsticklaw.GridBetween', WHERE WHAT IT READS IS OF BULK AT MOST 1048576: true; the input reads as it did. -/
def gridBetweenUptoRow : OpenClaim := { program := "ytmjhlflemfkflaadoor", sum := "775c995bf1420f817cdbc77779bd334b27e004d22ea73a6b02457f750a189076", func := "slipstick/slipsticklaw.GridBetween", spec := "gridBetween", unfollowed := true, recurses := true, named := ["math/bits.overflowError", "math/bits.deBruijn32tab"], apart := false, laid := [("math/bits.deBruijn32tab", laid_math_bits_deBruijn32tab)], narrowed := true }
def GridBetweenUptoSaid : Prop := gridBetweenUptoRow.holds Tryd.pinned (OpenSpec.upto gridBetweenSpec)

/-- 'slipsticklaw.GridKeeps', WHERE WHAT IT READS IS OF BULK AT MOST 1048576: true; the input reads as it did. -/
def gridKeepsUptoRow : OpenClaim := { program := "ytmjhlflemfkflaadoor", sum := "775c995bf1420f817cdbc77779bd334b27e004d22ea73a6b02457f750a189076", func := "slipstick/slipsticklaw.GridKeeps", spec := "gridKeeps", unfollowed := true, recurses := true, named := ["math/bits.overflowError", "math/bits.deBruijn32tab"], apart := false, laid := [("math/bits.deBruijn32tab", laid_math_bits_deBruijn32tab)], narrowed := true }
def GridKeepsUptoSaid : Prop := gridKeepsUptoRow.holds Tryd.pinned (OpenSpec.upto gridKeepsSpec)

/-- 'slipsticklaw.GridGrows', WHERE WHAT IT READS IS OF BULK AT MOST 1048576: true; the input reads as it did. -/
def gridGrowsUptoRow : OpenClaim := { program := "ytmjhlflemfkflaadoor", sum := "775c995bf1420f817cdbc77779bd334b27e004d22ea73a6b02457f750a189076", func := "slipstick/slipsticklaw.GridGrows", spec := "gridGrows", unfollowed := true, recurses := true, named := ["math/bits.overflowError", "math/bits.deBruijn32tab"], apart := false, laid := [("math/bits.deBruijn32tab", laid_math_bits_deBruijn32tab)], narrowed := true }
def GridGrowsUptoSaid : Prop := gridGrowsUptoRow.holds Tryd.pinned (OpenSpec.upto gridGrowsSpec)

end Rows
end Go.Proofs.YtmjhlflemfkflaaDoor
