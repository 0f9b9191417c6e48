/-
  NARROWER THAN 'FOR EVERY INPUT', by the rows' own cells (each row's printed sentence says how): KernelExps: laid · KernelLogs: laid · KernelSins: laid · KernelCoss: laid · KernelArctans: laid · KernelSums: laid.
  DERIVED. THE GIVEN ROWS OF THIS SEAT. 6 by the template 'for every input the law returns true; each argument reads behind the call as it read before'; 0 by the template 'total and deterministic' (their statements: YthhiidikgchdeaaGreatDoorTotals.lean).
  GIVEN WITH THE SEED: the statements are not yours to turn. If you find one false, say at which input.
  Laid BY PROGRAM, IN A SANDBOX (cutbox-rows.mjs): the forced cells as the released guide's own fill.sh prints them over the translation 6498ab3d280ba273… (all of the seat's roots in one cut). By AI agents, Wed Nov 11 2026. No macro, syntax, notation, axiom, sorry.
-/
import Derived.Test.YthhiidikgchdeaaGreatDoorChecked
import GoSem.Claim
import GoSem.ClaimJoined
import GoSem.ClaimMapViews
import Derived.JoinedTies
import Derived.KernelRfl
namespace Go.Proofs.YthhiidikgchdeaaGreatDoor
/- THE CELL 'sum', in the pinned program and in every row, IS THE sha256 OF THE DUMP (.gsa) THAT YthhiidikgchdeaaGreatDoorProg.lean LOADS. Nothing in Lean hashes anything: it is a label: what it is worth is what the hold of that sum in a sandbox is worth. -/
noncomputable def Tryz.pinned : Pinned := { name := "ythhiidikgchdeaagreatdoor", sum := "6498ab3d280ba2737fcc32d404c8481aba35348eeb96a09d12786c3f65fd5aa1", checked := Tryz.checked }
namespace Rows
def none {H : Type} : Left H := { results := [], args := [] }

/- WHAT THE LISTED PACKAGE-LEVEL VARIABLES READ AS WHEN THE CALL BEGINS. Each datum BY PROGRAM (the guide's laid-datum.mjs) off the statement by which the dump's own 'gosem.cut.vars' lays the variable. In a bare row this is a premise. The card (YthhiidikgchdeaaGreatDoorCards.lean) ties it to the program's text. -/
def laid_math_bits_deBruijn32tab {H : Type} : DataW H := .agg [.lit (.int .u8 0), .lit (.int .u8 1), .lit (.int .u8 28), .lit (.int .u8 2), .lit (.int .u8 29), .lit (.int .u8 14), .lit (.int .u8 24), .lit (.int .u8 3), .lit (.int .u8 30), .lit (.int .u8 22), .lit (.int .u8 20), .lit (.int .u8 15), .lit (.int .u8 25), .lit (.int .u8 17), .lit (.int .u8 4), .lit (.int .u8 8), .lit (.int .u8 31), .lit (.int .u8 27), .lit (.int .u8 13), .lit (.int .u8 23), .lit (.int .u8 21), .lit (.int .u8 19), .lit (.int .u8 16), .lit (.int .u8 7), .lit (.int .u8 26), .lit (.int .u8 12), .lit (.int .u8 18), .lit (.int .u8 6), .lit (.int .u8 11), .lit (.int .u8 5), .lit (.int .u8 10), .lit (.int .u8 9)]

/-- 'slipsticklaw.KernelExps': WHATEVER THE INPUT: true; the input reads as it did. -/
def kernelExpsSpec : ChangeSpec := { name := "kernelExps", fn := fun _ => fun
  | [d1, d2] => { results := [.lit (.bool true)], args := [d1, d2] }
  | _ => none }
def kernelExpsRow : OpenClaim := { program := "ythhiidikgchdeaagreatdoor", sum := "6498ab3d280ba2737fcc32d404c8481aba35348eeb96a09d12786c3f65fd5aa1", func := "slipstick/slipsticklaw.KernelExps", spec := "kernelExps", unfollowed := true, recurses := true, named := ["math/bits.deBruijn32tab", "math/bits.overflowError"], apart := false, laid := [("math/bits.deBruijn32tab", laid_math_bits_deBruijn32tab)] }
def KernelExpsSaid : Prop := kernelExpsRow.holds Tryz.pinned (OpenSpec.ofChange kernelExpsSpec)

/-- ITS FALSE NEIGHBOUR: 'it returns false'. Refute it at one input. -/
def kernelExpsWrong : ChangeSpec := { name := "kernelExps", fn := fun _ => fun
  | [d1, d2] => { results := [.lit (.bool false)], args := [d1, d2] }
  | _ => none }
def KernelExpsWrongFalsely : Prop := kernelExpsRow.holds Tryz.pinned (OpenSpec.ofChange kernelExpsWrong)

/-- 'slipsticklaw.KernelLogs': WHATEVER THE INPUT: true; the input reads as it did. -/
def kernelLogsSpec : ChangeSpec := { name := "kernelLogs", fn := fun _ => fun
  | [d1, d2] => { results := [.lit (.bool true)], args := [d1, d2] }
  | _ => none }
def kernelLogsRow : OpenClaim := { program := "ythhiidikgchdeaagreatdoor", sum := "6498ab3d280ba2737fcc32d404c8481aba35348eeb96a09d12786c3f65fd5aa1", func := "slipstick/slipsticklaw.KernelLogs", spec := "kernelLogs", unfollowed := true, recurses := true, named := ["math/bits.deBruijn32tab", "math/bits.overflowError"], apart := false, laid := [("math/bits.deBruijn32tab", laid_math_bits_deBruijn32tab)] }
def KernelLogsSaid : Prop := kernelLogsRow.holds Tryz.pinned (OpenSpec.ofChange kernelLogsSpec)

/-- ITS FALSE NEIGHBOUR: 'it returns false'. Refute it at one input. -/
def kernelLogsWrong : ChangeSpec := { name := "kernelLogs", fn := fun _ => fun
  | [d1, d2] => { results := [.lit (.bool false)], args := [d1, d2] }
  | _ => none }
def KernelLogsWrongFalsely : Prop := kernelLogsRow.holds Tryz.pinned (OpenSpec.ofChange kernelLogsWrong)

/-- 'slipsticklaw.KernelSins': WHATEVER THE INPUT: true; the input reads as it did. -/
def kernelSinsSpec : ChangeSpec := { name := "kernelSins", fn := fun _ => fun
  | [d1, d2] => { results := [.lit (.bool true)], args := [d1, d2] }
  | _ => none }
def kernelSinsRow : OpenClaim := { program := "ythhiidikgchdeaagreatdoor", sum := "6498ab3d280ba2737fcc32d404c8481aba35348eeb96a09d12786c3f65fd5aa1", func := "slipstick/slipsticklaw.KernelSins", spec := "kernelSins", unfollowed := true, recurses := true, named := ["math/bits.deBruijn32tab", "math/bits.overflowError"], apart := false, laid := [("math/bits.deBruijn32tab", laid_math_bits_deBruijn32tab)] }
def KernelSinsSaid : Prop := kernelSinsRow.holds Tryz.pinned (OpenSpec.ofChange kernelSinsSpec)

/-- ITS FALSE NEIGHBOUR: 'it returns false'. Refute it at one input. -/
def kernelSinsWrong : ChangeSpec := { name := "kernelSins", fn := fun _ => fun
  | [d1, d2] => { results := [.lit (.bool false)], args := [d1, d2] }
  | _ => none }
def KernelSinsWrongFalsely : Prop := kernelSinsRow.holds Tryz.pinned (OpenSpec.ofChange kernelSinsWrong)

/-- 'slipsticklaw.KernelCoss': WHATEVER THE INPUT: true; the input reads as it did. -/
def kernelCossSpec : ChangeSpec := { name := "kernelCoss", fn := fun _ => fun
  | [d1, d2] => { results := [.lit (.bool true)], args := [d1, d2] }
  | _ => none }
def kernelCossRow : OpenClaim := { program := "ythhiidikgchdeaagreatdoor", sum := "6498ab3d280ba2737fcc32d404c8481aba35348eeb96a09d12786c3f65fd5aa1", func := "slipstick/slipsticklaw.KernelCoss", spec := "kernelCoss", unfollowed := true, recurses := true, named := ["math/bits.deBruijn32tab", "math/bits.overflowError"], apart := false, laid := [("math/bits.deBruijn32tab", laid_math_bits_deBruijn32tab)] }
def KernelCossSaid : Prop := kernelCossRow.holds Tryz.pinned (OpenSpec.ofChange kernelCossSpec)

/-- ITS FALSE NEIGHBOUR: 'it returns false'. Refute it at one input. -/
def kernelCossWrong : ChangeSpec := { name := "kernelCoss", fn := fun _ => fun
  | [d1, d2] => { results := [.lit (.bool false)], args := [d1, d2] }
  | _ => none }
def KernelCossWrongFalsely : Prop := kernelCossRow.holds Tryz.pinned (OpenSpec.ofChange kernelCossWrong)

/-- 'slipsticklaw.KernelArctans': WHATEVER THE INPUT: true; the input reads as it did. -/
def kernelArctansSpec : ChangeSpec := { name := "kernelArctans", fn := fun _ => fun
  | [d1, d2] => { results := [.lit (.bool true)], args := [d1, d2] }
  | _ => none }
def kernelArctansRow : OpenClaim := { program := "ythhiidikgchdeaagreatdoor", sum := "6498ab3d280ba2737fcc32d404c8481aba35348eeb96a09d12786c3f65fd5aa1", func := "slipstick/slipsticklaw.KernelArctans", spec := "kernelArctans", unfollowed := true, recurses := true, named := ["math/bits.deBruijn32tab", "math/bits.overflowError"], apart := false, laid := [("math/bits.deBruijn32tab", laid_math_bits_deBruijn32tab)] }
def KernelArctansSaid : Prop := kernelArctansRow.holds Tryz.pinned (OpenSpec.ofChange kernelArctansSpec)

/-- ITS FALSE NEIGHBOUR: 'it returns false'. Refute it at one input. -/
def kernelArctansWrong : ChangeSpec := { name := "kernelArctans", fn := fun _ => fun
  | [d1, d2] => { results := [.lit (.bool false)], args := [d1, d2] }
  | _ => none }
def KernelArctansWrongFalsely : Prop := kernelArctansRow.holds Tryz.pinned (OpenSpec.ofChange kernelArctansWrong)

/-- 'slipsticklaw.KernelSums': WHATEVER THE INPUT: true; the input reads as it did. -/
def kernelSumsSpec : ChangeSpec := { name := "kernelSums", fn := fun _ => fun
  | [d1, d2, d3] => { results := [.lit (.bool true)], args := [d1, d2, d3] }
  | _ => none }
def kernelSumsRow : OpenClaim := { program := "ythhiidikgchdeaagreatdoor", sum := "6498ab3d280ba2737fcc32d404c8481aba35348eeb96a09d12786c3f65fd5aa1", func := "slipstick/slipsticklaw.KernelSums", spec := "kernelSums", unfollowed := true, recurses := true, named := ["math/bits.deBruijn32tab", "math/bits.overflowError"], apart := false, laid := [("math/bits.deBruijn32tab", laid_math_bits_deBruijn32tab)] }
def KernelSumsSaid : Prop := kernelSumsRow.holds Tryz.pinned (OpenSpec.ofChange kernelSumsSpec)

/-- ITS FALSE NEIGHBOUR: 'it returns false'. Refute it at one input. -/
def kernelSumsWrong : ChangeSpec := { name := "kernelSums", fn := fun _ => fun
  | [d1, d2, d3] => { results := [.lit (.bool false)], args := [d1, d2, d3] }
  | _ => none }
def KernelSumsWrongFalsely : Prop := kernelSumsRow.holds Tryz.pinned (OpenSpec.ofChange kernelSumsWrong)

/- THE SECOND FORM. 'bulk': how many values and letters a reading holds, each counted each time it is reached (what is shared counts as often as it is met; a slice's spare places count too). A statement '..UptoSaid' is the law's where the arguments, and the package variables that the reading takes, are together of bulk at most 1048576: NARROWER than '..Said'. Prove '..Said' where nothing that the law and all that it calls make is longer than what came in: it says more and counts as full. Else prove '..UptoSaid'. A law counts once. -/
mutual
def uptoBulk {H : Type} : DataW H → Nat
  | .lit (.string bytes) => bytes.length + 1
  | .lit _ => 1
  | .nil => 1
  | .ptr d => uptoBulk d + 1
  | .slice elems spare => uptoBulkAll elems + uptoBulkAll spare + 1
  | .agg parts => uptoBulkAll parts + 1
  | .iface _ d => uptoBulk d + 1
  | .map entries => uptoBulkEntries entries + 1
  | .held _ => 1
def uptoBulkAll {H : Type} : List (DataW H) → Nat
  | [] => 0
  | d :: r => uptoBulk d + uptoBulkAll r
def uptoBulkEntries {H : Type} : List (Lit × DataW H) → Nat
  | [] => 0
  | x :: r => uptoBulkEntry x + uptoBulkEntries r
def uptoBulkEntry {H : Type} : Lit × DataW H → Nat
  | (.string bytes, d) => bytes.length + uptoBulk d + 1
  | (_, d) => uptoBulk d + 1
 end
def uptoSmall : (H : Type) → List (DataW H) → Bool := fun _ ds => decide (uptoBulkAll ds ≤ 1048576)
def OpenSpec.upto (s : _root_.Go.ChangeSpec) : _root_.Go.OpenSpec := { _root_.Go.OpenSpec.ofChange s with cond := some uptoSmall }

/-- 'slipsticklaw.KernelExps', WHERE WHAT IT READS IS OF BULK AT MOST 1048576: true; the input reads as it did. -/
def kernelExpsUptoRow : OpenClaim := { program := "ythhiidikgchdeaagreatdoor", sum := "6498ab3d280ba2737fcc32d404c8481aba35348eeb96a09d12786c3f65fd5aa1", func := "slipstick/slipsticklaw.KernelExps", spec := "kernelExps", unfollowed := true, recurses := true, named := ["math/bits.deBruijn32tab", "math/bits.overflowError"], apart := false, laid := [("math/bits.deBruijn32tab", laid_math_bits_deBruijn32tab)], narrowed := true }
def KernelExpsUptoSaid : Prop := kernelExpsUptoRow.holds Tryz.pinned (OpenSpec.upto kernelExpsSpec)

/-- 'slipsticklaw.KernelLogs', WHERE WHAT IT READS IS OF BULK AT MOST 1048576: true; the input reads as it did. -/
def kernelLogsUptoRow : OpenClaim := { program := "ythhiidikgchdeaagreatdoor", sum := "6498ab3d280ba2737fcc32d404c8481aba35348eeb96a09d12786c3f65fd5aa1", func := "slipstick/slipsticklaw.KernelLogs", spec := "kernelLogs", unfollowed := true, recurses := true, named := ["math/bits.deBruijn32tab", "math/bits.overflowError"], apart := false, laid := [("math/bits.deBruijn32tab", laid_math_bits_deBruijn32tab)], narrowed := true }
def KernelLogsUptoSaid : Prop := kernelLogsUptoRow.holds Tryz.pinned (OpenSpec.upto kernelLogsSpec)

/-- 'slipsticklaw.KernelSins', WHERE WHAT IT READS IS OF BULK AT MOST 1048576: true; the input reads as it did. -/
def kernelSinsUptoRow : OpenClaim := { program := "ythhiidikgchdeaagreatdoor", sum := "6498ab3d280ba2737fcc32d404c8481aba35348eeb96a09d12786c3f65fd5aa1", func := "slipstick/slipsticklaw.KernelSins", spec := "kernelSins", unfollowed := true, recurses := true, named := ["math/bits.deBruijn32tab", "math/bits.overflowError"], apart := false, laid := [("math/bits.deBruijn32tab", laid_math_bits_deBruijn32tab)], narrowed := true }
def KernelSinsUptoSaid : Prop := kernelSinsUptoRow.holds Tryz.pinned (OpenSpec.upto kernelSinsSpec)

/-- 'slipsticklaw.KernelCoss', WHERE WHAT IT READS IS OF BULK AT MOST 1048576: true; the input reads as it did. -/
def kernelCossUptoRow : OpenClaim := { program := "ythhiidikgchdeaagreatdoor", sum := "6498ab3d280ba2737fcc32d404c8481aba35348eeb96a09d12786c3f65fd5aa1", func := "slipstick/slipsticklaw.KernelCoss", spec := "kernelCoss", unfollowed := true, recurses := true, named := ["math/bits.deBruijn32tab", "math/bits.overflowError"], apart := false, laid := [("math/bits.deBruijn32tab", laid_math_bits_deBruijn32tab)], narrowed := true }
def KernelCossUptoSaid : Prop := kernelCossUptoRow.holds Tryz.pinned (OpenSpec.upto kernelCossSpec)

/-- 'slipsticklaw.KernelArctans', WHERE WHAT IT READS IS OF BULK AT MOST 1048576: true; the input reads as it did. -/
def kernelArctansUptoRow : OpenClaim := { program := "ythhiidikgchdeaagreatdoor", sum := "6498ab3d280ba2737fcc32d404c8481aba35348eeb96a09d12786c3f65fd5aa1", func := "slipstick/slipsticklaw.KernelArctans", spec := "kernelArctans", unfollowed := true, recurses := true, named := ["math/bits.deBruijn32tab", "math/bits.overflowError"], apart := false, laid := [("math/bits.deBruijn32tab", laid_math_bits_deBruijn32tab)], narrowed := true }
def KernelArctansUptoSaid : Prop := kernelArctansUptoRow.holds Tryz.pinned (OpenSpec.upto kernelArctansSpec)

/-- 'slipsticklaw.KernelSums', WHERE WHAT IT READS IS OF BULK AT MOST 1048576: true; the input reads as it did. -/
def kernelSumsUptoRow : OpenClaim := { program := "ythhiidikgchdeaagreatdoor", sum := "6498ab3d280ba2737fcc32d404c8481aba35348eeb96a09d12786c3f65fd5aa1", func := "slipstick/slipsticklaw.KernelSums", spec := "kernelSums", unfollowed := true, recurses := true, named := ["math/bits.deBruijn32tab", "math/bits.overflowError"], apart := false, laid := [("math/bits.deBruijn32tab", laid_math_bits_deBruijn32tab)], narrowed := true }
def KernelSumsUptoSaid : Prop := kernelSumsUptoRow.holds Tryz.pinned (OpenSpec.upto kernelSumsSpec)

end Rows
end Go.Proofs.YthhiidikgchdeaaGreatDoor
