/-
  Grids: the reference's Width and Away.
-/
import Derived.Test.YtmjhlflemfkflaaDoorGr7
namespace Go.Proofs.YtmjhlflemfkflaaDoor
open Go.RowKit

set_option maxRecDepth 100000 in
theorem refWidth_any (R D L G : Int) (gr : Bool) (w : World) :
    Calls Tryd.prog 20 #[.agg #[.int .i64 R, .int .i64 D, .int .i64 L, .int .i64 G, .bool gr]] w fun z w' => z = .returned (.int .i64 (widthR R)) ∧ Below w.heap.size w w' := by
  have bA := below_alloc w (.cells #[.int .i64 R, .int .i64 D, .int .i64 L, .int .i64 G, .bool gr] 39)
  unfold widthR
  by_cases h : R = 16
  · rw [if_pos h]
    subst h
    go_enter Tryd.func20, Tryd.ntmps20
    go_wp2
    go_ret
    exact ⟨rfl, bA⟩
  · rw [if_neg h]
    have e : (R == 16) = false := by simp; exact h
    go_enter Tryd.func20, Tryd.ntmps20
    go_wp2
    go_ret
    exact ⟨rfl, bA⟩

end Go.Proofs.YtmjhlflemfkflaaDoor
