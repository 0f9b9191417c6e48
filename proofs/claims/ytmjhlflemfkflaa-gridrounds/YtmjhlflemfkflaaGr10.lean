/-
  Grids: the walk of GridChecks.
-/
import Derived.Test.YtmjhlflemfkflaaGr8
import Derived.Test.YtmjhlflemfkflaaGr9
namespace Go.Proofs.Ytmjhlflemfkflaa
open Go.RowKit

set_option maxRecDepth 100000 in
set_option maxHeartbeats 3200000 in
theorem gridChecks_walk (R D L G : Int) (gr : Bool) (w : World) : Calls Try.prog 4 #[.agg #[.int .i64 R, .int .i64 D, .int .i64 L, .int .i64 G, .bool gr]] w fun z w' => z = .returned (.bool true) ∧ Below w.heap.size w w' := by
  have b1 := below_trans (below_alloc w (.cells #[.int .i64 R, .int .i64 D, .int .i64 L, .int .i64 G, .bool gr] 47)) ((Below.refl _ _).drew)
  have l1 := (locE_new w [.int .i64 R, .int .i64 D, .int .i64 L, .int .i64 G, .bool gr] 47).later ((Below.refl _ _).drew)
  have HB : Hid (∀ w1, Calls Try.prog 24 #[] w1 fun z w' => z = .returned (.bool true) ∧ Below w1.heap.size w1 w') := gbegun_any
  have HC : Hid (∀ w1, Calls Try.prog 25 #[.agg #[.int .i64 R, .int .i64 D, .int .i64 L, .int .i64 G, .bool gr]] w1 fun z w' => z = .returned (.int .i64 (gridC R D L G)) ∧ Below w1.heap.size w1 w') := fun w1 => gcheck_any R D L G gr w1
  have HR : Hid (∀ w1, Calls Try.prog 26 #[.agg #[.int .i64 R, .int .i64 D, .int .i64 L, .int .i64 G, .bool gr]] w1 fun z w' => z = .returned (.int .i64 (gridC R D L G)) ∧ Below w1.heap.size w1 w') := fun w1 => refGcheck_any R D L G gr w1
  obtain ⟨C, hC⟩ : ∃ C, gridC R D L G = C := ⟨_, rfl⟩
  rw [hC] at HC HR
  clear hC
  go_enter Try.func4, Try.ntmps4
  go_wp2_with fail
  go_region_held3 (fun wq => wq.cell? ⟨w.heap.size, 0, none⟩ = some (.int .i64 R) ∧ wq.cell? ⟨w.heap.size, 1, none⟩ = some (.int .i64 D) ∧ wq.cell? ⟨w.heap.size, 2, none⟩ = some (.int .i64 L) ∧ wq.cell? ⟨w.heap.size, 3, none⟩ = some (.int .i64 G) ∧ wq.cell? ⟨w.heap.size, 4, none⟩ = some (.bool gr)) (go_keep) (first
    | (go_at_call 24; refine (HB.out _).mono ?_; rintro z w2 ⟨rfl, b⟩; have b2 := below_trans b1 b; have l2 := l1.later b; have x0 := l2.cell 0 rfl; have x1 := l2.cell 1 rfl; have x2 := l2.cell 2 rfl; have x3 := l2.cell 3 rfl; have x4 := l2.cell 4 rfl; clear b1 b)
    | (go_at_call 25; have hgd := b2; clear hgd; refine (HC.out _).mono ?_; rintro z w3 ⟨rfl, b⟩; have b3 := below_trans b2 b; have l3 := l2.later b; have y0 := l3.cell 0 rfl; have y1 := l3.cell 1 rfl; have y2 := l3.cell 2 rfl; have y3 := l3.cell 3 rfl; have y4 := l3.cell 4 rfl; clear b2 b)
    | (go_at_call 26; have hgd := b3; clear hgd; refine (HR.out _).mono ?_; rintro z w4 ⟨rfl, b⟩; have b4 := below_trans b3 b; have l4 := l3.later b; have u0 := l4.cell 0 rfl; have u1 := l4.cell 1 rfl; have u2 := l4.cell 2 rfl; have u3 := l4.cell 3 rfl; have u4 := l4.cell 4 rfl; clear b3 b))
  go_goals
  go_wp2
  go_ret
  exact ⟨by simp, b4⟩
end Go.Proofs.Ytmjhlflemfkflaa
