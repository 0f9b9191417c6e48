/-
  Grids: the reference's Width and Away.
-/
import Derived.Test.YtmjhlflemfkflaaGr7
namespace Go.Proofs.Ytmjhlflemfkflaa
open Go.RowKit

set_option maxRecDepth 100000 in
theorem refWidth_any (R D L G : Int) (gr : Bool) (w : World) :
    Calls Try.prog 53 #[.agg #[.int .i64 R, .int .i64 D, .int .i64 L, .int .i64 G, .bool gr]] w fun z w' => z = .returned (.int .i64 (widthR R)) ∧ Below w.heap.size w w' := by
  have bA := below_alloc w (.cells #[.int .i64 R, .int .i64 D, .int .i64 L, .int .i64 G, .bool gr] 47)
  unfold widthR
  by_cases h : R = 16
  · rw [if_pos h]
    subst h
    go_enter Try.func53, Try.ntmps53
    go_wp2
    go_ret
    exact ⟨rfl, bA⟩
  · rw [if_neg h]
    have e : (R == 16) = false := by simp; exact h
    go_enter Try.func53, Try.ntmps53
    go_wp2
    go_ret
    exact ⟨rfl, bA⟩

set_option maxRecDepth 100000 in
set_option maxHeartbeats 800000 in
theorem refAway1_any (neg odd : Bool) (half : Int) (w : World) :
    Calls Try.prog 56 #[.int .i64 1, .bool neg, .bool odd, .int .i64 half] w fun z w' => z = .returned (.bool (awayB 1 half odd neg)) ∧ w' = w := by
  unfold awayB
  by_cases h : 0 < half
  · go_enter Try.func56, Try.ntmps56
    go_wp2
    go_ret
    simp
  · by_cases h0 : half = 0
    · subst h0
      cases odd
      · go_enter Try.func56, Try.ntmps56
        go_wp2
        go_ret
        simp
      · go_enter Try.func56, Try.ntmps56
        go_wp2
        go_ret
        simp
    · have e : (half == 0) = false := by simp; exact h0
      go_enter Try.func56, Try.ntmps56
      go_wp2
      go_ret
      simp
      omega

set_option maxRecDepth 100000 in
set_option maxHeartbeats 800000 in
theorem refAway2_any (neg odd : Bool) (half : Int) (w : World) :
    Calls Try.prog 56 #[.int .i64 2, .bool neg, .bool odd, .int .i64 half] w fun z w' => z = .returned (.bool (awayB 2 half odd neg)) ∧ w' = w := by
  unfold awayB
  go_enter Try.func56, Try.ntmps56
  go_wp2
  go_ret
  simp

set_option maxRecDepth 100000 in
set_option maxHeartbeats 800000 in
theorem refAway3_any (neg odd : Bool) (half : Int) (w : World) :
    Calls Try.prog 56 #[.int .i64 3, .bool neg, .bool odd, .int .i64 half] w fun z w' => z = .returned (.bool (awayB 3 half odd neg)) ∧ w' = w := by
  unfold awayB
  go_enter Try.func56, Try.ntmps56
  go_wp2
  go_ret
  simp

set_option maxRecDepth 100000 in
set_option maxHeartbeats 800000 in
theorem refAway4_any (neg odd : Bool) (half : Int) (w : World) :
    Calls Try.prog 56 #[.int .i64 4, .bool neg, .bool odd, .int .i64 half] w fun z w' => z = .returned (.bool (awayB 4 half odd neg)) ∧ w' = w := by
  unfold awayB
  go_enter Try.func56, Try.ntmps56
  go_wp2
  go_ret
  simp

set_option maxRecDepth 100000 in
set_option maxHeartbeats 800000 in
theorem refAway5_any (neg odd : Bool) (half : Int) (w : World) :
    Calls Try.prog 56 #[.int .i64 5, .bool neg, .bool odd, .int .i64 half] w fun z w' => z = .returned (.bool (awayB 5 half odd neg)) ∧ w' = w := by
  unfold awayB
  go_enter Try.func56, Try.ntmps56
  go_wp2
  go_ret
  simp

theorem refAway_any {way : Int} (hw : isWay way = true) (neg odd : Bool) (half : Int) (w : World) :
    Calls Try.prog 56 #[.int .i64 way, .bool neg, .bool odd, .int .i64 half] w fun z w' => z = .returned (.bool (awayB way half odd neg)) ∧ w' = w := by
  rcases way_cases hw with rfl | rfl | rfl | rfl | rfl
  · exact refAway1_any neg odd half w
  · exact refAway2_any neg odd half w
  · exact refAway3_any neg odd half w
  · exact refAway4_any neg odd half w
  · exact refAway5_any neg odd half w
end Go.Proofs.Ytmjhlflemfkflaa
