/-
  Grids: the reference's IsWay, CheckRatio.
-/
import Derived.Test.YtmjhlflemfkflaaGr7
import Derived.Test.YtmjhlflemfkflaaNd
namespace Go.Proofs.Ytmjhlflemfkflaa
open Go.RowKit

set_option maxRecDepth 100000 in
theorem refIsWay_any (way : Int) (w : World) : Calls Try.prog 29 #[.int .i64 way] w fun z w' => z = .returned (.bool (isWay way)) ∧ w' = w := by
  unfold isWay
  by_cases h : 1 ≤ way
  · go_enter Try.func29, Try.ntmps29
    go_wp2
    go_ret
    simp [h]
  · go_enter Try.func29, Try.ntmps29
    go_wp2
    go_ret
    simp
    omega

set_option maxRecDepth 100000 in
set_option maxHeartbeats 1600000 in
theorem refCheckRatioW (qs : Bool) (ao : Option Addr) (la ca : Nat) (bo : Option Addr) (lb cb : Nat) (E c : Int) (r : Int) (w : World)
    (HZ : c = 0 → lb = 0 ∨ E < -20000 ∨ 20000 < E → r = 3) (HO : c = 0 → ¬(lb = 0 ∨ E < -20000 ∨ 20000 < E) → r = 0) (HN : ¬c = 0 → r = c)
    (HT : ∀ w1, Below w.heap.size w w1 → Calls Try.prog 15 #[.slice ao la ca, .slice bo lb cb] w1 fun e w' => e = .returned (.int .i64 c) ∧ w' = w1) :
    Calls Try.prog 28 #[.agg #[.bool qs, .slice ao la ca, .slice bo lb cb, .int .i64 E]] w fun z w' => z = .returned (.int .i64 r) ∧ Below w.heap.size w w' := by
  replace HT : Hid _ := HT
  have b1 := below_alloc w (.cells #[.bool qs, .slice ao la ca, .slice bo lb cb, .int .i64 E] 51)
  have l1 := locE_new w [.bool qs, .slice ao la ca, .slice bo lb cb, .int .i64 E] 51
  have x1 := l1.cell 1 rfl
  have x2 := l1.cell 2 rfl
  have x3 := l1.cell 3 rfl
  by_cases hc : c = 0
  · have HZ2 := HZ hc
    have HO2 := HO hc
    clear HZ HO HN
    subst hc
    by_cases h0 : lb = 0
    · have e := HZ2 (.inl h0)
      clear HZ2 HO2
      subst e h0
      go_enter Try.func28, Try.ntmps28
      go_wp2_with fail
      refine (HT.out _ b1).mono ?_
      rintro z w2 ⟨rfl, rfl⟩
      go_wp2
      go_ret
      exact ⟨rfl, b1⟩
    · have hlf : ((lb : Int) == 0) = false := by simp; exact h0
      by_cases h1 : E < -20000
      · have e := HZ2 (.inr (.inl h1))
        clear HZ2 HO2
        subst e
        go_enter Try.func28, Try.ntmps28
        go_wp2_with fail
        refine (HT.out _ b1).mono ?_
        rintro z w2 ⟨rfl, rfl⟩
        go_wp2
        go_ret
        exact ⟨rfl, b1⟩
      · by_cases h2 : 20000 < E
        · have e := HZ2 (.inr (.inr h2))
          clear HZ2 HO2
          subst e
          go_enter Try.func28, Try.ntmps28
          go_wp2_with fail
          refine (HT.out _ b1).mono ?_
          rintro z w2 ⟨rfl, rfl⟩
          go_wp2
          go_ret
          exact ⟨rfl, b1⟩
        · have e := HO2 (by omega)
          clear HZ2 HO2
          subst e
          go_enter Try.func28, Try.ntmps28
          go_wp2_with fail
          refine (HT.out _ b1).mono ?_
          rintro z w2 ⟨rfl, rfl⟩
          go_wp2
          go_ret
          exact ⟨rfl, b1⟩
  · have e := HN hc
    clear HZ HO HN
    subst e
    have hcf : (r == 0) = false := by simp; exact hc
    go_enter Try.func28, Try.ntmps28
    go_wp2_with fail
    refine (HT.out _ b1).mono ?_
    rintro z w2 ⟨rfl, rfl⟩
    go_wp2
    go_ret
    exact ⟨rfl, b1⟩
end Go.Proofs.Ytmjhlflemfkflaa
