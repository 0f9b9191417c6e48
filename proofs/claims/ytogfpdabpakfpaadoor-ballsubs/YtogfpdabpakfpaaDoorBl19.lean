/-
  Balls: twoBalls.
-/
import Derived.Test.YtogfpdabpakfpaaDoorBb
namespace Go.Proofs.YtogfpdabpakfpaaDoor
open Go.RowKit

set_option maxRecDepth 100000 in
set_option maxHeartbeats 800000 in
theorem twoBallsW_any (s : Bool) (ao : Option Addr) (ca la : Nat) (e : Int) (t : Bool) (bo : Option Addr) (cb lb : Nat) (f : Int) (r : Bool) (co : Option Addr) (cc lc : Nat) (g : Int) (u : Bool) (d' : Option Addr) (cd ld : Nat) (k : Int) (n c d : Int) (w : World)
    (H1 : ∀ w1, Below w.heap.size w w1 → Calls Tryd.prog 22 #[.agg #[.bool s, .slice ao la ca, .int .i64 e, .bool t, .slice bo lb cb, .int .i64 f]] w1 fun z w' => z = .returned (.int .i64 c) ∧ Below w1.heap.size w1 w')
    (H2 : ∀ w1, Below w.heap.size w w1 → Calls Tryd.prog 22 #[.agg #[.bool r, .slice co lc cc, .int .i64 g, .bool u, .slice d' ld cd, .int .i64 k]] w1 fun z w' => z = .returned (.int .i64 d) ∧ Below w1.heap.size w1 w') :
    Calls Tryd.prog 29 #[.agg #[.bool s, .slice ao la ca, .int .i64 e, .bool t, .slice bo lb cb, .int .i64 f], .agg #[.bool r, .slice co lc cc, .int .i64 g, .bool u, .slice d' ld cd, .int .i64 k], .int .i64 n] w fun z w' => z = .returned (.int .i64 (wrong2 n c d)) ∧ Below w.heap.size w w' := by
  replace H1 : Hid _ := H1
  replace H2 : Hid _ := H2
  have b1 := below_trans (below_alloc w (.cells #[.bool s, .slice ao la ca, .int .i64 e, .bool t, .slice bo lb cb, .int .i64 f] 27)) (below_alloc _ (.cells #[.bool r, .slice co lc cc, .int .i64 g, .bool u, .slice d' ld cd, .int .i64 k] 27))
  have m1 := loc6_new (w.alloc (.cells #[.bool s, .slice ao la ca, .int .i64 e, .bool t, .slice bo lb cb, .int .i64 f] 27)) (.bool r) (.slice co lc cc) (.int .i64 g) (.bool u) (.slice d' ld cd) (.int .i64 k) 27
  rw [World.size_alloc] at m1
  unfold wrong2 wrong1 bitR
  by_cases hc : c = 0
  · subst hc
    rw [if_pos rfl]
    by_cases hd : d = 0
    · subst hd
      rw [if_pos rfl]
      by_cases hl : n < 1
      · rw [if_pos (Or.inl hl)]
        go_enter Tryd.func29, Tryd.ntmps29
        go_wp2_with fail
        refine (H1.out _ b1).mono ?_
        rintro z w2 ⟨rfl, b2⟩
        have b02 := below_trans b1 b2
        have m2 := m1.later b2
        clear b1 m1 b2 H1
        obtain ⟨-, ⟨x0, x1, x2, x3, x4, x5⟩, -⟩ := id m2
        go_wp2_with fail
        refine (H2.out _ b02).mono ?_
        rintro z w3 ⟨rfl, b3⟩
        have b03 := below_trans b02 b3
        go_wp2
        go_ret
        exact ⟨rfl, b03⟩
      · by_cases hg : 4096 < n
        · rw [if_pos (Or.inr hg)]
          go_enter Tryd.func29, Tryd.ntmps29
          go_wp2_with fail
          refine (H1.out _ b1).mono ?_
          rintro z w2 ⟨rfl, b2⟩
          have b02 := below_trans b1 b2
          have m2 := m1.later b2
          clear b1 m1 b2 H1
          obtain ⟨-, ⟨x0, x1, x2, x3, x4, x5⟩, -⟩ := id m2
          go_wp2_with fail
          refine (H2.out _ b02).mono ?_
          rintro z w3 ⟨rfl, b3⟩
          have b03 := below_trans b02 b3
          go_wp2
          go_ret
          exact ⟨rfl, b03⟩
        · rw [if_neg (by omega)]
          go_enter Tryd.func29, Tryd.ntmps29
          go_wp2_with fail
          refine (H1.out _ b1).mono ?_
          rintro z w2 ⟨rfl, b2⟩
          have b02 := below_trans b1 b2
          have m2 := m1.later b2
          clear b1 m1 b2 H1
          obtain ⟨-, ⟨x0, x1, x2, x3, x4, x5⟩, -⟩ := id m2
          go_wp2_with fail
          refine (H2.out _ b02).mono ?_
          rintro z w3 ⟨rfl, b3⟩
          have b03 := below_trans b02 b3
          go_wp2
          go_ret
          exact ⟨rfl, b03⟩
    · rw [if_neg hd]
      go_enter Tryd.func29, Tryd.ntmps29
      go_wp2_with fail
      refine (H1.out _ b1).mono ?_
      rintro z w2 ⟨rfl, b2⟩
      have b02 := below_trans b1 b2
      have m2 := m1.later b2
      clear b1 m1 b2 H1
      obtain ⟨-, ⟨x0, x1, x2, x3, x4, x5⟩, -⟩ := id m2
      go_wp2_with fail
      refine (H2.out _ b02).mono ?_
      rintro z w3 ⟨rfl, b3⟩
      have b03 := below_trans b02 b3
      go_wp2
      go_ret
      exact ⟨rfl, b03⟩
  · rw [if_neg hc]
    go_enter Tryd.func29, Tryd.ntmps29
    go_wp2_with fail
    refine (H1.out _ b1).mono ?_
    rintro z w2 ⟨rfl, b2⟩
    have b02 := below_trans b1 b2
    have m2 := m1.later b2
    clear b1 m1 b2 H1
    go_wp2
    go_ret
    exact ⟨rfl, b02⟩

theorem twoBalls_ok (n : Int) (s : Bool) (ao : Option Addr) (ca : Nat) (xs : List Nat) (e : Int) (t : Bool) (bo : Option Addr) (cb : Nat) (ys : List Nat) (f : Int) (r : Bool) (co : Option Addr) (cc : Nat) (zs : List Nat) (g : Int) (u : Bool) (d' : Option Addr) (cd : Nat) (us : List Nat) (k : Int) (w : World)
    (ha : Rd w .u32 (.slice ao xs.length ca) xs) (hb : Rd w .u32 (.slice bo ys.length cb) ys) (hc : Rd w .u32 (.slice co zs.length cc) zs) (hd : Rd w .u32 (.slice d' us.length cd) us) (sa : Dg.Small 4294967296 xs) (sb : Dg.Small 4294967296 ys) (sc : Dg.Small 4294967296 zs) (sd : Dg.Small 4294967296 us) :
    Calls Tryd.prog 29 #[.agg #[.bool s, .slice ao xs.length ca, .int .i64 e, .bool t, .slice bo ys.length cb, .int .i64 f], .agg #[.bool r, .slice co zs.length cc, .int .i64 g, .bool u, .slice d' us.length cd, .int .i64 k], .int .i64 n] w fun z w' => z = .returned (.int .i64 (wrong2 n (bchk s xs e t ys f) (bchk r zs g u us k))) ∧ Below w.heap.size w w' :=
  twoBallsW_any s ao ca xs.length e t bo cb ys.length f r co cc zs.length g u d' cd us.length k n _ _ w (fun w1 b1 => refcheckBall_any s ao ca xs e t bo cb ys f w1 (ha.later b1) (hb.later b1) sa sb) (fun w1 b1 => refcheckBall_any r co cc zs g u d' cd us k w1 (hc.later b1) (hd.later b1) sc sd)
end Go.Proofs.YtogfpdabpakfpaaDoor
