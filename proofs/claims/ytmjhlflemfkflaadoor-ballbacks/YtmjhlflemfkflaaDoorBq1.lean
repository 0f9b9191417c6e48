/-
  Balls: contract of ball.Sqrt.
-/
import Derived.Test.YtmjhlflemfkflaaDoorBs
import Derived.Test.YtmjhlflemfkflaaDoorBb
import Derived.Test.YtmjhlflemfkflaaDoorBc
import Derived.Test.YtmjhlflemfkflaaDoorDu3
import Derived.Deep.RegionHeld3
namespace Go.Proofs.YtmjhlflemfkflaaDoor
open Go.RowKit

/-- What Sqrt answers: an error, or what is made of the roots. -/
def sqrtR (c g : Int) (R : Trip × Trip × Int) : Trip × Trip × Int := if c = 0 then (if g < 0 then (⟨false, 0, 0⟩, ⟨false, 0, 0⟩, 5) else R) else (⟨false, 0, 0⟩, ⟨false, 0, 0⟩, c)

set_option maxRecDepth 100000 in
set_option maxHeartbeats 1600000 in
theorem bsqrtW_any (s : Bool) (ao : Option Addr) (ca la : Nat) (e : Int) (t : Bool) (bo : Option Addr) (cb lb : Nat) (f : Int) (n c g : Int) (T0 T1 : Trip) (R : Trip × Trip × Int) (w : World)
    (HW : ∀ b w1, Below w.heap.size w w1 → w1.cell? ⟨b, 0, none⟩ = some (.bool s) ∧ w1.cell? ⟨b, 1, none⟩ = some (.slice ao la ca) ∧ w1.cell? ⟨b, 2, none⟩ = some (.int .i64 e) ∧ w1.cell? ⟨b, 3, none⟩ = some (.bool t) ∧ w1.cell? ⟨b, 4, none⟩ = some (.slice bo lb cb) ∧ w1.cell? ⟨b, 5, none⟩ = some (.int .i64 f) → Calls Tryd.prog 38 #[.int .i64 n, .slice (some ⟨b, 0, none⟩) 1 1] w1 fun z w' => z = .returned (.int .i64 c) ∧ Below w1.heap.size w1 w')
    (HS : c = 0 → ∀ w1, Below w.heap.size w w1 → Calls Tryd.prog 47 #[.agg #[.bool s, .slice ao la ca, .int .i64 e]] w1 fun z w' => z = .returned (.int .i64 g) ∧ Below w1.heap.size w1 w')
    (H0 : c = 0 → 0 ≤ g → ∀ w1, Below w.heap.size w w1 → Calls Tryd.prog 49 #[.agg #[.bool s, .slice ao la ca, .int .i64 e], .int .i64 n] w1 (DRes w1 T0))
    (H1 : c = 0 → 0 ≤ g → ∀ w1, Below w.heap.size w w1 → Calls Tryd.prog 49 #[.agg #[.bool t, .slice bo lb cb, .int .i64 f], .int .i64 n] w1 (DRes w1 T1))
    (HL : c = 0 → 0 ≤ g → ∀ o0 c0 o1 c1 w1, Below w.heap.size w w1 → Rd w1 .u32 (.slice o0 (Dg.dg 4294967296 T0.n).length c0) (Dg.dg 4294967296 T0.n) → Rd w1 .u32 (.slice o1 (Dg.dg 4294967296 T1.n).length c1) (Dg.dg 4294967296 T1.n) →
      Calls Tryd.prog 48 #[.int .i64 n, .slice (some ⟨w1.heap.size, 0, none⟩) 2 2] (w1.alloc (.cells #[.bool T0.s, .slice o0 (Dg.dg 4294967296 T0.n).length c0, .int .i64 T0.e, .bool T1.s, .slice o1 (Dg.dg 4294967296 T1.n).length c1, .int .i64 T1.e] 81)) (BOwn (w1.alloc (.cells #[.bool T0.s, .slice o0 (Dg.dg 4294967296 T0.n).length c0, .int .i64 T0.e, .bool T1.s, .slice o1 (Dg.dg 4294967296 T1.n).length c1, .int .i64 T1.e] 81)) R)) :
    Calls Tryd.prog 14 #[.agg #[.bool s, .slice ao la ca, .int .i64 e, .bool t, .slice bo lb cb, .int .i64 f], .int .i64 n] w (BOwn w (sqrtR c g R)) := by
  replace HW : Hid _ := HW
  replace HS : Hid _ := HS
  replace H0 : Hid _ := H0
  replace H1 : Hid _ := H1
  replace HL : Hid _ := HL
  have l1 := (loc6_new w (.bool s) (.slice ao la ca) (.int .i64 e) (.bool t) (.slice bo lb cb) (.int .i64 f) 27).later (below_alloc _ (.cells #[.bool false, .slice none 0 0, .int .i64 0, .bool false, .slice none 0 0, .int .i64 0] 27))
  have k1 := loc6_new (w.alloc (.cells #[.bool s, .slice ao la ca, .int .i64 e, .bool t, .slice bo lb cb, .int .i64 f] 27)) (.bool false) (.slice none 0 0) (.int .i64 0) (.bool false) (.slice none 0 0) (.int .i64 0) 27
  have b1 := below_trans (below_alloc w (.cells #[.bool s, .slice ao la ca, .int .i64 e, .bool t, .slice bo lb cb, .int .i64 f] 27)) (below_alloc _ (.cells #[.bool false, .slice none 0 0, .int .i64 0, .bool false, .slice none 0 0, .int .i64 0] 27))
  simp only [World.size_alloc] at k1
  have bs := below_alloc ((w.alloc (.cells #[.bool s, .slice ao la ca, .int .i64 e, .bool t, .slice bo lb cb, .int .i64 f] 27)).alloc (.cells #[.bool false, .slice none 0 0, .int .i64 0, .bool false, .slice none 0 0, .int .i64 0] 27)) (.cells #[.bool s, .slice ao la ca, .int .i64 e, .bool t, .slice bo lb cb, .int .i64 f] 27)
  have l2 := l1.later bs
  have k2 := k1.later bs
  have b2 := below_trans b1 bs
  have HW2 := HW.out (w.heap.size + 1 + 1) _ b2 (by refine ⟨?_, ?_, ?_, ?_, ?_, ?_⟩ <;> (rw [World.cell?_alloc_at _ _ _ _ (by simp only [World.size_alloc])]; rfl))
  clear l1 k1 b1 bs HW
  by_cases hc : c = 0
  · subst hc
    replace HS : Hid _ := HS.out rfl
    replace H0 : Hid _ := H0.out rfl
    replace H1 : Hid _ := H1.out rfl
    replace HL : Hid _ := HL.out rfl
    go_enter Tryd.func14, Tryd.ntmps14
    go_wp2_with fail
    refine HW2.mono ?_
    rintro z w3 ⟨rfl, b3⟩
    have l3 := l2.later b3
    have k3 := k2.later b3
    have b03 := below_trans b2 b3
    clear l2 k2 b2 b3 HW2
    go_wp2_with fail
    refine wp_region_any (by kernel_rfl) ?_
    refine wpAny_until (fun listed a W => ∃ (ll0 ll1 ll2 ll3 ll4 ll5 ll6 ll7 : Bool) (u17 u18 u19 u20 u21 u22 u7 u8 : Value), listed = #[ll0, ll1, ll2, ll3, ll4, ll5, ll6, ll7, false, false] ∧ a = { tmps := #[.agg #[.bool s, .slice ao la ca, .int .i64 e, .bool t, .slice bo lb cb, .int .i64 f], .int .i64 n, .pointer (some ⟨w.heap.size, 0, none⟩), undef, .pointer (some ⟨w.heap.size + 1, 0, none⟩), .int .i64 0, .int .i64 0, u7, u8, .int .i64 n, .agg #[.bool s, .slice ao la ca, .int .i64 e, .bool t, .slice bo lb cb, .int .i64 f], .slice (some ⟨w.heap.size + 1 + 1, 0, none⟩) 1 1, .int .i64 0, .int .i64 0, .bool false, undef, undef, u17, u18, u19, u20, u21, u22, undef, undef, undef, undef, undef, undef, undef, undef, undef, undef, undef, undef, undef, undef, undef], defers := [] } ∧ Below w3.heap.size w3 W ∧ (ll0 = true → u17 = .pointer (some ⟨w.heap.size, 0, none⟩)) ∧ (ll1 = true → u18 = .agg #[.bool s, .slice ao la ca, .int .i64 e]) ∧ (ll2 = true → u19 = .agg #[.bool s, .slice ao la ca, .int .i64 e]) ∧ (ll3 = true → u20 = .pointer (some ⟨w.heap.size, 3, none⟩)) ∧ (ll4 = true → u21 = .agg #[.bool t, .slice bo lb cb, .int .i64 f]) ∧ (ll5 = true → u22 = .agg #[.bool t, .slice bo lb cb, .int .i64 f]) ∧ (ll6 = true → NewL W w3.heap.size u7) ∧ (ll7 = true → NewL W w3.heap.size u8) ∧ (ll1 = true → ll0 = true) ∧ (ll2 = true → ll1 = true) ∧ (ll4 = true → ll3 = true) ∧ (ll5 = true → ll4 = true ∧ ll2 = true) ∧ (ll6 = true → ll7 = true → u7 ≠ u8)) #[true, true, true, true, true, true, true, true, false, false] 2 rfl ?hend ?hstep 10 _ _ _ rfl ?start
    case start =>
      refine ⟨false, false, false, false, false, false, false, false, undef, undef, undef, undef, undef, undef, undef, undef, rfl, rfl, (Below.refl _ _).drew, ?_, ?_, ?_, ?_, ?_, ?_, ?_, ?_, ?_, ?_, ?_, ?_, ?_⟩ <;> simp
    case hstep =>
      rintro listed a W ⟨ll0, ll1, ll2, ll3, ll4, ll5, ll6, ll7, u17, u18, u19, u20, u21, u22, u7, u8, rfl, rfl, bel, h0, h1, h2, h3, h4, h5, h6, h7, e1, e2, e4, e5, d6_7⟩ hne
      obtain ⟨-, ⟨c0, c1, c2, c3, c4, c5⟩, -⟩ := l3.later bel
      constructor
      · intro hnil
        apply hne
        obtain rfl : ll0 = true := not_ready (j := 0) hnil rfl (by kernel_rfl)
        obtain rfl : ll1 = true := not_ready (j := 1) hnil rfl (by kernel_rfl)
        obtain rfl : ll2 = true := not_ready (j := 2) hnil rfl (by kernel_rfl)
        obtain rfl : ll3 = true := not_ready (j := 3) hnil rfl (by kernel_rfl)
        obtain rfl : ll4 = true := not_ready (j := 4) hnil rfl (by kernel_rfl)
        obtain rfl : ll5 = true := not_ready (j := 5) hnil rfl (by kernel_rfl)
        obtain rfl : ll6 = true := not_ready (j := 6) hnil rfl (by kernel_rfl)
        obtain rfl : ll7 = true := not_ready (j := 7) hnil rfl (by kernel_rfl)
        rfl
      · intro i hi
        replace h0 : Hid _ := h0
        replace h1 : Hid _ := h1
        replace h2 : Hid _ := h2
        replace h3 : Hid _ := h3
        replace h4 : Hid _ := h4
        replace h5 : Hid _ := h5
        replace h6 : Hid _ := h6
        replace h7 : Hid _ := h7
        replace e1 : Hid _ := e1
        replace e2 : Hid _ := e2
        replace e4 : Hid _ := e4
        replace e5 : Hid _ := e5
        replace d6_7 : Hid _ := d6_7
        have hlt := ready_lt hi
        match i, hlt, hi with
        | 0, _, hi =>
          refine wpOp_via (i := 0) rfl rfl (fun K hK => ?_)
          go_simp
          exact hK.out _ _ ⟨true, ll1, ll2, ll3, ll4, ll5, ll6, ll7, _, u18, u19, u20, u21, u22, u7, u8, rfl, rfl, bel, fun _ => rfl, h1, h2, h3, h4, h5, h6, h7, fun _ => rfl, e2, e4, e5, d6_7⟩
        | 1, _, hi =>
          obtain rfl : ll0 = true := ready_dep (d := 0) rfl (by kernel_rfl) hi
          obtain rfl := h0.out rfl
          refine wpOp_via (i := 1) rfl rfl (fun K hK => ?_)
          go_simp
          exact hK.out _ _ ⟨true, true, ll2, ll3, ll4, ll5, ll6, ll7, _, _, u19, u20, u21, u22, u7, u8, rfl, rfl, bel, fun _ => rfl, fun _ => rfl, h2, h3, h4, h5, h6, h7, fun _ => rfl, fun _ => rfl, e4, e5, d6_7⟩
        | 2, _, hi =>
          obtain rfl : ll1 = true := ready_dep (d := 1) rfl (by kernel_rfl) hi
          obtain rfl := h1.out rfl
          refine wpOp_via (i := 2) rfl rfl (fun K hK => ?_)
          go_simp
          refine (of_dy s ao la ca e _).mono ?_
          rintro z W2 ⟨rfl, b4⟩
          have hp : (.agg #[.bool s, .slice ao la ca, .int .i64 e] : Value) = .agg #[.bool s, .slice ao la ca, .int .i64 e] := rfl
          go_simp
          exact hK.out _ _ ⟨ll0, true, true, ll3, ll4, ll5, ll6, ll7, u17, _, _, u20, u21, u22, u7, u8, rfl, rfl, below_trans bel b4, h0, fun _ => rfl, fun _ => hp, h3, h4, fun h => (h5.out h), fun h => (h6.out h).later b4, fun h => (h7.out h).later b4, e1, fun _ => rfl, e4, fun h => ⟨(e5.out h).1, rfl⟩, d6_7⟩
        | 3, _, hi =>
          refine wpOp_via (i := 3) rfl rfl (fun K hK => ?_)
          go_simp
          exact hK.out _ _ ⟨ll0, ll1, ll2, true, ll4, ll5, ll6, ll7, u17, u18, u19, _, u21, u22, u7, u8, rfl, rfl, bel, h0, h1, h2, fun _ => rfl, h4, h5, h6, h7, e1, e2, fun _ => rfl, e5, d6_7⟩
        | 4, _, hi =>
          obtain rfl : ll3 = true := ready_dep (d := 3) rfl (by kernel_rfl) hi
          obtain rfl := h3.out rfl
          refine wpOp_via (i := 4) rfl rfl (fun K hK => ?_)
          go_simp
          exact hK.out _ _ ⟨ll0, ll1, ll2, true, true, ll5, ll6, ll7, u17, u18, u19, _, _, u22, u7, u8, rfl, rfl, bel, h0, h1, h2, fun _ => rfl, fun _ => rfl, h5, h6, h7, e1, e2, fun _ => rfl, fun h => ⟨rfl, (e5.out h).2⟩, d6_7⟩
        | 5, _, hi =>
          obtain rfl : ll4 = true := ready_dep (d := 4) rfl (by kernel_rfl) hi
          obtain rfl : ll2 = true := ready_dep (d := 2) rfl (by kernel_rfl) hi
          obtain rfl := h4.out rfl
          refine wpOp_via (i := 5) rfl rfl (fun K hK => ?_)
          go_simp
          refine (of_dy t bo lb cb f _).mono ?_
          rintro z W2 ⟨rfl, b4⟩
          have hp : (.agg #[.bool t, .slice bo lb cb, .int .i64 f] : Value) = .agg #[.bool t, .slice bo lb cb, .int .i64 f] := rfl
          go_simp
          exact hK.out _ _ ⟨ll0, ll1, true, ll3, true, true, ll6, ll7, u17, u18, u19, u20, _, _, u7, u8, rfl, rfl, below_trans bel b4, h0, h1, fun h => (h2.out h), h3, fun _ => rfl, fun _ => hp, fun h => (h6.out h).later b4, fun h => (h7.out h).later b4, e1, e2, e4, fun _ => ⟨rfl, rfl⟩, d6_7⟩
        | 6, _, hi =>
          refine wpOp_via (i := 6) rfl rfl (fun K hK => ?_)
          have bz := below_alloc W (.cells #[.bool false, .slice none 0 0, .int .i64 0] 81)
          go_simp
          exact hK.out _ _ ⟨ll0, ll1, ll2, ll3, ll4, ll5, true, ll7, u17, u18, u19, u20, u21, u22, _, u8, rfl, rfl, below_trans bel bz, h0, h1, fun h => (h2.out h), h3, h4, fun h => (h5.out h), fun _ => newL_new W _ 81 bel.size, fun h => (h7.out h).later bz, e1, e2, e4, e5, fun _ h => (newL_ne (h7.out h)).symm⟩
        | 7, _, hi =>
          refine wpOp_via (i := 7) rfl rfl (fun K hK => ?_)
          have bz := below_alloc W (.cells #[.bool false, .slice none 0 0, .int .i64 0] 81)
          go_simp
          exact hK.out _ _ ⟨ll0, ll1, ll2, ll3, ll4, ll5, ll6, true, u17, u18, u19, u20, u21, u22, u7, _, rfl, rfl, below_trans bel bz, h0, h1, fun h => (h2.out h), h3, h4, fun h => (h5.out h), fun h => (h6.out h).later bz, fun _ => newL_new W _ 81 bel.size, e1, e2, e4, e5, fun h _ => newL_ne (h6.out h)⟩
        | 8, _, hi =>
          exfalso
          apply hne
          obtain rfl : ll5 = true := ready_dep (d := 5) rfl (by kernel_rfl) hi
          obtain rfl : ll6 = true := ready_dep (d := 6) rfl (by kernel_rfl) hi
          obtain rfl : ll7 = true := ready_dep (d := 7) rfl (by kernel_rfl) hi
          obtain ⟨rfl, rfl⟩ := e5.out rfl
          obtain rfl := e4.out rfl
          obtain rfl := e2.out rfl
          obtain rfl := e1.out rfl
          rfl
        | 9, _, hi =>
          exact absurd (ready_dep (d := 8) rfl (by kernel_rfl) hi) (by simp)
        | i + 10, hlt, _ => exact absurd hlt (by simp)
    case hend =>
      rintro a W ⟨ll0, ll1, ll2, ll3, ll4, ll5, ll6, ll7, u17, u18, u19, u20, u21, u22, u7, u8, hl, rfl, bel, h0, h1, h2, h3, h4, h5, h6, h7, e1, e2, e4, e5, d6_7⟩
      have hl := congrArg Array.toList hl
      simp only [List.cons.injEq, and_true] at hl
      obtain ⟨rfl, rfl, rfl, rfl, rfl, rfl, rfl, rfl⟩ := hl
      obtain rfl := h0 rfl
      obtain rfl := h1 rfl
      obtain rfl := h2 rfl
      obtain rfl := h3 rfl
      obtain rfl := h4 rfl
      obtain rfl := h5 rfl
      obtain ⟨q6, rfl, hb6, z6⟩ := h6 rfl
      obtain ⟨q7, rfl, hb7, z7⟩ := h7 rfl
      have n6_7 : q6 ≠ q7 := fun h => d6_7 rfl rfl (by rw [h])
      clear hl e1 e2 e4 e5 d6_7
      obtain ⟨hx0, ⟨p0, p1, p2⟩, f0, f1, f2⟩ := id z6
      refine wpAny_one (i := 8) (by kernel_rfl) (wpOp_via (i := 8) rfl rfl (fun K hK => ?_))
      go_simp
      refine hK.out _ _ ?_
      clear hK
      have y6 := loc_set z6 (.bool s) (.slice ao la ca) (.int .i64 e)
      have y7 := z7.apart (c := q6) n6_7 (.bool s) (.slice ao la ca) (.int .i64 e)
      have bl0 := below_set3 bel hb6 (.bool s) (.slice ao la ca) (.int .i64 e)
      clear z6 z7 bel hx0 p0 p1 p2 f0 f1 f2
      generalize (((W.setCell ⟨q6, 0, none⟩ (.bool s)).setCell ⟨q6, 1, none⟩ (.slice ao la ca)).setCell ⟨q6, 2, none⟩ (.int .i64 e)) = W1 at y6 y7 bl0 ⊢
      obtain ⟨hx0, ⟨p0, p1, p2⟩, f0, f1, f2⟩ := id y7
      refine wpAny_one (i := 9) (by kernel_rfl) (wpOp_via (i := 9) rfl rfl (fun K hK => ?_))
      go_simp
      refine hK.out _ _ ?_
      clear hK
      have x7 := loc_set y7 (.bool t) (.slice bo lb cb) (.int .i64 f)
      have x6 := y6.apart (c := q7) n6_7.symm (.bool t) (.slice bo lb cb) (.int .i64 f)
      have bl1 := below_set3 bl0 hb7 (.bool t) (.slice bo lb cb) (.int .i64 f)
      clear y6 y7 bl0 hx0 p0 p1 p2 f0 f1 f2
      generalize (((W1.setCell ⟨q7, 0, none⟩ (.bool t)).setCell ⟨q7, 1, none⟩ (.slice bo lb cb)).setCell ⟨q7, 2, none⟩ (.int .i64 f)) = W2 at x6 x7 bl1 ⊢
      refine wpAny_done (by kernel_rfl) ?_
      have b04 := below_trans b03 bl1
      have k4 := k3.later bl1
      have hA6 : q6 ≠ w.heap.size + 1 := by have := k3.1; omega
      have hA7 : q7 ≠ w.heap.size + 1 := by have := k3.1; omega
      clear l3 k3 b03 bl1 hb6 hb7 n6_7
      obtain ⟨-, ⟨c0, c1, c2⟩, -⟩ := id x6
      go_goals
      go_wp2_with fail
      refine (HS.out _ b04).mono ?_
      rintro z w5 ⟨rfl, b5⟩
      have b05 := below_trans b04 b5
      have k5 := k4.later b5
      have m5 := x6.later b5
      have n5 := x7.later b5
      clear b04 k4 x6 x7 b5 c0 c1 c2 HS
      by_cases hg : g < 0
      · have hsq : sqrtR 0 g R = (⟨false, 0, 0⟩, ⟨false, 0, 0⟩, 5) := by unfold sqrtR; rw [if_pos rfl, if_pos hg]
        have HSQ : Hid _ := hsq
        clear hsq
        obtain ⟨hl, ⟨v0, v1, v2, v3, v4, v5⟩, f0, f1, f2, f3, f4, f5⟩ := id k5
        go_wp2
        obtain ⟨-, ⟨u0, u1, u2, u3, u4, u5⟩, -⟩ := loc6_set k5 (.bool false) (.slice none 0 0) (.int .i64 0) (.bool false) (.slice none 0 0) (.int .i64 0)
        have bb := below_set6 b05 (show w.heap.size ≤ w.heap.size + 1 by omega) (.bool false) (.slice none 0 0) (.int .i64 0) (.bool false) (.slice none 0 0) (.int .i64 0)
        refine bodyPost_ret (v := .tuple #[.agg #[.bool false, .slice none 0 0, .int .i64 0, .bool false, .slice none 0 0, .int .i64 0], .int .i64 5]) (by simp [results, Tryd.results14, go_sem, u0, u1, u2, u3, u4, u5]) rfl ?_
        rw [HSQ.out]
        exact ⟨_, _, rfl, own_nil _ _ _ _, own_nil _ _ _ _, bb⟩
      · have hsq : sqrtR 0 g R = R := by unfold sqrtR; rw [if_pos rfl, if_neg hg]
        have HSQ : Hid _ := hsq
        clear hsq
        have hg0 : 0 ≤ g := by omega
        have hgf : decide (g < 0) = false := by simp; omega
        replace H0 : Hid _ := H0.out hg0
        replace H1 : Hid _ := H1.out hg0
        replace HL : Hid _ := HL.out hg0
        obtain ⟨T0s, T0n, T0e⟩ := T0
        obtain ⟨T1s, T1n, T1e⟩ := T1
        obtain ⟨⟨rs, rn, re⟩, ⟨qs, qn, qe⟩, rc⟩ := R
        have bd : Below w5.heap.size w5 w5.drew := (Below.refl _ _).drew
        have b06 := below_trans b05 bd
        have k6 := k5.later bd
        have m6 := m5.later bd
        have n6 := n5.later bd
        clear b05 k5 m5 n5 bd hg hg0
        have hB6 := hA6.symm
        have hB7 := hA7.symm
        obtain ⟨-, ⟨c0, c1, c2⟩, -⟩ := id m6
        obtain ⟨-, ⟨d0, d1, d2⟩, -⟩ := id n6
        go_wp2_with fail
        go_region_held3 (fun wq => (wq.cell? ⟨q6, 0, none⟩ = some (.bool s) ∧ wq.cell? ⟨q6, 1, none⟩ = some (.slice ao la ca) ∧ wq.cell? ⟨q6, 2, none⟩ = some (.int .i64 e)) ∧ wq.cell? ⟨q7, 0, none⟩ = some (.bool t) ∧ wq.cell? ⟨q7, 1, none⟩ = some (.slice bo lb cb) ∧ wq.cell? ⟨q7, 2, none⟩ = some (.int .i64 f)) (go_keep) (first
          | (go_at_call 49; have hgd := b06; clear hgd; refine (H0.out _ b06).mono ?_; rintro z wa ⟨va, rfl, oa, ba1⟩; have b0a := below_trans b06 ba1; have ka := k6.later ba1; have ma := m6.later ba1; have na := n6.later ba1; have ra := oa.rd; obtain ⟨o0, c0', h0'⟩ := ra.shape; subst h0'; simp only at ra; obtain ⟨-, ⟨ca0, ca1, ca2⟩, -⟩ := id ma; obtain ⟨-, ⟨da0, da1, da2⟩, -⟩ := id na; clear b06)
          | (go_at_call 49; have hgd := b0a; clear hgd; refine (H1.out _ b0a).mono ?_; rintro z wb ⟨vb, rfl, ob, bb1⟩; have b0b := below_trans b0a bb1; have kb := ka.later bb1; have mb := ma.later bb1; have nb := na.later bb1; have rb := ob.rd; have rab := ra.later bb1; obtain ⟨o1, c1', h1'⟩ := rb.shape; subst h1'; simp only at rb; obtain ⟨-, ⟨cb0, cb1, cb2⟩, -⟩ := id mb; obtain ⟨-, ⟨db0, db1, db2⟩, -⟩ := id nb; have bs := below_alloc wb (.cells #[.bool T0s, .slice o0 (Dg.dg 4294967296 T0n).length c0', .int .i64 T0e, .bool T1s, .slice o1 (Dg.dg 4294967296 T1n).length c1', .int .i64 T1e] 81); have b0c := below_trans b0b bs; have kc := kb.later bs; have mc := mb.later bs; have nc := nb.later bs; obtain ⟨-, ⟨cc0, cc1, cc2⟩, -⟩ := id mc; obtain ⟨-, ⟨dc0, dc1, dc2⟩, -⟩ := id nc; clear b0a)
          | (go_at_call 48; have hgd := b0b; clear hgd; refine (HL.out o0 c0' o1 c1' wb b0b rab rb).mono ?_; rintro z wf ⟨pp, qq, rfl, op, oq, bf1⟩; have b0f := below_trans b0c bf1; have kf := kc.later bf1; have mf := mc.later bf1; have nf := nc.later bf1; have hlt := kc.1; obtain ⟨po, pc, hp⟩ := op.rd.shape; subst hp; obtain ⟨qo, qc, hq⟩ := oq.rd.shape; subst hq; obtain ⟨-, ⟨cf0, cf1, cf2⟩, -⟩ := id mf; obtain ⟨-, ⟨df0, df1, df2⟩, -⟩ := id nf; obtain ⟨hl, ⟨g0, g1, g2, g3, g4, g5⟩, f0, f1, f2, f3, f4, f5⟩ := id kf; clear b0b))
        all_goals go_wp2
        obtain ⟨-, ⟨u0, u1, u2, u3, u4, u5⟩, -⟩ := loc6_set kf (.bool rs) (.slice po (Dg.dg 4294967296 rn).length pc) (.int .i64 re) (.bool qs) (.slice qo (Dg.dg 4294967296 qn).length qc) (.int .i64 qe)
        have bb := below_set6 b0f (show w.heap.size ≤ w.heap.size + 1 by omega) (.bool rs) (.slice po (Dg.dg 4294967296 rn).length pc) (.int .i64 re) (.bool qs) (.slice qo (Dg.dg 4294967296 qn).length qc) (.int .i64 qe)
        refine bodyPost_ret (v := .tuple #[.agg #[.bool rs, .slice po (Dg.dg 4294967296 rn).length pc, .int .i64 re, .bool qs, .slice qo (Dg.dg 4294967296 qn).length qc, .int .i64 qe], .int .i64 rc]) (by simp [results, Tryd.results14, go_sem, u0, u1, u2, u3, u4, u5]) rfl ?_
        rw [HSQ.out]
        exact ⟨_, _, rfl, ((op.apart6 hlt _ _ _ _ _ _).lower b0c.size), ((oq.apart6 hlt _ _ _ _ _ _).lower b0c.size), bb⟩
  · rw [show sqrtR c g R = (⟨false, 0, 0⟩, ⟨false, 0, 0⟩, c) from if_neg hc]
    go_enter Tryd.func14, Tryd.ntmps14
    go_wp2_with fail
    refine HW2.mono ?_
    rintro z w3 ⟨rfl, b3⟩
    have k3 := k2.later b3
    have b03 := below_trans b2 b3
    clear l2 k2 b2 b3 HW2
    obtain ⟨hl, ⟨v0, v1, v2, v3, v4, v5⟩, f0, f1, f2, f3, f4, f5⟩ := id k3
    go_wp2
    obtain ⟨-, ⟨u0, u1, u2, u3, u4, u5⟩, -⟩ := loc6_set k3 (.bool false) (.slice none 0 0) (.int .i64 0) (.bool false) (.slice none 0 0) (.int .i64 0)
    have bb := below_set6 b03 (show w.heap.size ≤ w.heap.size + 1 by omega) (.bool false) (.slice none 0 0) (.int .i64 0) (.bool false) (.slice none 0 0) (.int .i64 0)
    refine bodyPost_ret (v := .tuple #[.agg #[.bool false, .slice none 0 0, .int .i64 0, .bool false, .slice none 0 0, .int .i64 0], .int .i64 c]) (by simp [results, Tryd.results14, go_sem, u0, u1, u2, u3, u4, u5]) rfl ?_
    exact ⟨_, _, rfl, own_nil _ _ _ _, own_nil _ _ _ _, bb⟩
end Go.Proofs.YtmjhlflemfkflaaDoor
