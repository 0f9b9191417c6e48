/-
  Texts laid together: Bl21, Bl23.
-/
import Derived.Test.YtfajoaopfedokaaDoorBf
import Derived.Deep.RegionHeld3
import Derived.Deep.Cut
import Derived.Test.YtfajoaopfedokaaDoorBg
import Derived.Test.YtfajoaopfedokaaDoorDk3
/-
  Balls: the law BallAdds.
-/
namespace Go.Proofs.YtfajoaopfedokaaDoor
open Go.RowKit

theorem Rd.fix3 {w : World} {b : Nat} {v : Value} {zs : List Nat} (hr : Rd w .u32 v zs) (h : ZB w b) (x0 x1 x2 : Value) : Rd (((w.setCell ⟨b, 0, none⟩ x0).setCell ⟨b, 1, none⟩ x1).setCell ⟨b, 2, none⟩ x2) .u32 v zs := by
  obtain ⟨hl, ty, hh⟩ := h
  obtain ⟨ao, cap, rfl, h1, h2, h3⟩ := hr
  refine ⟨ao, cap, rfl, h1, h2, fun hp => ?_⟩
  obtain ⟨c, off, rfl, hc⟩ := h3 hp
  refine ⟨c, off, rfl, fun i hi => ?_⟩
  have hne : c ≠ b := by
    intro e
    subst e
    have k1 := hc (zs.length - 1) (by omega)
    unfold World.cell? at k1
    simp only [hh] at k1
    obtain ⟨o, ho⟩ : ∃ o, off + (zs.length - 1) = o := ⟨_, rfl⟩
    rw [ho] at k1
    match o, k1 with
    | 0, k1 => simp at k1
    | 1, k1 => simp at k1
    | 2, k1 => simp at k1
    | o + 3, k1 => simp at k1
  rw [World.cell?_setCell_other (h := by simp), World.cell?_setCell_other (h := by simp), World.cell?_setCell_other (h := by simp)]
  exact hc i hi

set_option maxRecDepth 100000 in
set_option maxHeartbeats 1600000 in
theorem bAddsW_any (s : Bool) (ao : Option Addr) (ca la : Nat) (e : Int) (t : Bool) (bo : Option Addr) (cb lb : Nat) (f : Int) (r : Bool) (co : Option Addr) (cc lc : Nat) (g : Int) (u : Bool) (d' : Option Addr) (cd ld : Nat) (k : Int) (n c : Int) (rs : Bool) (rn : Nat) (re : Int) (qs : Bool) (qn : Nat) (qe rc : Int) (X0 X1 Y0 Y1 L H : Trip) (w : World)
    (HA : ∀ w1, Below w.heap.size w w1 → Calls Tryd.prog 35 #[.agg #[.bool s, .slice ao la ca, .int .i64 e, .bool t, .slice bo lb cb, .int .i64 f], .agg #[.bool r, .slice co lc cc, .int .i64 g, .bool u, .slice d' ld cd, .int .i64 k], .int .i64 n] w1 (BOwn w1 (⟨rs, rn, re⟩, ⟨qs, qn, qe⟩, rc)))
    (HW : ∀ w1, Below w.heap.size w w1 → Calls Tryd.prog 36 #[.agg #[.bool s, .slice ao la ca, .int .i64 e, .bool t, .slice bo lb cb, .int .i64 f], .agg #[.bool r, .slice co lc cc, .int .i64 g, .bool u, .slice d' ld cd, .int .i64 k], .int .i64 n] w1 fun z w' => z = .returned (.int .i64 c) ∧ Below w1.heap.size w1 w')
    (HX : c = 0 → ∀ w1, Below w.heap.size w w1 → Calls Tryd.prog 34 #[.agg #[.bool s, .slice ao la ca, .int .i64 e, .bool t, .slice bo lb cb, .int .i64 f]] w1 (RBRes w1 X0 X1))
    (HY : c = 0 → ∀ w1, Below w.heap.size w w1 → Calls Tryd.prog 34 #[.agg #[.bool r, .slice co lc cc, .int .i64 g, .bool u, .slice d' ld cd, .int .i64 k]] w1 (RBRes w1 Y0 Y1))
    (HL : c = 0 → ∀ v u w1, Rv w1 v X0 → Rv w1 u Y0 → Calls Tryd.prog 37 #[v, u] w1 (RDRes w1 L))
    (HH : c = 0 → ∀ v u w1, Rv w1 v X1 → Rv w1 u Y1 → Calls Tryd.prog 37 #[v, u] w1 (RDRes w1 H))
    (HI : ∀ p q lo hi w1, Below w.heap.size w w1 → Rd w1 .u32 p (Dg.dg 4294967296 rn) → Rd w1 .u32 q (Dg.dg 4294967296 qn) → (c = 0 → Rv w1 lo L ∧ Rv w1 hi H) → (c ≠ 0 → lo = .agg #[.bool false, .slice none 0 0, .int .i64 0] ∧ hi = .agg #[.bool false, .slice none 0 0, .int .i64 0]) → Calls Tryd.prog 38 #[.agg #[.bool rs, p, .int .i64 re, .bool qs, q, .int .i64 qe], .int .i64 rc, .int .i64 c, lo, hi, .int .i64 n] w1 fun z w' => z = .returned (.bool true) ∧ Below w1.heap.size w1 w')
    (HB : ∀ w1, Below w.heap.size w w1 → Calls Tryd.prog 29 #[] w1 fun z w' => z = .returned (.bool true) ∧ Below w1.heap.size w1 w') :
    Calls Tryd.prog 7 #[.agg #[.bool s, .slice ao la ca, .int .i64 e, .bool t, .slice bo lb cb, .int .i64 f], .agg #[.bool r, .slice co lc cc, .int .i64 g, .bool u, .slice d' ld cd, .int .i64 k], .int .i64 n] w fun z w' => z = .returned (.bool true) ∧ Below w.heap.size w w' := by
  replace HA : Hid _ := HA
  replace HW : Hid _ := HW
  replace HX : Hid _ := HX
  replace HY : Hid _ := HY
  replace HL : Hid _ := HL
  replace HH : Hid _ := HH
  replace HI : Hid _ := HI
  replace HB : Hid _ := HB
  have b1 := below_trans (below_alloc w (.cells #[.bool s, .slice ao la ca, .int .i64 e, .bool t, .slice bo lb cb, .int .i64 f] 43)) (below_alloc _ (.cells #[.bool r, .slice co lc cc, .int .i64 g, .bool u, .slice d' ld cd, .int .i64 k] 43))
  have l1 := (loc6_new w (.bool s) (.slice ao la ca) (.int .i64 e) (.bool t) (.slice bo lb cb) (.int .i64 f) 43).later (below_alloc _ (.cells #[.bool r, .slice co lc cc, .int .i64 g, .bool u, .slice d' ld cd, .int .i64 k] 43))
  have m1 := loc6_new (w.alloc (.cells #[.bool s, .slice ao la ca, .int .i64 e, .bool t, .slice bo lb cb, .int .i64 f] 43)) (.bool r) (.slice co lc cc) (.int .i64 g) (.bool u) (.slice d' ld cd) (.int .i64 k) 43
  rw [World.size_alloc] at m1
  by_cases hc : c = 0
  · subst hc
    replace HX : Hid _ := HX.out rfl
    replace HY : Hid _ := HY.out rfl
    replace HL : Hid _ := HL.out rfl
    replace HH : Hid _ := HH.out rfl
    obtain ⟨xs, xn, xe⟩ := X0
    obtain ⟨zs, zn, ze⟩ := X1
    obtain ⟨ys, yn, ye⟩ := Y0
    obtain ⟨vs, vn, ve⟩ := Y1
    obtain ⟨Ls, Ln, Le⟩ := L
    obtain ⟨Hs, Hn, He⟩ := H
    go_enter Tryd.func7, Tryd.ntmps7
    go_wp2_with fail
    refine (HA.out _ b1).mono ?_
    rintro z w2 ⟨p, q, rfl, op, oq, b2⟩
    obtain ⟨po, pc, hp⟩ := op.rd.shape
    subst hp
    obtain ⟨qo, qc, hq⟩ := oq.rd.shape
    subst hq
    have rp := op.rd
    have rq := oq.rd
    simp only at rp rq ⊢
    have ba := below_alloc w2 (.cells #[.bool rs, .slice po (Dg.dg 4294967296 rn).length pc, .int .i64 re, .bool qs, .slice qo (Dg.dg 4294967296 qn).length qc, .int .i64 qe] 43)
    have n2 := loc6_new w2 (.bool rs) (.slice po (Dg.dg 4294967296 rn).length pc) (.int .i64 re) (.bool qs) (.slice qo (Dg.dg 4294967296 qn).length qc) (.int .i64 qe) 43
    have b02 := below_trans (below_trans b1 b2) ba
    have l2 := (l1.later b2).later ba
    have m2 := (m1.later b2).later ba
    have rp2 := rp.later ba
    have rq2 := rq.later ba
    clear op oq rp rq b1 b2 ba l1 m1 HA
    obtain ⟨-, ⟨c0, c1, c2, c3, c4, c5⟩, -⟩ := id l2
    obtain ⟨-, ⟨x0, x1, x2, x3, x4, x5⟩, -⟩ := id m2
    go_wp2_with fail
    refine (HW.out _ b02).mono ?_
    rintro z w3 ⟨rfl, b3⟩
    have a3 := below_alloc w3 (.cells #[.bool false, .slice none 0 0, .int .i64 0] 33)
    have a4 := below_alloc (w3.alloc (.cells #[.bool false, .slice none 0 0, .int .i64 0] 33)) (.cells #[.bool false, .slice none 0 0, .int .i64 0] 33)
    have lo4 := (loc_new w3 (.bool false) (.slice none 0 0) (.int .i64 0) 33).later a4
    have zl4 := (zb_new w3 33).later a4
    have hi4 := loc_new (w3.alloc (.cells #[.bool false, .slice none 0 0, .int .i64 0] 33)) (.bool false) (.slice none 0 0) (.int .i64 0) 33
    have zh4 := zb_new (w3.alloc (.cells #[.bool false, .slice none 0 0, .int .i64 0] 33)) 33
    have l4 := ((l2.later b3).later a3).later a4
    have m4 := ((m2.later b3).later a3).later a4
    have n4 := ((n2.later b3).later a3).later a4
    have rp4 := ((rp2.later b3).later a3).later a4
    have rq4 := ((rq2.later b3).later a3).later a4
    have b04 := below_trans (below_trans (below_trans b02 b3) a3) a4
    simp only [World.size_alloc] at hi4 zh4
    have nAB : w2.heap.size < w3.heap.size := (n2.later b3).1
    have hW3 : w.heap.size < w3.heap.size := (l2.later b3).1
    clear l2 m2 n2 rp2 rq2 b02 b3 a3 a4 HW c0 c1 c2 c3 c4 c5 x0 x1 x2 x3 x4 x5
    have hLB : w.heap.size ≤ w3.heap.size := by omega
    have hHK : w.heap.size ≤ w3.heap.size + 1 := by omega
    have nLH : w3.heap.size ≠ w3.heap.size + 1 := by omega
    have nLA : w3.heap.size ≠ w2.heap.size := by omega
    have nHA : w3.heap.size + 1 ≠ w2.heap.size := by omega
    go_upto_region 5 with fail
    generalize w.heap.size + 1 = SB at m4 ⊢
    generalize w2.heap.size = AB at n4 nLA nHA nAB ⊢
    generalize w3.heap.size + 1 = HK at hi4 zh4 hHK nLH nHA ⊢
    generalize (w3.alloc (.cells #[.bool false, .slice none 0 0, .int .i64 0] 33)).alloc (.cells #[.bool false, .slice none 0 0, .int .i64 0] 33) = w4 at *
    clear hW3
    generalize w3.heap.size = LB at lo4 zl4 hLB nLH nLA nAB ⊢
    refine wp_region_any (by kernel_rfl) ?_
    refine wpAny_until (fun listed a W => ∃ (ll0 ll1 ll2 ll3 ll4 ll5 : Bool) (u27 u28 u29 u30 u12 u13 : Value), listed = #[ll0, ll1, ll2, ll3, ll4, ll5, false, false] ∧ a = { tmps := #[.agg #[.bool s, .slice ao la ca, .int .i64 e, .bool t, .slice bo lb cb, .int .i64 f], .agg #[.bool r, .slice co lc cc, .int .i64 g, .bool u, .slice d' ld cd, .int .i64 k], .int .i64 n, .pointer (some ⟨w.heap.size, 0, none⟩), .pointer (some ⟨SB, 0, none⟩), undef, .bool false, .pointer (some ⟨AB, 0, none⟩), .int .i64 rc, .int .i64 0, .pointer (some ⟨LB, 0, none⟩), .pointer (some ⟨HK, 0, none⟩), u12, u13, .tuple #[.agg #[.bool rs, .slice po (Dg.dg 4294967296 rn).length pc, .int .i64 re, .bool qs, .slice qo (Dg.dg 4294967296 qn).length qc, .int .i64 qe], .int .i64 rc], .agg #[.bool s, .slice ao la ca, .int .i64 e, .bool t, .slice bo lb cb, .int .i64 f], .agg #[.bool r, .slice co lc cc, .int .i64 g, .bool u, .slice d' ld cd, .int .i64 k], .int .i64 n, .tuple #[.agg #[.bool rs, .slice po (Dg.dg 4294967296 rn).length pc, .int .i64 re, .bool qs, .slice qo (Dg.dg 4294967296 qn).length qc, .int .i64 qe], .int .i64 rc], .agg #[.bool rs, .slice po (Dg.dg 4294967296 rn).length pc, .int .i64 re, .bool qs, .slice qo (Dg.dg 4294967296 qn).length qc, .int .i64 qe], .int .i64 rc, .agg #[.bool s, .slice ao la ca, .int .i64 e, .bool t, .slice bo lb cb, .int .i64 f], .agg #[.bool r, .slice co lc cc, .int .i64 g, .bool u, .slice d' ld cd, .int .i64 k], .int .i64 n, .int .i64 0, .int .i64 0, .bool true, u27, u28, u29, u30, undef, undef, undef, undef, undef, undef, undef, undef, undef, undef, undef, undef, undef, undef, undef, undef, undef, undef, undef, undef], defers := [] } ∧ Below w4.heap.size w4 W ∧ (ll0 = true → u27 = .agg #[.bool s, .slice ao la ca, .int .i64 e, .bool t, .slice bo lb cb, .int .i64 f]) ∧ (ll1 = true → RB6 W u28 ⟨xs, xn, xe⟩ ⟨zs, zn, ze⟩) ∧ (ll2 = true → u29 = .agg #[.bool r, .slice co lc cc, .int .i64 g, .bool u, .slice d' ld cd, .int .i64 k]) ∧ (ll3 = true → RB6 W u30 ⟨ys, yn, ye⟩ ⟨vs, vn, ve⟩) ∧ (ll4 = true → New6 W w4.heap.size u12) ∧ (ll5 = true → New6 W w4.heap.size u13) ∧ (ll1 = true → ll0 = true) ∧ (ll3 = true → ll2 = true ∧ ll1 = true) ∧ (ll4 = true → ll5 = true → u12 ≠ u13)) #[true, true, true, true, true, true, false, false] 2 rfl ?hend ?hstep 8 _ _ _ rfl ?start
    case start =>
      refine ⟨false, false, false, false, false, false, undef, undef, undef, undef, undef, undef, rfl, rfl, (Below.refl _ _).drew, ?_, ?_, ?_, ?_, ?_, ?_, ?_, ?_, ?_⟩ <;> simp
    case hstep =>
      rintro listed a W ⟨ll0, ll1, ll2, ll3, ll4, ll5, u27, u28, u29, u30, u12, u13, rfl, rfl, bel, h0, h1, h2, h3, h4, h5, e1, e3, d4_5⟩ hne
      obtain ⟨-, ⟨c0, c1, c2, c3, c4, c5⟩, -⟩ := l4.later bel
      obtain ⟨-, ⟨x0, x1, x2, x3, x4, x5⟩, -⟩ := m4.later bel
      constructor
      · intro hnil
        apply hne
        obtain rfl : ll0 = true := not_ready (j := 0) hnil rfl (by kernel_rfl)
        obtain rfl : ll1 = true := not_ready (j := 1) hnil rfl (by kernel_rfl)
        obtain rfl : ll2 = true := not_ready (j := 2) hnil rfl (by kernel_rfl)
        obtain rfl : ll3 = true := not_ready (j := 3) hnil rfl (by kernel_rfl)
        obtain rfl : ll4 = true := not_ready (j := 4) hnil rfl (by kernel_rfl)
        obtain rfl : ll5 = true := not_ready (j := 5) hnil rfl (by kernel_rfl)
        rfl
      · intro i hi
        replace h0 : Hid _ := h0
        replace h1 : Hid _ := h1
        replace h2 : Hid _ := h2
        replace h3 : Hid _ := h3
        replace h4 : Hid _ := h4
        replace h5 : Hid _ := h5
        replace e1 : Hid _ := e1
        replace e3 : Hid _ := e3
        replace d4_5 : Hid _ := d4_5
        have hlt := ready_lt hi
        match i, hlt, hi with
        | 0, _, hi =>
          refine wpOp_via (i := 0) rfl rfl (fun K hK => ?_)
          go_simp
          exact hK.out _ _ ⟨true, ll1, ll2, ll3, ll4, ll5, _, u28, u29, u30, u12, u13, rfl, rfl, bel, fun _ => rfl, h1, h2, h3, h4, h5, fun _ => rfl, e3, d4_5⟩
        | 1, _, hi =>
          obtain rfl : ll0 = true := ready_dep (d := 0) rfl (by kernel_rfl) hi
          obtain rfl := h0.out rfl
          refine wpOp_via (i := 1) rfl rfl (fun K hK => ?_)
          go_simp
          refine (HX.out _ (below_trans b04 bel)).mono ?_
          rintro z W2 ⟨pp, qq, rfl, rpp, rqq, b4⟩
          have hp : RB6 W2 _ ⟨xs, xn, xe⟩ ⟨zs, zn, ze⟩ := ⟨pp, qq, rfl, rpp, rqq⟩
          go_simp
          exact hK.out _ _ ⟨true, true, ll2, ll3, ll4, ll5, _, _, u29, u30, u12, u13, rfl, rfl, below_trans bel b4, fun _ => rfl, fun _ => hp, h2, fun h => (h3.out h).later b4, fun h => (h4.out h).later b4, fun h => (h5.out h).later b4, fun _ => rfl, fun h => ⟨(e3.out h).1, rfl⟩, d4_5⟩
        | 2, _, hi =>
          refine wpOp_via (i := 2) rfl rfl (fun K hK => ?_)
          go_simp
          exact hK.out _ _ ⟨ll0, ll1, true, ll3, ll4, ll5, u27, u28, _, u30, u12, u13, rfl, rfl, bel, h0, h1, fun _ => rfl, h3, h4, h5, e1, fun h => ⟨rfl, (e3.out h).2⟩, d4_5⟩
        | 3, _, hi =>
          obtain rfl : ll2 = true := ready_dep (d := 2) rfl (by kernel_rfl) hi
          obtain rfl : ll1 = true := ready_dep (d := 1) rfl (by kernel_rfl) hi
          obtain rfl := h2.out rfl
          refine wpOp_via (i := 3) rfl rfl (fun K hK => ?_)
          go_simp
          refine (HY.out _ (below_trans b04 bel)).mono ?_
          rintro z W2 ⟨pp, qq, rfl, rpp, rqq, b4⟩
          have hp : RB6 W2 _ ⟨ys, yn, ye⟩ ⟨vs, vn, ve⟩ := ⟨pp, qq, rfl, rpp, rqq⟩
          go_simp
          exact hK.out _ _ ⟨ll0, true, true, true, ll4, ll5, u27, u28, _, _, u12, u13, rfl, rfl, below_trans bel b4, h0, fun h => (h1.out h).later b4, fun _ => rfl, fun _ => hp, fun h => (h4.out h).later b4, fun h => (h5.out h).later b4, e1, fun _ => ⟨rfl, rfl⟩, d4_5⟩
        | 4, _, hi =>
          refine wpOp_via (i := 4) rfl rfl (fun K hK => ?_)
          have bz := below_alloc W (.cells #[.bool false, .slice none 0 0, .int .i64 0, .bool false, .slice none 0 0, .int .i64 0] 50)
          go_simp
          exact hK.out _ _ ⟨ll0, ll1, ll2, ll3, true, ll5, u27, u28, u29, u30, _, u13, rfl, rfl, below_trans bel bz, h0, fun h => (h1.out h).later bz, h2, fun h => (h3.out h).later bz, fun _ => new6_new W _ 50 bel.size, fun h => (h5.out h).later bz, e1, e3, fun _ h => (new6_ne (h5.out h)).symm⟩
        | 5, _, hi =>
          refine wpOp_via (i := 5) rfl rfl (fun K hK => ?_)
          have bz := below_alloc W (.cells #[.bool false, .slice none 0 0, .int .i64 0, .bool false, .slice none 0 0, .int .i64 0] 50)
          go_simp
          exact hK.out _ _ ⟨ll0, ll1, ll2, ll3, ll4, true, u27, u28, u29, u30, u12, _, rfl, rfl, below_trans bel bz, h0, fun h => (h1.out h).later bz, h2, fun h => (h3.out h).later bz, fun h => (h4.out h).later bz, fun _ => new6_new W _ 50 bel.size, e1, e3, fun h _ => new6_ne (h4.out h)⟩
        | 6, _, hi =>
          exfalso
          apply hne
          obtain rfl : ll1 = true := ready_dep (d := 1) rfl (by kernel_rfl) hi
          obtain rfl : ll3 = true := ready_dep (d := 3) rfl (by kernel_rfl) hi
          obtain rfl : ll4 = true := ready_dep (d := 4) rfl (by kernel_rfl) hi
          obtain rfl : ll5 = true := ready_dep (d := 5) rfl (by kernel_rfl) hi
          obtain ⟨rfl, -⟩ := e3.out rfl
          obtain rfl := e1.out rfl
          rfl
        | 7, _, hi =>
          exact absurd (ready_dep (d := 6) rfl (by kernel_rfl) hi) (by simp)
        | i + 8, hlt, _ => exact absurd hlt (by simp)
    case hend =>
      rintro a W ⟨ll0, ll1, ll2, ll3, ll4, ll5, u27, u28, u29, u30, u12, u13, hl, rfl, bel, h0, h1, h2, h3, h4, h5, e1, e3, d4_5⟩
      have hl := congrArg Array.toList hl
      simp only [List.cons.injEq, and_true] at hl
      obtain ⟨rfl, rfl, rfl, rfl, rfl, rfl⟩ := hl
      obtain rfl := h0 rfl
      obtain ⟨xp, xq, rfl, rx, rz⟩ := h1 rfl
      obtain rfl := h2 rfl
      obtain ⟨yp, yq, rfl, ry, rv⟩ := h3 rfl
      obtain ⟨q4, rfl, hb4, z4, y4⟩ := h4 rfl
      obtain ⟨q5, rfl, hb5, z5, y5⟩ := h5 rfl
      have n4_5 : q4 ≠ q5 := fun h => d4_5 rfl rfl (by rw [h])
      clear hl e1 e3 d4_5
      obtain ⟨xo, xc, h1⟩ := rx.shape
      subst h1
      obtain ⟨zo, zc, h1⟩ := rz.shape
      subst h1
      obtain ⟨yo, yc, h1⟩ := ry.shape
      subst h1
      obtain ⟨vo, vc, h1⟩ := rv.shape
      subst h1
      simp only at rx rz ry rv ⊢
      obtain ⟨hx0, ⟨p0, p1, p2, p3, p4, p5⟩, f0, f1, f2, f3, f4, f5⟩ := id z4
      refine wpAny_one (i := 6) (by kernel_rfl) (wpOp_via (i := 6) rfl rfl (fun K hK => ?_))
      go_simp
      refine hK.out _ _ ?_
      clear hK
      have k4 := loc6_set z4 (.bool xs) (.slice xo (Dg.dg 65536 xn).length xc) (.int .i64 xe) (.bool zs) (.slice zo (Dg.dg 65536 zn).length zc) (.int .i64 ze)
      have k5 := z5.off6 (c := q4) n4_5 (.bool xs) (.slice xo (Dg.dg 65536 xn).length xc) (.int .i64 xe) (.bool zs) (.slice zo (Dg.dg 65536 zn).length zc) (.int .i64 ze)
      have y5' := y5.off6 n4_5.symm (.bool xs) (.slice xo (Dg.dg 65536 xn).length xc) (.int .i64 xe) (.bool zs) (.slice zo (Dg.dg 65536 zn).length zc) (.int .i64 ze)
      have rx1 := y4.rd rx (Dg.norm_dg _ _ (by omega)) (.bool xs) (.slice xo (Dg.dg 65536 xn).length xc) (.int .i64 xe) (.bool zs) (.slice zo (Dg.dg 65536 zn).length zc) (.int .i64 ze)
      have rz1 := y4.rd rz (Dg.norm_dg _ _ (by omega)) (.bool xs) (.slice xo (Dg.dg 65536 xn).length xc) (.int .i64 xe) (.bool zs) (.slice zo (Dg.dg 65536 zn).length zc) (.int .i64 ze)
      have ry1 := y4.rd ry (Dg.norm_dg _ _ (by omega)) (.bool xs) (.slice xo (Dg.dg 65536 xn).length xc) (.int .i64 xe) (.bool zs) (.slice zo (Dg.dg 65536 zn).length zc) (.int .i64 ze)
      have rv1 := y4.rd rv (Dg.norm_dg _ _ (by omega)) (.bool xs) (.slice xo (Dg.dg 65536 xn).length xc) (.int .i64 xe) (.bool zs) (.slice zo (Dg.dg 65536 zn).length zc) (.int .i64 ze)
      have bl0 := below_set6 bel hb4 (.bool xs) (.slice xo (Dg.dg 65536 xn).length xc) (.int .i64 xe) (.bool zs) (.slice zo (Dg.dg 65536 zn).length zc) (.int .i64 ze)
      clear z4 z5 y4 y5 rx rz ry rv bel hx0 p0 p1 p2 p3 p4 p5 f0 f1 f2 f3 f4 f5
      generalize ((((((W.setCell ⟨q4, 0, none⟩ (.bool xs)).setCell ⟨q4, 1, none⟩ (.slice xo (Dg.dg 65536 xn).length xc)).setCell ⟨q4, 2, none⟩ (.int .i64 xe)).setCell ⟨q4, 3, none⟩ (.bool zs)).setCell ⟨q4, 4, none⟩ (.slice zo (Dg.dg 65536 zn).length zc)).setCell ⟨q4, 5, none⟩ (.int .i64 ze)) = W1 at k4 k5 y5' rx1 rz1 ry1 rv1 bl0 ⊢
      obtain ⟨hx0, ⟨p0, p1, p2, p3, p4, p5⟩, f0, f1, f2, f3, f4, f5⟩ := id k5
      refine wpAny_one (i := 7) (by kernel_rfl) (wpOp_via (i := 7) rfl rfl (fun K hK => ?_))
      go_simp
      refine hK.out _ _ ?_
      clear hK
      have j5 := loc6_set k5 (.bool ys) (.slice yo (Dg.dg 65536 yn).length yc) (.int .i64 ye) (.bool vs) (.slice vo (Dg.dg 65536 vn).length vc) (.int .i64 ve)
      have j4 := k4.off6 (c := q5) n4_5.symm (.bool ys) (.slice yo (Dg.dg 65536 yn).length yc) (.int .i64 ye) (.bool vs) (.slice vo (Dg.dg 65536 vn).length vc) (.int .i64 ve)
      have rx2 := y5'.rd rx1 (Dg.norm_dg _ _ (by omega)) (.bool ys) (.slice yo (Dg.dg 65536 yn).length yc) (.int .i64 ye) (.bool vs) (.slice vo (Dg.dg 65536 vn).length vc) (.int .i64 ve)
      have rz2 := y5'.rd rz1 (Dg.norm_dg _ _ (by omega)) (.bool ys) (.slice yo (Dg.dg 65536 yn).length yc) (.int .i64 ye) (.bool vs) (.slice vo (Dg.dg 65536 vn).length vc) (.int .i64 ve)
      have ry2 := y5'.rd ry1 (Dg.norm_dg _ _ (by omega)) (.bool ys) (.slice yo (Dg.dg 65536 yn).length yc) (.int .i64 ye) (.bool vs) (.slice vo (Dg.dg 65536 vn).length vc) (.int .i64 ve)
      have rv2 := y5'.rd rv1 (Dg.norm_dg _ _ (by omega)) (.bool ys) (.slice yo (Dg.dg 65536 yn).length yc) (.int .i64 ye) (.bool vs) (.slice vo (Dg.dg 65536 vn).length vc) (.int .i64 ve)
      have bl1 := below_set6 bl0 hb5 (.bool ys) (.slice yo (Dg.dg 65536 yn).length yc) (.int .i64 ye) (.bool vs) (.slice vo (Dg.dg 65536 vn).length vc) (.int .i64 ve)
      clear k4 k5 y5' rx1 rz1 ry1 rv1 bl0 hx0 p0 p1 p2 p3 p4 p5 f0 f1 f2 f3 f4 f5
      generalize ((((((W1.setCell ⟨q5, 0, none⟩ (.bool ys)).setCell ⟨q5, 1, none⟩ (.slice yo (Dg.dg 65536 yn).length yc)).setCell ⟨q5, 2, none⟩ (.int .i64 ye)).setCell ⟨q5, 3, none⟩ (.bool vs)).setCell ⟨q5, 4, none⟩ (.slice vo (Dg.dg 65536 vn).length vc)).setCell ⟨q5, 5, none⟩ (.int .i64 ve)) = W2 at j4 j5 rx2 rz2 ry2 rv2 bl1 ⊢
      refine wpAny_done (by kernel_rfl) ?_
      have bd : Below W2.heap.size W2 W2.drew := (Below.refl _ _).drew
      have n4L : q4 ≠ LB := by have := lo4.1; omega
      have n5L : q5 ≠ LB := by have := lo4.1; omega
      have n4H : q4 ≠ HK := by have := hi4.1; omega
      have n5H : q5 ≠ HK := by have := hi4.1; omega
      have nL4 := n4L.symm
      have nL5 := n5L.symm
      have nH4 := n4H.symm
      have nH5 := n5H.symm
      have b06 := below_trans (below_trans b04 bl1) bd
      have lo6 := (lo4.later bl1).later bd
      have hi6 := (hi4.later bl1).later bd
      have zl6 := (zl4.later bl1).later bd
      have zh6 := (zh4.later bl1).later bd
      have n6 := (n4.later bl1).later bd
      have rp6 := (rp4.later bl1).later bd
      have rq6 := (rq4.later bl1).later bd
      have j4' := j4.later bd
      have j5' := j5.later bd
      have rx3 := rx2.later bd
      have rz3 := rz2.later bd
      have ry3 := ry2.later bd
      have rv3 := rv2.later bd
      obtain ⟨-, ⟨c0, c1, c2, c3, c4, c5⟩, -⟩ := id j4'
      obtain ⟨-, ⟨x0, x1, x2, x3, x4, x5⟩, -⟩ := id j5'
      clear l4 m4 b04 bl1 lo4 hi4 zl4 zh4 n4 rp4 rq4 j4 j5 rx2 rz2 ry2 rv2 bd hb4 hb5
      go_goals
      go_wp2_with fail
      go_region_held3 (fun wq => (wq.cell? ⟨q4, 0, none⟩ = some (.bool xs) ∧ wq.cell? ⟨q4, 1, none⟩ = some (.slice xo (Dg.dg 65536 xn).length xc) ∧ wq.cell? ⟨q4, 2, none⟩ = some (.int .i64 xe)) ∧ (wq.cell? ⟨q4, 3, none⟩ = some (.bool zs) ∧ wq.cell? ⟨q4, 4, none⟩ = some (.slice zo (Dg.dg 65536 zn).length zc) ∧ wq.cell? ⟨q4, 5, none⟩ = some (.int .i64 ze)) ∧ (wq.cell? ⟨q5, 0, none⟩ = some (.bool ys) ∧ wq.cell? ⟨q5, 1, none⟩ = some (.slice yo (Dg.dg 65536 yn).length yc) ∧ wq.cell? ⟨q5, 2, none⟩ = some (.int .i64 ye)) ∧ (wq.cell? ⟨q5, 3, none⟩ = some (.bool vs) ∧ wq.cell? ⟨q5, 4, none⟩ = some (.slice vo (Dg.dg 65536 vn).length vc) ∧ wq.cell? ⟨q5, 5, none⟩ = some (.int .i64 ve))) (go_keep) (first
        | (go_at_call 37; have hgd := b06; clear hgd; refine (HL.out _ _ _ ⟨_, rfl, rx3⟩ ⟨_, rfl, ry3⟩).mono ?_; rintro z wa ⟨rL, rfl, rdL, ba1⟩; have b0a := below_trans b06 ba1; have loa := lo6.later ba1; have hia := hi6.later ba1; have zla := zl6.later ba1; have zha := zh6.later ba1; have na := n6.later ba1; have rpa := rp6.later ba1; have rqa := rq6.later ba1; have j4a := j4'.later ba1; have j5a := j5'.later ba1; have rza := rz3.later ba1; have rva := rv3.later ba1; obtain ⟨-, ⟨ca0, ca1, ca2, ca3, ca4, ca5⟩, -⟩ := id j4a; obtain ⟨-, ⟨xa0, xa1, xa2, xa3, xa4, xa5⟩, -⟩ := id j5a; obtain ⟨oL, cpL, hsL⟩ := rdL.shape; subst hsL; clear b06)
        | (go_at_call 37; have hgd := b0a; clear hgd; refine (HH.out _ _ _ ⟨_, rfl, rza⟩ ⟨_, rfl, rva⟩).mono ?_; rintro z wb ⟨rH, rfl, rdH, bb1⟩; have b0b := below_trans b0a bb1; have lob := loa.later bb1; have hib := hia.later bb1; have zlb := zla.later bb1; have zhb := zha.later bb1; have nb := na.later bb1; have rpb := rpa.later bb1; have rqb := rqa.later bb1; have j4b := j4a.later bb1; have j5b := j5a.later bb1; obtain ⟨-, ⟨cb0, cb1, cb2, cb3, cb4, cb5⟩, -⟩ := id j4b; obtain ⟨-, ⟨xb0, xb1, xb2, xb3, xb4, xb5⟩, -⟩ := id j5b; obtain ⟨oH, cpH, hsH⟩ := rdH.shape; subst hsH; clear b0a; have rdLb := rdL.later bb1; simp only at rdLb rdH; obtain ⟨hl0, ⟨g0, g1, g2⟩, f0, f1, f2⟩ := id lob; obtain ⟨hk0, ⟨i0, i1, i2⟩, y0, y1, y2⟩ := id hib))
      all_goals skip
      have t1 := loc_set lob (.bool Ls) (.slice oL (Dg.dg 65536 Ln).length cpL) (.int .i64 Le)
      have t2 := hib.apart (c := LB) nLH (.bool Ls) (.slice oL (Dg.dg 65536 Ln).length cpL) (.int .i64 Le)
      have t3 := zhb.off3 nLH.symm (.bool Ls) (.slice oL (Dg.dg 65536 Ln).length cpL) (.int .i64 Le)
      have t4 := nb.apart3 (c := LB) nLA (.bool Ls) (.slice oL (Dg.dg 65536 Ln).length cpL) (.int .i64 Le)
      have t5 := zlb.rd rdLb (Dg.norm_dg _ _ (by omega)) (.bool Ls) (.slice oL (Dg.dg 65536 Ln).length cpL) (.int .i64 Le)
      have t6 := zlb.rd rdH (Dg.norm_dg _ _ (by omega)) (.bool Ls) (.slice oL (Dg.dg 65536 Ln).length cpL) (.int .i64 Le)
      have t7 := below_set3 b0b hLB (.bool Ls) (.slice oL (Dg.dg 65536 Ln).length cpL) (.int .i64 Le)
      have s1 := t1.apart (c := HK) nLH.symm (.bool Hs) (.slice oH (Dg.dg 65536 Hn).length cpH) (.int .i64 He)
      have s2 := loc_set t2 (.bool Hs) (.slice oH (Dg.dg 65536 Hn).length cpH) (.int .i64 He)
      have s4 := t4.apart3 (c := HK) nHA (.bool Hs) (.slice oH (Dg.dg 65536 Hn).length cpH) (.int .i64 He)
      have s5 := t3.rd t5 (Dg.norm_dg _ _ (by omega)) (.bool Hs) (.slice oH (Dg.dg 65536 Hn).length cpH) (.int .i64 He)
      have s6 := t3.rd t6 (Dg.norm_dg _ _ (by omega)) (.bool Hs) (.slice oH (Dg.dg 65536 Hn).length cpH) (.int .i64 He)
      have s7 := below_set3 t7 hHK (.bool Hs) (.slice oH (Dg.dg 65536 Hn).length cpH) (.int .i64 He)
      have u1 := rpb.fix3 zlb (.bool Ls) (.slice oL (Dg.dg 65536 Ln).length cpL) (.int .i64 Le)
      have u2 := rqb.fix3 zlb (.bool Ls) (.slice oL (Dg.dg 65536 Ln).length cpL) (.int .i64 Le)
      have u3 := u1.fix3 t3 (.bool Hs) (.slice oH (Dg.dg 65536 Hn).length cpH) (.int .i64 He)
      have u4 := u2.fix3 t3 (.bool Hs) (.slice oH (Dg.dg 65536 Hn).length cpH) (.int .i64 He)
      clear t1 t2 t3 t4 t5 t6 t7 u1 u2
      generalize ((((((wb.setCell ⟨LB, 0, none⟩ (.bool Ls)).setCell ⟨LB, 1, none⟩ (.slice oL (Dg.dg 65536 Ln).length cpL)).setCell ⟨LB, 2, none⟩ (.int .i64 Le)).setCell ⟨HK, 0, none⟩ (.bool Hs)).setCell ⟨HK, 1, none⟩ (.slice oH (Dg.dg 65536 Hn).length cpH)).setCell ⟨HK, 2, none⟩ (.int .i64 He)) = W5 at s1 s2 s4 s5 s6 s7 u3 u4 ⊢
      obtain ⟨-, ⟨p0, p1, p2⟩, -⟩ := id s1
      go_wp2_with fail
      refine (HB.out _ s7).mono ?_
      rintro z w8 ⟨rfl, b8⟩
      have b08 := below_trans s7 b8
      obtain ⟨-, ⟨p0, p1, p2⟩, -⟩ := s1.later b8
      obtain ⟨-, ⟨p3, p4, p5⟩, -⟩ := s2.later b8
      obtain ⟨-, ⟨i0, i1, i2, i3, i4, i5⟩, -⟩ := s4.later b8
      go_wp2_with fail
      refine (HI.out _ _ _ _ w8 b08 (u3.later b8) (u4.later b8) (fun _ => ⟨⟨_, rfl, s5.later b8⟩, ⟨_, rfl, s6.later b8⟩⟩) (fun h => absurd rfl h)).mono ?_
      rintro z w9 ⟨rfl, b9⟩
      have b09 := below_trans b08 b9
      go_wp2
      go_ret
      exact ⟨rfl, b09⟩
  · clear HX HY HL HH
    go_enter Tryd.func7, Tryd.ntmps7
    go_wp2_with fail
    refine (HA.out _ b1).mono ?_
    rintro z w2 ⟨p, q, rfl, op, oq, b2⟩
    obtain ⟨po, pc, hp⟩ := op.rd.shape
    subst hp
    obtain ⟨qo, qc, hq⟩ := oq.rd.shape
    subst hq
    have rp := op.rd
    have rq := oq.rd
    simp only at rp rq ⊢
    have ba := below_alloc w2 (.cells #[.bool rs, .slice po (Dg.dg 4294967296 rn).length pc, .int .i64 re, .bool qs, .slice qo (Dg.dg 4294967296 qn).length qc, .int .i64 qe] 43)
    have n2 := loc6_new w2 (.bool rs) (.slice po (Dg.dg 4294967296 rn).length pc) (.int .i64 re) (.bool qs) (.slice qo (Dg.dg 4294967296 qn).length qc) (.int .i64 qe) 43
    have b02 := below_trans (below_trans b1 b2) ba
    have l2 := (l1.later b2).later ba
    have m2 := (m1.later b2).later ba
    have rp2 := rp.later ba
    have rq2 := rq.later ba
    clear op oq rp rq b1 b2 ba l1 m1 HA
    obtain ⟨-, ⟨c0, c1, c2, c3, c4, c5⟩, -⟩ := id l2
    obtain ⟨-, ⟨x0, x1, x2, x3, x4, x5⟩, -⟩ := id m2
    go_wp2_with fail
    refine (HW.out _ b02).mono ?_
    rintro z w3 ⟨rfl, b3⟩
    have a3 := below_alloc w3 (.cells #[.bool false, .slice none 0 0, .int .i64 0] 33)
    have a4 := below_alloc (w3.alloc (.cells #[.bool false, .slice none 0 0, .int .i64 0] 33)) (.cells #[.bool false, .slice none 0 0, .int .i64 0] 33)
    have lo4 := (loc_new w3 (.bool false) (.slice none 0 0) (.int .i64 0) 33).later a4
    have zl4 := (zb_new w3 33).later a4
    have hi4 := loc_new (w3.alloc (.cells #[.bool false, .slice none 0 0, .int .i64 0] 33)) (.bool false) (.slice none 0 0) (.int .i64 0) 33
    have zh4 := zb_new (w3.alloc (.cells #[.bool false, .slice none 0 0, .int .i64 0] 33)) 33
    have l4 := ((l2.later b3).later a3).later a4
    have m4 := ((m2.later b3).later a3).later a4
    have n4 := ((n2.later b3).later a3).later a4
    have rp4 := ((rp2.later b3).later a3).later a4
    have rq4 := ((rq2.later b3).later a3).later a4
    have b04 := below_trans (below_trans (below_trans b02 b3) a3) a4
    simp only [World.size_alloc] at hi4 zh4
    have nAB : w2.heap.size < w3.heap.size := (n2.later b3).1
    have hW3 : w.heap.size < w3.heap.size := (l2.later b3).1
    clear l2 m2 n2 rp2 rq2 b02 b3 a3 a4 HW c0 c1 c2 c3 c4 c5 x0 x1 x2 x3 x4 x5
    go_wp2_with fail
    refine (HB.out _ b04).mono ?_
    rintro z w8 ⟨rfl, b8⟩
    have b08 := below_trans b04 b8
    obtain ⟨-, ⟨p0, p1, p2⟩, -⟩ := lo4.later b8
    obtain ⟨-, ⟨p3, p4, p5⟩, -⟩ := hi4.later b8
    obtain ⟨-, ⟨i0, i1, i2, i3, i4, i5⟩, -⟩ := n4.later b8
    go_wp2_with fail
    refine (HI.out _ _ _ _ w8 b08 (rp4.later b8) (rq4.later b8) (fun h => absurd h hc) (fun _ => ⟨rfl, rfl⟩)).mono ?_
    rintro z w9 ⟨rfl, b9⟩
    have b09 := below_trans b08 b9
    go_wp2
    go_ret
    exact ⟨rfl, b09⟩
end Go.Proofs.YtfajoaopfedokaaDoor
/-
  Balls: the law BallAdds, of whatever it is handed.
-/
namespace Go.Proofs.YtfajoaopfedokaaDoor
open Go.RowKit

theorem least_toT {x : Nat → Trip} {n : Int} {L H : Trip} (h1 : bare (loT x 3) = L) (h2 : bare (hiT x 3) = H) (hn : 1 ≤ n) : leastR x 4 n = ballR (toT (dcutT L n false)) (toT (dcutT H n true)) := by
  unfold leastR
  show ballR (shortT (cutT (loT x 3) n false)) (shortT (cutT (hiT x 3) n true)) = _
  rw [← toT_bare, ← toT_bare, cut_bare _ _ _ hn, cut_bare _ _ _ hn, h1, h2]

theorem ballR_err {r q : Trip × Int} {a b : Trip} {c : Int} (h : ballR r q = (a, b, c)) (hc : c ≠ 0) : a = ⟨false, 0, 0⟩ ∧ b = ⟨false, 0, 0⟩ := by
  unfold ballR at h
  by_cases h1 : r.2 = 0
  · rw [if_pos h1] at h
    by_cases h2 : q.2 = 0
    · rw [if_pos h2] at h
      simp only [Prod.mk.injEq] at h
      exact absurd h.2.2.symm hc
    · rw [if_neg h2] at h
      simp only [Prod.mk.injEq] at h
      exact ⟨h.1.symm, h.2.1.symm⟩
  · rw [if_neg h1] at h
    simp only [Prod.mk.injEq] at h
    exact ⟨h.1.symm, h.2.1.symm⟩

theorem V_of_cmp {K : Nat} {a b : Trip} (ha : -(K : Int) ≤ a.e) (hb : -(K : Int) ≤ b.e) (h : cmpT a b ≤ 0) : V K a ≤ V K b := by
  by_cases hx : V K b < V K a
  · have := (cmpT_gt ha hb).2 hx; omega
  · omega

theorem bareB_plus (a b : Trip) : bare (dplusT (bare a) (bare b)) = bare (plusT a b) := by
  have k0 : -((a.e.natAbs + b.e.natAbs : Nat) : Int) ≤ a.e := by omega
  have k1 : -((a.e.natAbs + b.e.natAbs : Nat) : Int) ≤ b.e := by omega
  refine bare_of_V (dplus_e (bare_e k0) (bare_e k1)) (plus_e k0 k1) ?_
  rw [V_dplus (bare_e k0) (bare_e k1), V_plus k0 k1, V_bare k0, V_bare k1]

theorem bareB_minus (a b : Trip) : bare (dplusT (bare a) (minusT (bare b))) = bare (plusT a (negT b)) := by
  have k0 : -((a.e.natAbs + b.e.natAbs : Nat) : Int) ≤ a.e := by omega
  have k1 : -((a.e.natAbs + b.e.natAbs : Nat) : Int) ≤ b.e := by omega
  have k2 : -((a.e.natAbs + b.e.natAbs : Nat) : Int) ≤ (minusT (bare b)).e := bare_e k1
  have k3 : -((a.e.natAbs + b.e.natAbs : Nat) : Int) ≤ (negT b).e := k1
  refine bare_of_V (dplus_e (bare_e k0) k2) (plus_e k0 k3) ?_
  rw [V_dplus (bare_e k0) k2, V_plus k0 k3, V_bare k0, V_minusT, V_bare k1, V_neg]

theorem adds_ends (A0 A1 B0 B1 : Trip) (hA : cmpT A0 A1 ≤ 0) (hB : cmpT B0 B1 ≤ 0) : bare (loT (four plusT A0 A1 B0 B1) 3) = bare (plusT A0 B0) ∧ bare (hiT (four plusT A0 A1 B0 B1) 3) = bare (plusT A1 B1) := by
  obtain ⟨K, hK⟩ : ∃ K, A0.e.natAbs + A1.e.natAbs + B0.e.natAbs + B1.e.natAbs = K := ⟨_, rfl⟩
  have a0 : -(K : Int) ≤ A0.e := by omega
  have a1 : -(K : Int) ≤ A1.e := by omega
  have b0 : -(K : Int) ≤ B0.e := by omega
  have b1 : -(K : Int) ≤ B1.e := by omega
  have vA := V_of_cmp a0 a1 hA
  have vB := V_of_cmp b0 b1 hB
  have he := four_all plusT A0 A1 B0 B1 (fun T => -(K : Int) ≤ T.e) (plus_e a0 b0) (plus_e a0 b1) (plus_e a1 b0) (plus_e a1 b1)
  have hlo := four_all plusT A0 A1 B0 B1 (fun T => V K (plusT A0 B0) ≤ V K T) (Int.le_refl _) (by rw [V_plus a0 b0, V_plus a0 b1]; omega) (by rw [V_plus a0 b0, V_plus a1 b0]; omega) (by rw [V_plus a0 b0, V_plus a1 b1]; omega)
  have hhi := four_all plusT A0 A1 B0 B1 (fun T => V K T ≤ V K (plusT A1 B1)) (by rw [V_plus a0 b0, V_plus a1 b1]; omega) (by rw [V_plus a0 b1, V_plus a1 b1]; omega) (by rw [V_plus a1 b0, V_plus a1 b1]; omega) (Int.le_refl _)
  exact ⟨loT_bare _ 3 _ (fun j _ => he j) (plus_e a0 b0) (fun j _ => hlo j) ⟨0, by omega, rfl⟩, hiT_bare _ 3 _ (fun j _ => he j) (plus_e a1 b1) (fun j _ => hhi j) ⟨3, by omega, rfl⟩⟩

theorem subs_ends (A0 A1 B0 B1 : Trip) (hA : cmpT A0 A1 ≤ 0) (hB : cmpT B0 B1 ≤ 0) : bare (loT (four (fun a b => plusT a (negT b)) A0 A1 B0 B1) 3) = bare (plusT A0 (negT B1)) ∧ bare (hiT (four (fun a b => plusT a (negT b)) A0 A1 B0 B1) 3) = bare (plusT A1 (negT B0)) := by
  obtain ⟨K, hK⟩ : ∃ K, A0.e.natAbs + A1.e.natAbs + B0.e.natAbs + B1.e.natAbs = K := ⟨_, rfl⟩
  have a0 : -(K : Int) ≤ A0.e := by omega
  have a1 : -(K : Int) ≤ A1.e := by omega
  have b0' : -(K : Int) ≤ B0.e := by omega
  have b1' : -(K : Int) ≤ B1.e := by omega
  have b0 : -(K : Int) ≤ (negT B0).e := b0'
  have b1 : -(K : Int) ≤ (negT B1).e := b1'
  have vA := V_of_cmp a0 a1 hA
  have vB := V_of_cmp b0' b1' hB
  have n0 := V_neg K B0
  have n1 := V_neg K B1
  have he := four_all (fun a b => plusT a (negT b)) A0 A1 B0 B1 (fun T => -(K : Int) ≤ T.e) (plus_e a0 b0) (plus_e a0 b1) (plus_e a1 b0) (plus_e a1 b1)
  have hlo := four_all (fun a b => plusT a (negT b)) A0 A1 B0 B1 (fun T => V K (plusT A0 (negT B1)) ≤ V K T) (by rw [V_plus a0 b1, V_plus a0 b0]; omega) (Int.le_refl _) (by rw [V_plus a0 b1, V_plus a1 b0]; omega) (by rw [V_plus a0 b1, V_plus a1 b1]; omega)
  have hhi := four_all (fun a b => plusT a (negT b)) A0 A1 B0 B1 (fun T => V K T ≤ V K (plusT A1 (negT B0))) (by rw [V_plus a0 b0, V_plus a1 b0]; omega) (by rw [V_plus a0 b1, V_plus a1 b0]; omega) (Int.le_refl _) (by rw [V_plus a1 b1, V_plus a1 b0]; omega)
  exact ⟨loT_bare _ 3 _ (fun j _ => he j) (plus_e a0 b1) (fun j _ => hlo j) ⟨1, by omega, rfl⟩, hiT_bare _ 3 _ (fun j _ => he j) (plus_e a1 b0) (fun j _ => hhi j) ⟨2, by omega, rfl⟩⟩

theorem len16_of {x L : Nat} (h : (Dg.dg 4294967296 x).length ≤ L) : (Dg.dg 65536 x).length ≤ 2 * L := by
  have h1 := len16 (Dg.small_dg 4294967296 x (by omega))
  rw [Dg.vl_dg _ _ (by omega)] at h1
  omega

theorem plus_fits2 {a b : Trip} (ha : bitLen a.n ≤ 38400) (hb : bitLen b.n ≤ 38400) (a1 : -20000 ≤ a.e) (a2 : a.e ≤ 20000) (b1 : -20000 ≤ b.e) (b2 : b.e ≤ 20000) :
    (Dg.dg 4294967296 (plusT a b).n).length ≤ 2451 ∧ -20000 ≤ (plusT a b).e ∧ (plusT a b).e ≤ 20000 := by
  have hm : (a.e - min a.e b.e).toNat ≤ 40000 ∧ (b.e - min a.e b.e).toNat ≤ 40000 := ⟨by omega, by omega⟩
  obtain ⟨h1, h2⟩ := hm
  obtain ⟨M, hM⟩ : ∃ M, M = 78400 := ⟨_, rfl⟩
  have hs : a.n * 2 ^ (a.e - min a.e b.e).toNat + b.n * 2 ^ (b.e - min a.e b.e).toNat < 2 ^ (M + 1) := sum_bits (bitLen_spec a.n).1 (bitLen_spec b.n).1 (by omega) (by omega)
  have he : (plusT a b).e = min a.e b.e := by
    unfold plusT
    simp only
    split
    · rfl
    · split <;> rfl
  have hn : (plusT a b).n ≤ a.n * 2 ^ (a.e - min a.e b.e).toNat + b.n * 2 ^ (b.e - min a.e b.e).toNat := by
    unfold plusT
    simp only
    split
    · exact Nat.le_refl _
    · split
      · exact Nat.le_trans (Nat.sub_le _ _) (Nat.le_add_left _ _)
      · exact Nat.le_trans (Nat.sub_le _ _) (Nat.le_add_right _ _)
  exact ⟨pow_len32 (Nat.lt_of_le_of_lt hn hs) (by omega), by rw [he]; omega, by rw [he]; omega⟩

/-- What a sum's bare form needs. -/
theorem sum_fits {a b : Trip} (ha : bitLen a.n ≤ 38400) (hb : bitLen b.n ≤ 38400) (a1 : -20000 ≤ a.e) (a2 : a.e ≤ 20000) (b1 : -20000 ≤ b.e) (b2 : b.e ≤ 20000) :
    (Dg.dg 65536 (bare (plusT a b)).n).length ≤ 30000 ∧ -200000 ≤ (bare (plusT a b)).e ∧ (bare (plusT a b)).e ≤ 200000 ∧ ∀ n up, 1 ≤ n → (Dg.dg 65536 (dcutT (bare (plusT a b)) n up).n).length ≤ 100000 := by
  obtain ⟨f1, _, _⟩ := plus_fits ha hb a1 a2 b1 b2
  obtain ⟨f4, f5, f6⟩ := plus_fits2 ha hb a1 a2 b1 b2
  have g1 := len16_of f1
  have ht := tz_fits _ 2451 f4
  refine ⟨Nat.le_trans (dg_len_mono 65536 _ _ (by omega) (bare_n_le3 _)) (by omega), ?_, ?_, fun n up hn => ?_⟩
  · unfold bare
    split
    · show -200000 ≤ (0 : Int); omega
    · show -200000 ≤ (plusT a b).e + (tz (plusT a b).n : Int); omega
  · unfold bare
    split
    · show (0 : Int) ≤ 200000; omega
    · show (plusT a b).e + (tz (plusT a b).n : Int) ≤ 200000; omega
  · rw [← cut_bare _ _ _ hn]
    have h1 := cutT_len (b := n) (up := up) f1 (by omega)
    have h2 := len16_of h1
    exact Nat.le_trans (dg_len_mono 65536 _ _ (by omega) (bare_n_le3 _)) (by omega)

set_option maxHeartbeats 800000 in
theorem bAdds_walk (s : Bool) (ao : Option Addr) (ca : Nat) (xs : List Nat) (e : Int) (t : Bool) (bo : Option Addr) (cb : Nat) (ys : List Nat) (f : Int) (r : Bool) (co : Option Addr) (cc : Nat) (zs : List Nat) (g : Int) (u : Bool) (d' : Option Addr) (cd : Nat) (us : List Nat) (k : Int) (n : Int) (w : World)
    (ha : Rd w .u32 (.slice ao xs.length ca) xs) (hb : Rd w .u32 (.slice bo ys.length cb) ys) (hc : Rd w .u32 (.slice co zs.length cc) zs) (hd : Rd w .u32 (.slice d' us.length cd) us) (sa : Dg.Small 4294967296 xs) (sb : Dg.Small 4294967296 ys) (sc : Dg.Small 4294967296 zs) (sd : Dg.Small 4294967296 us) (hT : Tab w) :
    Calls Tryd.prog 7 #[.agg #[.bool s, .slice ao xs.length ca, .int .i64 e, .bool t, .slice bo ys.length cb, .int .i64 f], .agg #[.bool r, .slice co zs.length cc, .int .i64 g, .bool u, .slice d' us.length cd, .int .i64 k], .int .i64 n] w fun z w' => z = .returned (.bool true) ∧ Below w.heap.size w w' := by
  have HA0 := fun w1 (b1 : Below w.heap.size w w1) => bAdd_ok s ao ca xs e t bo cb ys f r co cc zs g u d' cd us k n w1 (ha.later b1) (hb.later b1) (hc.later b1) (hd.later b1) sa sb sc sd (hT.later b1)
  have OK : wrong2 n (bchk s xs e t ys f) (bchk r zs g u us k) = 0 → ((dchk xs e = 0 ∧ dchk ys f = 0) ∧ (dchk zs g = 0 ∧ dchk us k = 0)) ∧ 1 ≤ n ∧ n ≤ 4096 ∧ leastR (four plusT ⟨s, Dg.vl 4294967296 xs, e⟩ ⟨t, Dg.vl 4294967296 ys, f⟩ ⟨r, Dg.vl 4294967296 zs, g⟩ ⟨u, Dg.vl 4294967296 us, k⟩) 4 n = ballR (toT (dcutT (bare (dplusT (bare ⟨s, Dg.vl 4294967296 xs, e⟩) (bare ⟨r, Dg.vl 4294967296 zs, g⟩))) n false)) (toT (dcutT (bare (dplusT (bare ⟨t, Dg.vl 4294967296 ys, f⟩) (bare ⟨u, Dg.vl 4294967296 us, k⟩))) n true)) := fun h0 => by
    obtain ⟨q1, q2, n1, n2⟩ := wrong2_zero h0
    obtain ⟨i1, i2, iA⟩ := bchk_zero q1
    obtain ⟨d1, d2, iB⟩ := bchk_zero q2
    obtain ⟨e1, e2⟩ := adds_ends ⟨s, Dg.vl 4294967296 xs, e⟩ ⟨t, Dg.vl 4294967296 ys, f⟩ ⟨r, Dg.vl 4294967296 zs, g⟩ ⟨u, Dg.vl 4294967296 us, k⟩ iA iB
    exact ⟨⟨⟨i1, i2⟩, ⟨d1, d2⟩⟩, n1, n2, least_toT (e1.trans (bareB_plus _ _).symm) (e2.trans (bareB_plus _ _).symm) n1⟩
  obtain ⟨c, hcE⟩ : ∃ c, wrong2 n (bchk s xs e t ys f) (bchk r zs g u us k) = c := ⟨_, rfl⟩
  have HW0 := fun w1 (b1 : Below w.heap.size w w1) => twoBalls_ok n s ao ca xs e t bo cb ys f r co cc zs g u d' cd us k w1 (ha.later b1) (hb.later b1) (hc.later b1) (hd.later b1) sa sb sc sd
  rw [hcE] at OK
  simp only [hcE] at HA0 HW0
  obtain ⟨⟨⟨rs, rn, re⟩, ⟨qs, qn, qe⟩, rc⟩, hR⟩ : ∃ R, (if c = 0 then leastR (four plusT ⟨s, Dg.vl 4294967296 xs, e⟩ ⟨t, Dg.vl 4294967296 ys, f⟩ ⟨r, Dg.vl 4294967296 zs, g⟩ ⟨u, Dg.vl 4294967296 us, k⟩) 4 n else (⟨false, 0, 0⟩, ⟨false, 0, 0⟩, c)) = R := ⟨_, rfl⟩
  simp only [hR] at HA0
  have hzero : rc ≠ 0 → rs = false ∧ rn = 0 ∧ re = 0 ∧ qs = false ∧ qn = 0 ∧ qe = 0 := fun hrc => by
    by_cases h : c = 0
    · rw [if_pos h] at hR
      obtain ⟨h1, h2⟩ := ballR_err hR hrc
      injection h1 with x1 x2 x3
      injection h2 with y1 y2 y3
      exact ⟨x1, x2, x3, y1, y2, y3⟩
    · rw [if_neg h] at hR
      simp only [Prod.mk.injEq, Trip.mk.injEq] at hR
      obtain ⟨⟨x1, x2, x3⟩, ⟨y1, y2, y3⟩, _⟩ := hR
      exact ⟨x1.symm, x2.symm, x3.symm, y1.symm, y2.symm, y3.symm⟩
  have hcc : c ≠ 0 → rc = c := fun h => by
    rw [if_neg h] at hR
    simp only [Prod.mk.injEq] at hR
    exact hR.2.2.symm
  have FI : c = 0 → ((Dg.dg 65536 (bare (dplusT (bare ⟨s, Dg.vl 4294967296 xs, e⟩) (bare ⟨r, Dg.vl 4294967296 zs, g⟩))).n).length ≤ 30000 ∧ -200000 ≤ (bare (dplusT (bare ⟨s, Dg.vl 4294967296 xs, e⟩) (bare ⟨r, Dg.vl 4294967296 zs, g⟩))).e ∧ (bare (dplusT (bare ⟨s, Dg.vl 4294967296 xs, e⟩) (bare ⟨r, Dg.vl 4294967296 zs, g⟩))).e ≤ 200000 ∧ ∀ n up, 1 ≤ n → (Dg.dg 65536 (dcutT (bare (dplusT (bare ⟨s, Dg.vl 4294967296 xs, e⟩) (bare ⟨r, Dg.vl 4294967296 zs, g⟩))) n up).n).length ≤ 100000) ∧ ((Dg.dg 65536 (bare (dplusT (bare ⟨t, Dg.vl 4294967296 ys, f⟩) (bare ⟨u, Dg.vl 4294967296 us, k⟩))).n).length ≤ 30000 ∧ -200000 ≤ (bare (dplusT (bare ⟨t, Dg.vl 4294967296 ys, f⟩) (bare ⟨u, Dg.vl 4294967296 us, k⟩))).e ∧ (bare (dplusT (bare ⟨t, Dg.vl 4294967296 ys, f⟩) (bare ⟨u, Dg.vl 4294967296 us, k⟩))).e ≤ 200000 ∧ ∀ n up, 1 ≤ n → (Dg.dg 65536 (dcutT (bare (dplusT (bare ⟨t, Dg.vl 4294967296 ys, f⟩) (bare ⟨u, Dg.vl 4294967296 us, k⟩))) n up).n).length ≤ 100000) := fun h0 => by
    obtain ⟨⟨⟨i1, i2⟩, ⟨d1, d2⟩⟩, n1, n2, _⟩ := OK h0
    obtain ⟨v1, v2, v3, v4, v5⟩ := num_ok i1 sa
    obtain ⟨u1, u2, u3, u4, u5⟩ := num_ok i2 sb
    obtain ⟨z1, z2, z3, z4, z5⟩ := num_ok d1 sc
    obtain ⟨y1, y2, y3, y4, y5⟩ := num_ok d2 sd
    rw [bareB_plus, bareB_plus]
    exact ⟨sum_fits (bits_of v2 v3) (bits_of z2 z3) v4 v5 z4 z5, sum_fits (bits_of u2 u3) (bits_of y2 y3) u4 u5 y4 y5⟩
  refine bAddsW_any s ao ca xs.length e t bo cb ys.length f r co cc zs.length g u d' cd us.length k n c rs rn re qs qn qe rc (bare ⟨s, Dg.vl 4294967296 xs, e⟩) (bare ⟨t, Dg.vl 4294967296 ys, f⟩) (bare ⟨r, Dg.vl 4294967296 zs, g⟩) (bare ⟨u, Dg.vl 4294967296 us, k⟩) (bare (dplusT (bare ⟨s, Dg.vl 4294967296 xs, e⟩) (bare ⟨r, Dg.vl 4294967296 zs, g⟩))) (bare (dplusT (bare ⟨t, Dg.vl 4294967296 ys, f⟩) (bare ⟨u, Dg.vl 4294967296 us, k⟩))) w HA0 HW0 (fun h0 w1 b1 => ?_) (fun h0 w1 b1 => ?_) (fun h0 v x w1 hv hx => ?_) (fun h0 v x w1 hv hx => ?_) (fun p q lo hi w1 b1 rp rq h1 h2 => ?_) (fun w1 b1 => bbegun_any w1 (hT.later b1))
  · obtain ⟨⟨⟨i1, i2⟩, _⟩, _⟩ := OK h0
    obtain ⟨v1, v2, v3, v4, v5⟩ := num_ok i1 sa
    obtain ⟨u1, u2, u3, u4, u5⟩ := num_ok i2 sb
    exact ofBall_any s ao ca xs.length e t bo cb ys.length f _ _ w1 (fun w2 b2 => ofDyad_any s ao ca xs e w2 (ha.later (below_trans b1 b2)) sa (by omega) (by omega) (by omega)) (fun w2 b2 => ofDyad_any t bo cb ys f w2 (hb.later (below_trans b1 b2)) sb (by omega) (by omega) (by omega))
  · obtain ⟨⟨_, ⟨d1, d2⟩⟩, _⟩ := OK h0
    obtain ⟨z1, z2, z3, z4, z5⟩ := num_ok d1 sc
    obtain ⟨y1, y2, y3, y4, y5⟩ := num_ok d2 sd
    exact ofBall_any r co cc zs.length g u d' cd us.length k _ _ w1 (fun w2 b2 => ofDyad_any r co cc zs g w2 (hc.later (below_trans b1 b2)) sc (by omega) (by omega) (by omega)) (fun w2 b2 => ofDyad_any u d' cd us k w2 (hd.later (below_trans b1 b2)) sd (by omega) (by omega) (by omega))
  · obtain ⟨⟨⟨i1, i2⟩, ⟨d1, d2⟩⟩, _⟩ := OK h0
    obtain ⟨v1, v2, v3, v4, v5⟩ := num_ok i1 sa
    obtain ⟨z1, z2, z3, z4, z5⟩ := num_ok d1 sc
    have e1 := bare_e_in (s := s) v2 v3 v4 v5
    have e2 := bare_e_in (s := r) z2 z3 z4 z5
    exact refdplus_any v x _ _ w1 hv hx (len16_bare sa v3) (len16_bare sc z3) e1.1 e1.2 e2.1 e2.2
  · obtain ⟨⟨⟨i1, i2⟩, ⟨d1, d2⟩⟩, _⟩ := OK h0
    obtain ⟨v1, v2, v3, v4, v5⟩ := num_ok i2 sb
    obtain ⟨z1, z2, z3, z4, z5⟩ := num_ok d2 sd
    have e1 := bare_e_in (s := t) v2 v3 v4 v5
    have e2 := bare_e_in (s := u) z2 z3 z4 z5
    exact refdplus_any v x _ _ w1 hv hx (len16_bare sb v3) (len16_bare sd z3) e1.1 e1.2 e2.1 e2.2
  · obtain ⟨po, pc, hp⟩ := rp.shape
    subst hp
    obtain ⟨qo, qc, hq⟩ := rq.shape
    subst hq
    by_cases h0 : c = 0
    · obtain ⟨_, n1, n2, hE⟩ := OK h0
      obtain ⟨⟨F1, F2, F3, F4⟩, ⟨G1, G2, G3, G4⟩⟩ := FI h0
      rw [if_pos h0, hE] at hR
      obtain ⟨rlo, rhi⟩ := h1 h0
      obtain ⟨L, hL⟩ : ∃ L, (bare (dplusT (bare ⟨s, Dg.vl 4294967296 xs, e⟩) (bare ⟨r, Dg.vl 4294967296 zs, g⟩))) = L := ⟨_, rfl⟩
      obtain ⟨H, hH⟩ : ∃ H, (bare (dplusT (bare ⟨t, Dg.vl 4294967296 ys, f⟩) (bare ⟨u, Dg.vl 4294967296 us, k⟩))) = H := ⟨_, rfl⟩
      rw [hL] at rlo F1 F2 F3 F4 hR
      rw [hH] at rhi G1 G2 G3 G4 hR
      obtain ⟨sl, rfl, rl⟩ := rlo
      obtain ⟨lo, lp, hl⟩ := rl.shape
      subst hl
      obtain ⟨sh, rfl, rh⟩ := rhi
      obtain ⟨ho, hp, hh⟩ := rh.shape
      subst hh
      refine ballIsW_any rs rn re qs qn qe rc po pc qo qc c n L.s lo _ lp L.e H.s ho _ hp H.e w1 rp rq (fun _ w2 b2 => ?_) hzero hcc
      rw [← hR]
      exact toBall_any L.s lo lp _ L.e H.s ho hp _ H.e n (dcutT L n false) (dcutT H n true) _ _ w2 (fun w3 b3 => refdcut_any _ L n false w3 ⟨_, rfl, rl.later (below_trans b2 b3)⟩ F1 F2 F3 n1 n2) (fun w3 b3 => refdcut_any _ H n true w3 ⟨_, rfl, rh.later (below_trans b2 b3)⟩ G1 G2 G3 n1 n2) (fun v w3 hv => toDyad_any v _ w3 hv (F4 n false n1)) (fun v w3 hv => toDyad_any v _ w3 hv (G4 n true n1))
    · obtain ⟨rfl, rfl⟩ := h2 h0
      exact ballIsW_any rs rn re qs qn qe rc po pc qo qc c n false none 0 0 0 false none 0 0 0 w1 rp rq (fun h => absurd h h0) hzero hcc
end Go.Proofs.YtfajoaopfedokaaDoor
