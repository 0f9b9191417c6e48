/-
  Balls: the law BallMuls.
-/
import Derived.Test.YtfajoaopfedokaaDoorBf
import Derived.Deep.RegionHeld3
import Derived.Deep.Cut
import Derived.Test.YtfajoaopfedokaaDoorBh
import Derived.Test.YtfajoaopfedokaaDoorBi
namespace Go.Proofs.YtfajoaopfedokaaDoor
open Go.RowKit

/-- Two numbers of the reference are handed back. -/
def E2Res (w : World) (L H : Trip) (z : Ending) (w' : World) : Prop :=
  ∃ p q, z = .returned (.tuple #[.agg #[.bool L.s, p, .int .i64 L.e], .agg #[.bool H.s, q, .int .i64 H.e]]) ∧ Rd w' .i64 p (Dg.dg 65536 L.n) ∧ Rd w' .i64 q (Dg.dg 65536 H.n) ∧ Below w.heap.size w w'

set_option maxRecDepth 100000 in
set_option maxHeartbeats 1600000 in
theorem bMulsW_any (s : Bool) (ao : Option Addr) (ca la : Nat) (e : Int) (t : Bool) (bo : Option Addr) (cb lb : Nat) (f : Int) (r : Bool) (co : Option Addr) (cc lc : Nat) (g : Int) (u : Bool) (d' : Option Addr) (cd ld : Nat) (k : Int) (n c : Int) (rs : Bool) (rn : Nat) (re : Int) (qs : Bool) (qn : Nat) (qe rc : Int) (X0 X1 Y0 Y1 TA TB TC TD L H : Trip) (w : World)
    (HA : ∀ w1, Below w.heap.size w w1 → Calls Tryd.prog 41 #[.agg #[.bool s, .slice ao la ca, .int .i64 e, .bool t, .slice bo lb cb, .int .i64 f], .agg #[.bool r, .slice co lc cc, .int .i64 g, .bool u, .slice d' ld cd, .int .i64 k], .int .i64 n] w1 (BOwn w1 (⟨rs, rn, re⟩, ⟨qs, qn, qe⟩, rc)))
    (HW : ∀ w1, Below w.heap.size w w1 → Calls Tryd.prog 36 #[.agg #[.bool s, .slice ao la ca, .int .i64 e, .bool t, .slice bo lb cb, .int .i64 f], .agg #[.bool r, .slice co lc cc, .int .i64 g, .bool u, .slice d' ld cd, .int .i64 k], .int .i64 n] w1 fun z w' => z = .returned (.int .i64 c) ∧ Below w1.heap.size w1 w')
    (HX : c = 0 → ∀ w1, Below w.heap.size w w1 → Calls Tryd.prog 34 #[.agg #[.bool s, .slice ao la ca, .int .i64 e, .bool t, .slice bo lb cb, .int .i64 f]] w1 (RBRes w1 X0 X1))
    (HY : c = 0 → ∀ w1, Below w.heap.size w w1 → Calls Tryd.prog 34 #[.agg #[.bool r, .slice co lc cc, .int .i64 g, .bool u, .slice d' ld cd, .int .i64 k]] w1 (RBRes w1 Y0 Y1))
    (H00 : c = 0 → ∀ v u w1, Rv w1 v X0 → Rv w1 u Y0 → Calls Tryd.prog 43 #[v, u] w1 (RDRes w1 TA))
    (H01 : c = 0 → ∀ v u w1, Rv w1 v X0 → Rv w1 u Y1 → Calls Tryd.prog 43 #[v, u] w1 (RDRes w1 TB))
    (H10 : c = 0 → ∀ v u w1, Rv w1 v X1 → Rv w1 u Y0 → Calls Tryd.prog 43 #[v, u] w1 (RDRes w1 TC))
    (H11 : c = 0 → ∀ v u w1, Rv w1 v X1 → Rv w1 u Y1 → Calls Tryd.prog 43 #[v, u] w1 (RDRes w1 TD))
    (HE : c = 0 → ∀ oA cpA oB cpB oC cpC oD cpD w1, Rd w1 .i64 (.slice oA (Dg.dg 65536 TA.n).length cpA) (Dg.dg 65536 TA.n) → Rd w1 .i64 (.slice oB (Dg.dg 65536 TB.n).length cpB) (Dg.dg 65536 TB.n) → Rd w1 .i64 (.slice oC (Dg.dg 65536 TC.n).length cpC) (Dg.dg 65536 TC.n) → Rd w1 .i64 (.slice oD (Dg.dg 65536 TD.n).length cpD) (Dg.dg 65536 TD.n) →
      Calls Tryd.prog 42 #[.slice (some ⟨w1.heap.size, 0, none⟩) 4 4] (w1.alloc (.cells #[.bool TA.s, .slice oA (Dg.dg 65536 TA.n).length cpA, .int .i64 TA.e, .bool TB.s, .slice oB (Dg.dg 65536 TB.n).length cpB, .int .i64 TB.e, .bool TC.s, .slice oC (Dg.dg 65536 TC.n).length cpC, .int .i64 TC.e, .bool TD.s, .slice oD (Dg.dg 65536 TD.n).length cpD, .int .i64 TD.e] 33)) (E2Res (w1.alloc (.cells #[.bool TA.s, .slice oA (Dg.dg 65536 TA.n).length cpA, .int .i64 TA.e, .bool TB.s, .slice oB (Dg.dg 65536 TB.n).length cpB, .int .i64 TB.e, .bool TC.s, .slice oC (Dg.dg 65536 TC.n).length cpC, .int .i64 TC.e, .bool TD.s, .slice oD (Dg.dg 65536 TD.n).length cpD, .int .i64 TD.e] 33)) L H))
    (HI : ∀ p q lo hi w1, Below w.heap.size w w1 → Rd w1 .u32 p (Dg.dg 4294967296 rn) → Rd w1 .u32 q (Dg.dg 4294967296 qn) → (c = 0 → Rv w1 lo L ∧ Rv w1 hi H) → (c ≠ 0 → lo = .agg #[.bool false, .slice none 0 0, .int .i64 0] ∧ hi = .agg #[.bool false, .slice none 0 0, .int .i64 0]) → Calls Tryd.prog 38 #[.agg #[.bool rs, p, .int .i64 re, .bool qs, q, .int .i64 qe], .int .i64 rc, .int .i64 c, lo, hi, .int .i64 n] w1 fun z w' => z = .returned (.bool true) ∧ Below w1.heap.size w1 w')
    (HB : ∀ w1, Below w.heap.size w w1 → Calls Tryd.prog 29 #[] w1 fun z w' => z = .returned (.bool true) ∧ Below w1.heap.size w1 w') :
    Calls Tryd.prog 9 #[.agg #[.bool s, .slice ao la ca, .int .i64 e, .bool t, .slice bo lb cb, .int .i64 f], .agg #[.bool r, .slice co lc cc, .int .i64 g, .bool u, .slice d' ld cd, .int .i64 k], .int .i64 n] w fun z w' => z = .returned (.bool true) ∧ Below w.heap.size w w' := by
  replace HA : Hid _ := HA
  replace HW : Hid _ := HW
  replace HX : Hid _ := HX
  replace HY : Hid _ := HY
  replace H00 : Hid _ := H00
  replace H01 : Hid _ := H01
  replace H10 : Hid _ := H10
  replace H11 : Hid _ := H11
  replace HE : Hid _ := HE
  replace HI : Hid _ := HI
  replace HB : Hid _ := HB
  have b1 := below_trans (below_alloc w (.cells #[.bool s, .slice ao la ca, .int .i64 e, .bool t, .slice bo lb cb, .int .i64 f] 43)) (below_alloc _ (.cells #[.bool r, .slice co lc cc, .int .i64 g, .bool u, .slice d' ld cd, .int .i64 k] 43))
  have l1 := (loc6_new w (.bool s) (.slice ao la ca) (.int .i64 e) (.bool t) (.slice bo lb cb) (.int .i64 f) 43).later (below_alloc _ (.cells #[.bool r, .slice co lc cc, .int .i64 g, .bool u, .slice d' ld cd, .int .i64 k] 43))
  have m1 := loc6_new (w.alloc (.cells #[.bool s, .slice ao la ca, .int .i64 e, .bool t, .slice bo lb cb, .int .i64 f] 43)) (.bool r) (.slice co lc cc) (.int .i64 g) (.bool u) (.slice d' ld cd) (.int .i64 k) 43
  rw [World.size_alloc] at m1
  by_cases hc : c = 0
  · subst hc
    replace HX : Hid _ := HX.out rfl
    replace HY : Hid _ := HY.out rfl
    replace H00 : Hid _ := H00.out rfl
    replace H01 : Hid _ := H01.out rfl
    replace H10 : Hid _ := H10.out rfl
    replace H11 : Hid _ := H11.out rfl
    replace HE : Hid _ := HE.out rfl
    obtain ⟨xs, xn, xe⟩ := X0
    obtain ⟨zs, zn, ze⟩ := X1
    obtain ⟨ys, yn, ye⟩ := Y0
    obtain ⟨vs, vn, ve⟩ := Y1
    obtain ⟨As, An, Ae⟩ := TA
    obtain ⟨Bs, Bn, Be⟩ := TB
    obtain ⟨Cs, Cn, Ce⟩ := TC
    obtain ⟨Ds, Dn, De⟩ := TD
    obtain ⟨Ls, Ln, Le⟩ := L
    obtain ⟨Hs, Hn, He⟩ := H
    go_enter Tryd.func9, Tryd.ntmps9
    go_wp2_with fail
    refine (HA.out _ b1).mono ?_
    rintro z w2 ⟨p, q, rfl, op, oq, b2⟩
    obtain ⟨po, pc, hp⟩ := op.rd.shape
    subst hp
    obtain ⟨qo, qc, hq⟩ := oq.rd.shape
    subst hq
    have rp := op.rd
    have rq := oq.rd
    simp only at rp rq ⊢
    have ba := below_alloc w2 (.cells #[.bool rs, .slice po (Dg.dg 4294967296 rn).length pc, .int .i64 re, .bool qs, .slice qo (Dg.dg 4294967296 qn).length qc, .int .i64 qe] 43)
    have n2 := loc6_new w2 (.bool rs) (.slice po (Dg.dg 4294967296 rn).length pc) (.int .i64 re) (.bool qs) (.slice qo (Dg.dg 4294967296 qn).length qc) (.int .i64 qe) 43
    have b02 := below_trans (below_trans b1 b2) ba
    have l2 := (l1.later b2).later ba
    have m2 := (m1.later b2).later ba
    have rp2 := rp.later ba
    have rq2 := rq.later ba
    clear op oq rp rq b1 b2 ba l1 m1 HA
    obtain ⟨-, ⟨c0, c1, c2, c3, c4, c5⟩, -⟩ := id l2
    obtain ⟨-, ⟨x0, x1, x2, x3, x4, x5⟩, -⟩ := id m2
    go_wp2_with fail
    refine (HW.out _ b02).mono ?_
    rintro z w3 ⟨rfl, b3⟩
    have a3 := below_alloc w3 (.cells #[.bool false, .slice none 0 0, .int .i64 0] 33)
    have a4 := below_alloc (w3.alloc (.cells #[.bool false, .slice none 0 0, .int .i64 0] 33)) (.cells #[.bool false, .slice none 0 0, .int .i64 0] 33)
    have lo4 := (loc_new w3 (.bool false) (.slice none 0 0) (.int .i64 0) 33).later a4
    have zl4 := (zb_new w3 33).later a4
    have hi4 := loc_new (w3.alloc (.cells #[.bool false, .slice none 0 0, .int .i64 0] 33)) (.bool false) (.slice none 0 0) (.int .i64 0) 33
    have zh4 := zb_new (w3.alloc (.cells #[.bool false, .slice none 0 0, .int .i64 0] 33)) 33
    have l4 := ((l2.later b3).later a3).later a4
    have m4 := ((m2.later b3).later a3).later a4
    have n4 := ((n2.later b3).later a3).later a4
    have rp4 := ((rp2.later b3).later a3).later a4
    have rq4 := ((rq2.later b3).later a3).later a4
    have b04 := below_trans (below_trans (below_trans b02 b3) a3) a4
    simp only [World.size_alloc] at hi4 zh4
    have nAB : w2.heap.size < w3.heap.size := (n2.later b3).1
    have hW3 : w.heap.size < w3.heap.size := (l2.later b3).1
    clear l2 m2 n2 rp2 rq2 b02 b3 a3 a4 HW c0 c1 c2 c3 c4 c5 x0 x1 x2 x3 x4 x5
    have hLB : w.heap.size ≤ w3.heap.size := by omega
    have hHK : w.heap.size ≤ w3.heap.size + 1 := by omega
    have nLH : w3.heap.size ≠ w3.heap.size + 1 := by omega
    have nLA : w3.heap.size ≠ w2.heap.size := by omega
    have nHA : w3.heap.size + 1 ≠ w2.heap.size := by omega
    go_upto_region 5 with fail
    generalize w.heap.size + 1 = SB at m4 ⊢
    generalize w2.heap.size = AB at n4 nLA nHA nAB ⊢
    generalize w3.heap.size + 1 = HK at hi4 zh4 hHK nLH nHA ⊢
    generalize (w3.alloc (.cells #[.bool false, .slice none 0 0, .int .i64 0] 33)).alloc (.cells #[.bool false, .slice none 0 0, .int .i64 0] 33) = w4 at *
    clear hW3
    generalize w3.heap.size = LB at lo4 zl4 hLB nLH nLA nAB ⊢
    refine wp_region_any (by kernel_rfl) ?_
    refine wpAny_until (fun listed a W => ∃ (ll0 ll1 ll2 ll3 ll4 ll5 : Bool) (u27 u28 u29 u30 u12 u13 : Value), listed = #[ll0, ll1, ll2, ll3, ll4, ll5, false, false] ∧ a = { tmps := #[.agg #[.bool s, .slice ao la ca, .int .i64 e, .bool t, .slice bo lb cb, .int .i64 f], .agg #[.bool r, .slice co lc cc, .int .i64 g, .bool u, .slice d' ld cd, .int .i64 k], .int .i64 n, .pointer (some ⟨w.heap.size, 0, none⟩), .pointer (some ⟨SB, 0, none⟩), undef, .bool false, .pointer (some ⟨AB, 0, none⟩), .int .i64 rc, .int .i64 0, .pointer (some ⟨LB, 0, none⟩), .pointer (some ⟨HK, 0, none⟩), u12, u13, .tuple #[.agg #[.bool rs, .slice po (Dg.dg 4294967296 rn).length pc, .int .i64 re, .bool qs, .slice qo (Dg.dg 4294967296 qn).length qc, .int .i64 qe], .int .i64 rc], .agg #[.bool s, .slice ao la ca, .int .i64 e, .bool t, .slice bo lb cb, .int .i64 f], .agg #[.bool r, .slice co lc cc, .int .i64 g, .bool u, .slice d' ld cd, .int .i64 k], .int .i64 n, .tuple #[.agg #[.bool rs, .slice po (Dg.dg 4294967296 rn).length pc, .int .i64 re, .bool qs, .slice qo (Dg.dg 4294967296 qn).length qc, .int .i64 qe], .int .i64 rc], .agg #[.bool rs, .slice po (Dg.dg 4294967296 rn).length pc, .int .i64 re, .bool qs, .slice qo (Dg.dg 4294967296 qn).length qc, .int .i64 qe], .int .i64 rc, .agg #[.bool s, .slice ao la ca, .int .i64 e, .bool t, .slice bo lb cb, .int .i64 f], .agg #[.bool r, .slice co lc cc, .int .i64 g, .bool u, .slice d' ld cd, .int .i64 k], .int .i64 n, .int .i64 0, .int .i64 0, .bool true, u27, u28, u29, u30, undef, undef, undef, undef, undef, undef, undef, undef, undef, undef, undef, undef, undef, undef, undef, undef, undef, undef, undef, undef, undef, undef, undef, undef, undef, undef, undef, undef, undef, undef, undef, undef, undef, undef, undef], defers := [] } ∧ Below w4.heap.size w4 W ∧ (ll0 = true → u27 = .agg #[.bool s, .slice ao la ca, .int .i64 e, .bool t, .slice bo lb cb, .int .i64 f]) ∧ (ll1 = true → RB6 W u28 ⟨xs, xn, xe⟩ ⟨zs, zn, ze⟩) ∧ (ll2 = true → u29 = .agg #[.bool r, .slice co lc cc, .int .i64 g, .bool u, .slice d' ld cd, .int .i64 k]) ∧ (ll3 = true → RB6 W u30 ⟨ys, yn, ye⟩ ⟨vs, vn, ve⟩) ∧ (ll4 = true → New6 W w4.heap.size u12) ∧ (ll5 = true → New6 W w4.heap.size u13) ∧ (ll1 = true → ll0 = true) ∧ (ll3 = true → ll2 = true ∧ ll1 = true) ∧ (ll4 = true → ll5 = true → u12 ≠ u13)) #[true, true, true, true, true, true, false, false] 2 rfl ?hend ?hstep 8 _ _ _ rfl ?start
    case start =>
      refine ⟨false, false, false, false, false, false, undef, undef, undef, undef, undef, undef, rfl, rfl, (Below.refl _ _).drew, ?_, ?_, ?_, ?_, ?_, ?_, ?_, ?_, ?_⟩ <;> simp
    case hstep =>
      rintro listed a W ⟨ll0, ll1, ll2, ll3, ll4, ll5, u27, u28, u29, u30, u12, u13, rfl, rfl, bel, h0, h1, h2, h3, h4, h5, e1, e3, d4_5⟩ hne
      obtain ⟨-, ⟨c0, c1, c2, c3, c4, c5⟩, -⟩ := l4.later bel
      obtain ⟨-, ⟨x0, x1, x2, x3, x4, x5⟩, -⟩ := m4.later bel
      constructor
      · intro hnil
        apply hne
        obtain rfl : ll0 = true := not_ready (j := 0) hnil rfl (by kernel_rfl)
        obtain rfl : ll1 = true := not_ready (j := 1) hnil rfl (by kernel_rfl)
        obtain rfl : ll2 = true := not_ready (j := 2) hnil rfl (by kernel_rfl)
        obtain rfl : ll3 = true := not_ready (j := 3) hnil rfl (by kernel_rfl)
        obtain rfl : ll4 = true := not_ready (j := 4) hnil rfl (by kernel_rfl)
        obtain rfl : ll5 = true := not_ready (j := 5) hnil rfl (by kernel_rfl)
        rfl
      · intro i hi
        replace h0 : Hid _ := h0
        replace h1 : Hid _ := h1
        replace h2 : Hid _ := h2
        replace h3 : Hid _ := h3
        replace h4 : Hid _ := h4
        replace h5 : Hid _ := h5
        replace e1 : Hid _ := e1
        replace e3 : Hid _ := e3
        replace d4_5 : Hid _ := d4_5
        have hlt := ready_lt hi
        match i, hlt, hi with
        | 0, _, hi =>
          refine wpOp_via (i := 0) rfl rfl (fun K hK => ?_)
          go_simp
          exact hK.out _ _ ⟨true, ll1, ll2, ll3, ll4, ll5, _, u28, u29, u30, u12, u13, rfl, rfl, bel, fun _ => rfl, h1, h2, h3, h4, h5, fun _ => rfl, e3, d4_5⟩
        | 1, _, hi =>
          obtain rfl : ll0 = true := ready_dep (d := 0) rfl (by kernel_rfl) hi
          obtain rfl := h0.out rfl
          refine wpOp_via (i := 1) rfl rfl (fun K hK => ?_)
          go_simp
          refine (HX.out _ (below_trans b04 bel)).mono ?_
          rintro z W2 ⟨pp, qq, rfl, rpp, rqq, b4⟩
          have hp : RB6 W2 _ ⟨xs, xn, xe⟩ ⟨zs, zn, ze⟩ := ⟨pp, qq, rfl, rpp, rqq⟩
          go_simp
          exact hK.out _ _ ⟨true, true, ll2, ll3, ll4, ll5, _, _, u29, u30, u12, u13, rfl, rfl, below_trans bel b4, fun _ => rfl, fun _ => hp, h2, fun h => (h3.out h).later b4, fun h => (h4.out h).later b4, fun h => (h5.out h).later b4, fun _ => rfl, fun h => ⟨(e3.out h).1, rfl⟩, d4_5⟩
        | 2, _, hi =>
          refine wpOp_via (i := 2) rfl rfl (fun K hK => ?_)
          go_simp
          exact hK.out _ _ ⟨ll0, ll1, true, ll3, ll4, ll5, u27, u28, _, u30, u12, u13, rfl, rfl, bel, h0, h1, fun _ => rfl, h3, h4, h5, e1, fun h => ⟨rfl, (e3.out h).2⟩, d4_5⟩
        | 3, _, hi =>
          obtain rfl : ll2 = true := ready_dep (d := 2) rfl (by kernel_rfl) hi
          obtain rfl : ll1 = true := ready_dep (d := 1) rfl (by kernel_rfl) hi
          obtain rfl := h2.out rfl
          refine wpOp_via (i := 3) rfl rfl (fun K hK => ?_)
          go_simp
          refine (HY.out _ (below_trans b04 bel)).mono ?_
          rintro z W2 ⟨pp, qq, rfl, rpp, rqq, b4⟩
          have hp : RB6 W2 _ ⟨ys, yn, ye⟩ ⟨vs, vn, ve⟩ := ⟨pp, qq, rfl, rpp, rqq⟩
          go_simp
          exact hK.out _ _ ⟨ll0, true, true, true, ll4, ll5, u27, u28, _, _, u12, u13, rfl, rfl, below_trans bel b4, h0, fun h => (h1.out h).later b4, fun _ => rfl, fun _ => hp, fun h => (h4.out h).later b4, fun h => (h5.out h).later b4, e1, fun _ => ⟨rfl, rfl⟩, d4_5⟩
        | 4, _, hi =>
          refine wpOp_via (i := 4) rfl rfl (fun K hK => ?_)
          have bz := below_alloc W (.cells #[.bool false, .slice none 0 0, .int .i64 0, .bool false, .slice none 0 0, .int .i64 0] 50)
          go_simp
          exact hK.out _ _ ⟨ll0, ll1, ll2, ll3, true, ll5, u27, u28, u29, u30, _, u13, rfl, rfl, below_trans bel bz, h0, fun h => (h1.out h).later bz, h2, fun h => (h3.out h).later bz, fun _ => new6_new W _ 50 bel.size, fun h => (h5.out h).later bz, e1, e3, fun _ h => (new6_ne (h5.out h)).symm⟩
        | 5, _, hi =>
          refine wpOp_via (i := 5) rfl rfl (fun K hK => ?_)
          have bz := below_alloc W (.cells #[.bool false, .slice none 0 0, .int .i64 0, .bool false, .slice none 0 0, .int .i64 0] 50)
          go_simp
          exact hK.out _ _ ⟨ll0, ll1, ll2, ll3, ll4, true, u27, u28, u29, u30, u12, _, rfl, rfl, below_trans bel bz, h0, fun h => (h1.out h).later bz, h2, fun h => (h3.out h).later bz, fun h => (h4.out h).later bz, fun _ => new6_new W _ 50 bel.size, e1, e3, fun h _ => new6_ne (h4.out h)⟩
        | 6, _, hi =>
          exfalso
          apply hne
          obtain rfl : ll1 = true := ready_dep (d := 1) rfl (by kernel_rfl) hi
          obtain rfl : ll3 = true := ready_dep (d := 3) rfl (by kernel_rfl) hi
          obtain rfl : ll4 = true := ready_dep (d := 4) rfl (by kernel_rfl) hi
          obtain rfl : ll5 = true := ready_dep (d := 5) rfl (by kernel_rfl) hi
          obtain ⟨rfl, -⟩ := e3.out rfl
          obtain rfl := e1.out rfl
          rfl
        | 7, _, hi =>
          exact absurd (ready_dep (d := 6) rfl (by kernel_rfl) hi) (by simp)
        | i + 8, hlt, _ => exact absurd hlt (by simp)
    case hend =>
      rintro a W ⟨ll0, ll1, ll2, ll3, ll4, ll5, u27, u28, u29, u30, u12, u13, hl, rfl, bel, h0, h1, h2, h3, h4, h5, e1, e3, d4_5⟩
      have hl := congrArg Array.toList hl
      simp only [List.cons.injEq, and_true] at hl
      obtain ⟨rfl, rfl, rfl, rfl, rfl, rfl⟩ := hl
      obtain rfl := h0 rfl
      obtain ⟨xp, xq, rfl, rx, rz⟩ := h1 rfl
      obtain rfl := h2 rfl
      obtain ⟨yp, yq, rfl, ry, rv⟩ := h3 rfl
      obtain ⟨q4, rfl, hb4, z4, y4⟩ := h4 rfl
      obtain ⟨q5, rfl, hb5, z5, y5⟩ := h5 rfl
      have n4_5 : q4 ≠ q5 := fun h => d4_5 rfl rfl (by rw [h])
      clear hl e1 e3 d4_5
      obtain ⟨xo, xc, h1⟩ := rx.shape
      subst h1
      obtain ⟨zo, zc, h1⟩ := rz.shape
      subst h1
      obtain ⟨yo, yc, h1⟩ := ry.shape
      subst h1
      obtain ⟨vo, vc, h1⟩ := rv.shape
      subst h1
      simp only at rx rz ry rv ⊢
      obtain ⟨hx0, ⟨p0, p1, p2, p3, p4, p5⟩, f0, f1, f2, f3, f4, f5⟩ := id z4
      refine wpAny_one (i := 6) (by kernel_rfl) (wpOp_via (i := 6) rfl rfl (fun K hK => ?_))
      go_simp
      refine hK.out _ _ ?_
      clear hK
      have k4 := loc6_set z4 (.bool xs) (.slice xo (Dg.dg 65536 xn).length xc) (.int .i64 xe) (.bool zs) (.slice zo (Dg.dg 65536 zn).length zc) (.int .i64 ze)
      have k5 := z5.off6 (c := q4) n4_5 (.bool xs) (.slice xo (Dg.dg 65536 xn).length xc) (.int .i64 xe) (.bool zs) (.slice zo (Dg.dg 65536 zn).length zc) (.int .i64 ze)
      have y5' := y5.off6 n4_5.symm (.bool xs) (.slice xo (Dg.dg 65536 xn).length xc) (.int .i64 xe) (.bool zs) (.slice zo (Dg.dg 65536 zn).length zc) (.int .i64 ze)
      have rx1 := y4.rd rx (Dg.norm_dg _ _ (by omega)) (.bool xs) (.slice xo (Dg.dg 65536 xn).length xc) (.int .i64 xe) (.bool zs) (.slice zo (Dg.dg 65536 zn).length zc) (.int .i64 ze)
      have rz1 := y4.rd rz (Dg.norm_dg _ _ (by omega)) (.bool xs) (.slice xo (Dg.dg 65536 xn).length xc) (.int .i64 xe) (.bool zs) (.slice zo (Dg.dg 65536 zn).length zc) (.int .i64 ze)
      have ry1 := y4.rd ry (Dg.norm_dg _ _ (by omega)) (.bool xs) (.slice xo (Dg.dg 65536 xn).length xc) (.int .i64 xe) (.bool zs) (.slice zo (Dg.dg 65536 zn).length zc) (.int .i64 ze)
      have rv1 := y4.rd rv (Dg.norm_dg _ _ (by omega)) (.bool xs) (.slice xo (Dg.dg 65536 xn).length xc) (.int .i64 xe) (.bool zs) (.slice zo (Dg.dg 65536 zn).length zc) (.int .i64 ze)
      have bl0 := below_set6 bel hb4 (.bool xs) (.slice xo (Dg.dg 65536 xn).length xc) (.int .i64 xe) (.bool zs) (.slice zo (Dg.dg 65536 zn).length zc) (.int .i64 ze)
      clear z4 z5 y4 y5 rx rz ry rv bel hx0 p0 p1 p2 p3 p4 p5 f0 f1 f2 f3 f4 f5
      generalize ((((((W.setCell ⟨q4, 0, none⟩ (.bool xs)).setCell ⟨q4, 1, none⟩ (.slice xo (Dg.dg 65536 xn).length xc)).setCell ⟨q4, 2, none⟩ (.int .i64 xe)).setCell ⟨q4, 3, none⟩ (.bool zs)).setCell ⟨q4, 4, none⟩ (.slice zo (Dg.dg 65536 zn).length zc)).setCell ⟨q4, 5, none⟩ (.int .i64 ze)) = W1 at k4 k5 y5' rx1 rz1 ry1 rv1 bl0 ⊢
      obtain ⟨hx0, ⟨p0, p1, p2, p3, p4, p5⟩, f0, f1, f2, f3, f4, f5⟩ := id k5
      refine wpAny_one (i := 7) (by kernel_rfl) (wpOp_via (i := 7) rfl rfl (fun K hK => ?_))
      go_simp
      refine hK.out _ _ ?_
      clear hK
      have j5 := loc6_set k5 (.bool ys) (.slice yo (Dg.dg 65536 yn).length yc) (.int .i64 ye) (.bool vs) (.slice vo (Dg.dg 65536 vn).length vc) (.int .i64 ve)
      have j4 := k4.off6 (c := q5) n4_5.symm (.bool ys) (.slice yo (Dg.dg 65536 yn).length yc) (.int .i64 ye) (.bool vs) (.slice vo (Dg.dg 65536 vn).length vc) (.int .i64 ve)
      have rx2 := y5'.rd rx1 (Dg.norm_dg _ _ (by omega)) (.bool ys) (.slice yo (Dg.dg 65536 yn).length yc) (.int .i64 ye) (.bool vs) (.slice vo (Dg.dg 65536 vn).length vc) (.int .i64 ve)
      have rz2 := y5'.rd rz1 (Dg.norm_dg _ _ (by omega)) (.bool ys) (.slice yo (Dg.dg 65536 yn).length yc) (.int .i64 ye) (.bool vs) (.slice vo (Dg.dg 65536 vn).length vc) (.int .i64 ve)
      have ry2 := y5'.rd ry1 (Dg.norm_dg _ _ (by omega)) (.bool ys) (.slice yo (Dg.dg 65536 yn).length yc) (.int .i64 ye) (.bool vs) (.slice vo (Dg.dg 65536 vn).length vc) (.int .i64 ve)
      have rv2 := y5'.rd rv1 (Dg.norm_dg _ _ (by omega)) (.bool ys) (.slice yo (Dg.dg 65536 yn).length yc) (.int .i64 ye) (.bool vs) (.slice vo (Dg.dg 65536 vn).length vc) (.int .i64 ve)
      have bl1 := below_set6 bl0 hb5 (.bool ys) (.slice yo (Dg.dg 65536 yn).length yc) (.int .i64 ye) (.bool vs) (.slice vo (Dg.dg 65536 vn).length vc) (.int .i64 ve)
      clear k4 k5 y5' rx1 rz1 ry1 rv1 bl0 hx0 p0 p1 p2 p3 p4 p5 f0 f1 f2 f3 f4 f5
      generalize ((((((W1.setCell ⟨q5, 0, none⟩ (.bool ys)).setCell ⟨q5, 1, none⟩ (.slice yo (Dg.dg 65536 yn).length yc)).setCell ⟨q5, 2, none⟩ (.int .i64 ye)).setCell ⟨q5, 3, none⟩ (.bool vs)).setCell ⟨q5, 4, none⟩ (.slice vo (Dg.dg 65536 vn).length vc)).setCell ⟨q5, 5, none⟩ (.int .i64 ve)) = W2 at j4 j5 rx2 rz2 ry2 rv2 bl1 ⊢
      refine wpAny_done (by kernel_rfl) ?_
      have bd : Below W2.heap.size W2 W2.drew := (Below.refl _ _).drew
      have n4L : q4 ≠ LB := by have := lo4.1; omega
      have n5L : q5 ≠ LB := by have := lo4.1; omega
      have n4H : q4 ≠ HK := by have := hi4.1; omega
      have n5H : q5 ≠ HK := by have := hi4.1; omega
      have nL4 := n4L.symm
      have nL5 := n5L.symm
      have nH4 := n4H.symm
      have nH5 := n5H.symm
      have b06 := below_trans (below_trans b04 bl1) bd
      have lo6 := (lo4.later bl1).later bd
      have hi6 := (hi4.later bl1).later bd
      have zl6 := (zl4.later bl1).later bd
      have zh6 := (zh4.later bl1).later bd
      have n6 := (n4.later bl1).later bd
      have rp6 := (rp4.later bl1).later bd
      have rq6 := (rq4.later bl1).later bd
      have j4' := j4.later bd
      have j5' := j5.later bd
      have rx3 := rx2.later bd
      have rz3 := rz2.later bd
      have ry3 := ry2.later bd
      have rv3 := rv2.later bd
      obtain ⟨-, ⟨c0, c1, c2, c3, c4, c5⟩, -⟩ := id j4'
      obtain ⟨-, ⟨x0, x1, x2, x3, x4, x5⟩, -⟩ := id j5'
      clear l4 m4 b04 bl1 lo4 hi4 zl4 zh4 n4 rp4 rq4 j4 j5 rx2 rz2 ry2 rv2 bd hb4 hb5
      go_goals
      go_wp2_with fail
      go_region_held3 (fun wq => (wq.cell? ⟨q4, 0, none⟩ = some (.bool xs) ∧ wq.cell? ⟨q4, 1, none⟩ = some (.slice xo (Dg.dg 65536 xn).length xc) ∧ wq.cell? ⟨q4, 2, none⟩ = some (.int .i64 xe)) ∧ (wq.cell? ⟨q4, 3, none⟩ = some (.bool zs) ∧ wq.cell? ⟨q4, 4, none⟩ = some (.slice zo (Dg.dg 65536 zn).length zc) ∧ wq.cell? ⟨q4, 5, none⟩ = some (.int .i64 ze)) ∧ (wq.cell? ⟨q5, 0, none⟩ = some (.bool ys) ∧ wq.cell? ⟨q5, 1, none⟩ = some (.slice yo (Dg.dg 65536 yn).length yc) ∧ wq.cell? ⟨q5, 2, none⟩ = some (.int .i64 ye)) ∧ (wq.cell? ⟨q5, 3, none⟩ = some (.bool vs) ∧ wq.cell? ⟨q5, 4, none⟩ = some (.slice vo (Dg.dg 65536 vn).length vc) ∧ wq.cell? ⟨q5, 5, none⟩ = some (.int .i64 ve))) (go_keep) (first
        | (go_at_call 43; have hgd := b06; clear hgd; refine (H00.out _ _ _ ⟨_, rfl, rx3⟩ ⟨_, rfl, ry3⟩).mono ?_; rintro z wa ⟨rA, rfl, rdA, ba1⟩; have b0a := below_trans b06 ba1; have loa := lo6.later ba1; have hia := hi6.later ba1; have zla := zl6.later ba1; have zha := zh6.later ba1; have na := n6.later ba1; have rpa := rp6.later ba1; have rqa := rq6.later ba1; have j4a := j4'.later ba1; have j5a := j5'.later ba1; have rxa := rx3.later ba1; have rza := rz3.later ba1; have rya := ry3.later ba1; have rva := rv3.later ba1; obtain ⟨-, ⟨ca0, ca1, ca2, ca3, ca4, ca5⟩, -⟩ := id j4a; obtain ⟨-, ⟨xa0, xa1, xa2, xa3, xa4, xa5⟩, -⟩ := id j5a; obtain ⟨oA, cpA, hsA⟩ := rdA.shape; subst hsA; clear b06; simp only at rdA)
        | (go_at_call 43; have hgd := b0a; clear hgd; refine (H01.out _ _ _ ⟨_, rfl, rxa⟩ ⟨_, rfl, rva⟩).mono ?_; rintro z wb ⟨rB, rfl, rdB, bb1⟩; have b0b := below_trans b0a bb1; have lob := loa.later bb1; have hib := hia.later bb1; have zlb := zla.later bb1; have zhb := zha.later bb1; have nb := na.later bb1; have rpb := rpa.later bb1; have rqb := rqa.later bb1; have j4b := j4a.later bb1; have j5b := j5a.later bb1; have rzb := rza.later bb1; have ryb := rya.later bb1; have rvb := rva.later bb1; have rdAb := rdA.later bb1; obtain ⟨-, ⟨cb0, cb1, cb2, cb3, cb4, cb5⟩, -⟩ := id j4b; obtain ⟨-, ⟨xb0, xb1, xb2, xb3, xb4, xb5⟩, -⟩ := id j5b; obtain ⟨oB, cpB, hsB⟩ := rdB.shape; subst hsB; clear b0a; simp only at rdB)
        | (go_at_call 43; have hgd := b0b; clear hgd; refine (H10.out _ _ _ ⟨_, rfl, rzb⟩ ⟨_, rfl, ryb⟩).mono ?_; rintro z wc ⟨rC, rfl, rdC, bc1⟩; have b0c := below_trans b0b bc1; have loc := lob.later bc1; have hic := hib.later bc1; have zlc := zlb.later bc1; have zhc := zhb.later bc1; have nc := nb.later bc1; have rpc := rpb.later bc1; have rqc := rqb.later bc1; have j4c := j4b.later bc1; have j5c := j5b.later bc1; have rzc := rzb.later bc1; have rvc := rvb.later bc1; have rdAc := rdAb.later bc1; have rdBc := rdB.later bc1; obtain ⟨-, ⟨cc0, cc1, cc2, cc3, cc4, cc5⟩, -⟩ := id j4c; obtain ⟨-, ⟨xc0, xc1, xc2, xc3, xc4, xc5⟩, -⟩ := id j5c; obtain ⟨oC, cpC, hsC⟩ := rdC.shape; subst hsC; clear b0b; simp only at rdC)
        | (go_at_call 43; have hgd := b0c; clear hgd; refine (H11.out _ _ _ ⟨_, rfl, rzc⟩ ⟨_, rfl, rvc⟩).mono ?_; rintro z wd ⟨rD, rfl, rdD, bd1⟩; have b0d := below_trans b0c bd1; have lod := loc.later bd1; have hid := hic.later bd1; have zld := zlc.later bd1; have zhd := zhc.later bd1; have nd := nc.later bd1; have rpd := rpc.later bd1; have rqd := rqc.later bd1; have j4d := j4c.later bd1; have j5d := j5c.later bd1; have rdAd := rdAc.later bd1; have rdBd := rdBc.later bd1; have rdCd := rdC.later bd1; obtain ⟨-, ⟨cd0, cd1, cd2, cd3, cd4, cd5⟩, -⟩ := id j4d; obtain ⟨-, ⟨xd0, xd1, xd2, xd3, xd4, xd5⟩, -⟩ := id j5d; obtain ⟨oD, cpD, hsD⟩ := rdD.shape; subst hsD; clear b0c; simp only at rdD; have bz := below_alloc wd (.cells #[.bool As, .slice oA (Dg.dg 65536 An).length cpA, .int .i64 Ae, .bool Bs, .slice oB (Dg.dg 65536 Bn).length cpB, .int .i64 Be, .bool Cs, .slice oC (Dg.dg 65536 Cn).length cpC, .int .i64 Ce, .bool Ds, .slice oD (Dg.dg 65536 Dn).length cpD, .int .i64 De] 33); have b0e := below_trans b0d bz; have loe := lod.later bz; have hie := hid.later bz; have zle := zld.later bz; have zhe := zhd.later bz; have ne := nd.later bz; have rpe := rpd.later bz; have rqe := rqd.later bz; have j4e := j4d.later bz; have j5e := j5d.later bz; obtain ⟨-, ⟨ce0, ce1, ce2, ce3, ce4, ce5⟩, -⟩ := id j4e; obtain ⟨-, ⟨xe0, xe1, xe2, xe3, xe4, xe5⟩, -⟩ := id j5e)
        | (go_at_call 42; have hgd := b0e; clear hgd; refine (HE.out _ _ _ _ _ _ _ _ _ rdAd rdBd rdCd rdD).mono ?_; rintro z wf ⟨pL, pH, rfl, rdL, rdH, bf1⟩; have b0f := below_trans b0e bf1; have lof := loe.later bf1; have hif := hie.later bf1; have zlf := zle.later bf1; have zhf := zhe.later bf1; have nf := ne.later bf1; have rpf := rpe.later bf1; have rqf := rqe.later bf1; have j4f := j4e.later bf1; have j5f := j5e.later bf1; obtain ⟨-, ⟨cf0, cf1, cf2, cf3, cf4, cf5⟩, -⟩ := id j4f; obtain ⟨-, ⟨xf0, xf1, xf2, xf3, xf4, xf5⟩, -⟩ := id j5f; obtain ⟨oL, cpL, hsL⟩ := rdL.shape; subst hsL; obtain ⟨oH, cpH, hsH⟩ := rdH.shape; subst hsH; simp only at rdL rdH; have rdLb := rdL; obtain ⟨hl0, ⟨g0, g1, g2⟩, f0, f1, f2⟩ := id lof; obtain ⟨hk0, ⟨i0, i1, i2⟩, y0, y1, y2⟩ := id hif; clear b0e))
      all_goals skip
      have t1 := loc_set lof (.bool Ls) (.slice oL (Dg.dg 65536 Ln).length cpL) (.int .i64 Le)
      have t2 := hif.apart (c := LB) nLH (.bool Ls) (.slice oL (Dg.dg 65536 Ln).length cpL) (.int .i64 Le)
      have t3 := zhf.off3 nLH.symm (.bool Ls) (.slice oL (Dg.dg 65536 Ln).length cpL) (.int .i64 Le)
      have t4 := nf.apart3 (c := LB) nLA (.bool Ls) (.slice oL (Dg.dg 65536 Ln).length cpL) (.int .i64 Le)
      have t5 := zlf.rd rdLb (Dg.norm_dg _ _ (by omega)) (.bool Ls) (.slice oL (Dg.dg 65536 Ln).length cpL) (.int .i64 Le)
      have t6 := zlf.rd rdH (Dg.norm_dg _ _ (by omega)) (.bool Ls) (.slice oL (Dg.dg 65536 Ln).length cpL) (.int .i64 Le)
      have t7 := below_set3 b0f hLB (.bool Ls) (.slice oL (Dg.dg 65536 Ln).length cpL) (.int .i64 Le)
      have s1 := t1.apart (c := HK) nLH.symm (.bool Hs) (.slice oH (Dg.dg 65536 Hn).length cpH) (.int .i64 He)
      have s2 := loc_set t2 (.bool Hs) (.slice oH (Dg.dg 65536 Hn).length cpH) (.int .i64 He)
      have s4 := t4.apart3 (c := HK) nHA (.bool Hs) (.slice oH (Dg.dg 65536 Hn).length cpH) (.int .i64 He)
      have s5 := t3.rd t5 (Dg.norm_dg _ _ (by omega)) (.bool Hs) (.slice oH (Dg.dg 65536 Hn).length cpH) (.int .i64 He)
      have s6 := t3.rd t6 (Dg.norm_dg _ _ (by omega)) (.bool Hs) (.slice oH (Dg.dg 65536 Hn).length cpH) (.int .i64 He)
      have s7 := below_set3 t7 hHK (.bool Hs) (.slice oH (Dg.dg 65536 Hn).length cpH) (.int .i64 He)
      have u1 := rpf.fix3 zlf (.bool Ls) (.slice oL (Dg.dg 65536 Ln).length cpL) (.int .i64 Le)
      have u2 := rqf.fix3 zlf (.bool Ls) (.slice oL (Dg.dg 65536 Ln).length cpL) (.int .i64 Le)
      have u3 := u1.fix3 t3 (.bool Hs) (.slice oH (Dg.dg 65536 Hn).length cpH) (.int .i64 He)
      have u4 := u2.fix3 t3 (.bool Hs) (.slice oH (Dg.dg 65536 Hn).length cpH) (.int .i64 He)
      clear t1 t2 t3 t4 t5 t6 t7 u1 u2
      generalize ((((((wf.setCell ⟨LB, 0, none⟩ (.bool Ls)).setCell ⟨LB, 1, none⟩ (.slice oL (Dg.dg 65536 Ln).length cpL)).setCell ⟨LB, 2, none⟩ (.int .i64 Le)).setCell ⟨HK, 0, none⟩ (.bool Hs)).setCell ⟨HK, 1, none⟩ (.slice oH (Dg.dg 65536 Hn).length cpH)).setCell ⟨HK, 2, none⟩ (.int .i64 He)) = W5 at s1 s2 s4 s5 s6 s7 u3 u4 ⊢
      obtain ⟨-, ⟨p0, p1, p2⟩, -⟩ := id s1
      go_wp2_with fail
      refine (HB.out _ s7).mono ?_
      rintro z w8 ⟨rfl, b8⟩
      have b08 := below_trans s7 b8
      obtain ⟨-, ⟨p0, p1, p2⟩, -⟩ := s1.later b8
      obtain ⟨-, ⟨p3, p4, p5⟩, -⟩ := s2.later b8
      obtain ⟨-, ⟨i0, i1, i2, i3, i4, i5⟩, -⟩ := s4.later b8
      go_wp2_with fail
      refine (HI.out _ _ _ _ w8 b08 (u3.later b8) (u4.later b8) (fun _ => ⟨⟨_, rfl, s5.later b8⟩, ⟨_, rfl, s6.later b8⟩⟩) (fun h => absurd rfl h)).mono ?_
      rintro z w9 ⟨rfl, b9⟩
      have b09 := below_trans b08 b9
      go_wp2
      go_ret
      exact ⟨rfl, b09⟩
  · clear HX HY H00 H01 H10 H11 HE
    go_enter Tryd.func9, Tryd.ntmps9
    go_wp2_with fail
    refine (HA.out _ b1).mono ?_
    rintro z w2 ⟨p, q, rfl, op, oq, b2⟩
    obtain ⟨po, pc, hp⟩ := op.rd.shape
    subst hp
    obtain ⟨qo, qc, hq⟩ := oq.rd.shape
    subst hq
    have rp := op.rd
    have rq := oq.rd
    simp only at rp rq ⊢
    have ba := below_alloc w2 (.cells #[.bool rs, .slice po (Dg.dg 4294967296 rn).length pc, .int .i64 re, .bool qs, .slice qo (Dg.dg 4294967296 qn).length qc, .int .i64 qe] 43)
    have n2 := loc6_new w2 (.bool rs) (.slice po (Dg.dg 4294967296 rn).length pc) (.int .i64 re) (.bool qs) (.slice qo (Dg.dg 4294967296 qn).length qc) (.int .i64 qe) 43
    have b02 := below_trans (below_trans b1 b2) ba
    have l2 := (l1.later b2).later ba
    have m2 := (m1.later b2).later ba
    have rp2 := rp.later ba
    have rq2 := rq.later ba
    clear op oq rp rq b1 b2 ba l1 m1 HA
    obtain ⟨-, ⟨c0, c1, c2, c3, c4, c5⟩, -⟩ := id l2
    obtain ⟨-, ⟨x0, x1, x2, x3, x4, x5⟩, -⟩ := id m2
    go_wp2_with fail
    refine (HW.out _ b02).mono ?_
    rintro z w3 ⟨rfl, b3⟩
    have a3 := below_alloc w3 (.cells #[.bool false, .slice none 0 0, .int .i64 0] 33)
    have a4 := below_alloc (w3.alloc (.cells #[.bool false, .slice none 0 0, .int .i64 0] 33)) (.cells #[.bool false, .slice none 0 0, .int .i64 0] 33)
    have lo4 := (loc_new w3 (.bool false) (.slice none 0 0) (.int .i64 0) 33).later a4
    have zl4 := (zb_new w3 33).later a4
    have hi4 := loc_new (w3.alloc (.cells #[.bool false, .slice none 0 0, .int .i64 0] 33)) (.bool false) (.slice none 0 0) (.int .i64 0) 33
    have zh4 := zb_new (w3.alloc (.cells #[.bool false, .slice none 0 0, .int .i64 0] 33)) 33
    have l4 := ((l2.later b3).later a3).later a4
    have m4 := ((m2.later b3).later a3).later a4
    have n4 := ((n2.later b3).later a3).later a4
    have rp4 := ((rp2.later b3).later a3).later a4
    have rq4 := ((rq2.later b3).later a3).later a4
    have b04 := below_trans (below_trans (below_trans b02 b3) a3) a4
    simp only [World.size_alloc] at hi4 zh4
    have nAB : w2.heap.size < w3.heap.size := (n2.later b3).1
    have hW3 : w.heap.size < w3.heap.size := (l2.later b3).1
    clear l2 m2 n2 rp2 rq2 b02 b3 a3 a4 HW c0 c1 c2 c3 c4 c5 x0 x1 x2 x3 x4 x5
    go_wp2_with fail
    refine (HB.out _ b04).mono ?_
    rintro z w8 ⟨rfl, b8⟩
    have b08 := below_trans b04 b8
    obtain ⟨-, ⟨p0, p1, p2⟩, -⟩ := lo4.later b8
    obtain ⟨-, ⟨p3, p4, p5⟩, -⟩ := hi4.later b8
    obtain ⟨-, ⟨i0, i1, i2, i3, i4, i5⟩, -⟩ := n4.later b8
    go_wp2_with fail
    refine (HI.out _ _ _ _ w8 b08 (rp4.later b8) (rq4.later b8) (fun h => absurd h hc) (fun _ => ⟨rfl, rfl⟩)).mono ?_
    rintro z w9 ⟨rfl, b9⟩
    have b09 := below_trans b08 b9
    go_wp2
    go_ret
    exact ⟨rfl, b09⟩
end Go.Proofs.YtfajoaopfedokaaDoor
