/-
  Balls: the law BallSubs, of whatever it is handed.
-/
import Derived.Test.YtfajoaopfedokaaDoorBl22
import Derived.Test.YtfajoaopfedokaaDoorBg
import Derived.Test.YtfajoaopfedokaaDoorBf
import Derived.Test.YtfajoaopfedokaaDoorDk3
import Derived.Test.YtfajoaopfedokaaDoorBl23
namespace Go.Proofs.YtfajoaopfedokaaDoor
open Go.RowKit

set_option maxHeartbeats 800000 in
theorem bSubs_walk (s : Bool) (ao : Option Addr) (ca : Nat) (xs : List Nat) (e : Int) (t : Bool) (bo : Option Addr) (cb : Nat) (ys : List Nat) (f : Int) (r : Bool) (co : Option Addr) (cc : Nat) (zs : List Nat) (g : Int) (u : Bool) (d' : Option Addr) (cd : Nat) (us : List Nat) (k : Int) (n : Int) (w : World)
    (ha : Rd w .u32 (.slice ao xs.length ca) xs) (hb : Rd w .u32 (.slice bo ys.length cb) ys) (hc : Rd w .u32 (.slice co zs.length cc) zs) (hd : Rd w .u32 (.slice d' us.length cd) us) (sa : Dg.Small 4294967296 xs) (sb : Dg.Small 4294967296 ys) (sc : Dg.Small 4294967296 zs) (sd : Dg.Small 4294967296 us) (hT : Tab w) :
    Calls Tryd.prog 8 #[.agg #[.bool s, .slice ao xs.length ca, .int .i64 e, .bool t, .slice bo ys.length cb, .int .i64 f], .agg #[.bool r, .slice co zs.length cc, .int .i64 g, .bool u, .slice d' us.length cd, .int .i64 k], .int .i64 n] w fun z w' => z = .returned (.bool true) ∧ Below w.heap.size w w' := by
  have HA0 := fun w1 (b1 : Below w.heap.size w w1) => bSub_ok s ao ca xs e t bo cb ys f r co cc zs g u d' cd us k n w1 (ha.later b1) (hb.later b1) (hc.later b1) (hd.later b1) sa sb sc sd (hT.later b1)
  have OK : wrong2 n (bchk s xs e t ys f) (bchk r zs g u us k) = 0 → ((dchk xs e = 0 ∧ dchk ys f = 0) ∧ (dchk zs g = 0 ∧ dchk us k = 0)) ∧ 1 ≤ n ∧ n ≤ 4096 ∧ leastR (four (fun a b => plusT a (negT b)) ⟨s, Dg.vl 4294967296 xs, e⟩ ⟨t, Dg.vl 4294967296 ys, f⟩ ⟨r, Dg.vl 4294967296 zs, g⟩ ⟨u, Dg.vl 4294967296 us, k⟩) 4 n = ballR (toT (dcutT (bare (dplusT (bare ⟨s, Dg.vl 4294967296 xs, e⟩) (minusT (bare ⟨u, Dg.vl 4294967296 us, k⟩)))) n false)) (toT (dcutT (bare (dplusT (bare ⟨t, Dg.vl 4294967296 ys, f⟩) (minusT (bare ⟨r, Dg.vl 4294967296 zs, g⟩)))) n true)) := fun h0 => by
    obtain ⟨q1, q2, n1, n2⟩ := wrong2_zero h0
    obtain ⟨i1, i2, iA⟩ := bchk_zero q1
    obtain ⟨d1, d2, iB⟩ := bchk_zero q2
    obtain ⟨e1, e2⟩ := subs_ends ⟨s, Dg.vl 4294967296 xs, e⟩ ⟨t, Dg.vl 4294967296 ys, f⟩ ⟨r, Dg.vl 4294967296 zs, g⟩ ⟨u, Dg.vl 4294967296 us, k⟩ iA iB
    exact ⟨⟨⟨i1, i2⟩, ⟨d1, d2⟩⟩, n1, n2, least_toT (e1.trans (bareB_minus _ _).symm) (e2.trans (bareB_minus _ _).symm) n1⟩
  obtain ⟨c, hcE⟩ : ∃ c, wrong2 n (bchk s xs e t ys f) (bchk r zs g u us k) = c := ⟨_, rfl⟩
  have HW0 := fun w1 (b1 : Below w.heap.size w w1) => twoBalls_ok n s ao ca xs e t bo cb ys f r co cc zs g u d' cd us k w1 (ha.later b1) (hb.later b1) (hc.later b1) (hd.later b1) sa sb sc sd
  rw [hcE] at OK
  simp only [hcE] at HA0 HW0
  obtain ⟨⟨⟨rs, rn, re⟩, ⟨qs, qn, qe⟩, rc⟩, hR⟩ : ∃ R, (if c = 0 then leastR (four (fun a b => plusT a (negT b)) ⟨s, Dg.vl 4294967296 xs, e⟩ ⟨t, Dg.vl 4294967296 ys, f⟩ ⟨r, Dg.vl 4294967296 zs, g⟩ ⟨u, Dg.vl 4294967296 us, k⟩) 4 n else (⟨false, 0, 0⟩, ⟨false, 0, 0⟩, c)) = R := ⟨_, rfl⟩
  simp only [hR] at HA0
  have hzero : rc ≠ 0 → rs = false ∧ rn = 0 ∧ re = 0 ∧ qs = false ∧ qn = 0 ∧ qe = 0 := fun hrc => by
    by_cases h : c = 0
    · rw [if_pos h] at hR
      obtain ⟨h1, h2⟩ := ballR_err hR hrc
      injection h1 with x1 x2 x3
      injection h2 with y1 y2 y3
      exact ⟨x1, x2, x3, y1, y2, y3⟩
    · rw [if_neg h] at hR
      simp only [Prod.mk.injEq, Trip.mk.injEq] at hR
      obtain ⟨⟨x1, x2, x3⟩, ⟨y1, y2, y3⟩, _⟩ := hR
      exact ⟨x1.symm, x2.symm, x3.symm, y1.symm, y2.symm, y3.symm⟩
  have hcc : c ≠ 0 → rc = c := fun h => by
    rw [if_neg h] at hR
    simp only [Prod.mk.injEq] at hR
    exact hR.2.2.symm
  have FI : c = 0 → ((Dg.dg 65536 (bare (dplusT (bare ⟨s, Dg.vl 4294967296 xs, e⟩) (minusT (bare ⟨u, Dg.vl 4294967296 us, k⟩)))).n).length ≤ 30000 ∧ -200000 ≤ (bare (dplusT (bare ⟨s, Dg.vl 4294967296 xs, e⟩) (minusT (bare ⟨u, Dg.vl 4294967296 us, k⟩)))).e ∧ (bare (dplusT (bare ⟨s, Dg.vl 4294967296 xs, e⟩) (minusT (bare ⟨u, Dg.vl 4294967296 us, k⟩)))).e ≤ 200000 ∧ ∀ n up, 1 ≤ n → (Dg.dg 65536 (dcutT (bare (dplusT (bare ⟨s, Dg.vl 4294967296 xs, e⟩) (minusT (bare ⟨u, Dg.vl 4294967296 us, k⟩)))) n up).n).length ≤ 100000) ∧ ((Dg.dg 65536 (bare (dplusT (bare ⟨t, Dg.vl 4294967296 ys, f⟩) (minusT (bare ⟨r, Dg.vl 4294967296 zs, g⟩)))).n).length ≤ 30000 ∧ -200000 ≤ (bare (dplusT (bare ⟨t, Dg.vl 4294967296 ys, f⟩) (minusT (bare ⟨r, Dg.vl 4294967296 zs, g⟩)))).e ∧ (bare (dplusT (bare ⟨t, Dg.vl 4294967296 ys, f⟩) (minusT (bare ⟨r, Dg.vl 4294967296 zs, g⟩)))).e ≤ 200000 ∧ ∀ n up, 1 ≤ n → (Dg.dg 65536 (dcutT (bare (dplusT (bare ⟨t, Dg.vl 4294967296 ys, f⟩) (minusT (bare ⟨r, Dg.vl 4294967296 zs, g⟩)))) n up).n).length ≤ 100000) := fun h0 => by
    obtain ⟨⟨⟨i1, i2⟩, ⟨d1, d2⟩⟩, n1, n2, _⟩ := OK h0
    obtain ⟨v1, v2, v3, v4, v5⟩ := num_ok i1 sa
    obtain ⟨u1, u2, u3, u4, u5⟩ := num_ok i2 sb
    obtain ⟨z1, z2, z3, z4, z5⟩ := num_ok d1 sc
    obtain ⟨y1, y2, y3, y4, y5⟩ := num_ok d2 sd
    rw [bareB_minus, bareB_minus]
    exact ⟨sum_fits (b := negT ⟨u, Dg.vl 4294967296 us, k⟩) (bits_of v2 v3) (bits_of y2 y3) v4 v5 y4 y5, sum_fits (b := negT ⟨r, Dg.vl 4294967296 zs, g⟩) (bits_of u2 u3) (bits_of z2 z3) u4 u5 z4 z5⟩
  refine bSubsW_any s ao ca xs.length e t bo cb ys.length f r co cc zs.length g u d' cd us.length k n c rs rn re qs qn qe rc (bare ⟨s, Dg.vl 4294967296 xs, e⟩) (bare ⟨t, Dg.vl 4294967296 ys, f⟩) (bare ⟨r, Dg.vl 4294967296 zs, g⟩) (bare ⟨u, Dg.vl 4294967296 us, k⟩) (minusT (bare ⟨u, Dg.vl 4294967296 us, k⟩)) (minusT (bare ⟨r, Dg.vl 4294967296 zs, g⟩)) (bare (dplusT (bare ⟨s, Dg.vl 4294967296 xs, e⟩) (minusT (bare ⟨u, Dg.vl 4294967296 us, k⟩)))) (bare (dplusT (bare ⟨t, Dg.vl 4294967296 ys, f⟩) (minusT (bare ⟨r, Dg.vl 4294967296 zs, g⟩)))) w HA0 HW0 (fun h0 w1 b1 => ?_) (fun h0 w1 b1 => ?_) (fun v w1 hv => refminus_any v _ w1 hv) (fun v w1 hv => refminus_any v _ w1 hv) (fun h0 v x w1 hv hx => ?_) (fun h0 v x w1 hv hx => ?_) (fun p q lo hi w1 b1 rp rq h1 h2 => ?_) (fun w1 b1 => bbegun_any w1 (hT.later b1))
  · obtain ⟨⟨⟨i1, i2⟩, _⟩, _⟩ := OK h0
    obtain ⟨v1, v2, v3, v4, v5⟩ := num_ok i1 sa
    obtain ⟨u1, u2, u3, u4, u5⟩ := num_ok i2 sb
    exact ofBall_any s ao ca xs.length e t bo cb ys.length f _ _ w1 (fun w2 b2 => ofDyad_any s ao ca xs e w2 (ha.later (below_trans b1 b2)) sa (by omega) (by omega) (by omega)) (fun w2 b2 => ofDyad_any t bo cb ys f w2 (hb.later (below_trans b1 b2)) sb (by omega) (by omega) (by omega))
  · obtain ⟨⟨_, ⟨d1, d2⟩⟩, _⟩ := OK h0
    obtain ⟨z1, z2, z3, z4, z5⟩ := num_ok d1 sc
    obtain ⟨y1, y2, y3, y4, y5⟩ := num_ok d2 sd
    exact ofBall_any r co cc zs.length g u d' cd us.length k _ _ w1 (fun w2 b2 => ofDyad_any r co cc zs g w2 (hc.later (below_trans b1 b2)) sc (by omega) (by omega) (by omega)) (fun w2 b2 => ofDyad_any u d' cd us k w2 (hd.later (below_trans b1 b2)) sd (by omega) (by omega) (by omega))
  · obtain ⟨⟨⟨i1, i2⟩, ⟨d1, d2⟩⟩, _⟩ := OK h0
    obtain ⟨v1, v2, v3, v4, v5⟩ := num_ok i1 sa
    obtain ⟨z1, z2, z3, z4, z5⟩ := num_ok d2 sd
    have e1 := bare_e_in (s := s) v2 v3 v4 v5
    have e2 := bare_e_in (s := u) z2 z3 z4 z5
    exact refdplus_any v x _ _ w1 hv hx (len16_bare sa v3) (len16_bare sd z3) e1.1 e1.2 e2.1 e2.2
  · obtain ⟨⟨⟨i1, i2⟩, ⟨d1, d2⟩⟩, _⟩ := OK h0
    obtain ⟨v1, v2, v3, v4, v5⟩ := num_ok i2 sb
    obtain ⟨z1, z2, z3, z4, z5⟩ := num_ok d1 sc
    have e1 := bare_e_in (s := t) v2 v3 v4 v5
    have e2 := bare_e_in (s := r) z2 z3 z4 z5
    exact refdplus_any v x _ _ w1 hv hx (len16_bare sb v3) (len16_bare sc z3) e1.1 e1.2 e2.1 e2.2
  · obtain ⟨po, pc, hp⟩ := rp.shape
    subst hp
    obtain ⟨qo, qc, hq⟩ := rq.shape
    subst hq
    by_cases h0 : c = 0
    · obtain ⟨_, n1, n2, hE⟩ := OK h0
      obtain ⟨⟨F1, F2, F3, F4⟩, ⟨G1, G2, G3, G4⟩⟩ := FI h0
      rw [if_pos h0, hE] at hR
      obtain ⟨rlo, rhi⟩ := h1 h0
      obtain ⟨L, hL⟩ : ∃ L, (bare (dplusT (bare ⟨s, Dg.vl 4294967296 xs, e⟩) (minusT (bare ⟨u, Dg.vl 4294967296 us, k⟩)))) = L := ⟨_, rfl⟩
      obtain ⟨H, hH⟩ : ∃ H, (bare (dplusT (bare ⟨t, Dg.vl 4294967296 ys, f⟩) (minusT (bare ⟨r, Dg.vl 4294967296 zs, g⟩)))) = H := ⟨_, rfl⟩
      rw [hL] at rlo F1 F2 F3 F4 hR
      rw [hH] at rhi G1 G2 G3 G4 hR
      obtain ⟨sl, rfl, rl⟩ := rlo
      obtain ⟨lo, lp, hl⟩ := rl.shape
      subst hl
      obtain ⟨sh, rfl, rh⟩ := rhi
      obtain ⟨ho, hp, hh⟩ := rh.shape
      subst hh
      refine ballIsW_any rs rn re qs qn qe rc po pc qo qc c n L.s lo _ lp L.e H.s ho _ hp H.e w1 rp rq (fun _ w2 b2 => ?_) hzero hcc
      rw [← hR]
      exact toBall_any L.s lo lp _ L.e H.s ho hp _ H.e n (dcutT L n false) (dcutT H n true) _ _ w2 (fun w3 b3 => refdcut_any _ L n false w3 ⟨_, rfl, rl.later (below_trans b2 b3)⟩ F1 F2 F3 n1 n2) (fun w3 b3 => refdcut_any _ H n true w3 ⟨_, rfl, rh.later (below_trans b2 b3)⟩ G1 G2 G3 n1 n2) (fun v w3 hv => toDyad_any v _ w3 hv (F4 n false n1)) (fun v w3 hv => toDyad_any v _ w3 hv (G4 n true n1))
    · obtain ⟨rfl, rfl⟩ := h2 h0
      exact ballIsW_any rs rn re qs qn qe rc po pc qo qc c n false none 0 0 0 false none 0 0 0 w1 rp rq (fun h => absurd h h0) hzero hcc
end Go.Proofs.YtfajoaopfedokaaDoor
