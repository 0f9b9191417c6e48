/-
  Balls: the law BallHolds, of whatever it is handed.
-/
import Derived.Test.YtfajoaopfedokaaDoorBl33
import Derived.Test.YtfajoaopfedokaaDoorBg
namespace Go.Proofs.YtfajoaopfedokaaDoor
open Go.RowKit

set_option maxHeartbeats 1600000 in
theorem bHolds_walk (s : Bool) (ao : Option Addr) (ca : Nat) (xs : List Nat) (e : Int) (t : Bool) (bo : Option Addr) (cb : Nat) (ys : List Nat) (f : Int) (r : Bool) (co : Option Addr) (cc : Nat) (zs : List Nat) (g : Int) (u : Bool) (d' : Option Addr) (cd : Nat) (us : List Nat) (k : Int) (xb : Bool) (xo : Option Addr) (xc : Nat) (hs : List Nat) (xe : Int) (yb : Bool) (yo : Option Addr) (yc : Nat) (js : List Nat) (ye : Int) (n : Int) (w : World)
    (ha : Rd w .u32 (.slice ao xs.length ca) xs) (hb : Rd w .u32 (.slice bo ys.length cb) ys) (hc : Rd w .u32 (.slice co zs.length cc) zs) (hd : Rd w .u32 (.slice d' us.length cd) us) (hx : Rd w .u32 (.slice xo hs.length xc) hs) (hy : Rd w .u32 (.slice yo js.length yc) js) (sa : Dg.Small 4294967296 xs) (sb : Dg.Small 4294967296 ys) (sc : Dg.Small 4294967296 zs) (sd : Dg.Small 4294967296 us) (sx : Dg.Small 4294967296 hs) (sy : Dg.Small 4294967296 js) (hT : Tab w) :
    Calls Tryd.prog 12 #[.agg #[.bool s, .slice ao xs.length ca, .int .i64 e, .bool t, .slice bo ys.length cb, .int .i64 f], .agg #[.bool r, .slice co zs.length cc, .int .i64 g, .bool u, .slice d' us.length cd, .int .i64 k], .agg #[.bool xb, .slice xo hs.length xc, .int .i64 xe], .agg #[.bool yb, .slice yo js.length yc, .int .i64 ye], .int .i64 n] w fun z w' => z = .returned (.bool true) ∧ Below w.heap.size w w' := by
  obtain ⟨ca', hcA⟩ : ∃ c, bchk s xs e t ys f = c := ⟨_, rfl⟩
  obtain ⟨cb', hcB⟩ : ∃ c, bchk r zs g u us k = c := ⟨_, rfl⟩
  have HP0 := fun w1 (b1 : Below w.heap.size w w1) => bHas_any s ao ca xs e t bo cb ys f xb xo xc hs xe w1 (ha.later b1) (hb.later b1) (hx.later b1) sa sb sx
  have HQ0 := fun w1 (b1 : Below w.heap.size w w1) => bHas_any r co cc zs g u d' cd us k yb yo yc js ye w1 (hc.later b1) (hd.later b1) (hy.later b1) sc sd sy
  have HS1 := fun w1 (b1 : Below w.heap.size w w1) => dadd_any xb xo xc hs xe yb yo yc js ye w1 (hx.later b1) (hy.later b1) sx sy (hT.later b1)
  have HC1 := fun w1 (b1 : Below w.heap.size w w1) => bAdd_ok s ao ca xs e t bo cb ys f r co cc zs g u d' cd us k n w1 (ha.later b1) (hb.later b1) (hc.later b1) (hd.later b1) sa sb sc sd (hT.later b1)
  have HS2 := fun w1 (b1 : Below w.heap.size w w1) => dadd_any xb xo xc hs xe (!yb) yo yc js ye w1 (hx.later b1) (hy.later b1) sx sy (hT.later b1)
  have HC2 := fun w1 (b1 : Below w.heap.size w w1) => bSub_ok s ao ca xs e t bo cb ys f r co cc zs g u d' cd us k n w1 (ha.later b1) (hb.later b1) (hc.later b1) (hd.later b1) sa sb sc sd (hT.later b1)
  have HS3 := fun w1 (b1 : Below w.heap.size w w1) => dmul_any xb xo xc hs xe yb yo yc js ye w1 (hx.later b1) (hy.later b1) sx sy (hT.later b1)
  have HC3 := fun w1 (b1 : Below w.heap.size w w1) => bMul_ok s ao ca xs e t bo cb ys f r co cc zs g u d' cd us k n w1 (ha.later b1) (hb.later b1) (hc.later b1) (hd.later b1) sa sb sc sd (hT.later b1)
  obtain ⟨pv, hpv⟩ : ∃ v, hasV (bchk s xs e t ys f) (dchk hs xe) (cmpT ⟨s, Dg.vl 4294967296 xs, e⟩ ⟨xb, Dg.vl 4294967296 hs, xe⟩) (cmpT ⟨t, Dg.vl 4294967296 ys, f⟩ ⟨xb, Dg.vl 4294967296 hs, xe⟩) = v := ⟨_, rfl⟩
  obtain ⟨qv, hqv⟩ : ∃ v, hasV (bchk r zs g u us k) (dchk js ye) (cmpT ⟨r, Dg.vl 4294967296 zs, g⟩ ⟨yb, Dg.vl 4294967296 js, ye⟩) (cmpT ⟨u, Dg.vl 4294967296 us, k⟩ ⟨yb, Dg.vl 4294967296 js, ye⟩) = v := ⟨_, rfl⟩
  have hasT : ∀ {c d g1 g2 : Int}, hasV c d g1 g2 = true → c = 0 ∧ d = 0 ∧ hasB g1 g2 = true := fun {c d g1 g2} h => by
    unfold hasV at h
    by_cases h1 : c = 0
    · rw [if_pos h1] at h
      by_cases h2 : d = 0
      · rw [if_pos h2] at h
        exact ⟨h1, h2, h⟩
      · rw [if_neg h2] at h
        cases h
    · rw [if_neg h1] at h
      cases h
  have GO : pv = true → qv = true → (bchk s xs e t ys f = 0 ∧ dchk hs xe = 0 ∧ hasB (cmpT ⟨s, Dg.vl 4294967296 xs, e⟩ ⟨xb, Dg.vl 4294967296 hs, xe⟩) (cmpT ⟨t, Dg.vl 4294967296 ys, f⟩ ⟨xb, Dg.vl 4294967296 hs, xe⟩) = true) ∧ (bchk r zs g u us k = 0 ∧ dchk js ye = 0 ∧ hasB (cmpT ⟨r, Dg.vl 4294967296 zs, g⟩ ⟨yb, Dg.vl 4294967296 js, ye⟩) (cmpT ⟨u, Dg.vl 4294967296 us, k⟩ ⟨yb, Dg.vl 4294967296 js, ye⟩) = true) := fun h1 h2 => ⟨hasT (hpv.trans h1), hasT (hqv.trans h2)⟩
  have IN : ∀ {p q r' : Trip} (po : Option Addr) (pc : Nat) (qo : Option Addr) (qc : Nat) (so : Option Addr) (sc' : Nat) (w1 : World), bchk p.s (Dg.dg 4294967296 p.n) p.e q.s (Dg.dg 4294967296 q.n) q.e = 0 ∧ dchk (Dg.dg 4294967296 r'.n) r'.e = 0 ∧ hasB (cmpT p r') (cmpT q r') = true → Rd w1 .u32 (.slice po (Dg.dg 4294967296 p.n).length pc) (Dg.dg 4294967296 p.n) → Rd w1 .u32 (.slice qo (Dg.dg 4294967296 q.n).length qc) (Dg.dg 4294967296 q.n) → Rd w1 .u32 (.slice so (Dg.dg 4294967296 r'.n).length sc') (Dg.dg 4294967296 r'.n) →
      Calls Tryd.prog 32 #[.agg #[.bool p.s, .slice po (Dg.dg 4294967296 p.n).length pc, .int .i64 p.e, .bool q.s, .slice qo (Dg.dg 4294967296 q.n).length qc, .int .i64 q.e], .agg #[.bool r'.s, .slice so (Dg.dg 4294967296 r'.n).length sc', .int .i64 r'.e]] w1 fun z w' => z = .returned (.tuple #[.bool true, .int .i64 0]) ∧ Below w1.heap.size w1 w' := fun {p q r'} po pc qo qc so sc' w1 h rp rq rr => by
    have h1 := bHas_any p.s po pc _ p.e q.s qo qc _ q.e r'.s so sc' _ r'.e w1 rp rq rr (Dg.small_dg _ _ (by omega)) (Dg.small_dg _ _ (by omega)) (Dg.small_dg _ _ (by omega))
    rw [Dg.vl_dg _ _ (by omega), Dg.vl_dg _ _ (by omega), Dg.vl_dg _ _ (by omega), h.1, h.2.1] at h1
    have h2 : hasV 0 0 (cmpT p r') (cmpT q r') = true := by unfold hasV; rw [if_pos rfl, if_pos rfl]; exact h.2.2
    have h3 : hasC 0 0 = 0 := rfl
    rw [h3] at h1
    have h4 : hasV 0 0 (cmpT ⟨p.s, p.n, p.e⟩ ⟨r'.s, r'.n, r'.e⟩) (cmpT ⟨q.s, q.n, q.e⟩ ⟨r'.s, r'.n, r'.e⟩) = true := h2
    rw [h4] at h1
    exact h1
  obtain ⟨⟨⟨s1s, s1n, s1e⟩, c1⟩, hS1⟩ : ∃ R, dbothR (dchk2 hs xe js ye) (plusT ⟨xb, Dg.vl 4294967296 hs, xe⟩ ⟨yb, Dg.vl 4294967296 js, ye⟩) = R := ⟨_, rfl⟩
  obtain ⟨⟨⟨p1s, p1n, p1e⟩, ⟨q1s, q1n, q1e⟩, d1⟩, hC1⟩ : ∃ R, (if wrong2 n (bchk s xs e t ys f) (bchk r zs g u us k) = 0 then leastR (four plusT ⟨s, Dg.vl 4294967296 xs, e⟩ ⟨t, Dg.vl 4294967296 ys, f⟩ ⟨r, Dg.vl 4294967296 zs, g⟩ ⟨u, Dg.vl 4294967296 us, k⟩) 4 n else (⟨false, 0, 0⟩, ⟨false, 0, 0⟩, wrong2 n (bchk s xs e t ys f) (bchk r zs g u us k))) = R := ⟨_, rfl⟩
  simp only [hS1] at HS1
  simp only [hC1] at HC1
  obtain ⟨⟨⟨s2s, s2n, s2e⟩, c2⟩, hS2⟩ : ∃ R, dbothR (dchk2 hs xe js ye) (plusT ⟨xb, Dg.vl 4294967296 hs, xe⟩ (negT ⟨yb, Dg.vl 4294967296 js, ye⟩)) = R := ⟨_, rfl⟩
  obtain ⟨⟨⟨p2s, p2n, p2e⟩, ⟨q2s, q2n, q2e⟩, d2⟩, hC2⟩ : ∃ R, (if wrong2 n (bchk s xs e t ys f) (bchk r zs g u us k) = 0 then leastR (four (fun a b => plusT a (negT b)) ⟨s, Dg.vl 4294967296 xs, e⟩ ⟨t, Dg.vl 4294967296 ys, f⟩ ⟨r, Dg.vl 4294967296 zs, g⟩ ⟨u, Dg.vl 4294967296 us, k⟩) 4 n else (⟨false, 0, 0⟩, ⟨false, 0, 0⟩, wrong2 n (bchk s xs e t ys f) (bchk r zs g u us k))) = R := ⟨_, rfl⟩
  have hS2' : dbothR (dchk2 hs xe js ye) (plusT ⟨xb, Dg.vl 4294967296 hs, xe⟩ ⟨!yb, Dg.vl 4294967296 js, ye⟩) = (⟨s2s, s2n, s2e⟩, c2) := hS2
  simp only [hS2'] at HS2
  simp only [hC2] at HC2
  obtain ⟨⟨⟨s3s, s3n, s3e⟩, c3⟩, hS3⟩ : ∃ R, dbothR (dchk2 hs xe js ye) (timesT ⟨xb, Dg.vl 4294967296 hs, xe⟩ ⟨yb, Dg.vl 4294967296 js, ye⟩) = R := ⟨_, rfl⟩
  obtain ⟨⟨⟨p3s, p3n, p3e⟩, ⟨q3s, q3n, q3e⟩, d3⟩, hC3⟩ : ∃ R, (if wrong2 n (bchk s xs e t ys f) (bchk r zs g u us k) = 0 then leastR (four timesT ⟨s, Dg.vl 4294967296 xs, e⟩ ⟨t, Dg.vl 4294967296 ys, f⟩ ⟨r, Dg.vl 4294967296 zs, g⟩ ⟨u, Dg.vl 4294967296 us, k⟩) 4 n else (⟨false, 0, 0⟩, ⟨false, 0, 0⟩, wrong2 n (bchk s xs e t ys f) (bchk r zs g u us k))) = R := ⟨_, rfl⟩
  simp only [hS3] at HS3
  simp only [hC3] at HC3
  simp only [hpv] at HP0
  simp only [hqv] at HQ0
  refine bHoldsW_any s ao ca xs.length e t bo cb ys.length f r co cc zs.length g u d' cd us.length k xb xo xc hs.length xe yb yo yc js.length ye n pv qv (hasC (bchk s xs e t ys f) (dchk hs xe)) (hasC (bchk r zs g u us k) (dchk js ye)) s1s s1n s1e c1 p1s p1n p1e q1s q1n q1e d1 s2s s2n s2e c2 p2s p2n p2e q2s q2n q2e d2 s3s s3n s3e c3 p3s p3n p3e q3s q3n q3e d3 w (fun w1 b1 => bbegun_any w1 (hT.later b1)) HP0 HQ0 HS1 HC1 (fun h1 h2 h3 h4 po pc qo qc so sc' w1 rp rq rr => ?_) HS2 HC2 (fun h1 h2 h3 h4 po pc qo qc so sc' w1 rp rq rr => ?_) HS3 HC3 (fun h1 h2 h3 h4 po pc qo qc so sc' w1 rp rq rr => ?_)
  · obtain ⟨⟨g1, g2, g3⟩, ⟨k1, k2, k3⟩⟩ := GO h1 h2
    have hw : wrong2 n (bchk s xs e t ys f) (bchk r zs g u us k) = 0 := by
      by_cases h5 : wrong2 n (bchk s xs e t ys f) (bchk r zs g u us k) = 0
      · exact h5
      · rw [if_neg h5] at hC1
        simp only [Prod.mk.injEq] at hC1
        exact hC1.2.2.trans h4
    obtain ⟨_, _, n1, _⟩ := wrong2_zero hw
    rw [if_pos hw] at hC1
    subst h4
    unfold dbothR at hS1
    rw [if_pos (dchk2_of g2 k2)] at hS1
    subst h3
    exact IN (p := ⟨p1s, p1n, p1e⟩) (q := ⟨q1s, q1n, q1e⟩) (r' := ⟨s1s, s1n, s1e⟩) po pc qo qc so sc' w1 (adds_in n1 g3 k3 hC1 hS1) rp rq rr
  · obtain ⟨⟨g1, g2, g3⟩, ⟨k1, k2, k3⟩⟩ := GO h1 h2
    have hw : wrong2 n (bchk s xs e t ys f) (bchk r zs g u us k) = 0 := by
      by_cases h5 : wrong2 n (bchk s xs e t ys f) (bchk r zs g u us k) = 0
      · exact h5
      · rw [if_neg h5] at hC2
        simp only [Prod.mk.injEq] at hC2
        exact hC2.2.2.trans h4
    obtain ⟨_, _, n1, _⟩ := wrong2_zero hw
    rw [if_pos hw] at hC2
    subst h4
    unfold dbothR at hS2
    rw [if_pos (dchk2_of g2 k2)] at hS2
    subst h3
    exact IN (p := ⟨p2s, p2n, p2e⟩) (q := ⟨q2s, q2n, q2e⟩) (r' := ⟨s2s, s2n, s2e⟩) po pc qo qc so sc' w1 (subs_in n1 g3 k3 hC2 hS2) rp rq rr
  · obtain ⟨⟨g1, g2, g3⟩, ⟨k1, k2, k3⟩⟩ := GO h1 h2
    have hw : wrong2 n (bchk s xs e t ys f) (bchk r zs g u us k) = 0 := by
      by_cases h5 : wrong2 n (bchk s xs e t ys f) (bchk r zs g u us k) = 0
      · exact h5
      · rw [if_neg h5] at hC3
        simp only [Prod.mk.injEq] at hC3
        exact hC3.2.2.trans h4
    obtain ⟨_, _, n1, _⟩ := wrong2_zero hw
    rw [if_pos hw] at hC3
    subst h4
    unfold dbothR at hS3
    rw [if_pos (dchk2_of g2 k2)] at hS3
    subst h3
    exact IN (p := ⟨p3s, p3n, p3e⟩) (q := ⟨q3s, q3n, q3e⟩) (r' := ⟨s3s, s3n, s3e⟩) po pc qo qc so sc' w1 (muls_in n1 g3 k3 hC3 hS3) rp rq rr
end Go.Proofs.YtfajoaopfedokaaDoor
