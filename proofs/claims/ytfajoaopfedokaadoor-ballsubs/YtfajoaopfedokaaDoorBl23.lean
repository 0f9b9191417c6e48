/-
  Balls: the law BallAdds, of whatever it is handed.
-/
import Derived.Test.YtfajoaopfedokaaDoorBl21
import Derived.Test.YtfajoaopfedokaaDoorBg
import Derived.Test.YtfajoaopfedokaaDoorBf
import Derived.Test.YtfajoaopfedokaaDoorDk3
namespace Go.Proofs.YtfajoaopfedokaaDoor
open Go.RowKit

theorem least_toT {x : Nat → Trip} {n : Int} {L H : Trip} (h1 : bare (loT x 3) = L) (h2 : bare (hiT x 3) = H) (hn : 1 ≤ n) : leastR x 4 n = ballR (toT (dcutT L n false)) (toT (dcutT H n true)) := by
  unfold leastR
  show ballR (shortT (cutT (loT x 3) n false)) (shortT (cutT (hiT x 3) n true)) = _
  rw [← toT_bare, ← toT_bare, cut_bare _ _ _ hn, cut_bare _ _ _ hn, h1, h2]

theorem ballR_err {r q : Trip × Int} {a b : Trip} {c : Int} (h : ballR r q = (a, b, c)) (hc : c ≠ 0) : a = ⟨false, 0, 0⟩ ∧ b = ⟨false, 0, 0⟩ := by
  unfold ballR at h
  by_cases h1 : r.2 = 0
  · rw [if_pos h1] at h
    by_cases h2 : q.2 = 0
    · rw [if_pos h2] at h
      simp only [Prod.mk.injEq] at h
      exact absurd h.2.2.symm hc
    · rw [if_neg h2] at h
      simp only [Prod.mk.injEq] at h
      exact ⟨h.1.symm, h.2.1.symm⟩
  · rw [if_neg h1] at h
    simp only [Prod.mk.injEq] at h
    exact ⟨h.1.symm, h.2.1.symm⟩

theorem V_of_cmp {K : Nat} {a b : Trip} (ha : -(K : Int) ≤ a.e) (hb : -(K : Int) ≤ b.e) (h : cmpT a b ≤ 0) : V K a ≤ V K b := by
  by_cases hx : V K b < V K a
  · have := (cmpT_gt ha hb).2 hx; omega
  · omega

theorem bareB_plus (a b : Trip) : bare (dplusT (bare a) (bare b)) = bare (plusT a b) := by
  have k0 : -((a.e.natAbs + b.e.natAbs : Nat) : Int) ≤ a.e := by omega
  have k1 : -((a.e.natAbs + b.e.natAbs : Nat) : Int) ≤ b.e := by omega
  refine bare_of_V (dplus_e (bare_e k0) (bare_e k1)) (plus_e k0 k1) ?_
  rw [V_dplus (bare_e k0) (bare_e k1), V_plus k0 k1, V_bare k0, V_bare k1]

theorem bareB_minus (a b : Trip) : bare (dplusT (bare a) (minusT (bare b))) = bare (plusT a (negT b)) := by
  have k0 : -((a.e.natAbs + b.e.natAbs : Nat) : Int) ≤ a.e := by omega
  have k1 : -((a.e.natAbs + b.e.natAbs : Nat) : Int) ≤ b.e := by omega
  have k2 : -((a.e.natAbs + b.e.natAbs : Nat) : Int) ≤ (minusT (bare b)).e := bare_e k1
  have k3 : -((a.e.natAbs + b.e.natAbs : Nat) : Int) ≤ (negT b).e := k1
  refine bare_of_V (dplus_e (bare_e k0) k2) (plus_e k0 k3) ?_
  rw [V_dplus (bare_e k0) k2, V_plus k0 k3, V_bare k0, V_minusT, V_bare k1, V_neg]

theorem adds_ends (A0 A1 B0 B1 : Trip) (hA : cmpT A0 A1 ≤ 0) (hB : cmpT B0 B1 ≤ 0) : bare (loT (four plusT A0 A1 B0 B1) 3) = bare (plusT A0 B0) ∧ bare (hiT (four plusT A0 A1 B0 B1) 3) = bare (plusT A1 B1) := by
  obtain ⟨K, hK⟩ : ∃ K, A0.e.natAbs + A1.e.natAbs + B0.e.natAbs + B1.e.natAbs = K := ⟨_, rfl⟩
  have a0 : -(K : Int) ≤ A0.e := by omega
  have a1 : -(K : Int) ≤ A1.e := by omega
  have b0 : -(K : Int) ≤ B0.e := by omega
  have b1 : -(K : Int) ≤ B1.e := by omega
  have vA := V_of_cmp a0 a1 hA
  have vB := V_of_cmp b0 b1 hB
  have he := four_all plusT A0 A1 B0 B1 (fun T => -(K : Int) ≤ T.e) (plus_e a0 b0) (plus_e a0 b1) (plus_e a1 b0) (plus_e a1 b1)
  have hlo := four_all plusT A0 A1 B0 B1 (fun T => V K (plusT A0 B0) ≤ V K T) (Int.le_refl _) (by rw [V_plus a0 b0, V_plus a0 b1]; omega) (by rw [V_plus a0 b0, V_plus a1 b0]; omega) (by rw [V_plus a0 b0, V_plus a1 b1]; omega)
  have hhi := four_all plusT A0 A1 B0 B1 (fun T => V K T ≤ V K (plusT A1 B1)) (by rw [V_plus a0 b0, V_plus a1 b1]; omega) (by rw [V_plus a0 b1, V_plus a1 b1]; omega) (by rw [V_plus a1 b0, V_plus a1 b1]; omega) (Int.le_refl _)
  exact ⟨loT_bare _ 3 _ (fun j _ => he j) (plus_e a0 b0) (fun j _ => hlo j) ⟨0, by omega, rfl⟩, hiT_bare _ 3 _ (fun j _ => he j) (plus_e a1 b1) (fun j _ => hhi j) ⟨3, by omega, rfl⟩⟩

theorem subs_ends (A0 A1 B0 B1 : Trip) (hA : cmpT A0 A1 ≤ 0) (hB : cmpT B0 B1 ≤ 0) : bare (loT (four (fun a b => plusT a (negT b)) A0 A1 B0 B1) 3) = bare (plusT A0 (negT B1)) ∧ bare (hiT (four (fun a b => plusT a (negT b)) A0 A1 B0 B1) 3) = bare (plusT A1 (negT B0)) := by
  obtain ⟨K, hK⟩ : ∃ K, A0.e.natAbs + A1.e.natAbs + B0.e.natAbs + B1.e.natAbs = K := ⟨_, rfl⟩
  have a0 : -(K : Int) ≤ A0.e := by omega
  have a1 : -(K : Int) ≤ A1.e := by omega
  have b0' : -(K : Int) ≤ B0.e := by omega
  have b1' : -(K : Int) ≤ B1.e := by omega
  have b0 : -(K : Int) ≤ (negT B0).e := b0'
  have b1 : -(K : Int) ≤ (negT B1).e := b1'
  have vA := V_of_cmp a0 a1 hA
  have vB := V_of_cmp b0' b1' hB
  have n0 := V_neg K B0
  have n1 := V_neg K B1
  have he := four_all (fun a b => plusT a (negT b)) A0 A1 B0 B1 (fun T => -(K : Int) ≤ T.e) (plus_e a0 b0) (plus_e a0 b1) (plus_e a1 b0) (plus_e a1 b1)
  have hlo := four_all (fun a b => plusT a (negT b)) A0 A1 B0 B1 (fun T => V K (plusT A0 (negT B1)) ≤ V K T) (by rw [V_plus a0 b1, V_plus a0 b0]; omega) (Int.le_refl _) (by rw [V_plus a0 b1, V_plus a1 b0]; omega) (by rw [V_plus a0 b1, V_plus a1 b1]; omega)
  have hhi := four_all (fun a b => plusT a (negT b)) A0 A1 B0 B1 (fun T => V K T ≤ V K (plusT A1 (negT B0))) (by rw [V_plus a0 b0, V_plus a1 b0]; omega) (by rw [V_plus a0 b1, V_plus a1 b0]; omega) (Int.le_refl _) (by rw [V_plus a1 b1, V_plus a1 b0]; omega)
  exact ⟨loT_bare _ 3 _ (fun j _ => he j) (plus_e a0 b1) (fun j _ => hlo j) ⟨1, by omega, rfl⟩, hiT_bare _ 3 _ (fun j _ => he j) (plus_e a1 b0) (fun j _ => hhi j) ⟨2, by omega, rfl⟩⟩

theorem len16_of {x L : Nat} (h : (Dg.dg 4294967296 x).length ≤ L) : (Dg.dg 65536 x).length ≤ 2 * L := by
  have h1 := len16 (Dg.small_dg 4294967296 x (by omega))
  rw [Dg.vl_dg _ _ (by omega)] at h1
  omega

theorem plus_fits2 {a b : Trip} (ha : bitLen a.n ≤ 38400) (hb : bitLen b.n ≤ 38400) (a1 : -20000 ≤ a.e) (a2 : a.e ≤ 20000) (b1 : -20000 ≤ b.e) (b2 : b.e ≤ 20000) :
    (Dg.dg 4294967296 (plusT a b).n).length ≤ 2451 ∧ -20000 ≤ (plusT a b).e ∧ (plusT a b).e ≤ 20000 := by
  have hm : (a.e - min a.e b.e).toNat ≤ 40000 ∧ (b.e - min a.e b.e).toNat ≤ 40000 := ⟨by omega, by omega⟩
  obtain ⟨h1, h2⟩ := hm
  obtain ⟨M, hM⟩ : ∃ M, M = 78400 := ⟨_, rfl⟩
  have hs : a.n * 2 ^ (a.e - min a.e b.e).toNat + b.n * 2 ^ (b.e - min a.e b.e).toNat < 2 ^ (M + 1) := sum_bits (bitLen_spec a.n).1 (bitLen_spec b.n).1 (by omega) (by omega)
  have he : (plusT a b).e = min a.e b.e := by
    unfold plusT
    simp only
    split
    · rfl
    · split <;> rfl
  have hn : (plusT a b).n ≤ a.n * 2 ^ (a.e - min a.e b.e).toNat + b.n * 2 ^ (b.e - min a.e b.e).toNat := by
    unfold plusT
    simp only
    split
    · exact Nat.le_refl _
    · split
      · exact Nat.le_trans (Nat.sub_le _ _) (Nat.le_add_left _ _)
      · exact Nat.le_trans (Nat.sub_le _ _) (Nat.le_add_right _ _)
  exact ⟨pow_len32 (Nat.lt_of_le_of_lt hn hs) (by omega), by rw [he]; omega, by rw [he]; omega⟩

/-- What a sum's bare form needs. -/
theorem sum_fits {a b : Trip} (ha : bitLen a.n ≤ 38400) (hb : bitLen b.n ≤ 38400) (a1 : -20000 ≤ a.e) (a2 : a.e ≤ 20000) (b1 : -20000 ≤ b.e) (b2 : b.e ≤ 20000) :
    (Dg.dg 65536 (bare (plusT a b)).n).length ≤ 30000 ∧ -200000 ≤ (bare (plusT a b)).e ∧ (bare (plusT a b)).e ≤ 200000 ∧ ∀ n up, 1 ≤ n → (Dg.dg 65536 (dcutT (bare (plusT a b)) n up).n).length ≤ 100000 := by
  obtain ⟨f1, _, _⟩ := plus_fits ha hb a1 a2 b1 b2
  obtain ⟨f4, f5, f6⟩ := plus_fits2 ha hb a1 a2 b1 b2
  have g1 := len16_of f1
  have ht := tz_fits _ 2451 f4
  refine ⟨Nat.le_trans (dg_len_mono 65536 _ _ (by omega) (bare_n_le3 _)) (by omega), ?_, ?_, fun n up hn => ?_⟩
  · unfold bare
    split
    · show -200000 ≤ (0 : Int); omega
    · show -200000 ≤ (plusT a b).e + (tz (plusT a b).n : Int); omega
  · unfold bare
    split
    · show (0 : Int) ≤ 200000; omega
    · show (plusT a b).e + (tz (plusT a b).n : Int) ≤ 200000; omega
  · rw [← cut_bare _ _ _ hn]
    have h1 := cutT_len (b := n) (up := up) f1 (by omega)
    have h2 := len16_of h1
    exact Nat.le_trans (dg_len_mono 65536 _ _ (by omega) (bare_n_le3 _)) (by omega)

set_option maxHeartbeats 800000 in
theorem bAdds_walk (s : Bool) (ao : Option Addr) (ca : Nat) (xs : List Nat) (e : Int) (t : Bool) (bo : Option Addr) (cb : Nat) (ys : List Nat) (f : Int) (r : Bool) (co : Option Addr) (cc : Nat) (zs : List Nat) (g : Int) (u : Bool) (d' : Option Addr) (cd : Nat) (us : List Nat) (k : Int) (n : Int) (w : World)
    (ha : Rd w .u32 (.slice ao xs.length ca) xs) (hb : Rd w .u32 (.slice bo ys.length cb) ys) (hc : Rd w .u32 (.slice co zs.length cc) zs) (hd : Rd w .u32 (.slice d' us.length cd) us) (sa : Dg.Small 4294967296 xs) (sb : Dg.Small 4294967296 ys) (sc : Dg.Small 4294967296 zs) (sd : Dg.Small 4294967296 us) (hT : Tab w) :
    Calls Tryd.prog 7 #[.agg #[.bool s, .slice ao xs.length ca, .int .i64 e, .bool t, .slice bo ys.length cb, .int .i64 f], .agg #[.bool r, .slice co zs.length cc, .int .i64 g, .bool u, .slice d' us.length cd, .int .i64 k], .int .i64 n] w fun z w' => z = .returned (.bool true) ∧ Below w.heap.size w w' := by
  have HA0 := fun w1 (b1 : Below w.heap.size w w1) => bAdd_ok s ao ca xs e t bo cb ys f r co cc zs g u d' cd us k n w1 (ha.later b1) (hb.later b1) (hc.later b1) (hd.later b1) sa sb sc sd (hT.later b1)
  have OK : wrong2 n (bchk s xs e t ys f) (bchk r zs g u us k) = 0 → ((dchk xs e = 0 ∧ dchk ys f = 0) ∧ (dchk zs g = 0 ∧ dchk us k = 0)) ∧ 1 ≤ n ∧ n ≤ 4096 ∧ leastR (four plusT ⟨s, Dg.vl 4294967296 xs, e⟩ ⟨t, Dg.vl 4294967296 ys, f⟩ ⟨r, Dg.vl 4294967296 zs, g⟩ ⟨u, Dg.vl 4294967296 us, k⟩) 4 n = ballR (toT (dcutT (bare (dplusT (bare ⟨s, Dg.vl 4294967296 xs, e⟩) (bare ⟨r, Dg.vl 4294967296 zs, g⟩))) n false)) (toT (dcutT (bare (dplusT (bare ⟨t, Dg.vl 4294967296 ys, f⟩) (bare ⟨u, Dg.vl 4294967296 us, k⟩))) n true)) := fun h0 => by
    obtain ⟨q1, q2, n1, n2⟩ := wrong2_zero h0
    obtain ⟨i1, i2, iA⟩ := bchk_zero q1
    obtain ⟨d1, d2, iB⟩ := bchk_zero q2
    obtain ⟨e1, e2⟩ := adds_ends ⟨s, Dg.vl 4294967296 xs, e⟩ ⟨t, Dg.vl 4294967296 ys, f⟩ ⟨r, Dg.vl 4294967296 zs, g⟩ ⟨u, Dg.vl 4294967296 us, k⟩ iA iB
    exact ⟨⟨⟨i1, i2⟩, ⟨d1, d2⟩⟩, n1, n2, least_toT (e1.trans (bareB_plus _ _).symm) (e2.trans (bareB_plus _ _).symm) n1⟩
  obtain ⟨c, hcE⟩ : ∃ c, wrong2 n (bchk s xs e t ys f) (bchk r zs g u us k) = c := ⟨_, rfl⟩
  have HW0 := fun w1 (b1 : Below w.heap.size w w1) => twoBalls_ok n s ao ca xs e t bo cb ys f r co cc zs g u d' cd us k w1 (ha.later b1) (hb.later b1) (hc.later b1) (hd.later b1) sa sb sc sd
  rw [hcE] at OK
  simp only [hcE] at HA0 HW0
  obtain ⟨⟨⟨rs, rn, re⟩, ⟨qs, qn, qe⟩, rc⟩, hR⟩ : ∃ R, (if c = 0 then leastR (four plusT ⟨s, Dg.vl 4294967296 xs, e⟩ ⟨t, Dg.vl 4294967296 ys, f⟩ ⟨r, Dg.vl 4294967296 zs, g⟩ ⟨u, Dg.vl 4294967296 us, k⟩) 4 n else (⟨false, 0, 0⟩, ⟨false, 0, 0⟩, c)) = R := ⟨_, rfl⟩
  simp only [hR] at HA0
  have hzero : rc ≠ 0 → rs = false ∧ rn = 0 ∧ re = 0 ∧ qs = false ∧ qn = 0 ∧ qe = 0 := fun hrc => by
    by_cases h : c = 0
    · rw [if_pos h] at hR
      obtain ⟨h1, h2⟩ := ballR_err hR hrc
      injection h1 with x1 x2 x3
      injection h2 with y1 y2 y3
      exact ⟨x1, x2, x3, y1, y2, y3⟩
    · rw [if_neg h] at hR
      simp only [Prod.mk.injEq, Trip.mk.injEq] at hR
      obtain ⟨⟨x1, x2, x3⟩, ⟨y1, y2, y3⟩, _⟩ := hR
      exact ⟨x1.symm, x2.symm, x3.symm, y1.symm, y2.symm, y3.symm⟩
  have hcc : c ≠ 0 → rc = c := fun h => by
    rw [if_neg h] at hR
    simp only [Prod.mk.injEq] at hR
    exact hR.2.2.symm
  have FI : c = 0 → ((Dg.dg 65536 (bare (dplusT (bare ⟨s, Dg.vl 4294967296 xs, e⟩) (bare ⟨r, Dg.vl 4294967296 zs, g⟩))).n).length ≤ 30000 ∧ -200000 ≤ (bare (dplusT (bare ⟨s, Dg.vl 4294967296 xs, e⟩) (bare ⟨r, Dg.vl 4294967296 zs, g⟩))).e ∧ (bare (dplusT (bare ⟨s, Dg.vl 4294967296 xs, e⟩) (bare ⟨r, Dg.vl 4294967296 zs, g⟩))).e ≤ 200000 ∧ ∀ n up, 1 ≤ n → (Dg.dg 65536 (dcutT (bare (dplusT (bare ⟨s, Dg.vl 4294967296 xs, e⟩) (bare ⟨r, Dg.vl 4294967296 zs, g⟩))) n up).n).length ≤ 100000) ∧ ((Dg.dg 65536 (bare (dplusT (bare ⟨t, Dg.vl 4294967296 ys, f⟩) (bare ⟨u, Dg.vl 4294967296 us, k⟩))).n).length ≤ 30000 ∧ -200000 ≤ (bare (dplusT (bare ⟨t, Dg.vl 4294967296 ys, f⟩) (bare ⟨u, Dg.vl 4294967296 us, k⟩))).e ∧ (bare (dplusT (bare ⟨t, Dg.vl 4294967296 ys, f⟩) (bare ⟨u, Dg.vl 4294967296 us, k⟩))).e ≤ 200000 ∧ ∀ n up, 1 ≤ n → (Dg.dg 65536 (dcutT (bare (dplusT (bare ⟨t, Dg.vl 4294967296 ys, f⟩) (bare ⟨u, Dg.vl 4294967296 us, k⟩))) n up).n).length ≤ 100000) := fun h0 => by
    obtain ⟨⟨⟨i1, i2⟩, ⟨d1, d2⟩⟩, n1, n2, _⟩ := OK h0
    obtain ⟨v1, v2, v3, v4, v5⟩ := num_ok i1 sa
    obtain ⟨u1, u2, u3, u4, u5⟩ := num_ok i2 sb
    obtain ⟨z1, z2, z3, z4, z5⟩ := num_ok d1 sc
    obtain ⟨y1, y2, y3, y4, y5⟩ := num_ok d2 sd
    rw [bareB_plus, bareB_plus]
    exact ⟨sum_fits (bits_of v2 v3) (bits_of z2 z3) v4 v5 z4 z5, sum_fits (bits_of u2 u3) (bits_of y2 y3) u4 u5 y4 y5⟩
  refine bAddsW_any s ao ca xs.length e t bo cb ys.length f r co cc zs.length g u d' cd us.length k n c rs rn re qs qn qe rc (bare ⟨s, Dg.vl 4294967296 xs, e⟩) (bare ⟨t, Dg.vl 4294967296 ys, f⟩) (bare ⟨r, Dg.vl 4294967296 zs, g⟩) (bare ⟨u, Dg.vl 4294967296 us, k⟩) (bare (dplusT (bare ⟨s, Dg.vl 4294967296 xs, e⟩) (bare ⟨r, Dg.vl 4294967296 zs, g⟩))) (bare (dplusT (bare ⟨t, Dg.vl 4294967296 ys, f⟩) (bare ⟨u, Dg.vl 4294967296 us, k⟩))) w HA0 HW0 (fun h0 w1 b1 => ?_) (fun h0 w1 b1 => ?_) (fun h0 v x w1 hv hx => ?_) (fun h0 v x w1 hv hx => ?_) (fun p q lo hi w1 b1 rp rq h1 h2 => ?_) (fun w1 b1 => bbegun_any w1 (hT.later b1))
  · obtain ⟨⟨⟨i1, i2⟩, _⟩, _⟩ := OK h0
    obtain ⟨v1, v2, v3, v4, v5⟩ := num_ok i1 sa
    obtain ⟨u1, u2, u3, u4, u5⟩ := num_ok i2 sb
    exact ofBall_any s ao ca xs.length e t bo cb ys.length f _ _ w1 (fun w2 b2 => ofDyad_any s ao ca xs e w2 (ha.later (below_trans b1 b2)) sa (by omega) (by omega) (by omega)) (fun w2 b2 => ofDyad_any t bo cb ys f w2 (hb.later (below_trans b1 b2)) sb (by omega) (by omega) (by omega))
  · obtain ⟨⟨_, ⟨d1, d2⟩⟩, _⟩ := OK h0
    obtain ⟨z1, z2, z3, z4, z5⟩ := num_ok d1 sc
    obtain ⟨y1, y2, y3, y4, y5⟩ := num_ok d2 sd
    exact ofBall_any r co cc zs.length g u d' cd us.length k _ _ w1 (fun w2 b2 => ofDyad_any r co cc zs g w2 (hc.later (below_trans b1 b2)) sc (by omega) (by omega) (by omega)) (fun w2 b2 => ofDyad_any u d' cd us k w2 (hd.later (below_trans b1 b2)) sd (by omega) (by omega) (by omega))
  · obtain ⟨⟨⟨i1, i2⟩, ⟨d1, d2⟩⟩, _⟩ := OK h0
    obtain ⟨v1, v2, v3, v4, v5⟩ := num_ok i1 sa
    obtain ⟨z1, z2, z3, z4, z5⟩ := num_ok d1 sc
    have e1 := bare_e_in (s := s) v2 v3 v4 v5
    have e2 := bare_e_in (s := r) z2 z3 z4 z5
    exact refdplus_any v x _ _ w1 hv hx (len16_bare sa v3) (len16_bare sc z3) e1.1 e1.2 e2.1 e2.2
  · obtain ⟨⟨⟨i1, i2⟩, ⟨d1, d2⟩⟩, _⟩ := OK h0
    obtain ⟨v1, v2, v3, v4, v5⟩ := num_ok i2 sb
    obtain ⟨z1, z2, z3, z4, z5⟩ := num_ok d2 sd
    have e1 := bare_e_in (s := t) v2 v3 v4 v5
    have e2 := bare_e_in (s := u) z2 z3 z4 z5
    exact refdplus_any v x _ _ w1 hv hx (len16_bare sb v3) (len16_bare sd z3) e1.1 e1.2 e2.1 e2.2
  · obtain ⟨po, pc, hp⟩ := rp.shape
    subst hp
    obtain ⟨qo, qc, hq⟩ := rq.shape
    subst hq
    by_cases h0 : c = 0
    · obtain ⟨_, n1, n2, hE⟩ := OK h0
      obtain ⟨⟨F1, F2, F3, F4⟩, ⟨G1, G2, G3, G4⟩⟩ := FI h0
      rw [if_pos h0, hE] at hR
      obtain ⟨rlo, rhi⟩ := h1 h0
      obtain ⟨L, hL⟩ : ∃ L, (bare (dplusT (bare ⟨s, Dg.vl 4294967296 xs, e⟩) (bare ⟨r, Dg.vl 4294967296 zs, g⟩))) = L := ⟨_, rfl⟩
      obtain ⟨H, hH⟩ : ∃ H, (bare (dplusT (bare ⟨t, Dg.vl 4294967296 ys, f⟩) (bare ⟨u, Dg.vl 4294967296 us, k⟩))) = H := ⟨_, rfl⟩
      rw [hL] at rlo F1 F2 F3 F4 hR
      rw [hH] at rhi G1 G2 G3 G4 hR
      obtain ⟨sl, rfl, rl⟩ := rlo
      obtain ⟨lo, lp, hl⟩ := rl.shape
      subst hl
      obtain ⟨sh, rfl, rh⟩ := rhi
      obtain ⟨ho, hp, hh⟩ := rh.shape
      subst hh
      refine ballIsW_any rs rn re qs qn qe rc po pc qo qc c n L.s lo _ lp L.e H.s ho _ hp H.e w1 rp rq (fun _ w2 b2 => ?_) hzero hcc
      rw [← hR]
      exact toBall_any L.s lo lp _ L.e H.s ho hp _ H.e n (dcutT L n false) (dcutT H n true) _ _ w2 (fun w3 b3 => refdcut_any _ L n false w3 ⟨_, rfl, rl.later (below_trans b2 b3)⟩ F1 F2 F3 n1 n2) (fun w3 b3 => refdcut_any _ H n true w3 ⟨_, rfl, rh.later (below_trans b2 b3)⟩ G1 G2 G3 n1 n2) (fun v w3 hv => toDyad_any v _ w3 hv (F4 n false n1)) (fun v w3 hv => toDyad_any v _ w3 hv (G4 n true n1))
    · obtain ⟨rfl, rfl⟩ := h2 h0
      exact ballIsW_any rs rn re qs qn qe rc po pc qo qc c n false none 0 0 0 false none 0 0 0 w1 rp rq (fun h => absurd h h0) hzero hcc
end Go.Proofs.YtfajoaopfedokaaDoor
