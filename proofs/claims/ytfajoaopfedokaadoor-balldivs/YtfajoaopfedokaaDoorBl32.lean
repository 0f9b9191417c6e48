/-
  Balls: the law BallDivs, of whatever it is handed.
-/
import Derived.Test.YtfajoaopfedokaaDoorBl31
import Derived.Test.YtfajoaopfedokaaDoorBl26
import Derived.Test.YtfajoaopfedokaaDoorBv1
namespace Go.Proofs.YtfajoaopfedokaaDoor
open Go.RowKit

theorem pow_len16 {n k L : Nat} (h : n < 2 ^ k) (hk : k ≤ 16 * L) : (Dg.dg 65536 n).length ≤ L := by
  refine Dg.dg_len_le 65536 n L (by omega) (Nat.lt_of_lt_of_le h ?_)
  rw [show (65536 : Nat) = 2 ^ 16 from rfl, ← Nat.pow_mul]
  exact Nat.pow_le_pow_right (by omega) hk

theorem tz_le_of {n k : Nat} (h0 : n ≠ 0) (h : n ≤ 2 ^ k) : tz n ≤ k := by
  obtain ⟨m, hm⟩ := tz_spec h0
  have h2 : 2 ^ tz n * 1 ≤ 2 ^ tz n * (2 * m + 1) := Nat.mul_le_mul_left _ (by omega)
  have h3 : 2 ^ tz n ≤ 2 ^ k := by omega
  exact (Nat.pow_le_pow_iff_right (by omega)).1 h3

theorem cut_bare_e {A : Trip} {b : Int} {up : Bool} {lo hi : Int} (hb : 1 ≤ b) (h1 : lo ≤ A.e) (h2 : A.e + (bitLen A.n : Int) ≤ hi) (h3 : lo ≤ 0) (h4 : 0 ≤ hi) : lo ≤ (bare (cutT A b up)).e ∧ (bare (cutT A b up)).e ≤ hi := by
  by_cases hz : (cutT A b up).n = 0
  · unfold bare
    rw [if_pos hz]
    exact ⟨h3, h4⟩
  · rcases cut_ways A b up hb with ⟨_, h⟩ | ⟨j, q, _, h0, hj, _, _, _, hq, _, _, h⟩
    · rw [h] at hz ⊢
      have ht := tz_le_of hz (Nat.le_of_lt (bitLen_spec A.n).1)
      unfold bare
      rw [if_neg hz]
      show lo ≤ A.e + (tz A.n : Int) ∧ A.e + (tz A.n : Int) ≤ hi
      omega
    · rw [h] at hz ⊢
      have hx : q + (if (up != A.s) = true then 1 else 0) ≤ 2 ^ b.toNat := by split <;> omega
      have ht : tz (q + (if (up != A.s) = true then 1 else 0)) ≤ b.toNat := tz_le_of hz hx
      unfold bare
      rw [if_neg hz]
      show lo ≤ A.e + (j : Int) + (tz (q + (if (up != A.s) = true then 1 else 0)) : Int) ∧ A.e + (j : Int) + (tz (q + (if (up != A.s) = true then 1 else 0)) : Int) ≤ hi
      omega

/-- What a quotient's bare form needs. -/
theorem quot_fits {a b : Trip} {B : Nat} (up : Bool) (ha : bitLen a.n ≤ 38400) (hb : bitLen b.n ≤ 38400) (hB1 : 1 ≤ B) (hB2 : B ≤ 4096) (a1 : -20000 ≤ a.e) (a2 : a.e ≤ 20000) (b1 : -20000 ≤ b.e) (b2 : b.e ≤ 20000) :
    (Dg.dg 65536 (bare (cutT (overT a b B) B up)).n).length ≤ 30000 ∧ -200000 ≤ (bare (cutT (overT a b B) B up)).e ∧ (bare (cutT (overT a b B) B up)).e ≤ 200000 := by
  have hS : overS a b B ≤ 42496 := by unfold overS; omega
  have h2 := over_bits (bn := b.n) (x := if decide (0 < a.n * 2 ^ overS a b B % b.n) = true then 1 else 0) (bitLen_spec a.n).1 hS (by split <;> omega)
  have h3 : bitLen (overT a b B).n ≤ bitLen a.n + 42496 + 1 := bitLen_le_of _ _ h2
  have he : (overT a b B).e = a.e - b.e - (overS a b B : Int) - 1 := rfl
  have h4 := cut_lt (overT a b B) B up (by omega)
  have h5 := cut_bare_e (A := overT a b B) (b := B) (up := up) (lo := -200000) (hi := 200000) (by omega) (by omega) (by omega) (by omega) (by omega)
  exact ⟨Nat.le_trans (pow_len16 h4 (L := 256) (by omega)) (by omega), h5.1, h5.2⟩

theorem quots_fit (A0 A1 B0 B1 : Trip) {B : Nat} (up : Bool) (p0 : 0 < B0.n) (p1 : 0 < B1.n) (ha : bitLen A0.n ≤ 38400) (hb : bitLen A1.n ≤ 38400) (hc : bitLen B0.n ≤ 38400) (hd : bitLen B1.n ≤ 38400) (hB1 : 1 ≤ B) (hB2 : B ≤ 4096) (a1 : -20000 ≤ A0.e) (a2 : A0.e ≤ 20000) (b1 : -20000 ≤ A1.e) (b2 : A1.e ≤ 20000) (c1 : -20000 ≤ B0.e) (c2 : B0.e ≤ 20000) (d1 : -20000 ≤ B1.e) (d2 : B1.e ≤ 20000) (j : Nat) :
    ((∃ y, four (fun a b => dOverT a b B up) (bare A0) (bare A1) (bare B0) (bare B1) j = bare y) ∧ (Dg.dg 65536 (four (fun a b => dOverT a b B up) (bare A0) (bare A1) (bare B0) (bare B1) j).n).length ≤ 30000) ∧ -200000 ≤ (four (fun a b => dOverT a b B up) (bare A0) (bare A1) (bare B0) (bare B1) j).e ∧ (four (fun a b => dOverT a b B up) (bare A0) (bare A1) (bare B0) (bare B1) j).e ≤ 200000 := by
  rw [four_overs A0 A1 B0 B1 B up hB1 p0 p1]
  have h := four_all (fun a b => overT a b B) A0 A1 B0 B1 (fun T => (Dg.dg 65536 (bare (cutT T B up)).n).length ≤ 30000 ∧ -200000 ≤ (bare (cutT T B up)).e ∧ (bare (cutT T B up)).e ≤ 200000) (quot_fits up ha hc hB1 hB2 a1 a2 c1 c2) (quot_fits up ha hd hB1 hB2 a1 a2 d1 d2) (quot_fits up hb hc hB1 hB2 b1 b2 c1 c2) (quot_fits up hb hd hB1 hB2 b1 b2 d1 d2) j
  exact ⟨⟨⟨_, rfl⟩, h.1⟩, h.2.1, h.2.2⟩

theorem least_toT3 {x : Nat → Trip} {n : Int} {L H : Trip} (h1 : L = bare (cutT (loT x 3) n false)) (h2 : H = bare (cutT (hiT x 3) n true)) (hn : 1 ≤ n) : leastR x 4 n = ballR (toT (dcutT L n false)) (toT (dcutT H n true)) := least_toT2 (m := 4) h1 h2 hn

theorem hasB_iff (g1 g2 : Int) : hasB g1 g2 = true ↔ g1 ≤ 0 ∧ 0 ≤ g2 := by
  unfold hasB
  simp

set_option maxHeartbeats 800000 in
theorem bDivs_walk (s : Bool) (ao : Option Addr) (ca : Nat) (xs : List Nat) (e : Int) (t : Bool) (bo : Option Addr) (cb : Nat) (ys : List Nat) (f : Int) (r : Bool) (co : Option Addr) (cc : Nat) (zs : List Nat) (g : Int) (u : Bool) (d' : Option Addr) (cd : Nat) (us : List Nat) (k : Int) (n : Int) (w : World)
    (ha : Rd w .u32 (.slice ao xs.length ca) xs) (hb : Rd w .u32 (.slice bo ys.length cb) ys) (hc : Rd w .u32 (.slice co zs.length cc) zs) (hd : Rd w .u32 (.slice d' us.length cd) us) (sa : Dg.Small 4294967296 xs) (sb : Dg.Small 4294967296 ys) (sc : Dg.Small 4294967296 zs) (sd : Dg.Small 4294967296 us) (hT : Tab w) :
    Calls Tryd.prog 10 #[.agg #[.bool s, .slice ao xs.length ca, .int .i64 e, .bool t, .slice bo ys.length cb, .int .i64 f], .agg #[.bool r, .slice co zs.length cc, .int .i64 g, .bool u, .slice d' us.length cd, .int .i64 k], .int .i64 n] w fun z w' => z = .returned (.bool true) ∧ Below w.heap.size w w' := by
  have HA0 := fun w1 (b1 : Below w.heap.size w w1) => bdiv_ok s ao ca xs e t bo cb ys f r co cc zs g u d' cd us k n w1 (ha.later b1) (hb.later b1) (hc.later b1) (hd.later b1) sa sb sc sd (hT.later b1)
  have OK : wrong2 n (bchk s xs e t ys f) (bchk r zs g u us k) = 0 → ((dchk xs e = 0 ∧ dchk ys f = 0) ∧ (dchk zs g = 0 ∧ dchk us k = 0)) ∧ 1 ≤ n ∧ n ≤ 4096 ∧ cmpT ⟨r, Dg.vl 4294967296 zs, g⟩ ⟨u, Dg.vl 4294967296 us, k⟩ ≤ 0 := fun h0 => by
    obtain ⟨q1, q2, n1, n2⟩ := wrong2_zero h0
    obtain ⟨i1, i2, _⟩ := bchk_zero q1
    obtain ⟨d1, d2, iB⟩ := bchk_zero q2
    exact ⟨⟨⟨i1, i2⟩, ⟨d1, d2⟩⟩, n1, n2, iB⟩
  have HW0 := fun w1 (b1 : Below w.heap.size w w1) => twoBalls_ok n s ao ca xs e t bo cb ys f r co cc zs g u d' cd us k w1 (ha.later b1) (hb.later b1) (hc.later b1) (hd.later b1) sa sb sc sd
  obtain ⟨c, hcE⟩ : ∃ c, wrong2 n (bchk s xs e t ys f) (bchk r zs g u us k) = c := ⟨_, rfl⟩
  rw [hcE] at OK
  simp only [hcE] at HA0 HW0
  obtain ⟨g1, hg1⟩ : ∃ v, cmpT ⟨r, Dg.vl 4294967296 zs, g⟩ zeroT = v := ⟨_, rfl⟩
  obtain ⟨g2, hg2⟩ : ∃ v, cmpT ⟨u, Dg.vl 4294967296 us, k⟩ zeroT = v := ⟨_, rfl⟩
  obtain ⟨d, hdE⟩ : ∃ d, noneR c g1 g2 = d := ⟨_, rfl⟩
  have D0 : d = 0 → c = 0 ∧ hasB g1 g2 = false := fun h => by
    rw [← hdE] at h
    unfold noneR at h
    by_cases h1 : c = 0
    · rw [if_pos h1] at h
      refine ⟨h1, ?_⟩
      cases hh : hasB g1 g2
      · rfl
      · rw [if_pos ((hasB_iff g1 g2).1 hh)] at h
        omega
    · rw [if_neg h1] at h
      exact absurd h h1
  have ALL : d = 0 → (((dchk xs e = 0 ∧ dchk ys f = 0) ∧ (dchk zs g = 0 ∧ dchk us k = 0)) ∧ 1 ≤ n ∧ n ≤ 4096 ∧ ((n.toNat : Nat) : Int) = n) ∧ 0 < (⟨r, Dg.vl 4294967296 zs, g⟩ : Trip).n ∧ 0 < (⟨u, Dg.vl 4294967296 us, k⟩ : Trip).n := fun h => by
    obtain ⟨h1, h2⟩ := D0 h
    obtain ⟨h3, n1, n2, iB⟩ := OK h1
    rw [← hg1, ← hg2] at h2
    exact ⟨⟨h3, n1, n2, by omega⟩, has_false h2 iB⟩
  obtain ⟨⟨⟨rs, rn, re⟩, ⟨qs, qn, qe⟩, rc⟩, hR⟩ : ∃ R, (if d = 0 then leastR (four (fun a b => overT a b n.toNat) ⟨s, Dg.vl 4294967296 xs, e⟩ ⟨t, Dg.vl 4294967296 ys, f⟩ ⟨r, Dg.vl 4294967296 zs, g⟩ ⟨u, Dg.vl 4294967296 us, k⟩) 4 n else (⟨false, 0, 0⟩, ⟨false, 0, 0⟩, d)) = R := ⟨_, rfl⟩
  have hR2 : (if c = 0 then (if hasB (cmpT ⟨r, Dg.vl 4294967296 zs, g⟩ zeroT) (cmpT ⟨u, Dg.vl 4294967296 us, k⟩ zeroT) = true then (⟨false, 0, 0⟩, ⟨false, 0, 0⟩, 5) else leastR (four (fun a b => overT a b n.toNat) ⟨s, Dg.vl 4294967296 xs, e⟩ ⟨t, Dg.vl 4294967296 ys, f⟩ ⟨r, Dg.vl 4294967296 zs, g⟩ ⟨u, Dg.vl 4294967296 us, k⟩) 4 n) else (⟨false, 0, 0⟩, ⟨false, 0, 0⟩, c)) = ((⟨rs, rn, re⟩, ⟨qs, qn, qe⟩, rc) : Trip × Trip × Int) := by
    rw [← hR, hg1, hg2, ← hdE]
    unfold noneR
    by_cases h1 : c = 0
    · rw [if_pos h1, if_pos h1]
      by_cases h2 : hasB g1 g2 = true
      · rw [if_pos h2, if_pos ((hasB_iff g1 g2).1 h2), if_neg (by omega)]
      · rw [if_neg h2, if_neg (fun h => h2 ((hasB_iff g1 g2).2 h)), if_pos rfl]
    · rw [if_neg h1, if_neg h1, if_neg h1]
  simp only [hR2] at HA0
  have hzero : rc ≠ 0 → rs = false ∧ rn = 0 ∧ re = 0 ∧ qs = false ∧ qn = 0 ∧ qe = 0 := fun hrc => by
    by_cases h : d = 0
    · rw [if_pos h] at hR
      obtain ⟨h1, h2⟩ := ballR_err hR hrc
      injection h1 with x1 x2 x3
      injection h2 with y1 y2 y3
      exact ⟨x1, x2, x3, y1, y2, y3⟩
    · rw [if_neg h] at hR
      simp only [Prod.mk.injEq, Trip.mk.injEq] at hR
      obtain ⟨⟨x1, x2, x3⟩, ⟨y1, y2, y3⟩, _⟩ := hR
      exact ⟨x1.symm, x2.symm, x3.symm, y1.symm, y2.symm, y3.symm⟩
  have hcc : d ≠ 0 → rc = d := fun h => by
    rw [if_neg h] at hR
    simp only [Prod.mk.injEq] at hR
    exact hR.2.2.symm
  have FIT : d = 0 → ∀ up j, ((∃ y, four (fun a b => dOverT a b n.toNat up) (bare ⟨s, Dg.vl 4294967296 xs, e⟩) (bare ⟨t, Dg.vl 4294967296 ys, f⟩) (bare ⟨r, Dg.vl 4294967296 zs, g⟩) (bare ⟨u, Dg.vl 4294967296 us, k⟩) j = bare y) ∧ (Dg.dg 65536 (four (fun a b => dOverT a b n.toNat up) (bare ⟨s, Dg.vl 4294967296 xs, e⟩) (bare ⟨t, Dg.vl 4294967296 ys, f⟩) (bare ⟨r, Dg.vl 4294967296 zs, g⟩) (bare ⟨u, Dg.vl 4294967296 us, k⟩) j).n).length ≤ 30000) ∧ -200000 ≤ (four (fun a b => dOverT a b n.toNat up) (bare ⟨s, Dg.vl 4294967296 xs, e⟩) (bare ⟨t, Dg.vl 4294967296 ys, f⟩) (bare ⟨r, Dg.vl 4294967296 zs, g⟩) (bare ⟨u, Dg.vl 4294967296 us, k⟩) j).e ∧ (four (fun a b => dOverT a b n.toNat up) (bare ⟨s, Dg.vl 4294967296 xs, e⟩) (bare ⟨t, Dg.vl 4294967296 ys, f⟩) (bare ⟨r, Dg.vl 4294967296 zs, g⟩) (bare ⟨u, Dg.vl 4294967296 us, k⟩) j).e ≤ 200000 := fun h0 up j => by
    obtain ⟨⟨⟨⟨i1, i2⟩, ⟨d1, d2⟩⟩, n1, n2, hn⟩, p0, p1⟩ := ALL h0
    obtain ⟨v1, v2, v3, v4, v5⟩ := num_ok i1 sa
    obtain ⟨u1, u2, u3, u4, u5⟩ := num_ok i2 sb
    obtain ⟨z1, z2, z3, z4, z5⟩ := num_ok d1 sc
    obtain ⟨y1, y2, y3, y4, y5⟩ := num_ok d2 sd
    exact quots_fit ⟨s, Dg.vl 4294967296 xs, e⟩ ⟨t, Dg.vl 4294967296 ys, f⟩ ⟨r, Dg.vl 4294967296 zs, g⟩ ⟨u, Dg.vl 4294967296 us, k⟩ up p0 p1 (bits_of v2 v3) (bits_of u2 u3) (bits_of z2 z3) (bits_of y2 y3) (by omega) (by omega) v4 v5 u4 u5 z4 z5 y4 y5 j
  have ENDS : d = 0 → loT (four (fun a b => dOverT a b n.toNat false) (bare ⟨s, Dg.vl 4294967296 xs, e⟩) (bare ⟨t, Dg.vl 4294967296 ys, f⟩) (bare ⟨r, Dg.vl 4294967296 zs, g⟩) (bare ⟨u, Dg.vl 4294967296 us, k⟩)) 3 = bare (cutT (loT (four (fun a b => overT a b n.toNat) ⟨s, Dg.vl 4294967296 xs, e⟩ ⟨t, Dg.vl 4294967296 ys, f⟩ ⟨r, Dg.vl 4294967296 zs, g⟩ ⟨u, Dg.vl 4294967296 us, k⟩) 3) n false) ∧ hiT (four (fun a b => dOverT a b n.toNat true) (bare ⟨s, Dg.vl 4294967296 xs, e⟩) (bare ⟨t, Dg.vl 4294967296 ys, f⟩) (bare ⟨r, Dg.vl 4294967296 zs, g⟩) (bare ⟨u, Dg.vl 4294967296 us, k⟩)) 3 = bare (cutT (hiT (four (fun a b => overT a b n.toNat) ⟨s, Dg.vl 4294967296 xs, e⟩ ⟨t, Dg.vl 4294967296 ys, f⟩ ⟨r, Dg.vl 4294967296 zs, g⟩ ⟨u, Dg.vl 4294967296 us, k⟩) 3) n true) := fun h0 => by
    obtain ⟨⟨_, n1, n2, hn⟩, p0, p1⟩ := ALL h0
    have h := divs_ends ⟨s, Dg.vl 4294967296 xs, e⟩ ⟨t, Dg.vl 4294967296 ys, f⟩ ⟨r, Dg.vl 4294967296 zs, g⟩ ⟨u, Dg.vl 4294967296 us, k⟩ n.toNat (by omega) p0 p1
    rw [hn] at h
    exact h
  have DOV : d = 0 → ∀ {S1 : Bool} {L1 : List Nat} {G1 : Int} {S2 : Bool} {L2 : List Nat} {G2 : Int} (up : Bool) (v x : Value) (w1 : World), Dg.Small 4294967296 L1 → dchk L1 G1 = 0 → Dg.Small 4294967296 L2 → dchk L2 G2 = 0 → 0 < (⟨S2, Dg.vl 4294967296 L2, G2⟩ : Trip).n → Rv w1 v (bare ⟨S1, Dg.vl 4294967296 L1, G1⟩) → Rv w1 x (bare ⟨S2, Dg.vl 4294967296 L2, G2⟩) → Calls Tryd.prog 46 #[v, x, .int .i64 n, .bool up] w1 (RDRes w1 (dOverT (bare ⟨S1, Dg.vl 4294967296 L1, G1⟩) (bare ⟨S2, Dg.vl 4294967296 L2, G2⟩) n.toNat up)) := fun h0 {S1 L1 G1 S2 L2 G2} up v x w1 s1 e1 s2 e2 hp hv hx => by
    obtain ⟨⟨_, n1, n2, hn⟩, _⟩ := ALL h0
    obtain ⟨v1, v2, v3, v4, v5⟩ := num_ok e1 s1
    obtain ⟨z1, z2, z3, z4, z5⟩ := num_ok e2 s2
    obtain ⟨p1, p2, p3⟩ := bare_fits (t := ⟨S1, Dg.vl 4294967296 L1, G1⟩) (by show (Dg.dg 4294967296 (Dg.vl 4294967296 L1)).length ≤ 1200; rw [v2]; exact v3) v4 v5
    obtain ⟨q1, q2, q3⟩ := bare_fits (t := ⟨S2, Dg.vl 4294967296 L2, G2⟩) (by show (Dg.dg 4294967296 (Dg.vl 4294967296 L2)).length ≤ 1200; rw [z2]; exact z3) z4 z5
    have hq : 0 < (bare ⟨S2, Dg.vl 4294967296 L2, G2⟩).n := Nat.pos_of_ne_zero (fun h => by have := (bare_n_zero _).1 h; omega)
    have h := refdover_any v x _ _ n.toNat up w1 hv hx hq p1 q1 p2 p3 q2 q3 (by omega) (by omega)
    rw [hn] at h
    exact h
  have SGN : c = 0 → ∀ {S1 : Bool} {L1 : List Nat} {G1 : Int} (v : Value) (w1 : World), Dg.Small 4294967296 L1 → dchk L1 G1 = 0 → Rv w1 v (bare ⟨S1, Dg.vl 4294967296 L1, G1⟩) → Calls Tryd.prog 45 #[v] w1 fun z w' => z = .returned (.int .i64 (cmpT ⟨S1, Dg.vl 4294967296 L1, G1⟩ zeroT)) ∧ Below w1.heap.size w1 w' := fun _ {S1 L1 G1} v w1 s1 e1 hv => by
    obtain ⟨v1, v2, v3, v4, v5⟩ := num_ok e1 s1
    have e := bare_e_in (s := S1) v2 v3 v4 v5
    exact refdsign_any v _ w1 hv (len16_bare s1 v3) e.1 e.2
  obtain ⟨X, hX⟩ : ∃ X, (four (fun a b => dOverT a b n.toNat false) (bare ⟨s, Dg.vl 4294967296 xs, e⟩) (bare ⟨t, Dg.vl 4294967296 ys, f⟩) (bare ⟨r, Dg.vl 4294967296 zs, g⟩) (bare ⟨u, Dg.vl 4294967296 us, k⟩)) = X := ⟨_, rfl⟩
  obtain ⟨Y, hY⟩ : ∃ Y, (four (fun a b => dOverT a b n.toNat true) (bare ⟨s, Dg.vl 4294967296 xs, e⟩) (bare ⟨t, Dg.vl 4294967296 ys, f⟩) (bare ⟨r, Dg.vl 4294967296 zs, g⟩) (bare ⟨u, Dg.vl 4294967296 us, k⟩)) = Y := ⟨_, rfl⟩
  have FX : d = 0 → ∀ j, ((∃ y, X j = bare y) ∧ (Dg.dg 65536 (X j).n).length ≤ 30000) ∧ -200000 ≤ (X j).e ∧ (X j).e ≤ 200000 := fun h0 j => by rw [← hX]; exact FIT h0 false j
  have FY : d = 0 → ∀ j, ((∃ y, Y j = bare y) ∧ (Dg.dg 65536 (Y j).n).length ≤ 30000) ∧ -200000 ≤ (Y j).e ∧ (Y j).e ≤ 200000 := fun h0 j => by rw [← hY]; exact FIT h0 true j
  rw [hX, hY] at ENDS
  have eX0 : (dOverT (bare ⟨s, Dg.vl 4294967296 xs, e⟩) (bare ⟨r, Dg.vl 4294967296 zs, g⟩) n.toNat false) = X 0 := by rw [← hX]; rfl
  have eX1 : (dOverT (bare ⟨s, Dg.vl 4294967296 xs, e⟩) (bare ⟨u, Dg.vl 4294967296 us, k⟩) n.toNat false) = X 1 := by rw [← hX]; rfl
  have eX2 : (dOverT (bare ⟨t, Dg.vl 4294967296 ys, f⟩) (bare ⟨r, Dg.vl 4294967296 zs, g⟩) n.toNat false) = X 2 := by rw [← hX]; rfl
  have eX3 : (dOverT (bare ⟨t, Dg.vl 4294967296 ys, f⟩) (bare ⟨u, Dg.vl 4294967296 us, k⟩) n.toNat false) = X 3 := by rw [← hX]; rfl
  have eY0 : (dOverT (bare ⟨s, Dg.vl 4294967296 xs, e⟩) (bare ⟨r, Dg.vl 4294967296 zs, g⟩) n.toNat true) = Y 0 := by rw [← hY]; rfl
  have eY1 : (dOverT (bare ⟨s, Dg.vl 4294967296 xs, e⟩) (bare ⟨u, Dg.vl 4294967296 us, k⟩) n.toNat true) = Y 1 := by rw [← hY]; rfl
  have eY2 : (dOverT (bare ⟨t, Dg.vl 4294967296 ys, f⟩) (bare ⟨r, Dg.vl 4294967296 zs, g⟩) n.toNat true) = Y 2 := by rw [← hY]; rfl
  have eY3 : (dOverT (bare ⟨t, Dg.vl 4294967296 ys, f⟩) (bare ⟨u, Dg.vl 4294967296 us, k⟩) n.toNat true) = Y 3 := by rw [← hY]; rfl
  clear hX hY FIT
  refine bDivsW_any s ao ca xs.length e t bo cb ys.length f r co cc zs.length g u d' cd us.length k n c g1 g2 d rs rn re qs qn qe rc (bare ⟨s, Dg.vl 4294967296 xs, e⟩) (bare ⟨t, Dg.vl 4294967296 ys, f⟩) (bare ⟨r, Dg.vl 4294967296 zs, g⟩) (bare ⟨u, Dg.vl 4294967296 us, k⟩) (X 0) (X 1) (X 2) (X 3) (Y 0) (Y 1) (Y 2) (Y 3) (loT X 3) (hiT X 3) (loT Y 3) (hiT Y 3) w hdE HA0 HW0 (fun h0 w1 b1 => ?_) (fun h0 w1 b1 => ?_) (fun h0 v w1 hv => ?_) (fun h0 v w1 hv => ?_)
    (fun h0 v x w1 hv hx => ?_) (fun h0 v x w1 hv hx => ?_) (fun h0 v x w1 hv hx => ?_) (fun h0 v x w1 hv hx => ?_) (fun h0 v x w1 hv hx => ?_) (fun h0 v x w1 hv hx => ?_) (fun h0 v x w1 hv hx => ?_) (fun h0 v x w1 hv hx => ?_)
    (fun h0 oA cpA oB cpB oC cpC oD cpD w1 r0 r1 r2 r3 => refEnds4_ok X (fun j => (FX h0 j).1.1) (fun j => (FX h0 j).1.2) (fun j => (FX h0 j).2.1) (fun j => (FX h0 j).2.2) oA cpA oB cpB oC cpC oD cpD w1 r0 r1 r2 r3)
    (fun h0 oA cpA oB cpB oC cpC oD cpD w1 r0 r1 r2 r3 => refEnds4_ok Y (fun j => (FY h0 j).1.1) (fun j => (FY h0 j).1.2) (fun j => (FY h0 j).2.1) (fun j => (FY h0 j).2.2) oA cpA oB cpB oC cpC oD cpD w1 r0 r1 r2 r3)
    (fun p q lo hi w1 b1 rp rq h1 h2 => ?_) (fun w1 b1 => bbegun_any w1 (hT.later b1))
  · obtain ⟨⟨⟨i1, i2⟩, _⟩, _⟩ := OK h0
    obtain ⟨v1, v2, v3, v4, v5⟩ := num_ok i1 sa
    obtain ⟨u1, u2, u3, u4, u5⟩ := num_ok i2 sb
    exact ofBall_any s ao ca xs.length e t bo cb ys.length f _ _ w1 (fun w2 b2 => ofDyad_any s ao ca xs e w2 (ha.later (below_trans b1 b2)) sa (by omega) (by omega) (by omega)) (fun w2 b2 => ofDyad_any t bo cb ys f w2 (hb.later (below_trans b1 b2)) sb (by omega) (by omega) (by omega))
  · obtain ⟨⟨_, ⟨d1, d2⟩⟩, _⟩ := OK h0
    obtain ⟨z1, z2, z3, z4, z5⟩ := num_ok d1 sc
    obtain ⟨y1, y2, y3, y4, y5⟩ := num_ok d2 sd
    exact ofBall_any r co cc zs.length g u d' cd us.length k _ _ w1 (fun w2 b2 => ofDyad_any r co cc zs g w2 (hc.later (below_trans b1 b2)) sc (by omega) (by omega) (by omega)) (fun w2 b2 => ofDyad_any u d' cd us k w2 (hd.later (below_trans b1 b2)) sd (by omega) (by omega) (by omega))
  · rw [← hg1]; exact SGN h0 v w1 sc (OK h0).1.2.1 hv
  · rw [← hg2]; exact SGN h0 v w1 sd (OK h0).1.2.2 hv
  · rw [← eX0]; exact DOV h0 false v x w1 sa (ALL h0).1.1.1.1 sc (ALL h0).1.1.2.1 (ALL h0).2.1 hv hx
  · rw [← eX1]; exact DOV h0 false v x w1 sa (ALL h0).1.1.1.1 sd (ALL h0).1.1.2.2 (ALL h0).2.2 hv hx
  · rw [← eX2]; exact DOV h0 false v x w1 sb (ALL h0).1.1.1.2 sc (ALL h0).1.1.2.1 (ALL h0).2.1 hv hx
  · rw [← eX3]; exact DOV h0 false v x w1 sb (ALL h0).1.1.1.2 sd (ALL h0).1.1.2.2 (ALL h0).2.2 hv hx
  · rw [← eY0]; exact DOV h0 true v x w1 sa (ALL h0).1.1.1.1 sc (ALL h0).1.1.2.1 (ALL h0).2.1 hv hx
  · rw [← eY1]; exact DOV h0 true v x w1 sa (ALL h0).1.1.1.1 sd (ALL h0).1.1.2.2 (ALL h0).2.2 hv hx
  · rw [← eY2]; exact DOV h0 true v x w1 sb (ALL h0).1.1.1.2 sc (ALL h0).1.1.2.1 (ALL h0).2.1 hv hx
  · rw [← eY3]; exact DOV h0 true v x w1 sb (ALL h0).1.1.1.2 sd (ALL h0).1.1.2.2 (ALL h0).2.2 hv hx
  · obtain ⟨po, pc, hp⟩ := rp.shape
    subst hp
    obtain ⟨qo, qc, hq⟩ := rq.shape
    subst hq
    by_cases h0 : d = 0
    · obtain ⟨⟨_, n1, n2, hn⟩, _⟩ := ALL h0
      obtain ⟨EL, EH⟩ := ENDS h0
      rw [if_pos h0, least_toT3 (L := (loT X 3)) (H := (hiT Y 3)) EL EH n1] at hR
      obtain ⟨rlo, rhi⟩ := h1 h0
      have F := loT_all X 3 (fun T => (Dg.dg 65536 T.n).length ≤ 30000 ∧ -200000 ≤ T.e ∧ T.e ≤ 200000) (fun j _ => ⟨(FX h0 j).1.2, (FX h0 j).2⟩)
      have G := hiT_all Y 3 (fun T => (Dg.dg 65536 T.n).length ≤ 30000 ∧ -200000 ≤ T.e ∧ T.e ≤ 200000) (fun j _ => ⟨(FY h0 j).1.2, (FY h0 j).2⟩)
      have DL : dcutT (loT X 3) n false = (loT X 3) := by rw [EL]; exact dcut_again _ _ _ _ n1
      have DH : dcutT (hiT Y 3) n true = (hiT Y 3) := by rw [EH]; exact dcut_again _ _ _ _ n1
      obtain ⟨L, hL⟩ : ∃ L, (loT X 3) = L := ⟨_, rfl⟩
      obtain ⟨H, hH⟩ : ∃ H, (hiT Y 3) = H := ⟨_, rfl⟩
      rw [hL] at rlo F hR DL
      rw [hH] at rhi G hR DH
      obtain ⟨F1, F2, F3⟩ := F
      obtain ⟨G1, G2, G3⟩ := G
      obtain ⟨sl, rfl, rl⟩ := rlo
      obtain ⟨lo, lp, hl⟩ := rl.shape
      subst hl
      obtain ⟨sh, rfl, rh⟩ := rhi
      obtain ⟨ho, hp, hh⟩ := rh.shape
      subst hh
      refine ballIsW_any rs rn re qs qn qe rc po pc qo qc d n L.s lo _ lp L.e H.s ho _ hp H.e w1 rp rq (fun _ w2 b2 => ?_) hzero hcc
      rw [← hR]
      exact toBall_any L.s lo lp _ L.e H.s ho hp _ H.e n (dcutT L n false) (dcutT H n true) _ _ w2 (fun w3 b3 => refdcut_any _ L n false w3 ⟨_, rfl, rl.later (below_trans b2 b3)⟩ F1 F2 F3 n1 n2) (fun w3 b3 => refdcut_any _ H n true w3 ⟨_, rfl, rh.later (below_trans b2 b3)⟩ G1 G2 G3 n1 n2) (fun v w3 hv => toDyad_any v _ w3 hv (by rw [DL]; omega)) (fun v w3 hv => toDyad_any v _ w3 hv (by rw [DH]; omega))
    · obtain ⟨rfl, rfl⟩ := h2 h0
      exact ballIsW_any rs rn re qs qn qe rc po pc qo qc d n false none 0 0 0 false none 0 0 0 w1 rp rq (fun h => absurd h h0) hzero hcc
end Go.Proofs.YtfajoaopfedokaaDoor
