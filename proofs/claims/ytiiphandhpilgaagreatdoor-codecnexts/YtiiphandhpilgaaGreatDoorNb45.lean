/-
  Texts laid together: Gv4, Gv6.
-/
import Derived.Test.YtiiphandhpilgaaGreatDoorNb27
import Derived.Test.YtiiphandhpilgaaGreatDoorNb43
import Derived.Test.YtiiphandhpilgaaGreatDoorNb44
namespace Go.Proofs.YtiiphandhpilgaaGreatDoor
open Go.RowKit
theorem pow_512 {N : Nat} (h : N = 32 * 16) : (4294967296 : Nat) ^ 16 = 2 ^ N := by
 subst h
 rw [show (4294967296 : Nat) = 2 ^ 32 from by decide, ← Nat.pow_mul]
theorem so_fits {m : Nat} (hm : m < 2 ^ (480 + 32)) (s : Bool) {f : Int} (f1 : -20000 ≤ f) (f2 : f ≤ 20000) :
  (Dg.dg 65536 (bare ⟨s, m, f⟩).n).length ≤ 32 ∧ -20000 ≤ (bare ⟨s, m, f⟩).e ∧ (bare ⟨s, m, f⟩).e ≤ 20512 := by
 have h1 : (Dg.dg 4294967296 m).length ≤ 16 := Dg.dg_len_le 4294967296 m 16 (by omega) (by rw [pow_512 (N := 480 + 32) (by decide)]; exact hm)
 clear hm
 have h3 := tz_fits m 16 h1
 have h4 := dg16_len m 16 h1
 unfold bare
 split
 ·exact ⟨by show ([] : List Nat).length ≤ 32; simp, by simp, by simp⟩
 ·refine ⟨Nat.le_trans (dg_len_mono 65536 _ m (by omega) (Nat.div_le_self _ _)) (by omega), ?_, ?_⟩
  ·simp only; omega
  ·simp only; omega
theorem pow_grow {d v j N : Nat} (hd : d < 2 ^ j) (hj : j ≤ N) (hv : v ≤ 4) : d + 1 < 2 ^ (N + 32) ∧ d * 2 ^ v - 1 < 2 ^ (N + 32) := by
 have h1 : 2 ^ j ≤ 2 ^ N := Nat.pow_le_pow_right (by omega) hj
 have h2 : 2 ^ v ≤ 2 ^ 4 := Nat.pow_le_pow_right (by omega) hv
 have h3 : d * 2 ^ v ≤ 2 ^ N * 2 ^ 4 := Nat.mul_le_mul (by omega) h2
 have h4 : 2 ^ (N + 32) = 2 ^ N * 4294967296 := by rw [Nat.pow_add]
 have h5 := two_pos N
 rw [h4]
 omega
theorem spot_pow {R D : Int} {d : Nat} (d1 : 1 ≤ D) (d2 : D ≤ 120) (hd : d < 2 ^ (widthN R * D.toNat)) : d + 1 < 2 ^ (480 + 32) ∧ d * 2 ^ widthN R - 1 < 2 ^ (480 + 32) := by
 have hw := (widthN_le R).2
 have h1 : widthN R * D.toNat ≤ 480 := Nat.le_trans (Nat.mul_le_mul hw (show D.toNat ≤ 120 by omega)) (by omega)
 exact pow_grow (N := 480) hd h1 hw
theorem stepOf_any (R D L G : Int) (gr s0 : Bool) (d : Nat) (p : Int) (ao : Option Addr) (ca : Nat) (w : World) (hg : gridC R D L G = 0) (hi : InSpot R D L G gr d p)
  (hr : Rd w .i64 (.slice ao (Dg.dg 65536 (bare ⟨s0, d, (widthN R : Int) * p⟩).n).length ca) (Dg.dg 65536 (bare ⟨s0, d, (widthN R : Int) * p⟩).n)) :
  Calls Tryz.prog 16 #[.agg #[.bool (bare ⟨s0, d, (widthN R : Int) * p⟩).s, .slice ao (Dg.dg 65536 (bare ⟨s0, d, (widthN R : Int) * p⟩).n).length ca, .int .i64 (bare ⟨s0, d, (widthN R : Int) * p⟩).e], .agg #[.int .i64 R, .int .i64 D, .int .i64 L, .int .i64 G, .bool gr]] w (SORes w (soR R D L G gr (bare ⟨s0, d, (widthN R : Int) * p⟩)).1 (soR R D L G gr (bare ⟨s0, d, (widthN R : Int) * p⟩)).2) := by
 obtain ⟨hR, d1, d2, l1, l2, g1, g2, lg, l16⟩ := gridC_zero hg
 obtain ⟨-, -, -, w1, w2, -⟩ := spot_fits hg hi
 have hwl := widthN_le R
 have hw := width_pos R
 have hdp : d < 2 ^ (widthN R * D.toNat) := by
  rcases hi with ⟨rfl, -⟩ | h
  ·exact two_pos _
  ·exact h.2.2.2.1
 obtain ⟨q1, q2⟩ := spot_pow d1 d2 hdp
 have hq0 : d < 2 ^ (480 + 32) := Nat.lt_of_succ_lt q1
 have hwp : (widthN R : Int) * (p - 1) = (widthN R : Int) * p - (widthN R : Int) := by rw [Int.mul_sub, Int.mul_one]
 obtain ⟨a1, a2, a3⟩ := so_fits hq0 s0 (show -20000 ≤ (widthN R : Int) * p by omega) (show (widthN R : Int) * p ≤ 20000 by omega)
 have hsp : ¬(Dg.dg 65536 (bare ⟨s0, d, (widthN R : Int) * p⟩).n).length = 0 → d ≠ 0 ∧ L ≤ p ∧ p ≤ G ∧ (2 ^ (widthN R * (D - 1).toNat) ≤ d ∨ (gr = true ∧ p = L)) ∧ (bare ⟨s0, d, (widthN R : Int) * p⟩).s = s0 := fun h => by
  rcases hi with ⟨rfl, -⟩ | ⟨h0, h1, h2, -, h4⟩
  ·exact absurd (by rw [show bare ⟨s0, 0, (widthN R : Int) * p⟩ = ⟨false, 0, 0⟩ from by simp [bare]]; rfl) h
  ·exact ⟨h0, h1, h2, h4, by unfold bare; rw [if_neg h0]⟩
 have hC : ¬(Dg.dg 65536 (bare ⟨s0, d, (widthN R : Int) * p⟩).n).length = 0 → (Dg.dg 65536 (soC R D L (bare ⟨s0, d, (widthN R : Int) * p⟩)).n).length ≤ 32 ∧ -20000 ≤ (soC R D L (bare ⟨s0, d, (widthN R : Int) * p⟩)).e ∧ (soC R D L (bare ⟨s0, d, (widthN R : Int) * p⟩)).e ≤ 20512 := fun h => by
  obtain ⟨h0, h1, h2, h4, -⟩ := hsp h
  cases s0
  ·rw [soC_far d1 h0 h1 hdp h4]
   exact so_fits q1 _ (by omega) (by omega)
  ·rw [soC_near d1 h0 h1 hdp h4]
   exact so_fits (Nat.lt_of_le_of_lt (Nat.sub_le _ _) hq0) _ (by omega) (by omega)
 have hF : ¬(Dg.dg 65536 (bare ⟨s0, d, (widthN R : Int) * p⟩).n).length = 0 → (bare ⟨s0, d, (widthN R : Int) * p⟩).s = true → soF R D L (bare ⟨s0, d, (widthN R : Int) * p⟩) = bare ⟨true, d * 2 ^ widthN R - 1, (widthN R : Int) * (p - 1)⟩ ∧ s0 = true := fun h hs => by
  obtain ⟨h0, h1, h2, h4, h5⟩ := hsp h
  rw [h5] at hs
  subst hs
  exact ⟨soF_near d1 h0 h1 hdp h4, rfl⟩
 have hF2 : (Dg.dg 65536 (bare ⟨true, d * 2 ^ widthN R - 1, (widthN R : Int) * (p - 1)⟩).n).length ≤ 32 ∧ -20000 ≤ (bare ⟨true, d * 2 ^ widthN R - 1, (widthN R : Int) * (p - 1)⟩).e ∧ (bare ⟨true, d * 2 ^ widthN R - 1, (widthN R : Int) * (p - 1)⟩).e ≤ 20512 := so_fits q2 _ (by omega) (by omega)
 have hless : ¬(Dg.dg 65536 (bare ⟨s0, d, (widthN R : Int) * p⟩).n).length = 0 → s0 = true → signT (bare (dplusT (bare ⟨s0, d, (widthN R : Int) * p⟩) (minusT (bare ⟨true, d * 2 ^ widthN R - 1, (widthN R : Int) * (p - 1)⟩)))) = -1 := fun h hs => by
  subst hs
  exact so_less R (hsp h).1
 clear q1 q2 hq0 hdp hi
 obtain ⟨a, ha⟩ : ∃ a, bare ⟨s0, d, (widthN R : Int) * p⟩ = a := ⟨_, rfl⟩
 rw [ha] at hr a1 a2 a3 hC hF hless ⊢
 clear hsp
 have hbl : bitLen a.n ≤ 16 * 32 := gbits16 a1
 have hsk := inR_seek R D a.e (bitLen a.n) (by omega)
 have hpr : -30000 ≤ soK R D L a.n a.e ∧ soK R D L a.n a.e ≤ 30000 ∧ -30000 ≤ (widthN R : Int) * soK R D L a.n a.e ∧ (widthN R : Int) * soK R D L a.n a.e ≤ 30000 ∧ -30004 ≤ (widthN R : Int) * (soK R D L a.n a.e - 1) ∧ (widthN R : Int) * (soK R D L a.n a.e - 1) ≤ 30000 ∧ -30000 ≤ powerR R D (a.e + (bitLen a.n : Int) - 1) ∧ powerR R D (a.e + (bitLen a.n : Int) - 1) ≤ 30000 := by
  clear hsk
  unfold soK powerR widthN
  split <;> simp <;> omega
 obtain ⟨k1, k2, k3, k4, k5, k6, k7, k8⟩ := hpr
 have hL : -68000 ≤ (widthN R : Int) * L ∧ (widthN R : Int) * L ≤ 68000 := by
  unfold widthN
  split <;> simp <;> omega
 have hLD : -68000 ≤ (widthN R : Int) * (L + D - 1) ∧ (widthN R : Int) * (L + D - 1) ≤ 69000 := by
  unfold widthN
  split <;> simp <;> omega
 have t1 := Int.natAbs_tdiv_le_natAbs (a.e + (bitLen a.n : Int) - 1 + 80000) (widthN R : Int)
 have t2 := Int.natAbs_tdiv_le_natAbs (80000 : Int) (widthN R : Int)
 have hz : (Dg.dg 65536 a.n).length = 0 ↔ a.n = 0 := by rw [List.length_eq_zero_iff, Dg.dg_nil_iff _ _ (by omega)]
 obtain ⟨⟨cs, cn, ce⟩, hc⟩ : ∃ t, soC R D L a = t := ⟨_, rfl⟩
 obtain ⟨⟨fs, fn, fe⟩, hf⟩ : ∃ t, soF R D L a = t := ⟨_, rfl⟩
 rw [hc] at hC
 rw [hf] at hF
 simp only at hC
 obtain ⟨⟨⟨ts, tn, te⟩, ok⟩, ht⟩ : ∃ t, soR R D L G gr a = t := ⟨_, rfl⟩
 rw [ht]
 have hone : Dg.dg 65536 1 = [1] := by decide
 have hsoR : soR R D L G gr a = if a.n = 0 then (⟨false, 1, (widthN R : Int) * (if gr = true then L else L + D - 1)⟩, true) else if a.s = true then (soN R D L G gr a, true) else (soC R D L a, inR R D L G gr (soC R D L a).n (soC R D L a).e) := rfl
 have hsoN : soN R D L G gr a = if inR R D L G gr fn fe = true then ⟨fs, fn, fe⟩ else if inR R D L G gr cn ce = true then ⟨cs, cn, ce⟩ else ⟨false, 0, 0⟩ := by
  unfold soN
  rw [hf, hc]
 rw [ht, hsoN, hc] at hsoR
 simp only at hsoR
 clear hsoN
 refine stepOfW R D L G gr a.s ao _ ca a.e (widthN R) (bitLen a.n) _ _ (powerR R D (a.e + (bitLen a.n : Int) - 1)) (soK R D L a.n a.e) ((widthN R : Int) * (if gr = true then L else L + D - 1)) cs cn ce fs fn fe (inR R D L G gr cn ce) (inR R D L G gr fn fe) ts tn te ok w ?_ ?_ ?_ ?_ ?_ ?_ ?_ ?_ ?_ rfl rfl ?_ ?_ ?_ ?_ ?_ rfl ?_ ?_ ?_ ?_ ?_ ?_ ?_ ?_ ?_ ?_ ?_ ?_ ?_ ?_ ?_ ?_ ?_
 ·simp
  omega
 ·omega
 ·exact IntWalk.i64_in _ ⟨by omega, by omega⟩
 ·exact IntWalk.i64_in _ ⟨by omega, by omega⟩
 ·exact IntWalk.i64_in _ ⟨by omega, by omega⟩
 ·exact IntWalk.i64_in _ ⟨by omega, by omega⟩
 ·exact IntWalk.i64_in _ ⟨by omega, by omega⟩
 ·exact IntWalk.i64_in _ ⟨by omega, by omega⟩
 ·exact IntWalk.i64_in _ ⟨by omega, by omega⟩
 ·exact IntWalk.i64_in _ ⟨by omega, by omega⟩
 ·exact IntWalk.i64_in _ ⟨by omega, by omega⟩
 ·exact IntWalk.i64_in _ ⟨by omega, by omega⟩
 ·exact IntWalk.i64_in _ ⟨by omega, by omega⟩
 ·rw [hsk]
  exact IntWalk.i64_in _ ⟨by omega, by omega⟩
 ·exact IntWalk.i64_in _ ⟨by omega, by omega⟩
 ·exact IntWalk.i64_in _ ⟨by omega, by omega⟩
 ·exact IntWalk.i64_in _ ⟨by omega, by omega⟩
 ·intro h
  rw [if_pos h]
 ·intro h
  rw [if_neg (by rw [h]; decide)]
 ·intro h
  rw [if_pos (hz.1 h)] at hsoR
  simp only [Prod.mk.injEq, Trip.mk.injEq] at hsoR
  exact ⟨hsoR.1.1.symm, hsoR.1.2.1.symm, hsoR.1.2.2.symm, hsoR.2.symm⟩
 ·intro h hs
  rw [if_neg (fun c => h (hz.2 c)), if_neg (by rw [hs]; decide)] at hsoR
  simp only [Prod.mk.injEq, Trip.mk.injEq] at hsoR
  exact ⟨hsoR.1.1.symm, hsoR.1.2.1.symm, hsoR.1.2.2.symm, hsoR.2.symm⟩
 ·intro h hs h3
  rw [if_neg (fun c => h (hz.2 c)), if_pos hs, if_pos h3] at hsoR
  simp only [Prod.mk.injEq, Trip.mk.injEq] at hsoR
  exact ⟨hsoR.1.1.symm, hsoR.1.2.1.symm, hsoR.1.2.2.symm, hsoR.2.symm⟩
 ·intro h hs h3 h4
  rw [if_neg (fun c => h (hz.2 c)), if_pos hs, if_neg (by rw [h3]; decide), if_pos h4] at hsoR
  simp only [Prod.mk.injEq, Trip.mk.injEq] at hsoR
  exact ⟨hsoR.1.1.symm, hsoR.1.2.1.symm, hsoR.1.2.2.symm, hsoR.2.symm⟩
 ·intro h hs h3 h4
  rw [if_neg (fun c => h (hz.2 c)), if_pos hs, if_neg (by rw [h3]; decide), if_neg (by rw [h4]; decide)] at hsoR
  simp only [Prod.mk.injEq, Trip.mk.injEq] at hsoR
  exact ⟨hsoR.1.1.symm, hsoR.1.2.1.symm, hsoR.1.2.2.symm, hsoR.2.symm⟩
 ·intro w1
  have := refWidth_any R D L G gr w1
  rwa [widthR_nat] at this
 ·intro w1 b
  have := reflen_any _ _ w1 (hr.later b) (Dg.small_dg _ _ (by omega)) (Dg.norm_dg _ _ (by omega)) (by omega)
  rw [Dg.vl_dg _ _ (by omega)] at this
  refine this.mono ?_
  rintro z w' ⟨rfl, rfl⟩
  exact ⟨rfl, Below.refl _ _⟩
 ·intro h o c w1 b r
  have := refdplus_far _ _ a ⟨false, 1, (widthN R : Int) * soK R D L a.n a.e⟩ w1 ⟨_, rfl, hr.later b⟩ ⟨_, rfl, by rw [hone]; exact r⟩ (by omega) (by rw [hone]; simp) (by omega) (by omega) (by simp only; omega) (by simp only; omega)
  rwa [show bare (dplusT a ⟨false, 1, (widthN R : Int) * soK R D L a.n a.e⟩) = ⟨cs, cn, ce⟩ from hc] at this
 ·intro h hs o c w1 b r
  have := refdplus_far _ _ a ⟨false, 1, (widthN R : Int) * (soK R D L a.n a.e - 1)⟩ w1 ⟨_, rfl, hr.later b⟩ ⟨_, rfl, by rw [hone]; exact r⟩ (by omega) (by rw [hone]; simp) (by omega) (by omega) (by simp only; omega) (by simp only; omega)
  rwa [show bare (dplusT a ⟨false, 1, (widthN R : Int) * (soK R D L a.n a.e - 1)⟩) = ⟨fs, fn, fe⟩ from hf] at this
 ·intro h co cc w1 r
  obtain ⟨c1, c2, c3⟩ := hC h
  exact inGrid_any R D L G gr _ ⟨cs, cn, ce⟩ w1 hg ⟨_, rfl, r⟩ (by simp only; omega) (by simp only; omega) (by simp only; omega)
 ·intro h hs fo fc w1 r
  obtain ⟨e1, -⟩ := hF h hs
  rw [← e1] at hF2
  simp only at hF2
  exact inGrid_any R D L G gr _ ⟨fs, fn, fe⟩ w1 hg ⟨_, rfl, r⟩ (by simp only; omega) (by simp only; omega) (by simp only; omega)
 ·intro h hs fo fc w1 b r
  obtain ⟨e1, e2⟩ := hF h hs
  have hl := hless h e2
  rw [← e1] at hF2 hl
  simp only at hF2
  have := refdcmp_any _ _ a ⟨fs, fn, fe⟩ w1 ⟨_, rfl, hr.later b⟩ ⟨_, rfl, r⟩ (by omega) (by simp only; omega) (by omega) (by omega) (by simp only; omega) (by simp only; omega)
  rwa [hl] at this
end Go.Proofs.YtiiphandhpilgaaGreatDoor
namespace Go.Proofs.YtiiphandhpilgaaGreatDoor
open Go.RowKit
theorem soR_fits {R D L G : Int} {gr : Bool} {d : Nat} {p : Int} (s0 : Bool) (hg : gridC R D L G = 0) (hi : InSpot R D L G gr d p) :
  (Dg.dg 65536 (soR R D L G gr (bare ⟨s0, d, (widthN R : Int) * p⟩)).1.n).length ≤ 100000 := by
 obtain ⟨hR, d1, d2, l1, l2, g1, g2, lg, l16⟩ := gridC_zero hg
 obtain ⟨-, -, -, w1, w2, -⟩ := spot_fits hg hi
 have hwl := widthN_le R
 rcases hi with ⟨rfl, -⟩ | ⟨h0, h1, h2, hdp, h4⟩
 ·rw [show bare ⟨s0, 0, (widthN R : Int) * p⟩ = ⟨false, 0, 0⟩ from by simp [bare], show soR R D L G gr ⟨false, 0, 0⟩ = (⟨false, 1, (widthN R : Int) * (if gr = true then L else L + D - 1)⟩, true) from if_pos rfl]
  show (Dg.dg 65536 1).length ≤ 100000
  rw [dg_one]
  simp
 ·obtain ⟨q1, q2⟩ := spot_pow d1 d2 hdp
  have hq0 : d < 2 ^ (480 + 32) := Nat.lt_of_succ_lt q1
  have hwp : (widthN R : Int) * (p - 1) = (widthN R : Int) * p - (widthN R : Int) := by rw [Int.mul_sub, Int.mul_one]
  have hbn : (bare ⟨s0, d, (widthN R : Int) * p⟩).n ≠ 0 := (bare_top (t := ⟨s0, d, (widthN R : Int) * p⟩) h0).1
  have hbs : (bare ⟨s0, d, (widthN R : Int) * p⟩).s = s0 := by unfold bare; rw [if_neg h0]
  unfold soR
  rw [if_neg hbn, hbs]
  cases s0
  ·rw [if_neg (by decide), soC_far d1 h0 h1 hdp h4]
   exact Nat.le_trans (so_fits q1 _ (by omega) (by omega)).1 (by omega)
  ·rw [if_pos rfl]
   unfold soN
   rw [soF_near d1 h0 h1 hdp h4, soC_near d1 h0 h1 hdp h4]
   split
   ·exact Nat.le_trans (so_fits q2 _ (by omega) (by omega)).1 (by omega)
   ·split
    ·exact Nat.le_trans (so_fits (Nat.lt_of_le_of_lt (Nat.sub_le _ _) hq0) _ (by omega) (by omega)).1 (by omega)
    ·exact Nat.zero_le _
theorem steps_spot {R D L G : Int} {gr : Bool} (s up : Bool) {n : Nat} {e : Int} (hg : gridC R D L G = 0) (hh : heldB R D L G gr n e = true) :
  ∃ s' d p, soA up (bare ⟨s, n, e⟩) = bare ⟨s', d, (widthN R : Int) * p⟩ ∧ InSpot R D L G gr d p := by
 obtain ⟨-, d1, -, -, -, -, -, lg, -⟩ := gridC_zero hg
 by_cases h0 : n = 0
 ·subst h0
  refine ⟨false, 0, 0, ?_, .inl ⟨rfl, rfl⟩⟩
  rw [show bare ⟨s, 0, e⟩ = ⟨false, 0, 0⟩ from by simp [bare], show bare ⟨false, 0, (widthN R : Int) * 0⟩ = ⟨false, 0, 0⟩ from by simp [bare]]
  unfold soA minusT
  cases up <;> rfl
 ·obtain ⟨f1, f2, f3, f4, f5, f6, -⟩ := found_spot d1 h0 hh
  have ff := found_full d1 h0 hh
  have ft := found_trip s d1 h0 hh
  refine ⟨if up = true then s else !s, _, _, ?_, .inr ⟨f3, f5, f6, f4, ff⟩⟩
  rw [ft]
  unfold soA
  cases up
  ·rw [if_neg (by decide), if_neg (by decide), bare_minus]
  ·rw [if_pos rfl, if_pos rfl]
end Go.Proofs.YtiiphandhpilgaaGreatDoor
