/-
  Texts laid together: Gv4, Gv5, Gv6.
-/
import Derived.Test.YtmjhlflemfkflaaDoorGv
import Derived.Test.YtmjhlflemfkflaaDoorDr6
import Derived.Test.YtmjhlflemfkflaaDoorDa
import Derived.Test.YtmjhlflemfkflaaDoorGt
import Derived.Test.YtmjhlflemfkflaaDoorGr8
/-
  Grids: the contract of the reference's StepOf.
-/
namespace Go.Proofs.YtmjhlflemfkflaaDoor
open Go.RowKit

theorem pow_512 {N : Nat} (h : N = 32 * 16) : (4294967296 : Nat) ^ 16 = 2 ^ N := by
  subst h
  rw [show (4294967296 : Nat) = 2 ^ 32 from by decide, ← Nat.pow_mul]

theorem so_fits {m : Nat} (hm : m < 2 ^ (480 + 32)) (s : Bool) {f : Int} (f1 : -20000 ≤ f) (f2 : f ≤ 20000) :
    (Dg.dg 65536 (bare ⟨s, m, f⟩).n).length ≤ 32 ∧ -20000 ≤ (bare ⟨s, m, f⟩).e ∧ (bare ⟨s, m, f⟩).e ≤ 20512 := by
  have h1 : (Dg.dg 4294967296 m).length ≤ 16 := Dg.dg_len_le 4294967296 m 16 (by omega) (by rw [pow_512 (N := 480 + 32) (by decide)]; exact hm)
  clear hm
  have h3 := tz_fits m 16 h1
  have h4 := dg16_len m 16 h1
  unfold bare
  split
  · exact ⟨by show ([] : List Nat).length ≤ 32; simp, by simp, by simp⟩
  · refine ⟨Nat.le_trans (dg_len_mono 65536 _ m (by omega) (Nat.div_le_self _ _)) (by omega), ?_, ?_⟩
    · simp only; omega
    · simp only; omega

theorem pow_grow {d v j N : Nat} (hd : d < 2 ^ j) (hj : j ≤ N) (hv : v ≤ 4) : d + 1 < 2 ^ (N + 32) ∧ d * 2 ^ v - 1 < 2 ^ (N + 32) := by
  have h1 : 2 ^ j ≤ 2 ^ N := Nat.pow_le_pow_right (by omega) hj
  have h2 : 2 ^ v ≤ 2 ^ 4 := Nat.pow_le_pow_right (by omega) hv
  have h3 : d * 2 ^ v ≤ 2 ^ N * 2 ^ 4 := Nat.mul_le_mul (by omega) h2
  have h4 : 2 ^ (N + 32) = 2 ^ N * 4294967296 := by rw [Nat.pow_add]
  have h5 := two_pos N
  rw [h4]
  omega

theorem spot_pow {R D : Int} {d : Nat} (d1 : 1 ≤ D) (d2 : D ≤ 120) (hd : d < 2 ^ (widthN R * D.toNat)) : d + 1 < 2 ^ (480 + 32) ∧ d * 2 ^ widthN R - 1 < 2 ^ (480 + 32) := by
  have hw := (widthN_le R).2
  have h1 : widthN R * D.toNat ≤ 480 := Nat.le_trans (Nat.mul_le_mul hw (show D.toNat ≤ 120 by omega)) (by omega)
  exact pow_grow (N := 480) hd h1 hw

theorem stepOf_any (R D L G : Int) (gr s0 : Bool) (d : Nat) (p : Int) (ao : Option Addr) (ca : Nat) (w : World) (hg : gridC R D L G = 0) (hi : InSpot R D L G gr d p)
    (hr : Rd w .i64 (.slice ao (Dg.dg 65536 (bare ⟨s0, d, (widthN R : Int) * p⟩).n).length ca) (Dg.dg 65536 (bare ⟨s0, d, (widthN R : Int) * p⟩).n)) :
    Calls Tryd.prog 29 #[.agg #[.bool (bare ⟨s0, d, (widthN R : Int) * p⟩).s, .slice ao (Dg.dg 65536 (bare ⟨s0, d, (widthN R : Int) * p⟩).n).length ca, .int .i64 (bare ⟨s0, d, (widthN R : Int) * p⟩).e], .agg #[.int .i64 R, .int .i64 D, .int .i64 L, .int .i64 G, .bool gr]] w (SORes w (soR R D L G gr (bare ⟨s0, d, (widthN R : Int) * p⟩)).1 (soR R D L G gr (bare ⟨s0, d, (widthN R : Int) * p⟩)).2) := by
  obtain ⟨hR, d1, d2, l1, l2, g1, g2, lg, l16⟩ := gridC_zero hg
  obtain ⟨-, -, -, w1, w2, -⟩ := spot_fits hg hi
  have hwl := widthN_le R
  have hw := width_pos R
  have hdp : d < 2 ^ (widthN R * D.toNat) := by
    rcases hi with ⟨rfl, -⟩ | h
    · exact two_pos _
    · exact h.2.2.2.1
  obtain ⟨q1, q2⟩ := spot_pow d1 d2 hdp
  have hq0 : d < 2 ^ (480 + 32) := Nat.lt_of_succ_lt q1
  have hwp : (widthN R : Int) * (p - 1) = (widthN R : Int) * p - (widthN R : Int) := by rw [Int.mul_sub, Int.mul_one]
  obtain ⟨a1, a2, a3⟩ := so_fits hq0 s0 (show -20000 ≤ (widthN R : Int) * p by omega) (show (widthN R : Int) * p ≤ 20000 by omega)
  -- what it is, where it is not 0
  have hsp : ¬(Dg.dg 65536 (bare ⟨s0, d, (widthN R : Int) * p⟩).n).length = 0 → d ≠ 0 ∧ L ≤ p ∧ p ≤ G ∧ (2 ^ (widthN R * (D - 1).toNat) ≤ d ∨ (gr = true ∧ p = L)) ∧ (bare ⟨s0, d, (widthN R : Int) * p⟩).s = s0 := fun h => by
    rcases hi with ⟨rfl, -⟩ | ⟨h0, h1, h2, -, h4⟩
    · exact absurd (by rw [show bare ⟨s0, 0, (widthN R : Int) * p⟩ = ⟨false, 0, 0⟩ from by simp [bare]]; rfl) h
    · exact ⟨h0, h1, h2, h4, by unfold bare; rw [if_neg h0]⟩
  have hC : ¬(Dg.dg 65536 (bare ⟨s0, d, (widthN R : Int) * p⟩).n).length = 0 → (Dg.dg 65536 (soC R D L (bare ⟨s0, d, (widthN R : Int) * p⟩)).n).length ≤ 32 ∧ -20000 ≤ (soC R D L (bare ⟨s0, d, (widthN R : Int) * p⟩)).e ∧ (soC R D L (bare ⟨s0, d, (widthN R : Int) * p⟩)).e ≤ 20512 := fun h => by
    obtain ⟨h0, h1, h2, h4, -⟩ := hsp h
    cases s0
    · rw [soC_far d1 h0 h1 hdp h4]
      exact so_fits q1 _ (by omega) (by omega)
    · rw [soC_near d1 h0 h1 hdp h4]
      exact so_fits (Nat.lt_of_le_of_lt (Nat.sub_le _ _) hq0) _ (by omega) (by omega)
  have hF : ¬(Dg.dg 65536 (bare ⟨s0, d, (widthN R : Int) * p⟩).n).length = 0 → (bare ⟨s0, d, (widthN R : Int) * p⟩).s = true → soF R D L (bare ⟨s0, d, (widthN R : Int) * p⟩) = bare ⟨true, d * 2 ^ widthN R - 1, (widthN R : Int) * (p - 1)⟩ ∧ s0 = true := fun h hs => by
    obtain ⟨h0, h1, h2, h4, h5⟩ := hsp h
    rw [h5] at hs
    subst hs
    exact ⟨soF_near d1 h0 h1 hdp h4, rfl⟩
  have hF2 : (Dg.dg 65536 (bare ⟨true, d * 2 ^ widthN R - 1, (widthN R : Int) * (p - 1)⟩).n).length ≤ 32 ∧ -20000 ≤ (bare ⟨true, d * 2 ^ widthN R - 1, (widthN R : Int) * (p - 1)⟩).e ∧ (bare ⟨true, d * 2 ^ widthN R - 1, (widthN R : Int) * (p - 1)⟩).e ≤ 20512 := so_fits q2 _ (by omega) (by omega)
  have hless : ¬(Dg.dg 65536 (bare ⟨s0, d, (widthN R : Int) * p⟩).n).length = 0 → s0 = true → signT (bare (dplusT (bare ⟨s0, d, (widthN R : Int) * p⟩) (minusT (bare ⟨true, d * 2 ^ widthN R - 1, (widthN R : Int) * (p - 1)⟩)))) = -1 := fun h hs => by
    subst hs
    exact so_less R (hsp h).1
  clear q1 q2 hq0 hdp hi
  obtain ⟨a, ha⟩ : ∃ a, bare ⟨s0, d, (widthN R : Int) * p⟩ = a := ⟨_, rfl⟩
  rw [ha] at hr a1 a2 a3 hC hF hless ⊢
  clear hsp
  have hbl : bitLen a.n ≤ 16 * 32 := gbits16 a1
  have hsk := inR_seek R D a.e (bitLen a.n) (by omega)
  have hpr : -30000 ≤ soK R D L a.n a.e ∧ soK R D L a.n a.e ≤ 30000 ∧ -30000 ≤ (widthN R : Int) * soK R D L a.n a.e ∧ (widthN R : Int) * soK R D L a.n a.e ≤ 30000 ∧ -30004 ≤ (widthN R : Int) * (soK R D L a.n a.e - 1) ∧ (widthN R : Int) * (soK R D L a.n a.e - 1) ≤ 30000 ∧ -30000 ≤ powerR R D (a.e + (bitLen a.n : Int) - 1) ∧ powerR R D (a.e + (bitLen a.n : Int) - 1) ≤ 30000 := by
    clear hsk
    unfold soK powerR widthN
    split <;> simp <;> omega
  obtain ⟨k1, k2, k3, k4, k5, k6, k7, k8⟩ := hpr
  have hL : -68000 ≤ (widthN R : Int) * L ∧ (widthN R : Int) * L ≤ 68000 := by
    unfold widthN
    split <;> simp <;> omega
  have hLD : -68000 ≤ (widthN R : Int) * (L + D - 1) ∧ (widthN R : Int) * (L + D - 1) ≤ 69000 := by
    unfold widthN
    split <;> simp <;> omega
  have t1 := Int.natAbs_tdiv_le_natAbs (a.e + (bitLen a.n : Int) - 1 + 80000) (widthN R : Int)
  have t2 := Int.natAbs_tdiv_le_natAbs (80000 : Int) (widthN R : Int)
  have hz : (Dg.dg 65536 a.n).length = 0 ↔ a.n = 0 := by rw [List.length_eq_zero_iff, Dg.dg_nil_iff _ _ (by omega)]
  obtain ⟨⟨cs, cn, ce⟩, hc⟩ : ∃ t, soC R D L a = t := ⟨_, rfl⟩
  obtain ⟨⟨fs, fn, fe⟩, hf⟩ : ∃ t, soF R D L a = t := ⟨_, rfl⟩
  rw [hc] at hC
  rw [hf] at hF
  simp only at hC
  obtain ⟨⟨⟨ts, tn, te⟩, ok⟩, ht⟩ : ∃ t, soR R D L G gr a = t := ⟨_, rfl⟩
  rw [ht]
  have hone : Dg.dg 65536 1 = [1] := by decide
  have hsoR : soR R D L G gr a = if a.n = 0 then (⟨false, 1, (widthN R : Int) * (if gr = true then L else L + D - 1)⟩, true) else if a.s = true then (soN R D L G gr a, true) else (soC R D L a, inR R D L G gr (soC R D L a).n (soC R D L a).e) := rfl
  have hsoN : soN R D L G gr a = if inR R D L G gr fn fe = true then ⟨fs, fn, fe⟩ else if inR R D L G gr cn ce = true then ⟨cs, cn, ce⟩ else ⟨false, 0, 0⟩ := by
    unfold soN
    rw [hf, hc]
  rw [ht, hsoN, hc] at hsoR
  simp only at hsoR
  clear hsoN
  refine stepOfW R D L G gr a.s ao _ ca a.e (widthN R) (bitLen a.n) _ _ (powerR R D (a.e + (bitLen a.n : Int) - 1)) (soK R D L a.n a.e) ((widthN R : Int) * (if gr = true then L else L + D - 1)) cs cn ce fs fn fe (inR R D L G gr cn ce) (inR R D L G gr fn fe) ts tn te ok w ?_ ?_ ?_ ?_ ?_ ?_ ?_ ?_ ?_ rfl rfl ?_ ?_ ?_ ?_ ?_ rfl ?_ ?_ ?_ ?_ ?_ ?_ ?_ ?_ ?_ ?_ ?_ ?_ ?_ ?_ ?_ ?_ ?_
  · simp
    omega
  · omega
  · exact IntWalk.i64_in _ ⟨by omega, by omega⟩
  · exact IntWalk.i64_in _ ⟨by omega, by omega⟩
  · exact IntWalk.i64_in _ ⟨by omega, by omega⟩
  · exact IntWalk.i64_in _ ⟨by omega, by omega⟩
  · exact IntWalk.i64_in _ ⟨by omega, by omega⟩
  · exact IntWalk.i64_in _ ⟨by omega, by omega⟩
  · exact IntWalk.i64_in _ ⟨by omega, by omega⟩
  · exact IntWalk.i64_in _ ⟨by omega, by omega⟩
  · exact IntWalk.i64_in _ ⟨by omega, by omega⟩
  · exact IntWalk.i64_in _ ⟨by omega, by omega⟩
  · exact IntWalk.i64_in _ ⟨by omega, by omega⟩
  · rw [hsk]
    exact IntWalk.i64_in _ ⟨by omega, by omega⟩
  · exact IntWalk.i64_in _ ⟨by omega, by omega⟩
  · exact IntWalk.i64_in _ ⟨by omega, by omega⟩
  · exact IntWalk.i64_in _ ⟨by omega, by omega⟩
  · intro h
    rw [if_pos h]
  · intro h
    rw [if_neg (by rw [h]; decide)]
  · intro h
    rw [if_pos (hz.1 h)] at hsoR
    simp only [Prod.mk.injEq, Trip.mk.injEq] at hsoR
    exact ⟨hsoR.1.1.symm, hsoR.1.2.1.symm, hsoR.1.2.2.symm, hsoR.2.symm⟩
  · intro h hs
    rw [if_neg (fun c => h (hz.2 c)), if_neg (by rw [hs]; decide)] at hsoR
    simp only [Prod.mk.injEq, Trip.mk.injEq] at hsoR
    exact ⟨hsoR.1.1.symm, hsoR.1.2.1.symm, hsoR.1.2.2.symm, hsoR.2.symm⟩
  · intro h hs h3
    rw [if_neg (fun c => h (hz.2 c)), if_pos hs, if_pos h3] at hsoR
    simp only [Prod.mk.injEq, Trip.mk.injEq] at hsoR
    exact ⟨hsoR.1.1.symm, hsoR.1.2.1.symm, hsoR.1.2.2.symm, hsoR.2.symm⟩
  · intro h hs h3 h4
    rw [if_neg (fun c => h (hz.2 c)), if_pos hs, if_neg (by rw [h3]; decide), if_pos h4] at hsoR
    simp only [Prod.mk.injEq, Trip.mk.injEq] at hsoR
    exact ⟨hsoR.1.1.symm, hsoR.1.2.1.symm, hsoR.1.2.2.symm, hsoR.2.symm⟩
  · intro h hs h3 h4
    rw [if_neg (fun c => h (hz.2 c)), if_pos hs, if_neg (by rw [h3]; decide), if_neg (by rw [h4]; decide)] at hsoR
    simp only [Prod.mk.injEq, Trip.mk.injEq] at hsoR
    exact ⟨hsoR.1.1.symm, hsoR.1.2.1.symm, hsoR.1.2.2.symm, hsoR.2.symm⟩
  · intro w1
    have := refWidth_any R D L G gr w1
    rwa [widthR_nat] at this
  · intro w1 b
    have := reflen_any _ _ w1 (hr.later b) (Dg.small_dg _ _ (by omega)) (Dg.norm_dg _ _ (by omega)) (by omega)
    rw [Dg.vl_dg _ _ (by omega)] at this
    refine this.mono ?_
    rintro z w' ⟨rfl, rfl⟩
    exact ⟨rfl, Below.refl _ _⟩
  · intro h o c w1 b r
    have := refdplus_far _ _ a ⟨false, 1, (widthN R : Int) * soK R D L a.n a.e⟩ w1 ⟨_, rfl, hr.later b⟩ ⟨_, rfl, by rw [hone]; exact r⟩ (by omega) (by rw [hone]; simp) (by omega) (by omega) (by simp only; omega) (by simp only; omega)
    rwa [show bare (dplusT a ⟨false, 1, (widthN R : Int) * soK R D L a.n a.e⟩) = ⟨cs, cn, ce⟩ from hc] at this
  · intro h hs o c w1 b r
    have := refdplus_far _ _ a ⟨false, 1, (widthN R : Int) * (soK R D L a.n a.e - 1)⟩ w1 ⟨_, rfl, hr.later b⟩ ⟨_, rfl, by rw [hone]; exact r⟩ (by omega) (by rw [hone]; simp) (by omega) (by omega) (by simp only; omega) (by simp only; omega)
    rwa [show bare (dplusT a ⟨false, 1, (widthN R : Int) * (soK R D L a.n a.e - 1)⟩) = ⟨fs, fn, fe⟩ from hf] at this
  · intro h co cc w1 r
    obtain ⟨c1, c2, c3⟩ := hC h
    exact inGrid_any R D L G gr _ ⟨cs, cn, ce⟩ w1 hg ⟨_, rfl, r⟩ (by simp only; omega) (by simp only; omega) (by simp only; omega)
  · intro h hs fo fc w1 r
    obtain ⟨e1, -⟩ := hF h hs
    rw [← e1] at hF2
    simp only at hF2
    exact inGrid_any R D L G gr _ ⟨fs, fn, fe⟩ w1 hg ⟨_, rfl, r⟩ (by simp only; omega) (by simp only; omega) (by simp only; omega)
  · intro h hs fo fc w1 b r
    obtain ⟨e1, e2⟩ := hF h hs
    have hl := hless h e2
    rw [← e1] at hF2 hl
    simp only at hF2
    have := refdcmp_any _ _ a ⟨fs, fn, fe⟩ w1 ⟨_, rfl, hr.later b⟩ ⟨_, rfl, r⟩ (by omega) (by simp only; omega) (by omega) (by omega) (by simp only; omega) (by simp only; omega)
    rwa [hl] at this
end Go.Proofs.YtmjhlflemfkflaaDoor
/-
  Grids: the walk of GridSteps.
-/
namespace Go.Proofs.YtmjhlflemfkflaaDoor
open Go.RowKit

set_option maxRecDepth 100000 in
set_option maxHeartbeats 12800000 in
theorem gridStepsW (R D L G : Int) (gr s up : Bool) (ao : Option Addr) (la ca : Nat) (e : Int) (ys : Bool) (yn : Nat) (ye yc c : Int) (hb : Bool) (as0 as1 : Bool) (an : Nat) (ae : Int) (bs0 bs1 : Bool) (bn : Nat) (be : Int) (ok : Bool) (w : World)
    (HA : up = true → as0 = as1 ∧ bs0 = bs1)
    (HS : ∀ w1, Below w.heap.size w w1 → Calls Tryd.prog 27 #[.agg #[.bool s, .slice ao la ca, .int .i64 e], .agg #[.int .i64 R, .int .i64 D, .int .i64 L, .int .i64 G, .bool gr], .bool up] w1 (DAns w1 (⟨ys, yn, ye⟩, yc)))
    (HON : ∀ w1, Below w.heap.size w w1 → Calls Tryd.prog 24 #[.agg #[.bool s, .slice ao la ca, .int .i64 e], .agg #[.int .i64 R, .int .i64 D, .int .i64 L, .int .i64 G, .bool gr]] w1 fun z w' => z = .returned (.int .i64 c) ∧ Below w1.heap.size w1 w')
    (HBG : ∀ w1, Calls Tryd.prog 21 #[] w1 fun z w' => z = .returned (.bool true) ∧ Below w1.heap.size w1 w')
    (HOD : c = 0 → ∀ w1, Below w.heap.size w w1 → Calls Tryd.prog 26 #[.agg #[.bool s, .slice ao la ca, .int .i64 e]] w1 (RDResF w1 ⟨as0, an, ae⟩))
    (HIN : c = 0 → ∀ ro rc w1, Rd w1 .i64 (.slice ro (Dg.dg 65536 an).length rc) (Dg.dg 65536 an) → Calls Tryd.prog 25 #[.agg #[.bool as0, .slice ro (Dg.dg 65536 an).length rc, .int .i64 ae], .agg #[.int .i64 R, .int .i64 D, .int .i64 L, .int .i64 G, .bool gr]] w1 fun z w' => z = .returned (.bool hb) ∧ Below w1.heap.size w1 w')
    (HM1 : up = false → ∀ ro rc w1, Rd w1 .i64 (.slice ro (Dg.dg 65536 an).length rc) (Dg.dg 65536 an) → Calls Tryd.prog 28 #[.agg #[.bool as0, .slice ro (Dg.dg 65536 an).length rc, .int .i64 ae]] w1 fun z w' => z = .returned (.agg #[.bool as1, .slice ro (Dg.dg 65536 an).length rc, .int .i64 ae]) ∧ Below w1.heap.size w1 w')
    (HSO : c = 0 → hb = true → ∀ ro rc w1, Rd w1 .i64 (.slice ro (Dg.dg 65536 an).length rc) (Dg.dg 65536 an) → Calls Tryd.prog 29 #[.agg #[.bool as1, .slice ro (Dg.dg 65536 an).length rc, .int .i64 ae], .agg #[.int .i64 R, .int .i64 D, .int .i64 L, .int .i64 G, .bool gr]] w1 (SORes w1 ⟨bs0, bn, be⟩ ok))
    (HM2 : up = false → ∀ so sc w1, Rd w1 .i64 (.slice so (Dg.dg 65536 bn).length sc) (Dg.dg 65536 bn) → Calls Tryd.prog 28 #[.agg #[.bool bs0, .slice so (Dg.dg 65536 bn).length sc, .int .i64 be]] w1 fun z w' => z = .returned (.agg #[.bool bs1, .slice so (Dg.dg 65536 bn).length sc, .int .i64 be]) ∧ Below w1.heap.size w1 w')
    (HD0 : ¬c = 0 → ∀ yo yk w1, Rd w1 .u32 (.slice yo (Dg.dg 4294967296 yn).length yk) (Dg.dg 4294967296 yn) → Calls Tryd.prog 22 #[.agg #[.bool ys, .slice yo (Dg.dg 4294967296 yn).length yk, .int .i64 ye], .int .i64 yc, .int .i64 c, .agg #[.bool false, .slice none 0 0, .int .i64 0]] w1 fun z w' => z = .returned (.bool true) ∧ Below w1.heap.size w1 w')
    (HD4 : c = 0 → hb = false → ∀ yo yk w1, Rd w1 .u32 (.slice yo (Dg.dg 4294967296 yn).length yk) (Dg.dg 4294967296 yn) → Calls Tryd.prog 22 #[.agg #[.bool ys, .slice yo (Dg.dg 4294967296 yn).length yk, .int .i64 ye], .int .i64 yc, .int .i64 4, .agg #[.bool false, .slice none 0 0, .int .i64 0]] w1 fun z w' => z = .returned (.bool true) ∧ Below w1.heap.size w1 w')
    (HD1 : c = 0 → hb = true → ok = true → ∀ yo yk so sc w1, Rd w1 .u32 (.slice yo (Dg.dg 4294967296 yn).length yk) (Dg.dg 4294967296 yn) → Rd w1 .i64 (.slice so (Dg.dg 65536 bn).length sc) (Dg.dg 65536 bn) → Calls Tryd.prog 22 #[.agg #[.bool ys, .slice yo (Dg.dg 4294967296 yn).length yk, .int .i64 ye], .int .i64 yc, .int .i64 0, .agg #[.bool bs1, .slice so (Dg.dg 65536 bn).length sc, .int .i64 be]] w1 fun z w' => z = .returned (.bool true) ∧ Below w1.heap.size w1 w')
    (HD5 : c = 0 → hb = true → ok = false → ∀ yo yk so sc w1, Rd w1 .u32 (.slice yo (Dg.dg 4294967296 yn).length yk) (Dg.dg 4294967296 yn) → Rd w1 .i64 (.slice so (Dg.dg 65536 bn).length sc) (Dg.dg 65536 bn) → Calls Tryd.prog 22 #[.agg #[.bool ys, .slice yo (Dg.dg 4294967296 yn).length yk, .int .i64 ye], .int .i64 yc, .int .i64 5, .agg #[.bool bs1, .slice so (Dg.dg 65536 bn).length sc, .int .i64 be]] w1 fun z w' => z = .returned (.bool true) ∧ Below w1.heap.size w1 w') :
    Calls Tryd.prog 6 #[.agg #[.bool s, .slice ao la ca, .int .i64 e], .agg #[.int .i64 R, .int .i64 D, .int .i64 L, .int .i64 G, .bool gr], .bool up] w fun z w' => z = .returned (.bool true) ∧ Below w.heap.size w w' := by
  replace HA : Hid _ := HA
  replace HS : Hid _ := HS
  replace HON : Hid _ := HON
  replace HBG : Hid _ := HBG
  replace HOD : Hid _ := HOD
  replace HIN : Hid _ := HIN
  replace HM1 : Hid _ := HM1
  replace HSO : Hid _ := HSO
  replace HM2 : Hid _ := HM2
  replace HD0 : Hid _ := HD0
  replace HD4 : Hid _ := HD4
  replace HD1 : Hid _ := HD1
  replace HD5 : Hid _ := HD5
  have b1 := below_trans (below_alloc w (.cells #[.bool s, .slice ao la ca, .int .i64 e] 25)) (below_alloc _ (.cells #[.int .i64 R, .int .i64 D, .int .i64 L, .int .i64 G, .bool gr] 39))
  have q1 := (locE_new w [.bool s, .slice ao la ca, .int .i64 e] 25).later (below_alloc _ (.cells #[.int .i64 R, .int .i64 D, .int .i64 L, .int .i64 G, .bool gr] 39))
  have g1 := locE_new (w.alloc (.cells #[.bool s, .slice ao la ca, .int .i64 e] 25)) [.int .i64 R, .int .i64 D, .int .i64 L, .int .i64 G, .bool gr] 39
  simp only [World.size_alloc] at g1
  have x0 := g1.cell 0 rfl
  have x1 := g1.cell 1 rfl
  have x2 := g1.cell 2 rfl
  have x3 := g1.cell 3 rfl
  have x4 := g1.cell 4 rfl
  have y0 := q1.cell 0 rfl
  have y1 := q1.cell 1 rfl
  have y2 := q1.cell 2 rfl
  go_enter Tryd.func6, Tryd.ntmps6
  go_wp2_with fail
  refine (HS.out _ b1).mono ?_
  rintro z w2 ⟨v2, rfl, o2, bb2⟩
  obtain ⟨yo, yk, hv2⟩ := o2.rd.shape
  subst hv2
  have r2 := o2.rd
  simp only at r2 ⊢
  clear o2 HS x0 x1 x2 x3 x4 y0 y1 y2
  have q_2 := q1.later bb2
  have g_2 := g1.later bb2
  have b0_2 := below_trans b1 bb2
  clear q1 g1 b1 bb2
  have al_PY := below_alloc w2 (.cells #[.bool ys, .slice yo (Dg.dg 4294967296 yn).length yk, .int .i64 ye] 25)
  have ln_PY := locE_new w2 [.bool ys, .slice yo (Dg.dg 4294967296 yn).length yk, .int .i64 ye] 25
  have hPY : w.heap.size + 1 < w2.heap.size := g_2.lt
  have q_3 := q_2.later al_PY
  have g_3 := g_2.later al_PY
  have ry_3 := r2.later al_PY
  have b0_3 := below_trans b0_2 al_PY
  clear q_2 g_2 r2 b0_2 al_PY
  go_upto_region 2 with fail
  generalize w2.alloc (.cells #[.bool ys, .slice yo (Dg.dg 4294967296 yn).length yk, .int .i64 ye] 25) = W2 at q_3 g_3 ry_3 ln_PY b0_3 ⊢
  generalize w2.heap.size = PY at ln_PY hPY ⊢
  have x0 := g_3.cell 0 rfl
  have x1 := g_3.cell 1 rfl
  have x2 := g_3.cell 2 rfl
  have x3 := g_3.cell 3 rfl
  have x4 := g_3.cell 4 rfl
  have y0 := q_3.cell 0 rfl
  have y1 := q_3.cell 1 rfl
  have y2 := q_3.cell 2 rfl
  go_wp2_with fail
  refine (HON.out _ b0_3).mono ?_
  rintro z w3 ⟨rfl, bb3⟩
  clear HON x0 x1 x2 x3 x4 y0 y1 y2
  have q_4 := q_3.later bb3
  have g_4 := g_3.later bb3
  have ry_4 := ry_3.later bb3
  have y_4 := ln_PY.later bb3
  have b0_4 := below_trans b0_3 bb3
  clear q_3 g_3 ry_3 ln_PY b0_3 bb3
  have al_PA := below_alloc w3 (.cells #[.bool false, .slice none 0 0, .int .i64 0] 46)
  have ln_PA := locE_new w3 [.bool false, .slice none 0 0, .int .i64 0] 46
  have hPA : PY < w3.heap.size := y_4.lt
  have q_5 := q_4.later al_PA
  have g_5 := g_4.later al_PA
  have ry_5 := ry_4.later al_PA
  have y_5 := y_4.later al_PA
  have b0_5 := below_trans b0_4 al_PA
  clear q_4 g_4 ry_4 y_4 b0_4 al_PA
  go_upto_region 4 with fail
  generalize w3.alloc (.cells #[.bool false, .slice none 0 0, .int .i64 0] 46) = W3 at q_5 g_5 ry_5 y_5 ln_PA b0_5 ⊢
  generalize w3.heap.size = PA at ln_PA hPA ⊢
  by_cases hc : c = 0
  · subst hc
    replace HOD : Hid _ := HOD.out rfl
    replace HIN : Hid _ := HIN.out rfl
    replace HSO : Hid _ := HSO.out rfl
    replace HD4 : Hid _ := HD4.out rfl
    replace HD1 : Hid _ := HD1.out rfl
    replace HD5 : Hid _ := HD5.out rfl
    clear HD0
    have y0 := q_5.cell 0 rfl
    have y1 := q_5.cell 1 rfl
    have y2 := q_5.cell 2 rfl
    go_wp2_with fail
    refine (HOD.out _ b0_5).mono ?_
    rintro z w4 ⟨v4, rfl, r4, fa, bb4⟩
    obtain ⟨ro, rc, hv4⟩ := r4.shape
    subst hv4
    simp only at r4 fa ⊢
    have ltA : PA < W3.heap.size := ln_PA.lt
    clear HOD y0 y1 y2
    have q_101 := q_5.later bb4
    have g_101 := g_5.later bb4
    have ry_101 := ry_5.later bb4
    have y_101 := y_5.later bb4
    have a_101 := ln_PA.later bb4
    have b0_101 := below_trans b0_5 bb4
    clear q_5 g_5 ry_5 y_5 ln_PA b0_5 bb4
    have st0 := a_101.cell 0 rfl
    have sf0 := a_101.free 0
    have st1 := a_101.cell 1 rfl
    have sf1 := a_101.free 1
    have st2 := a_101.cell 2 rfl
    have sf2 := a_101.free 2
    go_upto_region 6 with fail
    have bu : But PA w4 (((w4.setCell ⟨PA, 0, none⟩ (.bool as0)).setCell ⟨PA, 1, none⟩ (.slice ro (Dg.dg 65536 an).length rc)).setCell ⟨PA, 2, none⟩ (.int .i64 ae)) := ((but_set w4 PA 0 (.bool as0)).trans (but_set _ PA 1 (.slice ro (Dg.dg 65536 an).length rc))).trans (but_set _ PA 2 (.int .i64 ae))
    have q_s102 := bu.loc q_101 (by omega)
    have g_s102 := bu.loc g_101 (by omega)
    have ry_s102 := bu.rd ry_101 (rd_offU ry_101 a_101 (by simp))
    have y_s102 := bu.loc y_101 (by omega)
    have a_s102 : LocE (((w4.setCell ⟨PA, 0, none⟩ (.bool as0)).setCell ⟨PA, 1, none⟩ (.slice ro (Dg.dg 65536 an).length rc)).setCell ⟨PA, 2, none⟩ (.int .i64 ae)) PA 46 [.bool as0, .slice ro (Dg.dg 65536 an).length rc, .int .i64 ae] := ((a_101.set 0 (.bool as0)).set 1 (.slice ro (Dg.dg 65536 an).length rc)).set 2 (.int .i64 ae)
    have ra_s102 := bu.rd r4 (far_off fa (by omega))
    have b0_s102 := bu.below b0_101 (by omega)
    generalize (((w4.setCell ⟨PA, 0, none⟩ (.bool as0)).setCell ⟨PA, 1, none⟩ (.slice ro (Dg.dg 65536 an).length rc)).setCell ⟨PA, 2, none⟩ (.int .i64 ae)) = W4 at q_s102 g_s102 ry_s102 y_s102 a_s102 ra_s102 b0_s102 ⊢
    clear bu st0 st1 st2 sf0 sf1 sf2 q_101 g_101 ry_101 y_101 a_101 r4 b0_101
    have x0 := g_s102.cell 0 rfl
    have x1 := g_s102.cell 1 rfl
    have x2 := g_s102.cell 2 rfl
    have x3 := g_s102.cell 3 rfl
    have x4 := g_s102.cell 4 rfl
    have y0 := a_s102.cell 0 rfl
    have y1 := a_s102.cell 1 rfl
    have y2 := a_s102.cell 2 rfl
    go_wp2_with fail
    refine (HIN.out _ _ _ ra_s102).mono ?_
    rintro z w5 ⟨rfl, bb5⟩
    clear HIN x0 x1 x2 x3 x4 y0 y1 y2
    have q_103 := q_s102.later bb5
    have g_103 := g_s102.later bb5
    have ry_103 := ry_s102.later bb5
    have y_103 := y_s102.later bb5
    have a_103 := a_s102.later bb5
    have ra_103 := ra_s102.later bb5
    have b0_103 := below_trans b0_s102 bb5
    clear q_s102 g_s102 ry_s102 y_s102 a_s102 ra_s102 b0_s102 bb5
    cases hb
    · replace HD4 : Hid _ := HD4.out rfl
      clear HA HM1 HSO HM2 HD1 HD5 fa
      have al_PW := below_alloc w5 (.cells #[.bool false, .slice none 0 0, .int .i64 0] 46)
      have ln_PW := locE_new w5 [.bool false, .slice none 0 0, .int .i64 0] 46
      have hPW : PA < w5.heap.size := a_103.lt
      have q_201 := q_103.later al_PW
      have g_201 := g_103.later al_PW
      have ry_201 := ry_103.later al_PW
      have y_201 := y_103.later al_PW
      have a_201 := a_103.later al_PW
      have b0_201 := below_trans b0_103 al_PW
      clear q_103 g_103 ry_103 y_103 a_103 b0_103 al_PW
      go_upto_region 9 with fail
      generalize w5.alloc (.cells #[.bool false, .slice none 0 0, .int .i64 0] 46) = W5 at q_201 g_201 ry_201 y_201 a_201 ln_PW b0_201 ⊢
      generalize w5.heap.size = PW at ln_PW hPW ⊢
      go_wp2_with fail
      refine (HBG.out _).mono ?_
      rintro z wg ⟨rfl, bbg⟩
      clear HBG
      have q_202 := q_201.later bbg
      have g_202 := g_201.later bbg
      have ry_202 := ry_201.later bbg
      have y_202 := y_201.later bbg
      have a_202 := a_201.later bbg
      have w_202 := ln_PW.later bbg
      have b0_202 := below_trans b0_201 bbg
      clear q_201 g_201 ry_201 y_201 a_201 ln_PW b0_201 bbg
      have y0 := y_202.cell 0 rfl
      have y1 := y_202.cell 1 rfl
      have y2 := y_202.cell 2 rfl
      have x0 := w_202.cell 0 rfl
      have x1 := w_202.cell 1 rfl
      have x2 := w_202.cell 2 rfl
      go_wp2_with fail
      refine (HD4.out _ _ _ ry_202).mono ?_
      rintro z wh ⟨rfl, bbh⟩
      have bE := below_trans b0_202 bbh
      go_wp2
      go_ret
      exact ⟨rfl, bE⟩
    · replace HSO : Hid _ := HSO.out rfl
      replace HD1 : Hid _ := HD1.out rfl
      replace HD5 : Hid _ := HD5.out rfl
      clear HD4
      have al_PW := below_alloc w5 (.cells #[.bool false, .slice none 0 0, .int .i64 0] 46)
      have ln_PW := locE_new w5 [.bool false, .slice none 0 0, .int .i64 0] 46
      have hPW : PA < w5.heap.size := a_103.lt
      have q_301 := q_103.later al_PW
      have g_301 := g_103.later al_PW
      have ry_301 := ry_103.later al_PW
      have y_301 := y_103.later al_PW
      have a_301 := a_103.later al_PW
      have ra_301 := ra_103.later al_PW
      have b0_301 := below_trans b0_103 al_PW
      clear q_103 g_103 ry_103 y_103 a_103 ra_103 b0_103 al_PW
      go_upto_region 9 with fail
      generalize w5.alloc (.cells #[.bool false, .slice none 0 0, .int .i64 0] 46) = W5 at q_301 g_301 ry_301 y_301 a_301 ra_301 ln_PW b0_301 ⊢
      generalize w5.heap.size = PW at ln_PW hPW ⊢
      cases up
      · replace HM1 : Hid _ := HM1.out rfl
        replace HM2 : Hid _ := HM2.out rfl
        clear HA
        have y0 := a_301.cell 0 rfl
        have y1 := a_301.cell 1 rfl
        have y2 := a_301.cell 2 rfl
        go_wp2_with fail
        refine (HM1.out _ _ _ ra_301).mono ?_
        rintro z w6 ⟨rfl, bb6⟩
        clear HM1 y0 y1 y2
        have q_401 := q_301.later bb6
        have g_401 := g_301.later bb6
        have ry_401 := ry_301.later bb6
        have y_401 := y_301.later bb6
        have a_401 := a_301.later bb6
        have ra_401 := ra_301.later bb6
        have w_401 := ln_PW.later bb6
        have b0_401 := below_trans b0_301 bb6
        clear q_301 g_301 ry_301 y_301 a_301 ra_301 ln_PW b0_301 bb6
        have st0 := a_401.cell 0 rfl
        have sf0 := a_401.free 0
        have st1 := a_401.cell 1 rfl
        have sf1 := a_401.free 1
        have st2 := a_401.cell 2 rfl
        have sf2 := a_401.free 2
        go_upto_region 12 with fail
        have bu : But PA w6 (((w6.setCell ⟨PA, 0, none⟩ (.bool as1)).setCell ⟨PA, 1, none⟩ (.slice ro (Dg.dg 65536 an).length rc)).setCell ⟨PA, 2, none⟩ (.int .i64 ae)) := ((but_set w6 PA 0 (.bool as1)).trans (but_set _ PA 1 (.slice ro (Dg.dg 65536 an).length rc))).trans (but_set _ PA 2 (.int .i64 ae))
        have q_s402 := bu.loc q_401 (by omega)
        have g_s402 := bu.loc g_401 (by omega)
        have ry_s402 := bu.rd ry_401 (rd_offU ry_401 a_401 (by simp))
        have y_s402 := bu.loc y_401 (by omega)
        have a_s402 : LocE (((w6.setCell ⟨PA, 0, none⟩ (.bool as1)).setCell ⟨PA, 1, none⟩ (.slice ro (Dg.dg 65536 an).length rc)).setCell ⟨PA, 2, none⟩ (.int .i64 ae)) PA 46 [.bool as1, .slice ro (Dg.dg 65536 an).length rc, .int .i64 ae] := ((a_401.set 0 (.bool as1)).set 1 (.slice ro (Dg.dg 65536 an).length rc)).set 2 (.int .i64 ae)
        have ra_s402 := bu.rd ra_401 (far_off fa (by omega))
        have w_s402 := bu.loc w_401 (by omega)
        have b0_s402 := bu.below b0_401 (by omega)
        generalize (((w6.setCell ⟨PA, 0, none⟩ (.bool as1)).setCell ⟨PA, 1, none⟩ (.slice ro (Dg.dg 65536 an).length rc)).setCell ⟨PA, 2, none⟩ (.int .i64 ae)) = W6 at q_s402 g_s402 ry_s402 y_s402 a_s402 ra_s402 w_s402 b0_s402 ⊢
        clear bu st0 st1 st2 sf0 sf1 sf2 q_401 g_401 ry_401 y_401 a_401 ra_401 w_401 b0_401
        have x0 := g_s402.cell 0 rfl
        have x1 := g_s402.cell 1 rfl
        have x2 := g_s402.cell 2 rfl
        have x3 := g_s402.cell 3 rfl
        have x4 := g_s402.cell 4 rfl
        have y0 := a_s402.cell 0 rfl
        have y1 := a_s402.cell 1 rfl
        have y2 := a_s402.cell 2 rfl
        go_wp2_with fail
        refine (HSO.out _ _ _ ra_s402).mono ?_
        rintro z w7 ⟨v7, rfl, r7, fb, bb7⟩
        obtain ⟨so, sc, hv7⟩ := r7.shape
        subst hv7
        simp only at r7 fb ⊢
        have ltW : PW < W6.heap.size := w_s402.lt
        clear HSO x0 x1 x2 x3 x4 y0 y1 y2
        have q_403 := q_s402.later bb7
        have g_403 := g_s402.later bb7
        have ry_403 := ry_s402.later bb7
        have y_403 := y_s402.later bb7
        have a_403 := a_s402.later bb7
        have w_403 := w_s402.later bb7
        have b0_403 := below_trans b0_s402 bb7
        clear q_s402 g_s402 ry_s402 y_s402 a_s402 w_s402 b0_s402 bb7
        have al_PB := below_alloc w7 (.cells #[.bool bs0, .slice so (Dg.dg 65536 bn).length sc, .int .i64 be] 46)
        have ln_PB := locE_new w7 [.bool bs0, .slice so (Dg.dg 65536 bn).length sc, .int .i64 be] 46
        have hPB : PW < w7.heap.size := w_403.lt
        have q_404 := q_403.later al_PB
        have g_404 := g_403.later al_PB
        have ry_404 := ry_403.later al_PB
        have y_404 := y_403.later al_PB
        have a_404 := a_403.later al_PB
        have w_404 := w_403.later al_PB
        have rb_404 := r7.later al_PB
        have b0_404 := below_trans b0_403 al_PB
        clear q_403 g_403 ry_403 y_403 a_403 w_403 r7 b0_403 al_PB
        go_upto_region 13 with fail
        generalize w7.alloc (.cells #[.bool bs0, .slice so (Dg.dg 65536 bn).length sc, .int .i64 be] 46) = W7 at q_404 g_404 ry_404 y_404 a_404 w_404 rb_404 ln_PB b0_404 ⊢
        generalize w7.heap.size = PB at ln_PB hPB ⊢
        have y0 := ln_PB.cell 0 rfl
        have y1 := ln_PB.cell 1 rfl
        have y2 := ln_PB.cell 2 rfl
        have st0 := w_404.cell 0 rfl
        have sf0 := w_404.free 0
        have st1 := w_404.cell 1 rfl
        have sf1 := w_404.free 1
        have st2 := w_404.cell 2 rfl
        have sf2 := w_404.free 2
        go_upto_region 14 with fail
        have bu : But PW W7 (((W7.setCell ⟨PW, 0, none⟩ (.bool bs0)).setCell ⟨PW, 1, none⟩ (.slice so (Dg.dg 65536 bn).length sc)).setCell ⟨PW, 2, none⟩ (.int .i64 be)) := ((but_set W7 PW 0 (.bool bs0)).trans (but_set _ PW 1 (.slice so (Dg.dg 65536 bn).length sc))).trans (but_set _ PW 2 (.int .i64 be))
        have q_s405 := bu.loc q_404 (by omega)
        have g_s405 := bu.loc g_404 (by omega)
        have ry_s405 := bu.rd ry_404 (rd_offU ry_404 w_404 (by simp))
        have y_s405 := bu.loc y_404 (by omega)
        have a_s405 := bu.loc a_404 (by omega)
        have w_s405 : LocE (((W7.setCell ⟨PW, 0, none⟩ (.bool bs0)).setCell ⟨PW, 1, none⟩ (.slice so (Dg.dg 65536 bn).length sc)).setCell ⟨PW, 2, none⟩ (.int .i64 be)) PW 46 [.bool bs0, .slice so (Dg.dg 65536 bn).length sc, .int .i64 be] := ((w_404.set 0 (.bool bs0)).set 1 (.slice so (Dg.dg 65536 bn).length sc)).set 2 (.int .i64 be)
        have rb_s405 := bu.rd rb_404 (far_off fb (by omega))
        have b_s405 := bu.loc ln_PB (by omega)
        have b0_s405 := bu.below b0_404 (by omega)
        generalize (((W7.setCell ⟨PW, 0, none⟩ (.bool bs0)).setCell ⟨PW, 1, none⟩ (.slice so (Dg.dg 65536 bn).length sc)).setCell ⟨PW, 2, none⟩ (.int .i64 be)) = W8 at q_s405 g_s405 ry_s405 y_s405 a_s405 w_s405 rb_s405 b_s405 b0_s405 ⊢
        clear bu st0 st1 st2 sf0 sf1 sf2 q_404 g_404 ry_404 y_404 a_404 w_404 rb_404 ln_PB b0_404
        clear y0 y1 y2
        have y0 := b_s405.cell 0 rfl
        have y1 := b_s405.cell 1 rfl
        have y2 := b_s405.cell 2 rfl
        go_wp2_with fail
        refine (HM2.out _ _ _ rb_s405).mono ?_
        rintro z w9 ⟨rfl, bb9⟩
        clear HM2 y0 y1 y2
        have q_406 := q_s405.later bb9
        have g_406 := g_s405.later bb9
        have ry_406 := ry_s405.later bb9
        have y_406 := y_s405.later bb9
        have a_406 := a_s405.later bb9
        have w_406 := w_s405.later bb9
        have rb_406 := rb_s405.later bb9
        have b_406 := b_s405.later bb9
        have b0_406 := below_trans b0_s405 bb9
        clear q_s405 g_s405 ry_s405 y_s405 a_s405 w_s405 rb_s405 b_s405 b0_s405 bb9
        have st0 := w_406.cell 0 rfl
        have sf0 := w_406.free 0
        have st1 := w_406.cell 1 rfl
        have sf1 := w_406.free 1
        have st2 := w_406.cell 2 rfl
        have sf2 := w_406.free 2
        go_upto_region 16 with fail
        have bu : But PW w9 (((w9.setCell ⟨PW, 0, none⟩ (.bool bs1)).setCell ⟨PW, 1, none⟩ (.slice so (Dg.dg 65536 bn).length sc)).setCell ⟨PW, 2, none⟩ (.int .i64 be)) := ((but_set w9 PW 0 (.bool bs1)).trans (but_set _ PW 1 (.slice so (Dg.dg 65536 bn).length sc))).trans (but_set _ PW 2 (.int .i64 be))
        have q_s407 := bu.loc q_406 (by omega)
        have g_s407 := bu.loc g_406 (by omega)
        have ry_s407 := bu.rd ry_406 (rd_offU ry_406 w_406 (by simp))
        have y_s407 := bu.loc y_406 (by omega)
        have a_s407 := bu.loc a_406 (by omega)
        have w_s407 : LocE (((w9.setCell ⟨PW, 0, none⟩ (.bool bs1)).setCell ⟨PW, 1, none⟩ (.slice so (Dg.dg 65536 bn).length sc)).setCell ⟨PW, 2, none⟩ (.int .i64 be)) PW 46 [.bool bs1, .slice so (Dg.dg 65536 bn).length sc, .int .i64 be] := ((w_406.set 0 (.bool bs1)).set 1 (.slice so (Dg.dg 65536 bn).length sc)).set 2 (.int .i64 be)
        have rb_s407 := bu.rd rb_406 (far_off fb (by omega))
        have b_s407 := bu.loc b_406 (by omega)
        have b0_s407 := bu.below b0_406 (by omega)
        generalize (((w9.setCell ⟨PW, 0, none⟩ (.bool bs1)).setCell ⟨PW, 1, none⟩ (.slice so (Dg.dg 65536 bn).length sc)).setCell ⟨PW, 2, none⟩ (.int .i64 be)) = W9 at q_s407 g_s407 ry_s407 y_s407 a_s407 w_s407 rb_s407 b_s407 b0_s407 ⊢
        clear bu st0 st1 st2 sf0 sf1 sf2 q_406 g_406 ry_406 y_406 a_406 w_406 rb_406 b_406 b0_406
        cases ok
        · replace HD5 : Hid _ := HD5.out rfl
          go_wp2_with fail
          refine (HBG.out _).mono ?_
          rintro z wg ⟨rfl, bbg⟩
          clear HBG
          have q_458 := q_s407.later bbg
          have g_458 := g_s407.later bbg
          have ry_458 := ry_s407.later bbg
          have y_458 := y_s407.later bbg
          have a_458 := a_s407.later bbg
          have w_458 := w_s407.later bbg
          have rb_458 := rb_s407.later bbg
          have b_458 := b_s407.later bbg
          have b0_458 := below_trans b0_s407 bbg
          clear q_s407 g_s407 ry_s407 y_s407 a_s407 w_s407 rb_s407 b_s407 b0_s407 bbg
          have y0 := y_458.cell 0 rfl
          have y1 := y_458.cell 1 rfl
          have y2 := y_458.cell 2 rfl
          have x0 := w_458.cell 0 rfl
          have x1 := w_458.cell 1 rfl
          have x2 := w_458.cell 2 rfl
          go_wp2_with fail
          refine (HD5.out _ _ _ _ _ ry_458 rb_458).mono ?_
          rintro z wh ⟨rfl, bbh⟩
          have bE := below_trans b0_458 bbh
          go_wp2
          go_ret
          exact ⟨rfl, bE⟩
        · replace HD1 : Hid _ := HD1.out rfl
          go_wp2_with fail
          refine (HBG.out _).mono ?_
          rintro z wg ⟨rfl, bbg⟩
          clear HBG
          have q_458 := q_s407.later bbg
          have g_458 := g_s407.later bbg
          have ry_458 := ry_s407.later bbg
          have y_458 := y_s407.later bbg
          have a_458 := a_s407.later bbg
          have w_458 := w_s407.later bbg
          have rb_458 := rb_s407.later bbg
          have b_458 := b_s407.later bbg
          have b0_458 := below_trans b0_s407 bbg
          clear q_s407 g_s407 ry_s407 y_s407 a_s407 w_s407 rb_s407 b_s407 b0_s407 bbg
          have y0 := y_458.cell 0 rfl
          have y1 := y_458.cell 1 rfl
          have y2 := y_458.cell 2 rfl
          have x0 := w_458.cell 0 rfl
          have x1 := w_458.cell 1 rfl
          have x2 := w_458.cell 2 rfl
          go_wp2_with fail
          refine (HD1.out _ _ _ _ _ ry_458 rb_458).mono ?_
          rintro z wh ⟨rfl, bbh⟩
          have bE := below_trans b0_458 bbh
          go_wp2
          go_ret
          exact ⟨rfl, bE⟩
      · obtain ⟨h1, h2⟩ := HA.out rfl
        subst h1 h2
        clear HA HM1 HM2
        have x0 := g_301.cell 0 rfl
        have x1 := g_301.cell 1 rfl
        have x2 := g_301.cell 2 rfl
        have x3 := g_301.cell 3 rfl
        have x4 := g_301.cell 4 rfl
        have y0 := a_301.cell 0 rfl
        have y1 := a_301.cell 1 rfl
        have y2 := a_301.cell 2 rfl
        go_wp2_with fail
        refine (HSO.out _ _ _ ra_301).mono ?_
        rintro z w7 ⟨v7, rfl, r7, fb, bb7⟩
        obtain ⟨so, sc, hv7⟩ := r7.shape
        subst hv7
        simp only at r7 fb ⊢
        have ltW : PW < W5.heap.size := ln_PW.lt
        clear HSO x0 x1 x2 x3 x4 y0 y1 y2
        have q_501 := q_301.later bb7
        have g_501 := g_301.later bb7
        have ry_501 := ry_301.later bb7
        have y_501 := y_301.later bb7
        have a_501 := a_301.later bb7
        have w_501 := ln_PW.later bb7
        have b0_501 := below_trans b0_301 bb7
        clear q_301 g_301 ry_301 y_301 a_301 ln_PW b0_301 bb7
        have al_PB := below_alloc w7 (.cells #[.bool bs0, .slice so (Dg.dg 65536 bn).length sc, .int .i64 be] 46)
        have ln_PB := locE_new w7 [.bool bs0, .slice so (Dg.dg 65536 bn).length sc, .int .i64 be] 46
        have hPB : PW < w7.heap.size := w_501.lt
        have q_502 := q_501.later al_PB
        have g_502 := g_501.later al_PB
        have ry_502 := ry_501.later al_PB
        have y_502 := y_501.later al_PB
        have a_502 := a_501.later al_PB
        have w_502 := w_501.later al_PB
        have rb_502 := r7.later al_PB
        have b0_502 := below_trans b0_501 al_PB
        clear q_501 g_501 ry_501 y_501 a_501 w_501 r7 b0_501 al_PB
        go_upto_region 13 with fail
        generalize w7.alloc (.cells #[.bool bs0, .slice so (Dg.dg 65536 bn).length sc, .int .i64 be] 46) = W7 at q_502 g_502 ry_502 y_502 a_502 w_502 rb_502 ln_PB b0_502 ⊢
        generalize w7.heap.size = PB at ln_PB hPB ⊢
        have y0 := ln_PB.cell 0 rfl
        have y1 := ln_PB.cell 1 rfl
        have y2 := ln_PB.cell 2 rfl
        have st0 := w_502.cell 0 rfl
        have sf0 := w_502.free 0
        have st1 := w_502.cell 1 rfl
        have sf1 := w_502.free 1
        have st2 := w_502.cell 2 rfl
        have sf2 := w_502.free 2
        go_upto_region 14 with fail
        have bu : But PW W7 (((W7.setCell ⟨PW, 0, none⟩ (.bool bs0)).setCell ⟨PW, 1, none⟩ (.slice so (Dg.dg 65536 bn).length sc)).setCell ⟨PW, 2, none⟩ (.int .i64 be)) := ((but_set W7 PW 0 (.bool bs0)).trans (but_set _ PW 1 (.slice so (Dg.dg 65536 bn).length sc))).trans (but_set _ PW 2 (.int .i64 be))
        have q_s503 := bu.loc q_502 (by omega)
        have g_s503 := bu.loc g_502 (by omega)
        have ry_s503 := bu.rd ry_502 (rd_offU ry_502 w_502 (by simp))
        have y_s503 := bu.loc y_502 (by omega)
        have a_s503 := bu.loc a_502 (by omega)
        have w_s503 : LocE (((W7.setCell ⟨PW, 0, none⟩ (.bool bs0)).setCell ⟨PW, 1, none⟩ (.slice so (Dg.dg 65536 bn).length sc)).setCell ⟨PW, 2, none⟩ (.int .i64 be)) PW 46 [.bool bs0, .slice so (Dg.dg 65536 bn).length sc, .int .i64 be] := ((w_502.set 0 (.bool bs0)).set 1 (.slice so (Dg.dg 65536 bn).length sc)).set 2 (.int .i64 be)
        have rb_s503 := bu.rd rb_502 (far_off fb (by omega))
        have b_s503 := bu.loc ln_PB (by omega)
        have b0_s503 := bu.below b0_502 (by omega)
        generalize (((W7.setCell ⟨PW, 0, none⟩ (.bool bs0)).setCell ⟨PW, 1, none⟩ (.slice so (Dg.dg 65536 bn).length sc)).setCell ⟨PW, 2, none⟩ (.int .i64 be)) = W8 at q_s503 g_s503 ry_s503 y_s503 a_s503 w_s503 rb_s503 b_s503 b0_s503 ⊢
        clear bu st0 st1 st2 sf0 sf1 sf2 q_502 g_502 ry_502 y_502 a_502 w_502 rb_502 ln_PB b0_502
        clear y0 y1 y2
        cases ok
        · replace HD5 : Hid _ := HD5.out rfl
          go_wp2_with fail
          refine (HBG.out _).mono ?_
          rintro z wg ⟨rfl, bbg⟩
          clear HBG
          have q_554 := q_s503.later bbg
          have g_554 := g_s503.later bbg
          have ry_554 := ry_s503.later bbg
          have y_554 := y_s503.later bbg
          have a_554 := a_s503.later bbg
          have w_554 := w_s503.later bbg
          have rb_554 := rb_s503.later bbg
          have b_554 := b_s503.later bbg
          have b0_554 := below_trans b0_s503 bbg
          clear q_s503 g_s503 ry_s503 y_s503 a_s503 w_s503 rb_s503 b_s503 b0_s503 bbg
          have y0 := y_554.cell 0 rfl
          have y1 := y_554.cell 1 rfl
          have y2 := y_554.cell 2 rfl
          have x0 := w_554.cell 0 rfl
          have x1 := w_554.cell 1 rfl
          have x2 := w_554.cell 2 rfl
          go_wp2_with fail
          refine (HD5.out _ _ _ _ _ ry_554 rb_554).mono ?_
          rintro z wh ⟨rfl, bbh⟩
          have bE := below_trans b0_554 bbh
          go_wp2
          go_ret
          exact ⟨rfl, bE⟩
        · replace HD1 : Hid _ := HD1.out rfl
          go_wp2_with fail
          refine (HBG.out _).mono ?_
          rintro z wg ⟨rfl, bbg⟩
          clear HBG
          have q_554 := q_s503.later bbg
          have g_554 := g_s503.later bbg
          have ry_554 := ry_s503.later bbg
          have y_554 := y_s503.later bbg
          have a_554 := a_s503.later bbg
          have w_554 := w_s503.later bbg
          have rb_554 := rb_s503.later bbg
          have b_554 := b_s503.later bbg
          have b0_554 := below_trans b0_s503 bbg
          clear q_s503 g_s503 ry_s503 y_s503 a_s503 w_s503 rb_s503 b_s503 b0_s503 bbg
          have y0 := y_554.cell 0 rfl
          have y1 := y_554.cell 1 rfl
          have y2 := y_554.cell 2 rfl
          have x0 := w_554.cell 0 rfl
          have x1 := w_554.cell 1 rfl
          have x2 := w_554.cell 2 rfl
          go_wp2_with fail
          refine (HD1.out _ _ _ _ _ ry_554 rb_554).mono ?_
          rintro z wh ⟨rfl, bbh⟩
          have bE := below_trans b0_554 bbh
          go_wp2
          go_ret
          exact ⟨rfl, bE⟩
  · skip
    replace HD0 : Hid _ := HD0.out hc
    have hcf : (c == 0) = false := by simp [hc]
    clear HA HOD HIN HM1 HSO HM2 HD4 HD1 HD5
    have al_PW := below_alloc W3 (.cells #[.bool false, .slice none 0 0, .int .i64 0] 46)
    have ln_PW := locE_new W3 [.bool false, .slice none 0 0, .int .i64 0] 46
    have hPW : PA < W3.heap.size := ln_PA.lt
    have q_901 := q_5.later al_PW
    have g_901 := g_5.later al_PW
    have ry_901 := ry_5.later al_PW
    have y_901 := y_5.later al_PW
    have a_901 := ln_PA.later al_PW
    have b0_901 := below_trans b0_5 al_PW
    clear q_5 g_5 ry_5 y_5 ln_PA b0_5 al_PW
    go_upto_region 9 with fail
    generalize W3.alloc (.cells #[.bool false, .slice none 0 0, .int .i64 0] 46) = W5 at q_901 g_901 ry_901 y_901 a_901 ln_PW b0_901 ⊢
    generalize W3.heap.size = PW at ln_PW hPW ⊢
    go_wp2_with fail
    refine (HBG.out _).mono ?_
    rintro z wg ⟨rfl, bbg⟩
    clear HBG
    have q_902 := q_901.later bbg
    have g_902 := g_901.later bbg
    have ry_902 := ry_901.later bbg
    have y_902 := y_901.later bbg
    have a_902 := a_901.later bbg
    have w_902 := ln_PW.later bbg
    have b0_902 := below_trans b0_901 bbg
    clear q_901 g_901 ry_901 y_901 a_901 ln_PW b0_901 bbg
    have y0 := y_902.cell 0 rfl
    have y1 := y_902.cell 1 rfl
    have y2 := y_902.cell 2 rfl
    have x0 := w_902.cell 0 rfl
    have x1 := w_902.cell 1 rfl
    have x2 := w_902.cell 2 rfl
    go_wp2_with fail
    refine (HD0.out _ _ _ ry_902).mono ?_
    rintro z wh ⟨rfl, bbh⟩
    have bE := below_trans b0_902 bbh
    go_wp2
    go_ret
    exact ⟨rfl, bE⟩
end Go.Proofs.YtmjhlflemfkflaaDoor
/-
  Grids: the walk of GridSteps, paid.
-/
namespace Go.Proofs.YtmjhlflemfkflaaDoor
open Go.RowKit

theorem soR_fits {R D L G : Int} {gr : Bool} {d : Nat} {p : Int} (s0 : Bool) (hg : gridC R D L G = 0) (hi : InSpot R D L G gr d p) :
    (Dg.dg 65536 (soR R D L G gr (bare ⟨s0, d, (widthN R : Int) * p⟩)).1.n).length ≤ 100000 := by
  obtain ⟨hR, d1, d2, l1, l2, g1, g2, lg, l16⟩ := gridC_zero hg
  obtain ⟨-, -, -, w1, w2, -⟩ := spot_fits hg hi
  have hwl := widthN_le R
  rcases hi with ⟨rfl, -⟩ | ⟨h0, h1, h2, hdp, h4⟩
  · rw [show bare ⟨s0, 0, (widthN R : Int) * p⟩ = ⟨false, 0, 0⟩ from by simp [bare], show soR R D L G gr ⟨false, 0, 0⟩ = (⟨false, 1, (widthN R : Int) * (if gr = true then L else L + D - 1)⟩, true) from if_pos rfl]
    show (Dg.dg 65536 1).length ≤ 100000
    rw [dg_one]
    simp
  · obtain ⟨q1, q2⟩ := spot_pow d1 d2 hdp
    have hq0 : d < 2 ^ (480 + 32) := Nat.lt_of_succ_lt q1
    have hwp : (widthN R : Int) * (p - 1) = (widthN R : Int) * p - (widthN R : Int) := by rw [Int.mul_sub, Int.mul_one]
    have hbn : (bare ⟨s0, d, (widthN R : Int) * p⟩).n ≠ 0 := (bare_top (t := ⟨s0, d, (widthN R : Int) * p⟩) h0).1
    have hbs : (bare ⟨s0, d, (widthN R : Int) * p⟩).s = s0 := by unfold bare; rw [if_neg h0]
    unfold soR
    rw [if_neg hbn, hbs]
    cases s0
    · rw [if_neg (by decide), soC_far d1 h0 h1 hdp h4]
      exact Nat.le_trans (so_fits q1 _ (by omega) (by omega)).1 (by omega)
    · rw [if_pos rfl]
      unfold soN
      rw [soF_near d1 h0 h1 hdp h4, soC_near d1 h0 h1 hdp h4]
      split
      · exact Nat.le_trans (so_fits q2 _ (by omega) (by omega)).1 (by omega)
      · split
        · exact Nat.le_trans (so_fits (Nat.lt_of_le_of_lt (Nat.sub_le _ _) hq0) _ (by omega) (by omega)).1 (by omega)
        · exact Nat.zero_le _

/-- What StepOf is handed lies at a spot. -/
theorem steps_spot {R D L G : Int} {gr : Bool} (s up : Bool) {n : Nat} {e : Int} (hg : gridC R D L G = 0) (hh : heldB R D L G gr n e = true) :
    ∃ s' d p, soA up (bare ⟨s, n, e⟩) = bare ⟨s', d, (widthN R : Int) * p⟩ ∧ InSpot R D L G gr d p := by
  obtain ⟨-, d1, -, -, -, -, -, lg, -⟩ := gridC_zero hg
  by_cases h0 : n = 0
  · subst h0
    refine ⟨false, 0, 0, ?_, .inl ⟨rfl, rfl⟩⟩
    rw [show bare ⟨s, 0, e⟩ = ⟨false, 0, 0⟩ from by simp [bare], show bare ⟨false, 0, (widthN R : Int) * 0⟩ = ⟨false, 0, 0⟩ from by simp [bare]]
    unfold soA minusT
    cases up <;> rfl
  · obtain ⟨f1, f2, f3, f4, f5, f6, -⟩ := found_spot d1 h0 hh
    have ff := found_full d1 h0 hh
    have ft := found_trip s d1 h0 hh
    refine ⟨if up = true then s else !s, _, _, ?_, .inr ⟨f3, f5, f6, f4, ff⟩⟩
    rw [ft]
    unfold soA
    cases up
    · rw [if_neg (by decide), if_neg (by decide), bare_minus]
    · rw [if_pos rfl, if_pos rfl]

theorem gridSteps_walk (s : Bool) (ao : Option Addr) (ca : Nat) (xs : List Nat) (e : Int) (R D L G : Int) (gr up : Bool) (w : World) (hr : Rd w .u32 (.slice ao xs.length ca) xs) (sa : Dg.Small 4294967296 xs) (hT : Tab w) :
    Calls Tryd.prog 6 #[.agg #[.bool s, .slice ao xs.length ca, .int .i64 e], .agg #[.int .i64 R, .int .i64 D, .int .i64 L, .int .i64 G, .bool gr], .bool up] w fun z w' => z = .returned (.bool true) ∧ Below w.heap.size w w' := by
  obtain ⟨⟨⟨ys, yn, ye⟩, yc⟩, hy⟩ : ∃ r, stepR R D L G gr s up xs e = r := ⟨_, rfl⟩
  obtain ⟨⟨as0, an, ae⟩, ha⟩ : ∃ t, bare ⟨s, Dg.vl 4294967296 xs, e⟩ = t := ⟨_, rfl⟩
  obtain ⟨⟨⟨bs0, bn, be⟩, ok⟩, hb⟩ : ∃ r, soR R D L G gr (soA up ⟨as0, an, ae⟩) = r := ⟨_, rfl⟩
  have hn : ∀ t : Trip, soA up t = ⟨(soA up t).s, t.n, t.e⟩ := fun t => by
    unfold soA minusT
    cases up <;> rfl
  have hA := hn ⟨as0, an, ae⟩
  have hB := hn ⟨bs0, bn, be⟩
  simp only at hA hB
  -- what is known where nothing is wrong
  have hz : onC (dchk xs e) (gridC R D L G) = 0 → (dchk xs e = 0 ∧ gridC R D L G = 0) ∧ xs.length ≤ 1200 ∧ -20000 ≤ e ∧ e ≤ 20000 ∧ (Dg.dg 65536 an).length ≤ 2400 ∧ -20000 ≤ ae ∧ ae ≤ 58400 ∧ inR R D L G gr an ae = heldB R D L G gr (Dg.vl 4294967296 xs) e := fun h => by
    obtain ⟨c1, c2⟩ := onC_zero h
    obtain ⟨l1, l2, e1, e2⟩ := dy_len sa c1
    obtain ⟨-, d1, -, -, -, -, -, lg, -⟩ := gridC_zero c2
    have hf := bare_fits (t := ⟨s, Dg.vl 4294967296 xs, e⟩) l1 e1 e2
    have hi := held_in (R := R) (D := D) gr ⟨s, Dg.vl 4294967296 xs, e⟩ lg
    rw [ha] at hf hi
    exact ⟨⟨c1, c2⟩, l2, e1, e2, hf.1, hf.2.1, hf.2.2, hi⟩
  have hsp : onC (dchk xs e) (gridC R D L G) = 0 → inR R D L G gr an ae = true → ∃ s' d p, soA up ⟨as0, an, ae⟩ = bare ⟨s', d, (widthN R : Int) * p⟩ ∧ InSpot R D L G gr d p := fun h h2 => by
    obtain ⟨⟨c1, c2⟩, -, -, -, -, -, -, h3⟩ := hz h
    rw [h3] at h2
    have := steps_spot s up c2 h2
    rwa [ha] at this
  have hbl : onC (dchk xs e) (gridC R D L G) = 0 → inR R D L G gr an ae = true → (Dg.dg 65536 bn).length ≤ 100000 := fun h h2 => by
    obtain ⟨s', d, p, h4, h5⟩ := hsp h h2
    have := soR_fits s' (hz h).1.2 h5
    rw [← h4, hb] at this
    exact this
  have hwant : onC (dchk xs e) (gridC R D L G) = 0 → inR R D L G gr an ae = true → wantR (if ok = true then 0 else 5) ⟨(soA up ⟨bs0, bn, be⟩).s, bn, be⟩ = (⟨ys, yn, ye⟩, yc) := fun h h2 => by
    obtain ⟨⟨c1, c2⟩, -, -, -, -, -, -, h3⟩ := hz h
    rw [h3] at h2
    rw [← hB, ← hy]
    by_cases hl : xs.length = 0
    · have := steps_zero (gr := gr) (s := s) (up := up) c1 c2 hl
      rw [ha, hb] at this
      simp only at this
      rw [if_pos this.2]
      exact this.1
    · have := steps_some (s := s) (up := up) sa c1 c2 hl h2
      rw [ha, hb] at this
      exact this
  refine gridStepsW R D L G gr s up ao _ ca e ys yn ye yc (onC (dchk xs e) (gridC R D L G)) (inR R D L G gr an ae) as0 (soA up ⟨as0, an, ae⟩).s an ae bs0 (soA up ⟨bs0, bn, be⟩).s bn be ok w ?_ ?_ ?_ gbegun_any ?_ ?_ ?_ ?_ ?_ ?_ ?_ ?_ ?_
  · intro h
    rw [h]
    exact ⟨rfl, rfl⟩
  · intro w1 b
    have := gStep_any R D L G gr s up ao ca xs e w1 (hr.later b) sa (hT.later b)
    rwa [hy] at this
  · intro w1 b
    exact onGrid_any R D L G gr s ao ca xs e w1 (hr.later b)
  · intro h w1 b
    obtain ⟨-, l1, e1, e2, -⟩ := hz h
    have := ofDyad_far s ao ca xs e w1 (hr.later b) sa (by omega) (by omega) (by omega)
    rwa [ha] at this
  · intro h ro rc w1 r
    obtain ⟨⟨-, c2⟩, -, -, -, a1, a2, a3, -⟩ := hz h
    exact inGrid_any R D L G gr _ ⟨as0, an, ae⟩ w1 c2 ⟨_, rfl, r⟩ (by simp only; omega) (by simp only; omega) (by simp only; omega)
  · intro h ro rc w1 r
    have := refminus_same _ ⟨as0, an, ae⟩ w1 r
    rw [h]
    exact this
  · intro h h2 ro rc w1 r
    obtain ⟨s', d, p, h4, h5⟩ := hsp h h2
    have hb' := hb
    rw [h4] at hb'
    rw [hA] at h4
    have := stepOf_any R D L G gr s' d p ro rc w1 (hz h).1.2 h5 (by rw [← h4]; exact r)
    rw [hb', ← h4] at this
    exact this
  · intro h so sc w1 r
    have := refminus_same _ ⟨bs0, bn, be⟩ w1 r
    rw [h]
    exact this
  · intro h yo yk w1 r
    refine dyadIs_any _ ⟨false, 0, 0⟩ ys yn ye yc _ yo yk w1 r ⟨_, rfl, rd_nil _ _⟩ (Nat.zero_le _) ?_
    rw [← hy]
    exact (if_neg h).trans (if_neg h).symm
  · intro h h2 yo yk w1 r
    refine dyadIs_any _ ⟨false, 0, 0⟩ ys yn ye yc _ yo yk w1 r ⟨_, rfl, rd_nil _ _⟩ (Nat.zero_le _) ?_
    rw [← hy]
    rw [(hz h).2.2.2.2.2.2.2] at h2
    exact (if_neg (by decide)).trans ((if_pos h).trans (if_neg (by rw [h2]; decide))).symm
  · intro h h2 h3 yo yk so sc w1 r r2
    have := hwant h h2
    rw [if_pos h3] at this
    exact dyadIs_any _ ⟨(soA up ⟨bs0, bn, be⟩).s, bn, be⟩ ys yn ye yc _ yo yk w1 r ⟨_, rfl, r2⟩ (hbl h h2) this
  · intro h h2 h3 yo yk so sc w1 r r2
    have := hwant h h2
    rw [if_neg (by rw [h3]; decide)] at this
    exact dyadIs_any _ ⟨(soA up ⟨bs0, bn, be⟩).s, bn, be⟩ ys yn ye yc _ yo yk w1 r ⟨_, rfl, r2⟩ (hbl h h2) this
end Go.Proofs.YtmjhlflemfkflaaDoor
