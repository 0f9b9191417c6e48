/-
  Texts laid together: Gs4, Gb1, Gb2, Gb3, Gv1, Gv2.
-/
import Derived.Test.YtiiphandhpilgaaGreatDoorNd39
import Derived.Test.YtiiphandhpilgaaGreatDoorNd41
namespace Go.Proofs.YtiiphandhpilgaaGreatDoor
open Go.RowKit
def stepN (s up : Bool) (l : Nat) : Bool := if l = 0 then !up else s
def stepD (R D L G : Int) (gr s up : Bool) (l n : Nat) (e : Int) : Nat := if stepN s up l = up then nearD R D L gr (fD R D L G gr n e) (fK R D L G gr n e) else farD R D gr (fD R D L G gr n e)
def stepK (R D L G : Int) (gr s up : Bool) (l n : Nat) (e : Int) : Int := if stepN s up l = up then nearK R D L (fD R D L G gr n e) (fK R D L G gr n e) else farK R D L gr (fD R D L G gr n e) (fK R D L G gr n e)
def stepR (R D L G : Int) (gr s up : Bool) (xs : List Nat) (e : Int) : Trip × Int :=
 if onC (dchk xs e) (gridC R D L G) = 0 then
  (if heldB R D L G gr (Dg.vl 4294967296 xs) e = true then
   (if G < stepK R D L G gr s up xs.length (Dg.vl 4294967296 xs) e then (⟨false, 0, 0⟩, 5) else shortT ⟨stepN s up xs.length, stepD R D L G gr s up xs.length (Dg.vl 4294967296 xs) e, (widthN R : Int) * stepK R D L G gr s up xs.length (Dg.vl 4294967296 xs) e⟩)
   else (⟨false, 0, 0⟩, 4))
 else (⟨false, 0, 0⟩, onC (dchk xs e) (gridC R D L G))
theorem found_spot {R D L G : Int} {gr : Bool} {n : Nat} {e : Int} (h1 : 1 ≤ D) (h0 : n ≠ 0) (hh : heldB R D L G gr n e = true) :
  fD R D L G gr n e = findD R D L gr n e ∧ fK R D L G gr n e = spotK R D L gr n e ∧ findD R D L gr n e ≠ 0 ∧ findD R D L gr n e < 2 ^ (widthN R * D.toNat) ∧ L ≤ spotK R D L gr n e ∧ spotK R D L gr n e ≤ G ∧ findD R D L gr n e = numP n (e - (widthN R : Int) * spotK R D L gr n e) / denP 1 (e - (widthN R : Int) * spotK R D L gr n e) := by
 have hs := (held_iff h0).1 hh
 have hc : cutP R D L gr n 1 e = spotK R D L gr n e := by
  unfold cutP spotK
  rw [topQ_one h0]
 have hw : wholeP R D L gr n 1 e = numP n (e - (widthN R : Int) * spotK R D L gr n e) / denP 1 (e - (widthN R : Int) * spotK R D L gr n e) := by
  unfold wholeP shP
  rw [hc]
 have hf : findD R D L gr n e = numP n (e - (widthN R : Int) * spotK R D L gr n e) / denP 1 (e - (widthN R : Int) * spotK R D L gr n e) := by
  unfold findD shN numP denP
  split
  ·rw [Nat.one_mul]
  ·rw [Nat.div_one]
 have hlt := whole_lt R D L gr n 1 e h1 h0 (by omega)
 rw [hw, ← hf] at hlt
 obtain ⟨p1, p2⟩ := one_parts false n e ((widthN R : Int) * spotK R D L gr n e) hs.2.2
 have hne : findD R D L gr n e ≠ 0 := fun c => by
  rw [hf] at c
  rw [c] at p2
  have hb := (bare_top (t := ⟨false, n, e⟩) h0).1
  rw [← p2] at hb
  exact hb (by simp [bare])
 exact ⟨(if_neg h0).trans (if_pos hh), (if_neg h0).trans (if_pos hh), hne, hlt, hs.1, hs.2.1, hf⟩
theorem carD_le {R D : Int} {d : Nat} (h : d ≤ 2 ^ (widthN R * D.toNat)) : carD R D d ≤ 2 ^ (widthN R * D.toNat) := by
 have hp : 2 ^ (widthN R * (D - 1).toNat) ≤ 2 ^ (widthN R * D.toNat) := Nat.pow_le_pow_right (by omega) (Nat.mul_le_mul_left _ (by omega))
 unfold carD
 split <;> omega
theorem step_fits {R D L G : Int} {gr s up : Bool} {l n : Nat} {e : Int} (hg : gridC R D L G = 0) (hh : heldB R D L G gr n e = true) :
  fD R D L G gr n e < 2 ^ (widthN R * D.toNat) ∧ -17000 ≤ fK R D L G gr n e ∧ fK R D L G gr n e ≤ 17000 ∧ stepD R D L G gr s up l n e ≤ 2 ^ (widthN R * D.toNat) ∧ -17001 ≤ stepK R D L G gr s up l n e ∧ stepK R D L G gr s up l n e ≤ 17001 := by
 obtain ⟨hR, d1, d2, l1, l2, g1, g2, lg, l16⟩ := gridC_zero hg
 have hp : 2 ^ (widthN R * (D - 1).toNat) ≤ 2 ^ (widthN R * D.toNat) := Nat.pow_le_pow_right (by omega) (Nat.mul_le_mul_left _ (by omega))
 have hf : fD R D L G gr n e < 2 ^ (widthN R * D.toNat) ∧ -17000 ≤ fK R D L G gr n e ∧ fK R D L G gr n e ≤ 17000 := by
  by_cases h0 : n = 0
  ·rw [show fD R D L G gr n e = 0 from if_pos h0, show fK R D L G gr n e = L from if_pos h0]
   exact ⟨two_pos _, by omega, by omega⟩
  ·obtain ⟨a1, a2, a3, a4, a5, a6, -⟩ := found_spot d1 h0 hh
   rw [a1, a2]
   exact ⟨a4, by omega, by omega⟩
 obtain ⟨f1, f2, f3⟩ := hf
 refine ⟨f1, f2, f3, ?_, ?_, ?_⟩
 ·unfold stepD nearD farD
  split
  ·split
   ·split
    ·omega
    ·split <;> omega
   ·omega
  ·split
   ·exact hp
   ·exact carD_le (by omega)
 ·unfold stepK nearK farK carP
  split
  ·split
   ·split <;> omega
   ·omega
  ·split
   ·omega
   ·split <;> omega
 ·unfold stepK nearK farK carP
  split
  ·split
   ·split <;> omega
   ·omega
  ·split
   ·omega
   ·split <;> omega
theorem gStep_any (R D L G : Int) (gr s up : Bool) (ao : Option Addr) (ca : Nat) (xs : List Nat) (e : Int) (w : World) (hr : Rd w .u32 (.slice ao xs.length ca) xs) (sa : Dg.Small 4294967296 xs) (hT : Tab w) :
  Calls Tryz.prog 40 #[.agg #[.bool s, .slice ao xs.length ca, .int .i64 e], .agg #[.int .i64 R, .int .i64 D, .int .i64 L, .int .i64 G, .bool gr], .bool up] w (DAns w (stepR R D L G gr s up xs e)) := by
 obtain ⟨⟨⟨rs, rn, re⟩, rc⟩, hrr⟩ : ∃ r, stepR R D L G gr s up xs e = r := ⟨_, rfl⟩
 rw [hrr]
 have hzero : ∀ k, stepR R D L G gr s up xs e = (⟨false, 0, 0⟩, k) → rs = false ∧ rn = 0 ∧ re = 0 ∧ rc = k := fun k h => by
  rw [hrr] at h
  simp only [Prod.mk.injEq, Trip.mk.injEq] at h
  exact ⟨h.1.1, h.1.2.1, h.1.2.2, h.2⟩
 have hH : onC (dchk xs e) (gridC R D L G) = 0 → ansH xs e R D L G gr = heldB R D L G gr (Dg.vl 4294967296 xs) e ∧ ansD xs e R D L G gr = fD R D L G gr (Dg.vl 4294967296 xs) e ∧ ansK xs e R D L G gr = fK R D L G gr (Dg.vl 4294967296 xs) e := fun h => ⟨if_pos h, if_pos h, if_pos h⟩
 have hfit : onC (dchk xs e) (gridC R D L G) = 0 → ansH xs e R D L G gr = true → gridC R D L G = 0 ∧ heldB R D L G gr (Dg.vl 4294967296 xs) e = true := fun h1 h2 => ⟨(onC_zero h1).2, by rw [← (hH h1).1]; exact h2⟩
 have hpl : gridC R D L G = 0 → ∀ d, d ≤ 2 ^ (widthN R * D.toNat) → (Dg.dg 4294967296 d).length ≤ 16 := fun h d hd => by
  obtain ⟨-, d1, d2, -⟩ := gridC_zero h
  have hw := Nat.mul_le_mul (widthN_le R).2 (show D.toNat ≤ 120 by omega)
  exact Nat.le_trans (dg_len_mono 4294967296 d _ (by omega) hd) (pow_len32 (by omega))
 refine stepW R D L G gr s up ao _ ca e (onC (dchk xs e) (gridC R D L G)) (widthN R) (ansH xs e R D L G gr) (stepN s up xs.length) (ansD xs e R D L G gr) (ansK xs e R D L G gr) (stepD R D L G gr s up xs.length (Dg.vl 4294967296 xs) e) (stepK R D L G gr s up xs.length (Dg.vl 4294967296 xs) e) rs rn re rc w ?_ ?_ ?_ ?_ ?_ ?_ ?_ ?_ ?_ ?_
 ·intro h
  exact hzero _ (if_neg h)
 ·intro h h2
  refine hzero 4 ((if_pos h).trans (if_neg ?_))
  rw [← (hH h).1, h2]
  decide
 ·intro h h2 h3
  exact hzero 5 ((if_pos h).trans ((if_pos (hfit h h2).2).trans (if_pos h3)))
 ·intro h
  exact if_pos (by simpa using h)
 ·intro h
  exact if_neg (by simpa using h)
 ·intro w1 b
  exact gfind_any R D L G gr s ao ca xs e w1 (hr.later b) sa (hT.later b)
 ·intro h h2 h3 v u w1 r
  obtain ⟨g0, hh⟩ := hfit h h2
  obtain ⟨-, d1, d2, -⟩ := gridC_zero g0
  obtain ⟨f1, f2, f3, -⟩ := step_fits (s := s) (up := up) (l := xs.length) g0 hh
  have hl0 : ¬xs.length = 0 := fun c => by
   have : stepN s up xs.length = !up := if_pos c
   rw [this] at h3
   cases up <;> cases h3
  have hn0 : Dg.vl 4294967296 xs ≠ 0 := gvl_ne sa (dchk_zero (onC_zero h).1).1 hl0
  obtain ⟨a1, -, a3, -⟩ := found_spot d1 hn0 hh
  rw [show stepD R D L G gr s up xs.length (Dg.vl 4294967296 xs) e = _ from if_pos h3, show stepK R D L G gr s up xs.length (Dg.vl 4294967296 xs) e = _ from if_pos h3]
  rw [(hH h).2.1] at r ⊢
  rw [(hH h).2.2]
  exact nearer_any R D L G gr v u _ _ w1 d1 d2 r (Nat.le_trans (hpl g0 _ (by omega)) (by omega)) (by rw [a1]; exact a3) (by omega) (by omega)
 ·intro h h2 h3 v u w1 r
  obtain ⟨g0, hh⟩ := hfit h h2
  obtain ⟨-, d1, d2, -⟩ := gridC_zero g0
  obtain ⟨f1, f2, f3, -⟩ := step_fits (s := s) (up := up) (l := xs.length) g0 hh
  rw [show stepD R D L G gr s up xs.length (Dg.vl 4294967296 xs) e = _ from if_neg h3, show stepK R D L G gr s up xs.length (Dg.vl 4294967296 xs) e = _ from if_neg h3]
  rw [(hH h).2.1] at r ⊢
  rw [(hH h).2.2]
  exact farther_any R D L G gr v u _ _ w1 d1 d2 r (Nat.le_trans (hpl g0 _ (by omega)) (by omega)) (by omega) (by omega)
 ·intro h h2 h3 v u w1
  obtain ⟨g0, hh⟩ := hfit h h2
  obtain ⟨-, -, -, -, k1, k2⟩ := step_fits (s := s) (up := up) (l := xs.length) g0 hh
  refine gnumber_any R D L G gr _ v _ u _ w1 ?_
  unfold widthN
  split <;> simp <;> omega
 ·intro h h2 h3 v u w1 b r
  obtain ⟨g0, hh⟩ := hfit h h2
  obtain ⟨-, -, -, q1, k1, k2⟩ := step_fits (s := s) (up := up) (l := xs.length) g0 hh
  have hlen := hpl g0 _ q1
  have htz := tz_fits _ 16 hlen
  have hk : -68004 ≤ (widthN R : Int) * stepK R D L G gr s up xs.length (Dg.vl 4294967296 xs) e ∧ (widthN R : Int) * stepK R D L G gr s up xs.length (Dg.vl 4294967296 xs) e ≤ 68004 := by
   unfold widthN
   split <;> simp <;> omega
  have hS : shortT ⟨stepN s up xs.length, stepD R D L G gr s up xs.length (Dg.vl 4294967296 xs) e, (widthN R : Int) * stepK R D L G gr s up xs.length (Dg.vl 4294967296 xs) e⟩ = (⟨rs, rn, re⟩, rc) := by
   rw [← hrr]
   exact ((if_pos h).trans ((if_pos hh).trans (if_neg h3))).symm
  rw [← hS]
  exact dshort_any _ _ w1 ⟨_, rfl, r⟩ (by simp only; omega) ⟨by simp only; omega, by simp only; omega⟩ (hT.later b) (by simp only; omega)
end Go.Proofs.YtiiphandhpilgaaGreatDoor
namespace Go.Proofs.YtiiphandhpilgaaGreatDoor
open Go.RowKit
theorem found_bare {R D L G : Int} {gr s : Bool} {d : Nat} {p : Int} (h1 : 1 ≤ D) (h0 : d ≠ 0) (hp : L ≤ p) (hG : p ≤ G) (hd : d < 2 ^ (widthN R * D.toNat)) (hf : 2 ^ (widthN R * (D - 1).toNat) ≤ d ∨ (gr = true ∧ p = L)) :
  fD R D L G gr (bare ⟨s, d, (widthN R : Int) * p⟩).n (bare ⟨s, d, (widthN R : Int) * p⟩).e = d ∧ fK R D L G gr (bare ⟨s, d, (widthN R : Int) * p⟩).n (bare ⟨s, d, (widthN R : Int) * p⟩).e = p := by
 have hb := bare_top (t := ⟨s, d, (widthN R : Int) * p⟩) h0
 simp only at hb
 obtain ⟨b0, b1, b2⟩ := hb
 have hLG : L ≤ G := by omega
 have hh : heldB R D L G gr (bare ⟨s, d, (widthN R : Int) * p⟩).n (bare ⟨s, d, (widthN R : Int) * p⟩).e = true := by
  rw [held_bare gr _ hLG, held_spot h1 hd hp hf h0]
  exact decide_eq_true hG
 have hs : spotK R D L gr (bare ⟨s, d, (widthN R : Int) * p⟩).n (bare ⟨s, d, (widthN R : Int) * p⟩).e = p := by
  have e1 : spotK R D L gr (bare ⟨s, d, (widthN R : Int) * p⟩).n (bare ⟨s, d, (widthN R : Int) * p⟩).e = spotK R D L gr d ((widthN R : Int) * p) := by
   unfold spotK
   rw [show (bitLen (bare ⟨s, d, (widthN R : Int) * p⟩).n : Int) - 1 + (bare ⟨s, d, (widthN R : Int) * p⟩).e = (bitLen d : Int) - 1 + (widthN R : Int) * p by omega]
  exact e1.trans (spot_is h1 hd hp hf)
 refine ⟨?_, (if_neg b0).trans ((if_pos hh).trans hs)⟩
 rw [show fD R D L G gr (bare ⟨s, d, (widthN R : Int) * p⟩).n (bare ⟨s, d, (widthN R : Int) * p⟩).e = findD R D L gr (bare ⟨s, d, (widthN R : Int) * p⟩).n (bare ⟨s, d, (widthN R : Int) * p⟩).e from (if_neg b0).trans (if_pos hh)]
 unfold findD
 rw [hs, b1, show (widthN R : Int) * p + (tz d : Int) - (widthN R : Int) * p = (tz d : Int) by omega]
 unfold shN
 rw [if_neg (by omega), Int.toNat_natCast]
 obtain ⟨m, hm⟩ := tz_spec h0
 have e4 : (bare ⟨s, d, (widthN R : Int) * p⟩).n = 2 * m + 1 := by
  unfold bare
  rw [if_neg h0]
  exact div_tz hm
 rw [e4, Nat.mul_comm]
 exact hm.symm
theorem far_next {R D L : Int} {gr : Bool} {d : Nat} {p : Int} (h : d ≠ 0 ∨ gr = true) : farD R D gr d = carD R D (d + 1) ∧ farK R D L gr d p = carP R D (d + 1) p := by
 have hn : ¬(d = 0 ∧ gr = false) := fun c => by
  rcases h with h | h
  ·exact h c.1
  ·rw [c.2] at h
   cases h
 exact ⟨if_neg hn, if_neg hn⟩
theorem near_prev {R D L : Int} {gr : Bool} {d : Nat} {p : Int} (h1 : 1 ≤ D) (hp : L ≤ p) (hf : 2 ^ (widthN R * (D - 1).toNat) ≤ d ∨ (gr = true ∧ p = L)) :
  nearD R D L gr (carD R D (d + 1)) (carP R D (d + 1) p) = d ∧ nearK R D L (carD R D (d + 1)) (carP R D (d + 1) p) = p := by
 have hpw : 2 ^ (widthN R * (D - 1).toNat) < 2 ^ (widthN R * D.toNat) := by
  refine Nat.pow_lt_pow_right (by omega) ?_
  exact Nat.mul_lt_mul_of_pos_left (by omega) (by have := widthN_le R; omega)
 unfold carD carP nearD nearK
 by_cases hq : d + 1 = 2 ^ (widthN R * D.toNat)
 ·have hlt : L < p + 1 := by omega
  rw [if_pos hq, if_pos hq, if_pos rfl, if_pos rfl, if_pos hlt, if_pos hlt]
  omega
 ·rw [if_neg hq, if_neg hq]
  by_cases hfi : d + 1 = 2 ^ (widthN R * (D - 1).toNat)
  ·rcases hf with hf | ⟨hg, rfl⟩
   ·omega
   ·rw [if_pos hfi, if_pos hfi, if_neg (Int.lt_irrefl p), if_neg (Int.lt_irrefl p), if_pos hg]
    omega
  ·rw [if_neg hfi, if_neg hfi]
   omega
end Go.Proofs.YtiiphandhpilgaaGreatDoor
namespace Go.Proofs.YtiiphandhpilgaaGreatDoor
open Go.RowKit
theorem car_bare (R D : Int) (s : Bool) (d : Nat) (p : Int) (h1 : 1 ≤ D) : bare ⟨s, carD R D d, (widthN R : Int) * carP R D d p⟩ = bare ⟨s, d, (widthN R : Int) * p⟩ := by
 unfold carD carP
 by_cases h : d = 2 ^ (widthN R * D.toNat)
 ·rw [if_pos h, if_pos h]
  have hc := Int.natCast_mul (widthN R) D.toNat
  have hc1 := Int.natCast_mul (widthN R) (D - 1).toNat
  rw [Int.toNat_of_nonneg (by omega)] at hc hc1
  have e1 : (widthN R : Int) * (p + 1) + ((widthN R * (D - 1).toNat : Nat) : Int) = (widthN R : Int) * p + ((widthN R * D.toNat : Nat) : Int) := by
   rw [hc, hc1, Int.mul_add, Int.mul_sub]
   omega
  refine bare_of_V (K := (max (-((widthN R : Int) * p)) (max (-((widthN R : Int) * (p + 1))) 0)).toNat) (by simp only; omega) (by simp only; omega) ?_
  rw [V_nat, V_nat]
  simp only
  rw [h, ← Nat.pow_add, ← Nat.pow_add]
  congr 2
  omega
 ·rw [if_neg h, if_neg h]
end Go.Proofs.YtiiphandhpilgaaGreatDoor
namespace Go.Proofs.YtiiphandhpilgaaGreatDoor
open Go.RowKit
theorem spot_shortT {R D L G : Int} {gr : Bool} (s : Bool) {d : Nat} {p : Int} (hg : gridC R D L G = 0) (h : InSpot R D L G gr d p) : shortT ⟨s, d, (widthN R : Int) * p⟩ = (bare ⟨s, d, (widthN R : Int) * p⟩, 0) := by
 have := spot_short (s := s) hg h
 unfold dbothR at this
 by_cases hp : placeC (Dg.dg 4294967296 d) p R D L G = 0
 ·rw [if_pos hp, Dg.vl_dg _ _ (by omega)] at this
  exact this
 ·rw [if_neg hp] at this
  simp only [Prod.mk.injEq] at this
  exact absurd this.2 hp
theorem stepR_at {R D L G : Int} {gr up : Bool} {t : Trip} {d : Nat} {k : Int} (hg : gridC R D L G = 0) (h1 : dchk (Dg.dg 4294967296 t.n) t.e = 0) (h2 : heldB R D L G gr t.n t.e = true) (hd : stepD R D L G gr t.s up (Dg.dg 4294967296 t.n).length t.n t.e = d) (hk : stepK R D L G gr t.s up (Dg.dg 4294967296 t.n).length t.n t.e = k) (hG : ¬G < k) :
  stepR R D L G gr t.s up (Dg.dg 4294967296 t.n) t.e = shortT ⟨stepN t.s up (Dg.dg 4294967296 t.n).length, d, (widthN R : Int) * k⟩ := by
 unfold stepR
 rw [Dg.vl_dg _ _ (by omega), if_pos (show onC (dchk (Dg.dg 4294967296 t.n) t.e) (gridC R D L G) = 0 from (if_pos h1).trans hg), if_pos h2, hk, hd, if_neg hG]
theorem dg_len_zero {n : Nat} : (Dg.dg 4294967296 n).length = 0 ↔ n = 0 := by
 rw [List.length_eq_zero_iff, Dg.dg_nil_iff _ _ (by omega)]
theorem next_spot {R D L G : Int} {gr : Bool} {d : Nat} {k : Int} (h1 : 1 ≤ D) (hk : L ≤ k) (hc : carP R D (d + 1) k ≤ G) (hd : d < 2 ^ (widthN R * D.toNat)) (hf : 2 ^ (widthN R * (D - 1).toNat) ≤ d ∨ (gr = true ∧ k = L)) :
  carD R D (d + 1) ≠ 0 ∧ L ≤ carP R D (d + 1) k ∧ carP R D (d + 1) k ≤ G ∧ carD R D (d + 1) < 2 ^ (widthN R * D.toNat) ∧ (2 ^ (widthN R * (D - 1).toNat) ≤ carD R D (d + 1) ∨ (gr = true ∧ carP R D (d + 1) k = L)) := by
 have hpw : 2 ^ (widthN R * (D - 1).toNat) < 2 ^ (widthN R * D.toNat) := by
  refine Nat.pow_lt_pow_right (by omega) ?_
  exact Nat.mul_lt_mul_of_pos_left (by omega) (by have := widthN_le R; omega)
 have hp0 := two_pos (widthN R * (D - 1).toNat)
 unfold carD carP at *
 by_cases hq : d + 1 = 2 ^ (widthN R * D.toNat)
 ·rw [if_pos hq] at hc ⊢
  rw [if_pos hq]
  exact ⟨by omega, by omega, hc, hpw, .inl (Nat.le_refl _)⟩
 ·rw [if_neg hq] at hc ⊢
  rw [if_neg hq]
  refine ⟨by omega, hk, hc, by omega, ?_⟩
  rcases hf with hf | hf
  ·exact .inl (by omega)
  ·exact .inr hf
theorem carP_ge (R D : Int) (d : Nat) (k : Int) : k ≤ carP R D d k := by
 unfold carP
 split <;> omega
end Go.Proofs.YtiiphandhpilgaaGreatDoor
namespace Go.Proofs.YtiiphandhpilgaaGreatDoor
open Go.RowKit
theorem V_so (J : Nat) (s : Bool) (d : Nat) (k : Int) : V J ⟨s, d, k⟩ = if s = true then -((d * 2 ^ (k + J).toNat : Nat) : Int) else ((d * 2 ^ (k + J).toNat : Nat) : Int) := by
 rw [V_nat]
 unfold sz
 cases s <;> simp
theorem width_pos (R : Int) : 1 ≤ widthN R := by
 unfold widthN
 split <;> omega
end Go.Proofs.YtiiphandhpilgaaGreatDoor
namespace Go.Proofs.YtiiphandhpilgaaGreatDoor
open Go.RowKit
theorem found_full {R D L G : Int} {gr : Bool} {n : Nat} {e : Int} (h1 : 1 ≤ D) (h0 : n ≠ 0) (hh : heldB R D L G gr n e = true) :
  2 ^ (widthN R * (D - 1).toNat) ≤ findD R D L gr n e ∨ (gr = true ∧ spotK R D L gr n e = L) := by
 obtain ⟨-, -, -, -, -, -, hf⟩ := found_spot h1 h0 hh
 by_cases hg : (decide (powerR R D ((bitLen n : Int) - 1 + e) < L) && gr) = true
 ·refine .inr ⟨?_, if_pos hg⟩
  rw [Bool.and_eq_true] at hg
  exact hg.2
 ·left
  have hk : spotK R D L gr n e = powerR R D ((bitLen n : Int) - 1 + e) := if_neg hg
  rw [hf, whole_ge n 1 _ _ h0 (by omega), topQ_one h0, hk]
  unfold powerR
  have hw := width_pos R
  have hd := Int.mul_ediv_self_le (x := (bitLen n : Int) - 1 + e) (k := (widthN R : Int)) (by omega)
  have e1 : ((widthN R * (D - 1).toNat : Nat) : Int) = (widthN R : Int) * (D - 1) := by
   rw [Int.natCast_mul, Int.toNat_of_nonneg (by omega)]
  rw [e1]
  have e2 : (widthN R : Int) * (((bitLen n : Int) - 1 + e) / (widthN R : Int) - (D - 1)) = (widthN R : Int) * (((bitLen n : Int) - 1 + e) / (widthN R : Int)) - (widthN R : Int) * (D - 1) := Int.mul_sub _ _ _
  omega
theorem found_trip {R D L G : Int} {gr : Bool} {n : Nat} {e : Int} (s : Bool) (h1 : 1 ≤ D) (h0 : n ≠ 0) (hh : heldB R D L G gr n e = true) :
  bare ⟨s, n, e⟩ = bare ⟨s, findD R D L gr n e, (widthN R : Int) * spotK R D L gr n e⟩ := by
 obtain ⟨-, -, -, -, -, -, hf⟩ := found_spot h1 h0 hh
 obtain ⟨-, p2⟩ := one_parts s n e ((widthN R : Int) * spotK R D L gr n e) ((held_iff h0).1 hh).2.2
 rw [hf]
 exact p2.symm
end Go.Proofs.YtiiphandhpilgaaGreatDoor
