/-
  Texts laid together: Gv1, Gv2.
-/
import Derived.Test.YtiiphandhpilgaaGreatDoorNb26
import Derived.Test.YtiiphandhpilgaaGreatDoorNb42
namespace Go.Proofs.YtiiphandhpilgaaGreatDoor
open Go.RowKit
def soK (R D L : Int) (n : Nat) (e : Int) : Int := max L (powerR R D (e + (bitLen n : Int) - 1))
def soF (R D L : Int) (a : Trip) : Trip := bare (dplusT a ⟨false, 1, (widthN R : Int) * (soK R D L a.n a.e - 1)⟩)
def soC (R D L : Int) (a : Trip) : Trip := bare (dplusT a ⟨false, 1, (widthN R : Int) * soK R D L a.n a.e⟩)
theorem V_so (J : Nat) (s : Bool) (d : Nat) (k : Int) : V J ⟨s, d, k⟩ = if s = true then -((d * 2 ^ (k + J).toNat : Nat) : Int) else ((d * 2 ^ (k + J).toNat : Nat) : Int) := by
 rw [V_nat]
 unfold sz
 cases s <;> simp
theorem so_plus {s : Bool} {d m : Nat} {e f : Int} (h : ∀ K : Nat, -(K : Int) ≤ e → -(K : Int) ≤ f → V K ⟨s, d, e⟩ + V K ⟨false, 1, f⟩ = V K ⟨s, m, f⟩) : bare (dplusT (bare ⟨s, d, e⟩) ⟨false, 1, f⟩) = bare ⟨s, m, f⟩ := by
 have h1 : -((e.natAbs + f.natAbs : Nat) : Int) ≤ e := by omega
 have h2 : -((e.natAbs + f.natAbs : Nat) : Int) ≤ f := by omega
 refine bare_of_V (K := e.natAbs + f.natAbs) (dplus_e (bare_e h1) h2) h2 ?_
 rw [V_dplus (bare_e h1) h2, V_bare h1]
 exact h _ h1 h2
theorem soK_spot {R D L : Int} {gr : Bool} (s : Bool) {d : Nat} {k : Int} (h1 : 1 ≤ D) (h0 : d ≠ 0) (hk : L ≤ k) (hd : d < 2 ^ (widthN R * D.toNat)) (hf : 2 ^ (widthN R * (D - 1).toNat) ≤ d ∨ (gr = true ∧ k = L)) :
  soK R D L (bare ⟨s, d, (widthN R : Int) * k⟩).n (bare ⟨s, d, (widthN R : Int) * k⟩).e = k := by
 have hb := (bare_top (t := ⟨s, d, (widthN R : Int) * k⟩) h0).2.2
 simp only at hb
 unfold soK
 rw [hb, show (widthN R : Int) * k + (bitLen d : Int) - 1 = (bitLen d : Int) - 1 + (widthN R : Int) * k from by omega]
 rcases hf with h | ⟨-, rfl⟩
 ·rw [power_spot h1 h hd]
  omega
 ·have := power_low (k := k) h1 hd
  omega
theorem width_pos (R : Int) : 1 ≤ widthN R := by
 unfold widthN
 split <;> omega
theorem soC_far {R D L : Int} {gr : Bool} {d : Nat} {k : Int} (h1 : 1 ≤ D) (h0 : d ≠ 0) (hk : L ≤ k) (hd : d < 2 ^ (widthN R * D.toNat)) (hf : 2 ^ (widthN R * (D - 1).toNat) ≤ d ∨ (gr = true ∧ k = L)) :
  soC R D L (bare ⟨false, d, (widthN R : Int) * k⟩) = bare ⟨false, d + 1, (widthN R : Int) * k⟩ := by
 unfold soC
 rw [soK_spot false h1 h0 hk hd hf]
 refine so_plus fun K hK _ => ?_
 rw [V_so, V_so, V_so]
 simp only [Bool.false_eq_true, if_false]
 rw [Nat.add_mul]
 omega
theorem soC_near {R D L : Int} {gr : Bool} {d : Nat} {k : Int} (h1 : 1 ≤ D) (h0 : d ≠ 0) (hk : L ≤ k) (hd : d < 2 ^ (widthN R * D.toNat)) (hf : 2 ^ (widthN R * (D - 1).toNat) ≤ d ∨ (gr = true ∧ k = L)) :
  soC R D L (bare ⟨true, d, (widthN R : Int) * k⟩) = bare ⟨true, d - 1, (widthN R : Int) * k⟩ := by
 unfold soC
 rw [soK_spot true h1 h0 hk hd hf]
 refine so_plus fun K hK _ => ?_
 rw [V_so, V_so, V_so]
 simp only [Bool.false_eq_true, if_false, if_true]
 obtain ⟨c, rfl⟩ : ∃ c, d = c + 1 := ⟨d - 1, by omega⟩
 rw [Nat.add_sub_cancel, Nat.add_mul]
 omega
theorem so_fine (R : Int) {d : Nat} {k : Int} (h0 : d ≠ 0) (K : Nat) (hK : -(K : Int) ≤ (widthN R : Int) * k) (hJ : -(K : Int) ≤ (widthN R : Int) * (k - 1)) :
  V K ⟨true, d, (widthN R : Int) * k⟩ + V K ⟨false, 1, (widthN R : Int) * (k - 1)⟩ = V K ⟨true, d * 2 ^ widthN R - 1, (widthN R : Int) * (k - 1)⟩ := by
 rw [V_so, V_so, V_so]
 simp only [Bool.false_eq_true, if_false, if_true]
 have hp : 2 ^ ((widthN R : Int) * k + (K : Int)).toNat = 2 ^ widthN R * 2 ^ ((widthN R : Int) * (k - 1) + (K : Int)).toNat := by
  rw [← Nat.pow_add]
  congr 1
  have : (widthN R : Int) * (k - 1) = (widthN R : Int) * k - (widthN R : Int) := by rw [Int.mul_sub, Int.mul_one]
  omega
 rw [hp, ← Nat.mul_assoc]
 obtain ⟨c, hc⟩ : ∃ c, d * 2 ^ widthN R = c + 1 := ⟨d * 2 ^ widthN R - 1, by have := Nat.mul_pos (Nat.pos_of_ne_zero h0) (two_pos (widthN R)); omega⟩
 rw [hc, Nat.add_sub_cancel, Nat.add_mul]
 omega
theorem soF_near {R D L : Int} {gr : Bool} {d : Nat} {k : Int} (h1 : 1 ≤ D) (h0 : d ≠ 0) (hk : L ≤ k) (hd : d < 2 ^ (widthN R * D.toNat)) (hf : 2 ^ (widthN R * (D - 1).toNat) ≤ d ∨ (gr = true ∧ k = L)) :
  soF R D L (bare ⟨true, d, (widthN R : Int) * k⟩) = bare ⟨true, d * 2 ^ widthN R - 1, (widthN R : Int) * (k - 1)⟩ := by
 unfold soF
 rw [soK_spot true h1 h0 hk hd hf]
 exact so_plus fun K hK hJ => so_fine R h0 K hK hJ
theorem so_less (R : Int) {d : Nat} {k : Int} (h0 : d ≠ 0) : signT (bare (dplusT (bare ⟨true, d, (widthN R : Int) * k⟩) (minusT (bare ⟨true, d * 2 ^ widthN R - 1, (widthN R : Int) * (k - 1)⟩)))) = -1 := by
 rw [sign_ref]
 obtain ⟨K, hK⟩ : ∃ K : Nat, K = ((widthN R : Int) * k).natAbs + ((widthN R : Int) * (k - 1)).natAbs := ⟨_, rfl⟩
 have h1 : -(K : Int) ≤ (widthN R : Int) * k := by omega
 have h2 : -(K : Int) ≤ (widthN R : Int) * (k - 1) := by omega
 have hv := so_fine R h0 K h1 h2
 have e1 : V K (plusT ⟨true, d, (widthN R : Int) * k⟩ (negT ⟨true, d * 2 ^ widthN R - 1, (widthN R : Int) * (k - 1)⟩)) = -V K ⟨false, 1, (widthN R : Int) * (k - 1)⟩ := by
  rw [V_plus h1 (by exact h2), V_neg]
  omega
 have e2 : 0 < V K ⟨false, 1, (widthN R : Int) * (k - 1)⟩ := by
  rw [V_so]
  simp only [Bool.false_eq_true, if_false, Nat.one_mul]
  have := two_pos ((widthN R : Int) * (k - 1) + (K : Int)).toNat
  omega
 have e3 := sgn_V K (plusT ⟨true, d, (widthN R : Int) * k⟩ (negT ⟨true, d * 2 ^ widthN R - 1, (widthN R : Int) * (k - 1)⟩))
 unfold signT
 rw [← e3, e1]
 unfold sgn
 rw [if_neg (by omega), if_pos (by omega)]
def soN (R D L G : Int) (gr : Bool) (a : Trip) : Trip :=
 if inR R D L G gr (soF R D L a).n (soF R D L a).e = true then soF R D L a
 else if inR R D L G gr (soC R D L a).n (soC R D L a).e = true then soC R D L a else ⟨false, 0, 0⟩
theorem odd_tz {m : Nat} (h : m % 2 = 1) : tz m = 0 := tz_eq (m := m / 2) (by omega)
theorem pow_even {j : Nat} (h : 1 ≤ j) : 2 ^ j % 2 = 0 := by
 obtain ⟨i, rfl⟩ : ∃ i, j = i + 1 := ⟨j - 1, by omega⟩
 rw [Nat.pow_succ]
 omega
theorem fine_odd (R : Int) {d : Nat} (h0 : d ≠ 0) : (d * 2 ^ widthN R - 1) % 2 = 1 := by
 have h1 := pow_even (width_pos R)
 have h2 : (d * 2 ^ widthN R) % 2 = 0 := by rw [Nat.mul_mod, h1]; simp
 have h3 := Nat.mul_pos (Nat.pos_of_ne_zero h0) (two_pos (widthN R))
 omega
theorem soN_is {R D L G : Int} {gr : Bool} {d : Nat} {k : Int} (hg : gridC R D L G = 0) (h0 : d ≠ 0) (hk : L ≤ k) (hG : k ≤ G) (hd : d < 2 ^ (widthN R * D.toNat)) (hf : 2 ^ (widthN R * (D - 1).toNat) ≤ d ∨ (gr = true ∧ k = L)) :
  soN R D L G gr (bare ⟨true, d, (widthN R : Int) * k⟩) = bare ⟨true, nearD R D L gr d k, (widthN R : Int) * nearK R D L d k⟩ := by
 obtain ⟨-, h1, -, -, -, -, -, lg, -⟩ := gridC_zero hg
 have e1 := soF_near h1 h0 hk hd hf
 have e2 := soC_near h1 h0 hk hd hf
 have hw := width_pos R
 have hpw : 2 ^ (widthN R * D.toNat) = 2 ^ (widthN R * (D - 1).toNat) * 2 ^ widthN R := by
  rw [← Nat.pow_add]
  congr 1
  rw [show D.toNat = (D - 1).toNat + 1 from by omega, Nat.mul_add, Nat.mul_one]
 have hwp : 2 ≤ 2 ^ widthN R := by
  have : 2 ^ 1 ≤ 2 ^ widthN R := Nat.pow_le_pow_right (by omega) hw
  omega
 have hdp := two_pos (widthN R * (D - 1).toNat)
 have hodd := fine_odd R h0
 unfold soN
 rw [e1, e2, held_in gr _ lg, held_in gr _ lg]
 simp only
 obtain ⟨P, hP⟩ : ∃ P, 2 ^ (widthN R * (D - 1).toNat) = P := ⟨_, rfl⟩
 obtain ⟨Q, hQ⟩ : ∃ Q, 2 ^ (widthN R * D.toNat) = Q := ⟨_, rfl⟩
 obtain ⟨B, hB⟩ : ∃ B, 2 ^ widthN R = B := ⟨_, rfl⟩
 by_cases hcase : d = 2 ^ (widthN R * (D - 1).toNat) ∧ L < k
 ·obtain ⟨c1, c2⟩ := hcase
  have hm : d * 2 ^ widthN R - 1 = 2 ^ (widthN R * D.toNat) - 1 := by rw [hpw, ← c1]
  have hge : P * 2 ≤ P * B := Nat.mul_le_mul_left P (by omega)
  have hh : heldB R D L G gr (d * 2 ^ widthN R - 1) ((widthN R : Int) * (k - 1)) = true := by
   rw [hm, held_spot h1 (by have := two_pos (widthN R * D.toNat); omega) (by omega) (.inl (by rw [hpw, hP, hB]; rw [hP] at hdp; omega)) (by rw [hpw, hP, hB]; rw [hP] at hdp; omega)]
   exact decide_eq_true (by omega)
  rw [if_pos hh, hm]
  unfold nearD nearK
  rw [if_pos c1, if_pos c2, if_pos c1, if_pos c2]
 ·have hh : heldB R D L G gr (d * 2 ^ widthN R - 1) ((widthN R : Int) * (k - 1)) = false := by
   by_cases c1 : 2 ^ (widthN R * (D - 1).toNat) < d
   ·refine held_fine h1 (odd_tz hodd) ?_
    have : (P + 1) * B ≤ d * B := Nat.mul_le_mul_right B (by rw [hP] at c1; omega)
    rw [Nat.add_mul] at this
    rw [hpw, hP, hB]
    omega
   ·have hkl : k = L := by
     rcases hf with h | ⟨-, h⟩
     ·by_cases c2 : L < k
      ·exact absurd ⟨by omega, c2⟩ hcase
      ·omega
     ·exact h
    refine held_under (by omega) ?_
    rw [odd_tz hodd, hkl]
    have := width_lt R (show L - 1 < L by omega)
    simpa using this
  rw [if_neg (by rw [hh]; decide)]
  by_cases hz : d - 1 = 0
  ·rw [hz, held_zero, if_pos rfl]
   have hd1 : d = 1 := by omega
   have hn0 : nearD R D L gr d k = 0 := by
    unfold nearD
    split
    ·rename_i c
     rw [if_neg (fun c2 => hcase ⟨c, c2⟩)]
     split <;> omega
    ·omega
   rw [hn0]
   exact bare_nil _ _ _
  ·by_cases hgood : 2 ^ (widthN R * (D - 1).toNat) ≤ d - 1 ∨ (gr = true ∧ k = L)
   ·have hh2 : heldB R D L G gr (d - 1) ((widthN R : Int) * k) = true := by
     rw [held_spot h1 (by omega) hk hgood hz]
     exact decide_eq_true hG
    rw [if_pos hh2]
    have hn : nearD R D L gr d k = d - 1 ∧ nearK R D L d k = k := by
     unfold nearD nearK
     by_cases c : d = 2 ^ (widthN R * (D - 1).toNat)
     ·have c2 : ¬L < k := fun c2 => hcase ⟨c, c2⟩
      rcases hgood with h | ⟨h3, h4⟩
      ·omega
      ·rw [if_pos c, if_neg c2, if_pos h3, if_pos c, if_neg c2]
       exact ⟨rfl, h4.symm⟩
     ·rw [if_neg c, if_neg c]
      exact ⟨rfl, rfl⟩
    rw [hn.1, hn.2]
   ·have c : d = 2 ^ (widthN R * (D - 1).toNat) := by
     rcases hf with h | h
     ·have : ¬2 ^ (widthN R * (D - 1).toNat) ≤ d - 1 := fun c => hgood (.inl c)
      omega
     ·exact absurd (.inr h) hgood
    have c2 : ¬L < k := fun c2 => hcase ⟨c, c2⟩
    have hkl : k = L := by omega
    have hgr : gr = false := by
     cases gr
     ·rfl
     ·exact absurd (.inr ⟨rfl, hkl⟩) hgood
    have hh2 : heldB R D L G gr (d - 1) ((widthN R : Int) * k) = false := by
     refine decide_eq_false ?_
     rintro (h | ⟨h3, -, -⟩)
     ·exact hz h
     ·unfold spotK at h3
      rw [hgr, Bool.and_false, if_neg (by decide)] at h3
      have hbl := bitLen_le_of (d - 1) (widthN R * (D - 1).toNat) (by omega)
      unfold powerR at h3
      have hle : (bitLen (d - 1) : Int) - 1 + (widthN R : Int) * k < (widthN R : Int) * (D - 1 + L) := by
       rw [Int.mul_add, hkl]
       have : ((widthN R * (D - 1).toNat : Nat) : Int) = (widthN R : Int) * (D - 1) := by
        rw [Int.natCast_mul, Int.toNat_of_nonneg (by omega)]
       omega
      have := Int.ediv_lt_of_lt_mul (show (0 : Int) < (widthN R : Int) by omega) (show (bitLen (d - 1) : Int) - 1 + (widthN R : Int) * k < (D - 1 + L) * (widthN R : Int) by rw [Int.mul_comm (D - 1 + L)]; exact hle)
      omega
    rw [if_neg (by rw [hh2]; decide)]
    have hn : nearD R D L gr d k = 0 := by
     unfold nearD
     rw [if_pos c, if_neg c2, if_neg (by rw [hgr]; decide)]
    rw [hn]
    simp [bare]
end Go.Proofs.YtiiphandhpilgaaGreatDoor
namespace Go.Proofs.YtiiphandhpilgaaGreatDoor
open Go.RowKit
theorem found_full {R D L G : Int} {gr : Bool} {n : Nat} {e : Int} (h1 : 1 ≤ D) (h0 : n ≠ 0) (hh : heldB R D L G gr n e = true) :
  2 ^ (widthN R * (D - 1).toNat) ≤ findD R D L gr n e ∨ (gr = true ∧ spotK R D L gr n e = L) := by
 obtain ⟨-, -, -, -, -, -, hf⟩ := found_spot h1 h0 hh
 by_cases hg : (decide (powerR R D ((bitLen n : Int) - 1 + e) < L) && gr) = true
 ·refine .inr ⟨?_, if_pos hg⟩
  rw [Bool.and_eq_true] at hg
  exact hg.2
 ·left
  have hk : spotK R D L gr n e = powerR R D ((bitLen n : Int) - 1 + e) := if_neg hg
  rw [hf, whole_ge n 1 _ _ h0 (by omega), topQ_one h0, hk]
  unfold powerR
  have hw := width_pos R
  have hd := Int.mul_ediv_self_le (x := (bitLen n : Int) - 1 + e) (k := (widthN R : Int)) (by omega)
  have e1 : ((widthN R * (D - 1).toNat : Nat) : Int) = (widthN R : Int) * (D - 1) := by
   rw [Int.natCast_mul, Int.toNat_of_nonneg (by omega)]
  rw [e1]
  have e2 : (widthN R : Int) * (((bitLen n : Int) - 1 + e) / (widthN R : Int) - (D - 1)) = (widthN R : Int) * (((bitLen n : Int) - 1 + e) / (widthN R : Int)) - (widthN R : Int) * (D - 1) := Int.mul_sub _ _ _
  omega
theorem found_trip {R D L G : Int} {gr : Bool} {n : Nat} {e : Int} (s : Bool) (h1 : 1 ≤ D) (h0 : n ≠ 0) (hh : heldB R D L G gr n e = true) :
  bare ⟨s, n, e⟩ = bare ⟨s, findD R D L gr n e, (widthN R : Int) * spotK R D L gr n e⟩ := by
 obtain ⟨-, -, -, -, -, -, hf⟩ := found_spot h1 h0 hh
 obtain ⟨-, p2⟩ := one_parts s n e ((widthN R : Int) * spotK R D L gr n e) ((held_iff h0).1 hh).2.2
 rw [hf]
 exact p2.symm
theorem bare_minus (s : Bool) (n : Nat) (e : Int) : minusT (bare ⟨s, n, e⟩) = bare ⟨!s, n, e⟩ := by
 unfold bare
 by_cases h : n = 0
 ·subst h
  rfl
 ·rw [if_neg h, if_neg h]
  unfold minusT
  obtain ⟨m, hm⟩ := tz_spec h
  rw [show n / 2 ^ tz n = 2 * m + 1 from div_tz hm]
  simp
def soR (R D L G : Int) (gr : Bool) (a : Trip) : Trip × Bool :=
 if a.n = 0 then (⟨false, 1, (widthN R : Int) * (if gr = true then L else L + D - 1)⟩, true)
 else if a.s = true then (soN R D L G gr a, true) else (soC R D L a, inR R D L G gr (soC R D L a).n (soC R D L a).e)
def soA (up : Bool) (a : Trip) : Trip := if up = true then a else minusT a
theorem tz_one : tz 1 = 0 := tz_eq (m := 0) (by simp)
theorem bare_one (s : Bool) (e : Int) : bare ⟨s, 1, e⟩ = ⟨s, 1, e⟩ := by
 unfold bare
 rw [if_neg (by simp)]
 simp [tz_one]
theorem want_so (t : Trip) : wantR 0 (bare t) = shortT t := (if_pos rfl).trans (toT_bare t)
theorem pow_step (s : Bool) (R D L : Int) (h1 : 1 ≤ D) : bare ⟨s, 2 ^ (widthN R * (D - 1).toNat), (widthN R : Int) * L⟩ = ⟨s, 1, (widthN R : Int) * (L + D - 1)⟩ := by
 rw [← bare_one]
 have e1 : ((widthN R * (D - 1).toNat : Nat) : Int) = (widthN R : Int) * (D - 1) := by
  rw [Int.natCast_mul, Int.toNat_of_nonneg (by omega)]
 have e2 : (widthN R : Int) * (L + D - 1) = (widthN R : Int) * L + (widthN R : Int) * (D - 1) := by
  rw [← Int.mul_add]
  congr 1
  omega
 have h0 : 0 ≤ (widthN R : Int) * (D - 1) := by rw [← e1]; omega
 refine bare_of_V (K := ((widthN R : Int) * L).natAbs) (by simp only; omega) (by simp only; omega) ?_
 rw [V_nat, V_nat]
 simp only
 rw [← Nat.pow_add, Nat.one_mul, e2]
 congr 2
 omega
theorem steps_zero {R D L G : Int} {gr s up : Bool} {xs : List Nat} {e : Int} (hc : dchk xs e = 0) (hg : gridC R D L G = 0) (hl : xs.length = 0) :
  wantR 0 (soA up (soR R D L G gr (soA up (bare ⟨s, Dg.vl 4294967296 xs, e⟩))).1) = stepR R D L G gr s up xs e ∧ (soR R D L G gr (soA up (bare ⟨s, Dg.vl 4294967296 xs, e⟩))).2 = true := by
 obtain ⟨-, d1, -, -, -, -, -, lg, -⟩ := gridC_zero hg
 have e0 : Dg.vl 4294967296 xs = 0 := by rw [List.length_eq_zero_iff.1 hl]; rfl
 have hpw : 1 < 2 ^ (widthN R * D.toNat) := by
  have : 2 ^ 1 ≤ 2 ^ (widthN R * D.toNat) := Nat.pow_le_pow_right (by omega) (Nat.mul_pos (width_pos R) (by omega))
  omega
 have hb : bare ⟨s, 0, e⟩ = ⟨false, 0, 0⟩ := by simp [bare]
 have ha : soA up ⟨false, 0, 0⟩ = ⟨false, 0, 0⟩ := by
  unfold soA minusT
  cases up <;> rfl
 have hso : soR R D L G gr ⟨false, 0, 0⟩ = (⟨false, 1, (widthN R : Int) * (if gr = true then L else L + D - 1)⟩, true) := if_pos rfl
 rw [e0, hb, ha, hso]
 refine ⟨?_, rfl⟩
 have hs : soA up ⟨false, 1, (widthN R : Int) * (if gr = true then L else L + D - 1)⟩ = ⟨!up, 1, (widthN R : Int) * (if gr = true then L else L + D - 1)⟩ := by
  unfold soA minusT
  cases up <;> rfl
 have hN : stepN s up xs.length = !up := if_pos hl
 have hNu : ¬stepN s up xs.length = up := by rw [hN]; cases up <;> decide
 have hD : stepD R D L G gr s up xs.length 0 e = farD R D gr 0 := (if_neg hNu).trans (by rw [show fD R D L G gr 0 e = 0 from if_pos rfl])
 have hK : stepK R D L G gr s up xs.length 0 e = farK R D L gr 0 L := (if_neg hNu).trans (by rw [show fD R D L G gr 0 e = 0 from if_pos rfl, show fK R D L G gr 0 e = L from if_pos rfl])
 have hKL : farK R D L gr 0 L = L := by
  unfold farK carP
  split
  ·rfl
  ·rw [if_neg (by omega)]
 unfold stepR
 rw [if_pos (show onC (dchk xs e) (gridC R D L G) = 0 from (if_pos hc).trans hg), e0, if_pos (held_zero R D L G gr e), hK, hD, hKL, if_neg (show ¬G < L by omega), hN]
 simp only
 rw [hs]
 rw [← bare_one, want_so]
 apply short_bare
 cases gr
 ·rw [show farD R D false 0 = 2 ^ (widthN R * (D - 1).toNat) from if_pos ⟨rfl, rfl⟩, pow_step _ _ _ _ d1, if_neg (by decide), bare_one]
 ·have hd : farD R D true 0 = 1 := by
   unfold farD carD
   rw [if_neg (by simp), if_neg (by omega)]
  rw [hd, if_pos rfl]
theorem steps_some {R D L G : Int} {gr s up : Bool} {xs : List Nat} {e : Int} (sa : Dg.Small 4294967296 xs) (hc : dchk xs e = 0) (hg : gridC R D L G = 0) (hl : ¬xs.length = 0) (hh : heldB R D L G gr (Dg.vl 4294967296 xs) e = true) :
  wantR (if (soR R D L G gr (soA up (bare ⟨s, Dg.vl 4294967296 xs, e⟩))).2 = true then 0 else 5) (soA up (soR R D L G gr (soA up (bare ⟨s, Dg.vl 4294967296 xs, e⟩))).1) = stepR R D L G gr s up xs e := by
 obtain ⟨-, d1, -, -, -, -, -, lg, -⟩ := gridC_zero hg
 have h0 : Dg.vl 4294967296 xs ≠ 0 := gvl_ne sa (dchk_zero hc).1 hl
 obtain ⟨f1, f2, f3, f4, f5, f6, -⟩ := found_spot d1 h0 hh
 have ff := found_full d1 h0 hh
 have ft := found_trip s d1 h0 hh
 have hN : stepN s up xs.length = s := if_neg hl
 unfold stepR
 rw [if_pos (show onC (dchk xs e) (gridC R D L G) = 0 from (if_pos hc).trans hg), if_pos hh, hN]
 unfold stepD stepK
 rw [hN, f1, f2, ft]
 generalize findD R D L gr (Dg.vl 4294967296 xs) e = d at f3 f4 ff ⊢
 generalize spotK R D L gr (Dg.vl 4294967296 xs) e = k at f5 f6 ff ⊢
 have hA : soA up (bare ⟨s, d, (widthN R : Int) * k⟩) = bare ⟨(s == up), d, (widthN R : Int) * k⟩ := by
  unfold soA
  cases up
  ·rw [if_neg (by decide), bare_minus]
   cases s <;> rfl
  ·rw [if_pos rfl]
   cases s <;> rfl
 have hbn : ∀ s', (bare ⟨s', d, (widthN R : Int) * k⟩).n ≠ 0 := fun s' => (bare_top (t := ⟨s', d, (widthN R : Int) * k⟩) f3).1
 have hbs : ∀ s', (bare ⟨s', d, (widthN R : Int) * k⟩).s = s' := fun s' => by
  unfold bare
  rw [if_neg f3]
 rw [hA]
 by_cases hsu : s = up
 ·subst hsu
  rw [show (s == s) = true from by simp, if_pos rfl, if_pos rfl]
  have hso : soR R D L G gr (bare ⟨true, d, (widthN R : Int) * k⟩) = (bare ⟨true, nearD R D L gr d k, (widthN R : Int) * nearK R D L d k⟩, true) := by
   unfold soR
   rw [if_neg (hbn true), hbs, if_pos rfl, soN_is hg f3 f5 f6 f4 ff]
  rw [hso]
  simp only [if_true]
  have hk : nearK R D L d k ≤ G := by
   unfold nearK
   split
   ·split <;> omega
   ·exact f6
  rw [if_neg (by omega)]
  have hw : soA s (bare ⟨true, nearD R D L gr d k, (widthN R : Int) * nearK R D L d k⟩) = bare ⟨s, nearD R D L gr d k, (widthN R : Int) * nearK R D L d k⟩ := by
   unfold soA
   cases s
   ·rw [if_neg (by decide), bare_minus]
    rfl
   ·rw [if_pos rfl]
  rw [hw, want_so]
 ·rw [show (s == up) = false from by simpa using hsu, if_neg hsu, if_neg hsu]
  obtain ⟨n1, n2⟩ := far_next (R := R) (D := D) (L := L) (gr := gr) (d := d) (p := k) (.inl f3)
  have hC := soC_far d1 f3 f5 f4 ff
  have hin : inR R D L G gr (soC R D L (bare ⟨false, d, (widthN R : Int) * k⟩)).n (soC R D L (bare ⟨false, d, (widthN R : Int) * k⟩)).e = decide (carP R D (d + 1) k ≤ G) := by
   obtain ⟨q1, q2, -, q4, q5⟩ := next_spot (R := R) (D := D) (L := L) (G := carP R D (d + 1) k) (gr := gr) (d := d) (k := k) d1 f5 (Int.le_refl _) f4 ff
   rw [hC, ← car_bare R D false (d + 1) k d1, held_in gr _ lg]
   simp only
   exact held_spot d1 q4 q2 q5 q1
  have hso : soR R D L G gr (bare ⟨false, d, (widthN R : Int) * k⟩) = (bare ⟨false, carD R D (d + 1), (widthN R : Int) * carP R D (d + 1) k⟩, decide (carP R D (d + 1) k ≤ G)) := by
   unfold soR
   rw [if_neg (hbn false), hbs, if_neg (by decide), hin, hC, car_bare R D false (d + 1) k d1]
  rw [hso, n1, n2]
  simp only
  by_cases hG : carP R D (d + 1) k ≤ G
  ·rw [decide_eq_true hG, if_pos rfl, if_neg (by omega)]
   have hw : soA up (bare ⟨false, carD R D (d + 1), (widthN R : Int) * carP R D (d + 1) k⟩) = bare ⟨s, carD R D (d + 1), (widthN R : Int) * carP R D (d + 1) k⟩ := by
    unfold soA
    cases up
    ·rw [if_neg (by decide), bare_minus]
     cases s
     ·exact absurd rfl hsu
     ·rfl
    ·rw [if_pos rfl]
     cases s
     ·rfl
     ·exact absurd rfl hsu
   rw [hw, want_so]
  ·rw [decide_eq_false hG, if_neg (by decide), if_pos (by omega)]
   rfl
end Go.Proofs.YtiiphandhpilgaaGreatDoor
