/-
  Texts laid together: Cr11.
-/
import Derived.Test.YtiiphandhpilgaaGreatDoorNd36
namespace Go.Proofs.YtiiphandhpilgaaGreatDoor
open Go.RowKit
theorem strip_eq (r : Nat) (hr : 2 ≤ r) : ∀ (j n q : Nat) (p : Int), q % r ≠ 0 → r ^ j * q < 2 ^ n → stripF r n (r ^ j * q) p = (q, p + (j : Int))
 | 0, n, q, p, hq, hn => by
  rw [Nat.pow_zero, Nat.one_mul] at hn ⊢
  cases n with
  | zero =>
   have : q = 0 := by simpa using hn
   subst this
   simp at hq
  | succ n =>
   rw [stripF, if_neg hq]
   simp
 | j + 1, n, q, p, hq, hn => by
  have e1 : r ^ (j + 1) * q = r * (r ^ j * q) := by rw [Nat.pow_succ, Nat.mul_comm (r ^ j) r, Nat.mul_assoc]
  rw [e1] at hn ⊢
  cases n with
  | zero =>
   exfalso
   have h0 : r * (r ^ j * q) = 0 := by simpa using hn
   have hq0 : q ≠ 0 := fun h => hq (by rw [h]; simp)
   have h1 : 0 < r ^ j * q := Nat.mul_pos (Nat.pow_pos (by omega)) (Nat.pos_of_ne_zero hq0)
   have h2 : 0 < r * (r ^ j * q) := Nat.mul_pos (by omega) h1
   omega
  | succ n =>
   rw [stripF, if_pos (Nat.mul_mod_right _ _), Nat.mul_div_cancel_left _ (by omega)]
   have hlt : r ^ j * q < 2 ^ n := by
    have h2 : 2 * (r ^ j * q) ≤ r * (r ^ j * q) := Nat.mul_le_mul_right _ hr
    rw [Nat.pow_succ] at hn
    omega
   rw [strip_eq r hr j n q (p + 1) hq hlt]
   congr 1
   push_cast
   omega
theorem or_add {f n : Nat} (h : f < 2 ^ n) : f ||| 2 ^ n = f + 2 ^ n := by
 rw [Nat.or_comm, nat_join n (2 ^ n) f (Nat.mod_self _) h]
 omega
theorem or_top {f n : Nat} (h1 : 2 ^ n ≤ f) (h2 : f < 2 ^ (n + 1)) : f ||| 2 ^ n = f := by
 rw [Nat.pow_succ] at h2
 have e : f = 2 ^ n ||| (f - 2 ^ n) := by
  rw [nat_join n (2 ^ n) (f - 2 ^ n) (Nat.mod_self _) (by omega)]
  omega
 rw [e, Nat.or_comm, ← Nat.or_assoc, Nat.or_self]
theorem refT_num {k : Nat} (hk : 1 ≤ k ∧ k ≤ 8) {ng : Bool} {E F : Nat} (hE : E < 2 ^ exN k) (hF : F < 2 ^ frN k) (hc : clsN k ng E F = 2) : refT k ng E F = bare ⟨ng, plcN k E F, wdI (rdN k : Int) * plcP k E⟩ := by
 unfold refT
 by_cases h3 : k = 3
 ·subst h3
  rw [if_pos rfl]
  unfold clsN at hc
  rw [if_pos (show 3 ≤ 3 by omega), show onesN 3 = 2 ^ exN 3 - 1 from rfl] at hc
  have hp : 2 ≤ 2 ^ exN 3 := by decide
  have hF' : F < 2 ^ 64 := hF
  have hlead : leadN 3 = 2 ^ 63 := rfl
  unfold plcN plcP
  rw [if_neg (show ¬ rdN 3 = 16 by decide), if_neg (show ¬ rdN 3 = 16 by decide), hlead]
  generalize (2 : Nat) ^ exN 3 = px at *
  by_cases e0 : E = 0
  ·rw [if_neg (show ¬ (E + 1 = px ∨ 0 < E ∧ F < 2 ^ (dgN 3 - 1)) by omega), if_pos e0, if_pos e0]
   subst e0
   simp
  ·rw [if_neg e0] at hc
   by_cases e1 : E = px - 1
   ·rw [if_pos e1] at hc
    by_cases hz : F = (if 3 = 3 then 2 ^ 63 else 0)
    ·rw [if_pos hz] at hc
     omega
    ·rw [if_neg hz] at hc
     omega
   ·rw [if_neg e1] at hc
    have hf : ¬ F < 2 ^ 63 := fun hf => by
     rw [if_pos ⟨rfl, hf⟩] at hc
     omega
    rw [if_neg (show ¬ (E + 1 = px ∨ 0 < E ∧ F < 2 ^ (dgN 3 - 1)) from fun h => by
     rcases h with h | h
     ·omega
     ·exact hf h.2), if_neg e0, if_neg e0, or_top (by omega) hF', show lsI 3 + (((E - 1 : Nat) : Nat) : Int) = lsI 3 + (E : Int) - 1 from by omega]
 ·rw [if_neg h3]
  by_cases h2 : k ≤ 2
  ·rw [if_pos h2]
   have hfd : frN k = dgN k - 1 ∧ rdN k = 2 ∧ 2 ≤ 2 ^ exN k := by rcases (show k = 1 ∨ k = 2 by omega) with rfl | rfl <;> decide
   unfold clsN at hc
   rw [if_pos (show k ≤ 3 by omega), show onesN k = 2 ^ exN k - 1 from rfl, if_neg h3] at hc
   rw [hfd.1] at hF
   unfold plcN plcP
   rw [if_neg (show ¬ rdN k = 16 by omega), if_neg (show ¬ rdN k = 16 by omega)]
   have hp := hfd.2.2
   have hL : leadN k = 2 ^ (dgN k - 1) := rfl
   rw [hL]
   by_cases e0 : E = 0
   ·rw [if_neg (show ¬ E + 1 = 2 ^ exN k by omega), if_pos e0, if_pos e0, if_neg (show ¬ 0 < E by omega)]
    subst e0
    simp
   ·rw [if_neg e0] at hc
    by_cases e1 : E = 2 ^ exN k - 1
    ·rw [if_pos e1] at hc
     split at hc <;> omega
    ·rw [if_neg (show ¬ E + 1 = 2 ^ exN k by omega), if_neg e0, if_neg e0, if_pos (show 0 < E by omega), or_add hF, show lsI k + (((E - 1 : Nat) : Nat) : Int) = lsI k + (E : Int) - 1 from by omega]
  ·rw [if_neg h2]
   by_cases h5 : k ≤ 5
   ·rw [if_pos h5]
    have hr : rdN k = 16 := by rcases (show k = 4 ∨ k = 5 by omega) with rfl | rfl <;> rfl
    unfold plcN plcP
    rw [if_pos hr, if_pos hr]
   ·rw [if_neg h5]
    have hfd : frN k = dgN k - 1 ∧ rdN k = 2 := by rcases (show k = 6 ∨ k = 7 ∨ k = 8 by omega) with rfl | rfl | rfl <;> decide
    rw [hfd.1] at hF
    unfold clsN at hc
    rw [if_neg (show ¬ k ≤ 3 by omega), if_neg h5] at hc
    have e0 : E ≠ 0 := fun e0 => by
     rw [if_pos e0] at hc
     split at hc <;> omega
    unfold plcN plcP
    rw [if_neg (show ¬ rdN k = 16 by omega), if_neg (show ¬ rdN k = 16 by omega), if_neg e0, if_neg e0, if_neg e0, show leadN k = 2 ^ (dgN k - 1) from rfl, or_add hF]
theorem refG_val {k : Nat} (hk : 1 ≤ k ∧ k ≤ 8) (ng : Bool) (E F : Nat) : refG k ng E F = valG k ng E F := by
 unfold refG valG clsN
 have ho : onesN k = 2 ^ exN k - 1 := rfl
 have h1 : 2 ≤ 2 ^ exN k := by
  have h7 := (sizes_fit hk).2.2.2.2.2
  have : 2 ^ 1 ≤ 2 ^ exN k := Nat.pow_le_pow_right (by omega) (by omega)
  omega
 by_cases h3 : k = 3
 ·have hd3 : 2 ^ (dgN k - 1) = 2 ^ 63 := by rw [h3]; rfl
  rw [if_pos h3, if_pos (show k ≤ 3 by omega), ho, hd3, if_pos h3]
  generalize (2 : Nat) ^ exN k = px at *
  generalize (2 : Nat) ^ 63 = p63 at *
  by_cases e0 : E = 0
  ·rw [if_neg (show ¬ E + 1 = px by omega), if_neg (show ¬ (0 < E ∧ F < p63) by omega), if_pos e0]
   split <;> simp
  ·rw [if_neg e0]
   by_cases e1 : E + 1 = px
   ·rw [if_pos e1, if_pos (show E = px - 1 by omega)]
    split <;> simp
   ·rw [if_neg e1, if_neg (show ¬ E = px - 1 by omega)]
    by_cases ef : F < p63
    ·rw [if_pos (show 0 < E ∧ F < p63 by omega), if_pos (show k = 3 ∧ F < p63 from ⟨h3, ef⟩)]
     simp
    ·rw [if_neg (show ¬ (0 < E ∧ F < p63) by omega), if_neg (show ¬ (k = 3 ∧ F < p63) from fun h => ef h.2)]
     simp
 ·rw [if_neg h3]
  by_cases h2 : k ≤ 2
  ·rw [if_pos h2, if_pos (show k ≤ 3 by omega), ho, if_neg h3]
   generalize (2 : Nat) ^ exN k = px at *
   by_cases e0 : E = 0
   ·rw [if_neg (show ¬ E + 1 = px by omega), if_pos e0]
    split <;> simp
   ·rw [if_neg e0]
    by_cases e1 : E + 1 = px
    ·rw [if_pos e1, if_pos (show E = px - 1 by omega)]
     split <;> simp
    ·rw [if_neg e1, if_neg (show ¬ E = px - 1 by omega), if_neg (show ¬ (k = 3 ∧ F < 2 ^ 63) from fun h => h3 h.1)]
     simp
  ·rw [if_neg h2, if_neg (show ¬ k ≤ 3 by omega)]
   by_cases h5 : k ≤ 5
   ·rw [if_pos h5, if_pos h5]
    split <;> simp
   ·rw [if_neg h5, if_neg h5]
    by_cases e0 : E = 0
    ·rw [if_pos e0, if_pos e0]
     cases ng <;> simp
    ·rw [if_neg e0, if_neg e0]
     simp
theorem val2 {k : Nat} (hk : 1 ≤ k ∧ k ≤ 8) {ng : Bool} {E F : Nat} (hE : E < 2 ^ exN k) (hF : F < 2 ^ frN k) (hF64 : F < 2 ^ 64) (hc : clsN k ng E F = 2) (hr : rdN k = 2) :
  valM k ng E F = (refT k ng E F).n ∧ valP k ng E F = (refT k ng E F).e := by
 rw [refT_num hk hE hF hc]
 unfold valM valP
 rw [if_pos hc, if_pos hc, hr]
 have h0 := plcN_pos hc
 have hl := plcN_lt hk E hF64
 generalize plcN k E F = D at *
 generalize plcP k E = P at *
 obtain ⟨m, hm⟩ := tz_spec (n := D) (by omega)
 have hd := div_tz hm
 have hs := strip_eq 2 (by omega) (tz D) 64 (2 * m + 1) P (by omega) (by rw [← hm]; exact hl)
 rw [← hm] at hs
 rw [hs]
 unfold bare
 rw [if_neg (by show ¬ D = 0; omega)]
 refine ⟨hd.symm, ?_⟩
 show P + (tz D : Int) = wdI ((2 : Nat) : Int) * P + (tz D : Int)
 rw [show wdI ((2 : Nat) : Int) = 1 from by decide, Int.one_mul]
theorem val16 {k : Nat} (hk : 1 ≤ k ∧ k ≤ 8) {ng : Bool} {E F : Nat} (hE : E < 2 ^ exN k) (hF : F < 2 ^ frN k) (hF64 : F < 2 ^ 64) (hc : clsN k ng E F = 2) (hr : rdN k = 16) :
  4 * valP k ng E F ≤ (refT k ng E F).e ∧ (refT k ng E F).e < 4 * valP k ng E F + 4 ∧ valM k ng E F = shN (refT k ng E F).n ((refT k ng E F).e - 4 * valP k ng E F) := by
 rw [refT_num hk hE hF hc]
 unfold valM valP
 rw [if_pos hc, if_pos hc, hr]
 have h0 := plcN_pos hc
 have hl := plcN_lt hk E hF64
 generalize plcN k E F = D at *
 generalize plcP k E = P at *
 obtain ⟨m, hm⟩ := tz_spec (n := D) (by omega)
 have hd := div_tz hm
 obtain ⟨a, b, hab, hb⟩ : ∃ a b, tz D = 4 * a + b ∧ b < 4 := ⟨tz D / 4, tz D % 4, by omega, Nat.mod_lt _ (by omega)⟩
 have e16 : D = 16 ^ a * (2 ^ b * (2 * m + 1)) := by
  rw [hm, hab, Nat.pow_add, Nat.pow_mul, Nat.mul_assoc]
 have hq : 2 ^ b * (2 * m + 1) % 16 ≠ 0 := by
  rcases (show b = 0 ∨ b = 1 ∨ b = 2 ∨ b = 3 by omega) with rfl | rfl | rfl | rfl <;> omega
 have hs := strip_eq 16 (by omega) a 64 (2 ^ b * (2 * m + 1)) P hq (by rw [← e16]; exact hl)
 rw [← e16] at hs
 rw [hs]
 unfold bare
 rw [if_neg (by show ¬ D = 0; omega), show wdI ((16 : Nat) : Int) = 4 from by decide]
 simp only
 rw [hab]
 refine ⟨by push_cast; omega, by push_cast; omega, ?_⟩
 rw [show 4 * P + ((4 * a + b : Nat) : Int) - 4 * (P + (a : Int)) = (b : Int) from by push_cast; omega]
 unfold shN
 rw [if_neg (by omega), Int.toNat_natCast, ← hab, hd, Nat.mul_comm]
end Go.Proofs.YtiiphandhpilgaaGreatDoor
