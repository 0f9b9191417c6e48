/-
  One round of long division, without the program.
-/
import Derived.Test.YtepcafhlhnlgaaaLong
namespace Go.Proofs.Ytepcafhlhnlgaaa
open Go.RowKit

theorem long_guess {A D M N i nn : Nat} {R os bs : List Nat} (h : LongI A D M R os N (i + 1)) (sb : Dg.Small 4294967296 bs) (hbs : Dg.vl 4294967296 bs = D) (hn : 2 ≤ nn) (hD1 : 2147483648 * 4294967296 ^ (nn - 1) ≤ D) (hD2 : D < 4294967296 ^ nn) :
    2147483648 ≤ bs.getD (nn - 1) 0 ∧ R.getD (i + nn) 0 ≤ bs.getD (nn - 1) 0 ∧
    ∀ g, g < 4294967296 → (∀ k, k * (bs.getD (nn - 1) 0 * 4294967296 + bs.getD (nn - 2) 0) ≤ (R.getD (i + nn) 0 * 4294967296 + R.getD (i + (nn - 1)) 0) * 4294967296 + R.getD (i + (nn - 2)) 0 → k < 4294967296 → k ≤ g) →
      g * (bs.getD (nn - 1) 0 * 4294967296 + bs.getD (nn - 2) 0) ≤ (R.getD (i + nn) 0 * 4294967296 + R.getD (i + (nn - 1)) 0) * 4294967296 + R.getD (i + (nn - 2)) 0 →
      Dg.vl 4294967296 R / 4294967296 ^ i / D < 4294967296 ∧ (g = Dg.vl 4294967296 R / 4294967296 ^ i / D ∨ g = Dg.vl 4294967296 R / 4294967296 ^ i / D + 1) := by
  obtain ⟨-, -, sR, -, -, -, hX⟩ := h
  obtain ⟨m, rfl⟩ : ∃ m, nn = m + 2 := ⟨nn - 2, by omega⟩
  have hB : (0 : Nat) < 4294967296 := by omega
  rw [show m + 2 - 1 = m + 1 from rfl] at *
  rw [show m + 2 - 2 = m from rfl]
  have d1 : bs.getD (m + 1) 0 = D / 4294967296 ^ (m + 1) % 4294967296 := by rw [dig_at 4294967296 bs (m + 1) hB sb, hbs]
  have d0 : bs.getD m 0 = D / 4294967296 ^ m % 4294967296 := by rw [dig_at 4294967296 bs m hB sb, hbs]
  have p2 := dig_at 4294967296 R (i + (m + 2)) hB sR
  have p1 := dig_at 4294967296 R (i + (m + 1)) hB sR
  have p0 := dig_at 4294967296 R (i + m) hB sR
  have hXl : Dg.vl 4294967296 R < 4294967296 ^ (i + m + 3) := by
    have e1 : D * 4294967296 ^ (i + 1) ≤ 4294967296 ^ (m + 2) * 4294967296 ^ (i + 1) := Nat.mul_le_mul_right _ (Nat.le_of_lt hD2)
    rw [← Nat.pow_add, show m + 2 + (i + 1) = i + m + 3 from by omega] at e1
    exact Nat.lt_of_lt_of_le hX e1
  have tp := top_le (n := m + 2) hB (by omega) hX
  rw [show m + 2 - 1 = m + 1 from rfl] at tp
  have hDt : D / 4294967296 ^ (m + 1) < 4294967296 := by
    rw [Nat.div_lt_iff_lt_mul (Nat.pow_pos hB), Nat.mul_comm, ← Nat.pow_succ]
    exact hD2
  have t3 := three 4294967296 (Dg.vl 4294967296 R) (i + m) hB hXl
  have t2 := two 4294967296 D m hB hD2
  rw [d1, d0, p2, p1, p0]
  rw [show i + (m + 2) = i + m + 2 from by omega] at tp ⊢
  rw [show i + (m + 1) = i + m + 1 from by omega]
  refine ⟨?_, ?_, ?_⟩
  · rw [Nat.mod_eq_of_lt hDt, Nat.le_div_iff_mul_le (Nat.pow_pos hB)]
    exact hD1
  · rw [Nat.mod_eq_of_lt hDt]
    exact Nat.le_trans (Nat.mod_le _ _) tp
  · rw [t3, t2]
    intro g hg hlow hup
    refine guess_right hB hX ?_ hg hlow hup
    have e1 : 1 * 4294967296 ^ (m + 1) ≤ 2147483648 * 4294967296 ^ (m + 1) := Nat.mul_le_mul_right _ (by omega)
    rw [Nat.one_mul] at e1
    exact Nat.le_trans e1 hD1

theorem long_next {A D M N i q : Nat} {R os cur : List Nat} (h : LongI A D M R os N (i + 1)) (hi : i < M) (hq : q < 4294967296) (hl : cur.length = R.length) (sc : Dg.Small 4294967296 cur)
    (hv : Dg.vl 4294967296 cur + 4294967296 ^ i * (D * q) = Dg.vl 4294967296 R) (hlt : Dg.vl 4294967296 cur < D * 4294967296 ^ i) : LongI A D M cur (os.set i q) N i := by
  obtain ⟨h1, h2, h3, h4, h5, h6, h7⟩ := h
  refine ⟨by omega, by simpa using h2, sc, Dg.small_set h4 _ _ hq, fun j hj => ?_, ?_, hlt⟩
  · rw [Dg.getD_set _ _ _ _ (by omega), if_neg (by omega)]; exact h5 j (by omega)
  · have hs := Dg.vl_set 4294967296 os i q (by omega)
    rw [h5 i (by omega), Nat.mul_zero, Nat.add_zero] at hs
    rw [hs, Nat.mul_add, ← h6, ← hv]
    have e : D * (4294967296 ^ i * q) = 4294967296 ^ i * (D * q) := by rw [← Nat.mul_assoc, ← Nat.mul_assoc, Nat.mul_comm D]
    rw [e]; omega

theorem vl_pad (l : List Nat) (n : Nat) : Dg.vl 4294967296 (l ++ List.replicate n 0) = Dg.vl 4294967296 l := by
  rw [Dg.vl_append, Dg.vl_zeros 4294967296 (List.replicate n 0) (fun i => by
    by_cases h : i < n
    · simp [List.getD_eq_getElem?_getD, h]
    · simp [List.getD_eq_getElem?_getD, h]), Nat.mul_zero, Nat.add_zero]

theorem small_app {l m : List Nat} (h : Dg.Small 4294967296 l) (k : Dg.Small 4294967296 m) : Dg.Small 4294967296 (l ++ m) := by
  intro i
  by_cases hi : i < l.length
  · have := h i
    simpa [List.getD_eq_getElem?_getD, List.getElem?_append_left hi] using this
  · have := k (i - l.length)
    simpa [List.getD_eq_getElem?_getD, List.getElem?_append_right (Nat.le_of_not_lt hi)] using this

theorem small_zeros (n : Nat) : Dg.Small 4294967296 (List.replicate n 0) := by
  intro i
  by_cases h : i < n
  · simp [List.getD_eq_getElem?_getD, h]
  · simp [List.getD_eq_getElem?_getD, h]

theorem getD_zeros (n j : Nat) : (List.replicate n 0).getD j 0 = 0 := by
  by_cases h : j < n
  · simp [List.getD_eq_getElem?_getD, h]
  · simp [List.getD_eq_getElem?_getD, h]

theorem long_start {X na nn s D : Nat} {az : List Nat} (haz : Dg.dg 4294967296 (X * 2 ^ s) = az) (hal : az.length ≤ na + 1) (hX : X < 4294967296 ^ na) (hs : s < 32) (hn : 1 ≤ nn) (hle : nn ≤ na + 1) (hD1 : 2147483648 * 4294967296 ^ (nn - 1) ≤ D) :
    LongI (X * 2 ^ s) D (na + 1 - nn) (az ++ (List.replicate (na + 1) 0).drop az.length) (List.replicate (na + 1 - nn) 0) (na + 1) (na + 1 - nn) := by
  have sz : Dg.Small 4294967296 az := by rw [← haz]; exact Dg.small_dg _ _ (by omega)
  have hv : Dg.vl 4294967296 (az ++ (List.replicate (na + 1) 0).drop az.length) = X * 2 ^ s := by
    rw [List.drop_replicate, vl_pad, ← haz, Dg.vl_dg _ _ (by omega)]
  refine ⟨by simp; omega, by simp, ?_, small_zeros _, fun j _ => getD_zeros _ j, ?_, ?_⟩
  · rw [List.drop_replicate]
    exact small_app sz (small_zeros _)
  · rw [hv, Dg.vl_zeros _ _ (getD_zeros _), Nat.mul_zero, Nat.zero_add]
  · rw [hv]
    have e1 : 2147483648 * 4294967296 ^ (nn - 1) * 4294967296 ^ (na + 1 - nn) ≤ D * 4294967296 ^ (na + 1 - nn) := Nat.mul_le_mul_right _ hD1
    rw [Nat.mul_assoc, ← Nat.pow_add, show nn - 1 + (na + 1 - nn) = na from by omega] at e1
    have e2 : X * 2 ^ s < 4294967296 ^ na * 2 ^ s := Nat.mul_lt_mul_of_pos_right hX (Nat.pow_pos (by omega))
    have e3 : 4294967296 ^ na * 2 ^ s ≤ 4294967296 ^ na * 2 ^ 31 := Nat.mul_le_mul_left _ (Nat.pow_le_pow_right (by omega) (by omega))
    rw [show (2 : Nat) ^ 31 = 2147483648 from rfl, Nat.mul_comm _ 2147483648] at e3
    omega

theorem long_end {X Y s M N : Nat} {R os : List Nat} (hY : 0 < Y) (h : LongI (X * 2 ^ s) (Y * 2 ^ s) M R os N 0) : Dg.vl 4294967296 os = X / Y ∧ Dg.vl 4294967296 R / 2 ^ s = X % Y := by
  obtain ⟨-, -, -, -, -, h6, h7⟩ := h
  rw [Nat.pow_zero, Nat.mul_one] at h7
  have hp : 0 < 2 ^ s := Nat.pow_pos (by omega)
  have hD : 0 < Y * 2 ^ s := Nat.mul_pos hY hp
  have e1 : X * 2 ^ s / (Y * 2 ^ s) = Dg.vl 4294967296 os := by
    rw [← h6, Nat.mul_add_div hD, Nat.div_eq_of_lt h7, Nat.add_zero]
  have e2 : X * 2 ^ s % (Y * 2 ^ s) = Dg.vl 4294967296 R := by
    rw [← h6, Nat.mul_add_mod, Nat.mod_eq_of_lt h7]
  rw [Nat.mul_div_mul_right _ _ hp] at e1
  rw [Nat.mul_mod_mul_right] at e2
  refine ⟨e1.symm, ?_⟩
  rw [← e2, Nat.mul_div_cancel _ hp]
end Go.Proofs.Ytepcafhlhnlgaaa
