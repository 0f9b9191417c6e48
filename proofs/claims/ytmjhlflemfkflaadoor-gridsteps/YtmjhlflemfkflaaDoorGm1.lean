/-
  Grids: the mathematics of RoundTo.
-/
import Derived.Test.YtmjhlflemfkflaaDoorGr5
import Derived.Test.YtmjhlflemfkflaaDoorNe
namespace Go.Proofs.YtmjhlflemfkflaaDoor
open Go.RowKit

theorem numP_pow (N : Nat) (n : Int) : numP N n = N * 2 ^ n.toNat := by
  unfold numP
  split
  · rw [show n.toNat = 0 by omega, Nat.pow_zero, Nat.mul_one]
  · rfl

theorem denP_pow (M : Nat) (n : Int) : denP M n = M * 2 ^ (-n).toNat := by
  unfold denP
  split
  · rfl
  · rw [show (-n).toNat = 0 by omega, Nat.pow_zero, Nat.mul_one]

theorem two_pos (k : Nat) : 0 < 2 ^ k := Nat.pow_pos (by omega)

/-- A ratio is not less than a power: and than a lesser one. -/
theorem ge_mono {N M a b a' b' : Nat} (h : M * 2 ^ b ≤ N * 2 ^ a) (hk : b' + a ≤ b + a') : M * 2 ^ b' ≤ N * 2 ^ a' := by
  refine Nat.le_of_mul_le_mul_right (c := 2 ^ a) ?_ (two_pos a)
  calc M * 2 ^ b' * 2 ^ a = M * 2 ^ (b' + a) := by rw [Nat.mul_assoc, ← Nat.pow_add]
    _ ≤ M * 2 ^ (b + a') := Nat.mul_le_mul_left _ (Nat.pow_le_pow_right (by omega) hk)
    _ = M * 2 ^ b * 2 ^ a' := by rw [Nat.mul_assoc, ← Nat.pow_add]
    _ ≤ N * 2 ^ a * 2 ^ a' := Nat.mul_le_mul_right _ h
    _ = N * 2 ^ a' * 2 ^ a := by rw [Nat.mul_right_comm]

theorem topQ_zero (N M : Nat) (E : Int) : topQ N M E = E + topQ N M 0 := by
  unfold topQ
  omega

theorem top_iff (N M a b : Nat) (hN : N ≠ 0) (hM : M ≠ 0) : M * 2 ^ b ≤ N * 2 ^ a ↔ (b : Int) ≤ topQ N M 0 + a := by
  obtain ⟨n1, n2, n3⟩ := bitLen_hi N hN
  obtain ⟨m1, m2, m3⟩ := bitLen_hi M hM
  obtain ⟨ln, hln⟩ : ∃ ln, bitLen N = ln := ⟨_, rfl⟩
  obtain ⟨lm, hlm⟩ : ∃ lm, bitLen M = lm := ⟨_, rfl⟩
  have ht : topQ N M 0 = 0 + (((ln : Int) - (lm : Int)) - (if numP N (-((ln : Int) - (lm : Int))) / denP M (-((ln : Int) - (lm : Int))) = 0 then 1 else 0)) := by
    unfold topQ
    rw [hln, hlm]
  rw [hln] at n1 n2 n3
  rw [hlm] at m1 m2 m3
  have low : M * 2 ^ (ln - 1) ≤ N * 2 ^ lm := by
    rw [Nat.mul_comm]
    exact Nat.mul_le_mul n2 (Nat.le_of_lt m3)
  have high : ¬M * 2 ^ ln ≤ N * 2 ^ (lm - 1) := by
    have h1 : N * 2 ^ (lm - 1) < 2 ^ ln * 2 ^ (lm - 1) := Nat.mul_lt_mul_of_pos_right n3 (two_pos _)
    have h2 : 2 ^ ln * 2 ^ (lm - 1) ≤ M * 2 ^ ln := by
      rw [Nat.mul_comm (2 ^ ln)]
      exact Nat.mul_le_mul_right _ m2
    omega
  have hq : numP N (-((ln : Int) - (lm : Int))) / denP M (-((ln : Int) - (lm : Int))) = 0 ↔ ¬M * 2 ^ (ln - lm) ≤ N * 2 ^ (lm - ln) := by
    rw [numP_pow, denP_pow, show (-((ln : Int) - (lm : Int))).toNat = lm - ln by omega, show (-(-((ln : Int) - (lm : Int)))).toNat = ln - lm by omega, Nat.div_eq_zero_iff]
    have := Nat.mul_pos (Nat.pos_of_ne_zero hM) (two_pos (ln - lm))
    omega
  by_cases hz : numP N (-((ln : Int) - (lm : Int))) / denP M (-((ln : Int) - (lm : Int))) = 0
  · rw [if_pos hz] at ht
    have h0 := hq.1 hz
    constructor
    · intro h
      refine Decidable.byContradiction fun c => h0 (ge_mono h ?_)
      omega
    · intro h
      exact ge_mono low (by omega)
  · rw [if_neg hz] at ht
    have h0 : M * 2 ^ (ln - lm) ≤ N * 2 ^ (lm - ln) := Decidable.byContradiction fun c => hz (hq.2 c)
    constructor
    · intro h
      refine Decidable.byContradiction fun c => high (ge_mono h ?_)
      omega
    · intro h
      exact ge_mono h0 (by omega)

/-- How long the whole part of a ratio is. -/
theorem whole_ge (N M : Nat) (n : Int) (j : Nat) (hN : N ≠ 0) (hM : M ≠ 0) : 2 ^ j ≤ numP N n / denP M n ↔ (j : Int) ≤ topQ N M 0 + n := by
  rw [numP_pow, denP_pow, Nat.le_div_iff_mul_le (Nat.mul_pos (Nat.pos_of_ne_zero hM) (two_pos _)), ← Nat.mul_assoc, Nat.mul_comm (2 ^ j), Nat.mul_assoc, ← Nat.pow_add, top_iff N M _ _ hN hM]
  omega

theorem lt_bits (d m : Nat) : bitLen d < m + 1 ↔ ¬2 ^ m ≤ d := by
  constructor
  · intro h c
    have hd : d ≠ 0 := by
      have := two_pos m
      omega
    obtain ⟨-, -, h3⟩ := bitLen_hi d hd
    have : (2 : Nat) ^ bitLen d ≤ 2 ^ m := Nat.pow_le_pow_right (by omega) (by omega)
    omega
  · intro h
    have := bitLen_le_of d m (by omega)
    omega

/-- The test of RoundTo's loop. -/
theorem seek_iff (R D k : Int) (N M : Nat) (E : Int) (h1 : 1 ≤ D) (hN : N ≠ 0) (hM : M ≠ 0) :
    bitLen (numP N (E - (widthN R : Int) * k) / denP M (E - (widthN R : Int) * k)) < widthN R * (D - 1).toNat + 1 ↔ powerR R D (topQ N M E) < k := by
  rw [lt_bits, whole_ge N M _ _ hN hM, topQ_zero N M E]
  unfold powerR
  obtain ⟨t, ht⟩ : ∃ t, topQ N M 0 = t := ⟨_, rfl⟩
  rw [ht]
  unfold widthN
  split <;> simp <;> omega

/-- Where the loop begins. -/
theorem seek_from (R D : Int) (N M : Nat) (E : Int) :
    powerR R D (topQ N M E) < ((bitLen N : Int) - (bitLen M : Int) + E) / (widthN R : Int) - D + 2 := by
  unfold powerR topQ widthN
  split <;> split <;> simp <;> omega

/-- What is cut is not longer than a digit's row. -/
theorem whole_lt (R D L : Int) (gr : Bool) (N M : Nat) (E : Int) (h1 : 1 ≤ D) (hN : N ≠ 0) (hM : M ≠ 0) : wholeP R D L gr N M E < 2 ^ (widthN R * D.toNat) := by
  refine Nat.lt_of_not_le fun c => ?_
  unfold wholeP shP at c
  rw [whole_ge N M _ _ hN hM] at c
  have hc : powerR R D (topQ N M E) ≤ cutP R D L gr N M E := by
    unfold cutP
    by_cases h : (decide (powerR R D (topQ N M E) < L) && gr) = true
    · rw [if_pos h]
      have := of_decide_eq_true (Bool.and_eq_true_iff.1 h).1
      omega
    · rw [if_neg h]
      exact Int.le_refl _
  obtain ⟨k, hk⟩ : ∃ k, cutP R D L gr N M E = k := ⟨_, rfl⟩
  rw [hk] at c hc
  rw [topQ_zero] at hc
  obtain ⟨t, ht⟩ : ∃ t, topQ N M 0 = t := ⟨_, rfl⟩
  rw [ht] at c hc
  unfold powerR widthN at hc
  unfold widthN at c
  split at c <;> simp_all <;> omega

/-- Where nothing is under the grid, a digit's row is full. -/
theorem whole_pos (R D L : Int) (gr : Bool) (N M : Nat) (E : Int) (h1 : 1 ≤ D) (hN : N ≠ 0) (hM : M ≠ 0) (h : cutP R D L gr N M E = powerR R D (topQ N M E)) : 0 < wholeP R D L gr N M E := by
  have h2 : ¬bitLen (wholeP R D L gr N M E) < widthN R * (D - 1).toNat + 1 := by
    unfold wholeP shP
    rw [h, seek_iff R D _ N M E h1 hN hM]
    omega
  have : wholeP R D L gr N M E ≠ 0 := by
    intro c
    rw [c] at h2
    simp at h2
    rw [bitLen_zero] at h2
    omega
  omega

theorem dig_long (R D L : Int) (gr : Bool) (N M : Nat) (E : Int) (h1 : 1 ≤ D) (hN : N ≠ 0) (hM : M ≠ 0) : widthN R * D.toNat < bitLen (wholeP R D L gr N M E + 1) ↔ wholeP R D L gr N M E + 1 = 2 ^ (widthN R * D.toNat) := by
  have h := whole_lt R D L gr N M E h1 hN hM
  have h2 := lt_bits (wholeP R D L gr N M E + 1) (widthN R * D.toNat)
  omega

theorem dig_short (R D L : Int) (gr : Bool) (N M : Nat) (E : Int) (h1 : 1 ≤ D) (hN : N ≠ 0) (hM : M ≠ 0) (p : Int) : carD R D (wholeP R D L gr N M E) = wholeP R D L gr N M E ∧ carP R D (wholeP R D L gr N M E) p = p := by
  have h := whole_lt R D L gr N M E h1 hN hM
  unfold carD carP
  rw [if_neg (by omega), if_neg (by omega)]
  exact ⟨rfl, rfl⟩

theorem carD_zero (R D : Int) (d : Nat) : carD R D d = 0 ↔ d = 0 := by
  unfold carD
  have h1 := two_pos (widthN R * D.toNat)
  have h2 := two_pos (widthN R * (D - 1).toNat)
  split <;> omega

theorem dig_ge (R D L : Int) (gr qs : Bool) (N M : Nat) (E way : Int) : wholeP R D L gr N M E ≤ digP R D L gr qs N M E way := by
  unfold digP
  split <;> omega

/-- What RoundTo lays together. -/
theorem roundT_flat {R D L G : Int} (gr qs : Bool) (N M : Nat) (E way : Int) (h1 : 1 ≤ D) (hLG : L ≤ G) (hN : N ≠ 0) (hM : M ≠ 0) :
    roundT R D L G gr qs N M E way = ⟨qs, carD R D (digP R D L gr qs N M E way), if carD R D (digP R D L gr qs N M E way) = 0 then 0 else carP R D (digP R D L gr qs N M E way) (cutP R D L gr N M E), decide (leftP R D L gr N M E = 0), decide (G < carP R D (digP R D L gr qs N M E way) (cutP R D L gr N M E)), decide (powerR R D (topQ N M E) < L)⟩ := by
  unfold roundT
  by_cases h0 : digP R D L gr qs N M E way = 0
  · have hw : wholeP R D L gr N M E = 0 := by
      have := dig_ge R D L gr qs N M E way
      omega
    have hc : cutP R D L gr N M E = L := by
      refine Decidable.byContradiction fun c => ?_
      have e : cutP R D L gr N M E = powerR R D (topQ N M E) := by
        unfold cutP at c ⊢
        split at c
        · exact absurd rfl c
        · rw [if_neg (by assumption)]
      have := whole_pos R D L gr N M E h1 hN hM e
      omega
    have hd := dig_short R D L gr N M E h1 hN hM (cutP R D L gr N M E)
    rw [if_pos h0, h0, if_pos ((carD_zero R D 0).2 rfl), (carD_zero R D 0).2 rfl]
    rw [hw] at hd
    rw [hd.2, hc, decide_eq_false (show ¬G < L by omega)]
  · rw [if_neg h0, if_neg (fun c => h0 ((carD_zero R D _).1 c))]
end Go.Proofs.YtmjhlflemfkflaaDoor
