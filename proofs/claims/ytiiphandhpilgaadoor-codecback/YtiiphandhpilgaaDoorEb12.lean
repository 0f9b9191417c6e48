/-
  Texts laid together: Ce4.
-/
import Derived.Test.YtiiphandhpilgaaDoorEb11
namespace Go.Proofs.YtiiphandhpilgaaDoor
open Go.RowKit
theorem bitB_test (zs : List Nat) (i : Nat) : bitB zs i = ((zs.getD (i / 8) 0).testBit (7 - i % 8)).toNat := by
  unfold bitB
  rw [Nat.testBit_eq_decide_div_mod_eq]
  have h := Nat.mod_lt (zs.getD (i / 8) 0 / 2 ^ (7 - i % 8)) (show 0 < 2 by omega)
  rcases (show zs.getD (i / 8) 0 / 2 ^ (7 - i % 8) % 2 = 0 ∨ zs.getD (i / 8) 0 / 2 ^ (7 - i % 8) % 2 = 1 by omega) with e | e <;> rw [e] <;> rfl

theorem testBit_put (y b t u : Nat) (hb : b < 2) : (y ||| b * 2 ^ t).testBit u = (y.testBit u || (decide (b = 1) && decide (t = u))) := by
  rw [Nat.testBit_or]
  rcases (show b = 0 ∨ b = 1 by omega) with rfl | rfl
  · simp
  · rw [Nat.one_mul, Nat.testBit_two_pow]
    simp

/-- One bit is put. -/
theorem bitB_put (zs : List Nat) (p b i : Nat) (hb : b < 2) (hp : p / 8 < zs.length) : bitB (zs.set (p / 8) (zs.getD (p / 8) 0 ||| b * 2 ^ (7 - p % 8))) i = if i = p then (if b = 1 then 1 else bitB zs i) else bitB zs i := by
  rw [bitB_test, bitB_test, Dg.getD_set _ _ _ _ hp]
  by_cases h8 : p / 8 = i / 8
  · rw [if_pos h8, testBit_put _ _ _ _ hb, h8]
    by_cases hi : i = p
    · subst hi
      rw [if_pos rfl]
      rcases (show b = 0 ∨ b = 1 by omega) with rfl | rfl
      · simp
      · simp
    · rw [if_neg hi, decide_eq_false (show ¬ 7 - p % 8 = 7 - i % 8 by omega)]
      simp
  · rw [if_neg h8, if_neg (show ¬ i = p from fun e => h8 (by rw [e]))]

/-- What setBits leaves, bit by bit. -/
theorem bitB_setB (f : Nat) : ∀ (c x : Nat) (zs : List Nat) (i : Nat), f + c ≤ 8 * zs.length → bitB (setB f c x zs) i = if f ≤ i ∧ i < f + c then (if x / 2 ^ (f + c - 1 - i) % 2 = 1 then 1 else bitB zs i) else bitB zs i
  | 0, x, zs, i, _ => by
    rw [setB, if_neg (by omega)]
  | c + 1, x, zs, i, h => by
    rw [setB, bitB_setB f c (x / 2) _ i (by rw [List.length_set]; omega), bitB_put _ _ _ _ (Nat.mod_lt _ (by omega)) (by omega)]
    by_cases h1 : f ≤ i ∧ i < f + c
    · rw [if_pos h1, if_pos (show f ≤ i ∧ i < f + (c + 1) by omega), if_neg (show ¬ i = f + c by omega), Nat.div_div_eq_div_mul, ← Nat.pow_succ', show (f + c - 1 - i).succ = f + (c + 1) - 1 - i from by omega]
    · rw [if_neg h1]
      by_cases h2 : i = f + c
      · rw [if_pos h2, if_pos (show f ≤ i ∧ i < f + (c + 1) by omega), show f + (c + 1) - 1 - i = 0 from by omega, Nat.pow_zero, Nat.div_one]
      · rw [if_neg h2, if_neg (show ¬ (f ≤ i ∧ i < f + (c + 1)) by omega)]

theorem byte_bits (y : Nat) (h : y < 256) : valB (fun j => decide (y / 2 ^ (7 - j) % 2 = 1)) 8 = y := by
  have e : ∀ n, (if decide (n % 2 = 1) = true then 1 else 0) = n % 2 := fun n => by
    rcases (show n % 2 = 0 ∨ n % 2 = 1 by omega) with h | h <;> rw [h] <;> rfl
  simp only [valB, e]
  omega

theorem valB_congr {f g : Nat → Bool} : ∀ n, (∀ j, j < n → f j = g j) → valB f n = valB g n
  | 0, _ => rfl
  | n + 1, h => by
    rw [valB, valB, valB_congr n (fun j hj => h j (by omega)), h n (by omega)]

theorem bytes_bits (zs : List Nat) (hs : Dg.Small 256 zs) : zs = byL (fun i => decide (bitB zs i = 1)) zs.length := by
  apply List.ext_getElem (by rw [byL_len])
  intro p hp1 hp2
  have e1 : zs.getD p 0 = zs[p] := by simp [List.getD_eq_getElem?_getD, hp1]
  have e2 : (byL (fun i => decide (bitB zs i = 1)) zs.length).getD p 0 = (byL (fun i => decide (bitB zs i = 1)) zs.length)[p] := by simp only [List.getD_eq_getElem?_getD, List.getElem?_eq_getElem hp2, Option.getD_some]
  rw [← e1, ← e2, byL_at _ _ _ hp1]
  refine (byte_bits (zs.getD p 0) (hs p)).symm.trans (valB_congr 8 (fun j hj => ?_))
  unfold bitB
  rw [show (8 * p + j) / 8 = p from by omega, show (8 * p + j) % 8 = j from by omega]

theorem byL_congr {f g : Nat → Bool} (n : Nat) (h : ∀ i, i < 8 * n → f i = g i) : byL f n = byL g n := by
  unfold byL
  apply List.map_congr_left
  intro i hi
  have := List.mem_range.1 hi
  exact valB_congr 8 (fun j hj => h _ (by omega))

theorem bitB_zeros (n i : Nat) : bitB (List.replicate n 0) i = 0 := by
  unfold bitB
  have : (List.replicate n 0).getD (i / 8) 0 = 0 := by
    by_cases h : i / 8 < n
    · simp [List.getD_eq_getElem?_getD, h]
    · simp [List.getD_eq_getElem?_getD, h]
  rw [this]
  simp

/-- The bits of a pattern: a sign, E, F. -/
def patF (ex fr : Nat) (ng : Bool) (e f : Nat) (i : Nat) : Bool :=
  if i = 0 then ng else if i ≤ ex then decide (e / 2 ^ (ex - i) % 2 = 1) else decide (f / 2 ^ (ex + fr - i) % 2 = 1)

theorem wrtB_bits {k : Nat} (hk : 1 ≤ k ∧ k ≤ 8) (ng : Bool) (e f : Nat) : wrtB k ng e f = turnB k (byL (patF (exN k) (frN k) ng e f) (szN k)) := by
  obtain ⟨h1, h2, h3, h4, -, h7⟩ := sizes_fit hk
  unfold wrtB
  congr 1
  have sm0 : Dg.Small 256 (List.replicate (szN k) 0) := by
    intro i
    by_cases hi : i < szN k
    · simp [List.getD_eq_getElem?_getD, hi]
    · simp [List.getD_eq_getElem?_getD, hi]
  have key : ∀ zs : List Nat, zs.length = szN k → Dg.Small 256 zs → (∀ i, bitB zs i = if i = 0 ∧ ng = true then 1 else 0) → setB (1 + exN k) (frN k) f (setB 1 (exN k) e zs) = byL (patF (exN k) (frN k) ng e f) (szN k) := fun zs hl hs hb => by
    have hl2 : (setB (1 + exN k) (frN k) f (setB 1 (exN k) e zs)).length = szN k := by rw [setB_len, setB_len, hl]
    rw [bytes_bits _ (setB_small _ _ _ _ (setB_small _ _ _ _ hs)), hl2]
    refine byL_congr _ (fun i hi => ?_)
    rw [bitB_setB _ _ _ _ _ (by rw [setB_len]; omega), bitB_setB _ _ _ _ _ (by omega), hb i]
    unfold patF
    by_cases h0 : i = 0
    · subst h0
      rw [if_neg (by omega), if_neg (by omega), if_pos rfl]
      cases ng <;> rfl
    · rw [if_neg h0]
      have hz : (if i = 0 ∧ ng = true then 1 else 0) = 0 := if_neg (fun h => h0 h.1)
      rw [hz]
      by_cases hx : i ≤ exN k
      · rw [if_pos hx, if_neg (by omega), if_pos (show 1 ≤ i ∧ i < 1 + exN k by omega), show 1 + exN k - 1 - i = exN k - i from by omega]
        split
        · rename_i h; rw [h]
        · rename_i h; rw [decide_eq_false h]; rfl
      · rw [if_neg hx, if_pos (show 1 + exN k ≤ i ∧ i < 1 + exN k + frN k by omega), if_neg (show ¬ (1 ≤ i ∧ i < 1 + exN k) by omega), show 1 + exN k + frN k - 1 - i = exN k + frN k - i from by omega]
        split
        · rename_i h; rw [h]
        · rename_i h; rw [decide_eq_false h]; rfl
  cases ng
  · rw [if_neg (by simp)]
    exact key _ List.length_replicate sm0 (fun i => by rw [bitB_zeros]; simp)
  · rw [if_pos rfl]
    refine key _ (by rw [setB_len]; exact List.length_replicate) (setB_small _ _ _ _ sm0) (fun i => ?_)
    rw [bitB_setB _ _ _ _ _ (by rw [List.length_replicate]; omega), bitB_zeros]
    by_cases h0 : i = 0
    · subst h0
      rfl
    · rw [if_neg (by omega), if_neg (fun h => h0 h.1)]
end Go.Proofs.YtiiphandhpilgaaDoor
