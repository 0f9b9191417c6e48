/-
  The reference's DPlus, lengths.
-/
import Derived.Test.YtmjhlflemfkflaaGreatDoorDc
namespace Go.Proofs.YtmjhlflemfkflaaGreatDoor
open Go.RowKit

theorem up_len16 (n k L j : Nat) (h : (Dg.dg 65536 n).length ≤ L) (hk : k ≤ 16 * j) : (Dg.dg 65536 (n * 2 ^ k)).length ≤ L + j := by
  apply Dg.dg_len_le 65536 _ _ (by omega)
  have h1 := Dg.vl_lt 65536 (Dg.dg 65536 n) (Dg.small_dg _ _ (by omega))
  rw [Dg.vl_dg _ _ (by omega)] at h1
  have h2 : 65536 ^ (Dg.dg 65536 n).length ≤ 65536 ^ L := Nat.pow_le_pow_right (by omega) h
  have h3 : 2 ^ k ≤ 65536 ^ j := by
    rw [show (65536 : Nat) = 2 ^ 16 from rfl, ← Nat.pow_mul]
    exact Nat.pow_le_pow_right (by omega) (by omega)
  rw [Nat.pow_add]
  have h4 : 0 < 65536 ^ j := Nat.pow_pos (by omega)
  generalize 65536 ^ j = c at *
  generalize 65536 ^ L = d at *
  have h5 : n * 2 ^ k ≤ n * c := Nat.mul_le_mul_left _ h3
  have h6 : n * c < d * c := Nat.mul_lt_mul_of_pos_right (by omega) h4
  omega

theorem add_len16 (x y L : Nat) (hx : (Dg.dg 65536 x).length ≤ L) (hy : (Dg.dg 65536 y).length ≤ L) : (Dg.dg 65536 (x + y)).length ≤ L + 1 := by
  apply Dg.dg_len_le 65536 _ _ (by omega)
  have h1 := Dg.vl_lt 65536 (Dg.dg 65536 x) (Dg.small_dg _ _ (by omega))
  have h2 := Dg.vl_lt 65536 (Dg.dg 65536 y) (Dg.small_dg _ _ (by omega))
  rw [Dg.vl_dg _ _ (by omega)] at h1 h2
  have h3 : 65536 ^ (Dg.dg 65536 x).length ≤ 65536 ^ L := Nat.pow_le_pow_right (by omega) hx
  have h4 : 65536 ^ (Dg.dg 65536 y).length ≤ 65536 ^ L := Nat.pow_le_pow_right (by omega) hy
  rw [Nat.pow_succ]
  omega

theorem cmpI_ge {a b : Int} (h : b ≤ a) : decide (0 ≤ cmpI a b) = true := by
  unfold cmpI
  rw [if_neg (by omega)]
  by_cases h2 : b < a
  · rw [if_pos h2]; rfl
  · rw [if_neg h2]; rfl

end Go.Proofs.YtmjhlflemfkflaaGreatDoor
