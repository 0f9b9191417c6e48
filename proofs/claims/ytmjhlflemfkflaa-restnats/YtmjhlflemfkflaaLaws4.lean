/-
  The walks of the laws NatShifts and NatMoves.
-/
import Derived.Test.YtmjhlflemfkflaaNd
import Derived.Test.YtmjhlflemfkflaaLaws3
namespace Go.Proofs.Ytmjhlflemfkflaa
open Go.RowKit

theorem shN_len {xs : List Nat} {n : Int} (sa : Dg.Small 4294967296 xs) (hl : xs.length ≤ 1200) (h1 : -40000 ≤ n) (h2 : n ≤ 40000) : (Dg.dg 65536 (shN (Dg.vl 4294967296 xs) n)).length ≤ 3000000 := by
  have hv := vl_lt_16 sa
  unfold shN
  by_cases h : n < 0
  · rw [if_pos h]
    refine Nat.le_trans (Dg.dg_len_le 65536 _ (2 * xs.length) (by omega) ?_) (by omega)
    exact Nat.lt_of_le_of_lt (Nat.div_le_self _ _) hv
  · rw [if_neg h]
    refine Nat.le_trans (Dg.dg_len_le 65536 _ (2 * xs.length + n.toNat) (by omega) ?_) (by omega)
    rw [Nat.pow_add]
    have e1 : 2 ^ n.toNat ≤ 65536 ^ n.toNat := Nat.pow_le_pow_left (by omega) _
    have e2 := Nat.mul_le_mul_left (Dg.vl 4294967296 xs) e1
    have e3 : Dg.vl 4294967296 xs * 65536 ^ n.toNat < 65536 ^ (2 * xs.length) * 65536 ^ n.toNat := Nat.mul_lt_mul_of_pos_right hv (Nat.pow_pos (by omega))
    omega

theorem nil_rd (w : World) : Rd w .i64 (.slice none 0 0) (Dg.dg 65536 0) := ⟨none, 0, rfl, by simp [Dg.dg_zero], by unfold maxLen; omega, fun h => by simp [Dg.dg_zero] at h⟩

set_option maxRecDepth 100000 in
theorem choose_any (c : Int) (w : World) (h1 : -9223372036854775808 ≤ c) (h2 : c ≤ 9223372036854775807) :
    Calls Try.prog 8 #[.int .i64 c, .int .i64 3000] w fun e w' => ∃ m : Nat, e = .returned (.int .i64 m) ∧ m < 3000 ∧ w' = w := by
  by_cases h : c < 0
  · have ht : (c + 1).tmod 3000 = -((-(c + 1)) % 3000) := by
      have := Int.neg_tmod (-(c + 1)) 3000
      rw [Int.neg_neg] at this
      have h2 : (-(c + 1)).tmod 3000 = (-(c + 1)) % 3000 := Int.tmod_eq_emod_of_nonneg (by omega)
      rw [this, h2]
    obtain ⟨d, hd⟩ : ∃ d : Nat, (-(c + 1)) % 3000 = (d : Int) := ⟨((-(c + 1)) % 3000).toNat, by omega⟩
    rw [hd] at ht
    have hdl : d < 3000 := by omega
    clear hd
    go_enter Try.func8, Try.ntmps8
    go_wp2
    go_ret
    exact ⟨d, by go_num, hdl, rfl⟩
  · go_enter Try.func8, Try.ntmps8
    go_wp2
    go_ret
    exact ⟨(c % 3000).toNat, by go_num, by omega, rfl⟩
theorem bitLen_mul (N n : Nat) (h : N ≠ 0) : bitLen (N * 2 ^ n) = n + bitLen N := by
  have e : N * 2 ^ n / 2 ^ n = N := Nat.mul_div_cancel _ (Nat.pow_pos (by omega))
  have := bitLen_shift (N * 2 ^ n) n (by rw [e]; exact h)
  rwa [e] at this

theorem one_small : Dg.Small 4294967296 [1] := Dg.small_cons.2 ⟨by omega, Dg.small_nil _ (by omega)⟩

theorem len_pow32 (n : Nat) (h : n < 3000) : (Dg.dg 4294967296 (2 ^ n)).length ≤ 1200 := by
  refine Nat.le_trans (Dg.dg_len_le _ _ (n / 32 + 1) (by omega) ?_) (by omega)
  rw [show (4294967296 : Nat) = 2 ^ 32 from by decide, ← Nat.pow_mul]
  exact Nat.pow_lt_pow_right (by omega) (by omega)

end Go.Proofs.Ytmjhlflemfkflaa
