/-
  The walks of the laws NatSubs and NatSpreads.
-/
import Derived.Test.YtmdjmjnnenddfaaDoorLaws1
namespace Go.Proofs.YtmdjmjnnenddfaaDoor
open Go.RowKit

theorem dg_len_mono (B n m : Nat) (hB : 2 ≤ B) (h : n ≤ m) : (Dg.dg B n).length ≤ (Dg.dg B m).length := by
  refine Dg.dg_len_le B n _ hB ?_
  have := Dg.vl_lt B (Dg.dg B m) (Dg.small_dg B m hB)
  rw [Dg.vl_dg B m hB] at this
  omega

theorem capd_yes {n : Nat} (h : (Dg.dg 4294967296 n).length ≤ 1200) : capd n = (Dg.dg 4294967296 n, 0) := by unfold capd; rw [if_pos h]
theorem capd_inv {n : Nat} (h : (capd n).2 = 0) : (Dg.dg 4294967296 n).length ≤ 1200 ∧ (capd n).1 = Dg.dg 4294967296 n := by
  unfold capd at h ⊢
  by_cases e : (Dg.dg 4294967296 n).length ≤ 1200
  · rw [if_pos e]; exact ⟨e, rfl⟩
  · rw [if_neg e] at h; simp at h

theorem natR_inv {c : Int} {n : Nat} (h : (natR c n).2 = 0) : c = 0 ∧ (Dg.dg 4294967296 n).length ≤ 1200 ∧ (natR c n).1 = Dg.dg 4294967296 n := by
  unfold natR at h ⊢
  by_cases e : c = 0
  · rw [if_pos e] at h ⊢; exact ⟨e, capd_inv h⟩
  · rw [if_neg e] at h; exact absurd h e

theorem natR_yes {c : Int} {n : Nat} (hc : c = 0) (h : (Dg.dg 4294967296 n).length ≤ 1200) : natR c n = (Dg.dg 4294967296 n, 0) := by
  unfold natR; rw [if_pos hc, capd_yes h]

theorem chk2_of {xs ys : List Nat} (h1 : chk xs = 0) (h2 : chk ys = 0) : chk2 xs ys = 0 := by unfold chk2; rw [if_pos h1, h2]
theorem chk_dg {n : Nat} (h : (Dg.dg 4294967296 n).length ≤ 1200) : chk (Dg.dg 4294967296 n) = 0 := chk_of (Dg.norm_dg _ _ (by omega)) h

theorem len_of_chk {xs : List Nat} (sa : Dg.Small 4294967296 xs) (h : chk xs = 0) : (Dg.dg 4294967296 (Dg.vl 4294967296 xs)).length ≤ 1200 := by
  rw [Dg.dg_vl _ (by omega) xs sa (chk_zero h).1]; exact (chk_zero h).2

theorem natR_small (c : Int) (n : Nat) : Dg.Small 4294967296 (natR c n).1 := by
  unfold natR capd
  split
  · split
    · exact Dg.small_dg _ _ (by omega)
    · exact Dg.small_nil _ (by omega)
  · exact Dg.small_nil _ (by omega)

end Go.Proofs.YtmdjmjnnenddfaaDoor
