/-
  The walks of the laws NatCompares, NatAdds, NatSubs.
-/
import Derived.Test.YtmdjmjnnenddfaaDoorRef4
import Derived.Test.YtmdjmjnnenddfaaDoorRow
namespace Go.Proofs.YtmdjmjnnenddfaaDoor
open Go.RowKit

theorem vl_lt_16 {xs : List Nat} (sa : Dg.Small 4294967296 xs) : Dg.vl 4294967296 xs < 65536 ^ (2 * xs.length) := by
  rw [pow_two]; exact Dg.vl_lt _ _ sa

theorem len16 {xs : List Nat} (sa : Dg.Small 4294967296 xs) : (Dg.dg 65536 (Dg.vl 4294967296 xs)).length ≤ 2 * xs.length :=
  Dg.dg_len_le _ _ _ (by omega) (vl_lt_16 sa)

theorem of_len {xs : List Nat} (sa : Dg.Small 4294967296 xs) (h : chk xs = 0) : (Dg.dg 65536 (Dg.vl 4294967296 xs)).length ≤ 2400 := by
  have := len16 sa
  have := (chk_zero h).2
  omega

theorem capd_split (n : Nat) : (capd n).1 = if (capd n).2 = 0 then Dg.dg 4294967296 n else [] := by
  unfold capd
  by_cases h : (Dg.dg 4294967296 n).length ≤ 1200
  · rw [if_pos h]; rfl
  · rw [if_neg h]; rfl

end Go.Proofs.YtmdjmjnnenddfaaDoor
