/-
  Contract of the reference's DCut.
-/
import Derived.Test.YtmjhlflemfkflaaDoorDk2
import Derived.Test.YtmjhlflemfkflaaDoorIt
namespace Go.Proofs.YtmjhlflemfkflaaDoor
open Go.RowKit

theorem bitLen_of_len16 {a L : Nat} (h : (Dg.dg 65536 a).length ≤ L) : bitLen a ≤ 16 * L := by
  refine bitLen_le_of a _ ?_
  rw [Nat.pow_mul]
  have h1 := Dg.vl_lt 65536 _ (Dg.small_dg 65536 a (by omega))
  rw [Dg.vl_dg _ _ (by omega)] at h1
  exact Nat.lt_of_lt_of_le h1 (Nat.pow_le_pow_right (by omega) h)

end Go.Proofs.YtmjhlflemfkflaaDoor
