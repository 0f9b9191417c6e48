/-
  Contracts of nat.Compare and nat.Sub.
-/
import Derived.Test.YtmdjmjnnenddfaaDoorCmp
namespace Go.Proofs.YtmdjmjnnenddfaaDoor
open Go.RowKit

/-- What nat.Compare answers. -/
def cmpR (xs ys : List Nat) : Int := if chk2 xs ys = 0 then cmpI (Dg.vl 4294967296 xs) (Dg.vl 4294967296 ys) else 0

/-- What nat.Sub answers. -/
def subR (xs ys : List Nat) : List Nat × Int :=
  if chk2 xs ys = 0 then (if Dg.vl 4294967296 xs < Dg.vl 4294967296 ys then ([], 3) else capd (Dg.vl 4294967296 xs - Dg.vl 4294967296 ys)) else ([], chk2 xs ys)

theorem len_le_of_vl {xs ys : List Nat} (sa : Dg.Small 4294967296 xs) (nb : Dg.Norm ys) (h : ¬ Dg.vl 4294967296 xs < Dg.vl 4294967296 ys) : ys.length ≤ xs.length := by
  rcases Nat.lt_or_ge xs.length ys.length with hl | hl
  · exact absurd (Dg.vl_lt_of_len _ (by omega) _ _ sa nb hl) h
  · exact hl

end Go.Proofs.YtmdjmjnnenddfaaDoor
