/-
  Contract of dyad.Cut.
-/
import Derived.Test.YtmjhlflemfkflaaDoorDk1
namespace Go.Proofs.YtmjhlflemfkflaaDoor
open Go.RowKit

/-- What is wrong with a dyad, or with how many bits are asked for. -/
def cutchk (xs : List Nat) (e b : Int) : Int := if dchk xs e = 0 then (if b < 1 ∨ 4096 < b then 3 else 0) else dchk xs e

end Go.Proofs.YtmjhlflemfkflaaDoor
