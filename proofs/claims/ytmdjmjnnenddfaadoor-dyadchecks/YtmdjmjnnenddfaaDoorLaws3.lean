/-
  The walk of the law NatMuls.
-/
import Derived.Test.YtmdjmjnnenddfaaDoorLaws2
import Derived.Test.YtmdjmjnnenddfaaDoorRef5
namespace Go.Proofs.YtmdjmjnnenddfaaDoor
open Go.RowKit

end Go.Proofs.YtmdjmjnnenddfaaDoor
