/-
  Contract of longOver: division by two digits and more.
-/
import Derived.Test.YtmdjmjnnenddfaaDoorLong1
namespace Go.Proofs.YtmdjmjnnenddfaaDoor
open Go.RowKit

end Go.Proofs.YtmdjmjnnenddfaaDoor
