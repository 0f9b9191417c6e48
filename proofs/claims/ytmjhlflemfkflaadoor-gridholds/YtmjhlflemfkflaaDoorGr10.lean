/-
  Grids: the walk of GridChecks.
-/
import Derived.Test.YtmjhlflemfkflaaDoorGr8
import Derived.Test.YtmjhlflemfkflaaDoorGr9
namespace Go.Proofs.YtmjhlflemfkflaaDoor
open Go.RowKit

end Go.Proofs.YtmjhlflemfkflaaDoor
