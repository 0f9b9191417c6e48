/-
  The walk of the law NatMuls.
-/
import Derived.Test.YtmjhlflemfkflaaNd
namespace Go.Proofs.Ytmjhlflemfkflaa
open Go.RowKit

end Go.Proofs.Ytmjhlflemfkflaa
