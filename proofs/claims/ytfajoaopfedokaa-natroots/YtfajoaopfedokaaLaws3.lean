/-
  The walk of the law NatMuls.
-/
import Derived.Test.YtfajoaopfedokaaNd
namespace Go.Proofs.Ytfajoaopfedokaa
open Go.RowKit

end Go.Proofs.Ytfajoaopfedokaa
