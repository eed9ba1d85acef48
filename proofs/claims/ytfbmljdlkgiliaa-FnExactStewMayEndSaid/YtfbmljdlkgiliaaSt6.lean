/-
  StewCountOf, by the specification. Made by mkst6.py.
-/
import Derived.Test.YtfbmljdlkgiliaaSt5
namespace Go.Proofs.Ytfbmljdlkgiliaa
open Go.RowKit

end Go.Proofs.Ytfbmljdlkgiliaa
