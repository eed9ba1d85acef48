/-
  StewCountOf, by the specification. Made by mkst6.py.
-/
import Derived.Test.YtfbmljdlkgiliaaGreatSt5
namespace Go.Proofs.YtfbmljdlkgiliaaGreat
open Go.RowKit

end Go.Proofs.YtfbmljdlkgiliaaGreat
