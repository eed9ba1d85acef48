/-
  A text of its own: strings.Clone, by the shelf's contract.
-/
import Derived.Test.YtnhmhnlekagloaaProg
import Derived.Shelf.Strconv.Clone
import Derived.KernelRfl
import Derived.WalkKit
namespace Go.Proofs.Ytnhmhnlekagloaa
open Go.RowKit

end Go.Proofs.Ytnhmhnlekagloaa
