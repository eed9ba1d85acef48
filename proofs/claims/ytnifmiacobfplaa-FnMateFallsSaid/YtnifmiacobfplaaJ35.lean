import Derived.Test.YtnifmiacobfplaaFlp
namespace Go.Proofs.Ytnifmiacobfplaa
open Go.RowKit

end Go.Proofs.Ytnifmiacobfplaa

namespace Go.Proofs.Ytnifmiacobfplaa
open Go.RowKit

end Go.Proofs.Ytnifmiacobfplaa
