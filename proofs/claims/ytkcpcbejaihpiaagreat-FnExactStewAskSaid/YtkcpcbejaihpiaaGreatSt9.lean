import Derived.Test.YtkcpcbejaihpiaaGreatJ13
namespace Go.Proofs.YtkcpcbejaihpiaaGreat
open Go.RowKit

end Go.Proofs.YtkcpcbejaihpiaaGreat
