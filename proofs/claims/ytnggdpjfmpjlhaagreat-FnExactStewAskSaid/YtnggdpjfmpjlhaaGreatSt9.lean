import Derived.Test.YtnggdpjfmpjlhaaGreatJ11
namespace Go.Proofs.YtnggdpjfmpjlhaaGreat
open Go.RowKit

end Go.Proofs.YtnggdpjfmpjlhaaGreat
