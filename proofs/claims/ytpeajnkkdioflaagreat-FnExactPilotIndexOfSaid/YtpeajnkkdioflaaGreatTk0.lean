import Derived.Test.YtpeajnkkdioflaaGreatProg
import Derived.WalkKit
import Derived.Below
namespace Go.Proofs.YtpeajnkkdioflaaGreat
open Go.RowKit
theorem nL {n:Nat}:n≤n:=Nat.le_refl n
theorem iH {p:Prop} (h:p):Hid p:=h
end Go.Proofs.YtpeajnkkdioflaaGreat
