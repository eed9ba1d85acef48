/-
  Several texts in one: Ins.
-/
import Derived.Test.YtbaafgjiblkckaaGreatShp
namespace Go.Proofs.YtbaafgjiblkckaaGreat
open Go.RowKit

/-- a number -/
def IntC : Make Int := fun _ _ f x => f 0 = some (.int .i64 x)

theorem IntC.holds : Holds IntC 1 := fun _ _ _ _ f g x h _ _ c => (h 0 (by omega)).trans c

theorem info_int : (Tryz.prog.info? 3).map (fun i => (i.zero, i.size, i.bytes)) = some (some (.int .i64 0), 1, 8) := by kernel_rfl

end Go.Proofs.YtbaafgjiblkckaaGreat
