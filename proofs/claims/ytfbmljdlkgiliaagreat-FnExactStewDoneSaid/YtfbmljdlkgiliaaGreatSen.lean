/-
  Walks over StewEnd: sizes, copies, equality. Made by mk.py.
-/
import Derived.Test.YtfbmljdlkgiliaaGreatShp
namespace Go.Proofs.YtfbmljdlkgiliaaGreat
open Go.RowKit

structure Sen where
  number : Int
  seen : Int

def wSen (_ : Sen) : Nat := 0

/-- what its cells hold -/
def SenC : Make Sen := fun _ _ f x => f 0 = some (.int .i64 x.number) ∧ f 1 = some (.int .i64 x.seen)

theorem SenC.holds : Holds SenC 2 := by
  rintro lo lo' w w' f g x h _ _ ⟨q0, q1⟩
  exact ⟨(h 0 (by omega)).trans q0, (h 1 (by omega)).trans q1⟩

end Go.Proofs.YtfbmljdlkgiliaaGreat
