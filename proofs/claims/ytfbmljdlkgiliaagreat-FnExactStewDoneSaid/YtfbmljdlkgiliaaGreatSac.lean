/-
  Walks over StewAct: sizes, copies, equality. Made by mk.py.
-/
import Derived.Test.YtfbmljdlkgiliaaGreatSen
namespace Go.Proofs.YtfbmljdlkgiliaaGreat
open Go.RowKit

structure Sac where
  service : ByteArray
  seen : Int
  create : Int
  want : Int
  cool : Int
  scale : Bool
  ends : List Sen
  drop : Bool

def wSac (x : Sac) : Nat := x.service.size + (wS wSen x.ends)

/-- what its cells hold -/
def SacC : Make Sac := fun lo w f x => ∃ (a6 : Option Addr) (c6 : Nat), f 0 = some (.string x.service) ∧ f 1 = some (.int .i64 x.seen) ∧ f 2 = some (.int .i64 x.create) ∧ f 3 = some (.int .i64 x.want) ∧ f 4 = some (.int .i64 x.cool) ∧ f 5 = some (.bool x.scale) ∧ f 6 = some (.slice a6 x.ends.length c6) ∧ f 7 = some (.bool x.drop) ∧ x.service.size ≤ maxLen ∧ SliceC SenC 2 lo w a6 x.ends

theorem SacC.holds : Holds SacC 8 := by
  rintro lo lo' w w' f g x h k hl ⟨a6, c6, q0, q1, q2, q3, q4, q5, q6, q7, z0, n6⟩
  exact ⟨a6, c6, (h 0 (by omega)).trans q0, (h 1 (by omega)).trans q1, (h 2 (by omega)).trans q2, (h 3 (by omega)).trans q3, (h 4 (by omega)).trans q4, (h 5 (by omega)).trans q5, (h 6 (by omega)).trans q6, (h 7 (by omega)).trans q7, z0, n6.keep SenC.holds k hl⟩

end Go.Proofs.YtfbmljdlkgiliaaGreat
