/-
  Walks over MateRun: sizes, copies, equality. Made by mk.py.
-/
import Derived.Test.YtnhmhnlekagloaaWnt
namespace Go.Proofs.Ytnhmhnlekagloaa
open Go.RowKit

structure Rn where
  want : Wnt
  state : Int
  left : Int
  falls : Int
  until_ : Int

def wRn (x : Rn) : Nat := x.want.copy.size + x.want.hold.size

/-- what its cells hold -/
def RnC : Make Rn := fun _ _ f x => f 0 = some (.string x.want.copy) ∧ f 1 = some (.int .i64 x.want.version) ∧ f 2 = some (.string x.want.hold) ∧ f 3 = some (.int .i64 x.want.pull) ∧ f 4 = some (.int .i64 x.want.start) ∧ f 5 = some (.int .i64 x.want.dies) ∧ f 6 = some (.int .i64 x.want.grace) ∧ f 7 = some (.int .i64 x.state) ∧ f 8 = some (.int .i64 x.left) ∧ f 9 = some (.int .i64 x.falls) ∧ f 10 = some (.int .i64 x.until_) ∧ x.want.copy.size ≤ maxLen ∧ x.want.hold.size ≤ maxLen

theorem RnC.holds : Holds RnC 11 := by
  rintro lo lo' w w' f g x h _ _ ⟨q0, q1, q2, q3, q4, q5, q6, q7, q8, q9, q10, z0, z2⟩
  exact ⟨(h 0 (by omega)).trans q0, (h 1 (by omega)).trans q1, (h 2 (by omega)).trans q2, (h 3 (by omega)).trans q3, (h 4 (by omega)).trans q4, (h 5 (by omega)).trans q5, (h 6 (by omega)).trans q6, (h 7 (by omega)).trans q7, (h 8 (by omega)).trans q8, (h 9 (by omega)).trans q9, (h 10 (by omega)).trans q10, z0, z2⟩

end Go.Proofs.Ytnhmhnlekagloaa
