/-
  Walks over MateWant: sizes, copies, equality. Made by mk.py.
-/
import Derived.Test.YtalnkbocfhhjkaaShp
namespace Go.Proofs.Ytalnkbocfhhjkaa
open Go.RowKit

structure Wnt where
  copy : ByteArray
  version : Int
  hold : ByteArray
  pull : Int
  start : Int
  dies : Int
  grace : Int

def wWnt (x : Wnt) : Nat := x.copy.size + x.hold.size

/-- what its cells hold -/
def WntC : Make Wnt := fun _ _ f x => f 0 = some (.string x.copy) ∧ f 1 = some (.int .i64 x.version) ∧ f 2 = some (.string x.hold) ∧ f 3 = some (.int .i64 x.pull) ∧ f 4 = some (.int .i64 x.start) ∧ f 5 = some (.int .i64 x.dies) ∧ f 6 = some (.int .i64 x.grace) ∧ x.copy.size ≤ maxLen ∧ x.hold.size ≤ maxLen

theorem WntC.holds : Holds WntC 7 := by
  rintro lo lo' w w' f g x h _ _ ⟨q0, q1, q2, q3, q4, q5, q6, z0, z2⟩
  exact ⟨(h 0 (by omega)).trans q0, (h 1 (by omega)).trans q1, (h 2 (by omega)).trans q2, (h 3 (by omega)).trans q3, (h 4 (by omega)).trans q4, (h 5 (by omega)).trans q5, (h 6 (by omega)).trans q6, z0, z2⟩

theorem isz_Wnt : (Try.prog.info? 24).map (·.size) = some 7 := by kernel_rfl

theorem info_Wnt : (Try.prog.info? 24).map (fun i => (i.zero, i.size, i.bytes)) = some (some (.agg #[.string ⟨#[]⟩, .int .i64 0, .string ⟨#[]⟩, .int .i64 0, .int .i64 0, .int .i64 0, .int .i64 0]), 7, 72) := by kernel_rfl

end Go.Proofs.Ytalnkbocfhhjkaa
