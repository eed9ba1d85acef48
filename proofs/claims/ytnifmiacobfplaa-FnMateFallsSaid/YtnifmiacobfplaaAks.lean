import Derived.Test.YtnifmiacobfplaaShp
namespace Go.Proofs.Ytnifmiacobfplaa
open Go.RowKit

structure Aks where
 hold : ByteArray
 copy : ByteArray
 first : Int
 at_ : Int

def wAks (x : Aks) : Nat := x.hold.size + x.copy.size

def AksC : Make Aks := fun _ _ f x => f 0 = some (.string x.hold) ∧ f 1 = some (.string x.copy) ∧ f 2 = some (.int .i64 x.first) ∧ f 3 = some (.int .i64 x.at_) ∧ x.hold.size ≤ maxLen ∧ x.copy.size ≤ maxLen

theorem AksC.holds : Holds AksC 4 := by
 rintro lo lo' w w' f g x h _ _ ⟨q0, q1, q2, q3, z0, z1⟩
 exact ⟨(h 0 (by omega)).trans q0, (h 1 (by omega)).trans q1, (h 2 (by omega)).trans q2, (h 3 (by omega)).trans q3, z0, z1⟩

theorem isz_Aks : (Try.prog.info? 57).map (·.size) = some 4 := by kernel_rfl

theorem info_Aks : (Try.prog.info? 57).map (fun i => (i.zero, i.size, i.bytes)) = some (some (.agg #[.string ⟨#[]⟩, .string ⟨#[]⟩, .int .i64 0, .int .i64 0]), 4, 48) := by kernel_rfl

end Go.Proofs.Ytnifmiacobfplaa
