import Derived.Test.YtnggdpjfmpjlhaaGreatShp
namespace Go.Proofs.YtnggdpjfmpjlhaaGreat
open Go.RowKit

structure Sct where
 live : Int
 ready : Int
 old : Int
 failed : Int
 ending : Int

def SctC : Make Sct := fun _ _ f x => f 0 = some (.int .i64 x.live) ∧ f 1 = some (.int .i64 x.ready) ∧ f 2 = some (.int .i64 x.old) ∧ f 3 = some (.int .i64 x.failed) ∧ f 4 = some (.int .i64 x.ending)

theorem SctC.holds : Holds SctC 5 := by
 rintro lo lo' w w' f g x h _ _ ⟨q0, q1, q2, q3, q4⟩
 exact ⟨(h 0 (by omega)).trans q0, (h 1 (by omega)).trans q1, (h 2 (by omega)).trans q2, (h 3 (by omega)).trans q3, (h 4 (by omega)).trans q4⟩

theorem isz_Sct : (Tryz.prog.info? 94).map (·.size) = some 5 := by kernel_rfl

end Go.Proofs.YtnggdpjfmpjlhaaGreat
