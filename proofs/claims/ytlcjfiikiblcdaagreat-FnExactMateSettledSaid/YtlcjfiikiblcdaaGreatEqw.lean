/-
  Wants held against each other. Made by mkse.py.
-/
import Derived.Test.YtlcjfiikiblcdaaGreatNw
namespace Go.Proofs.YtlcjfiikiblcdaaGreat
open Go.RowKit

def eqW (a b : Wnt) : Bool := (a.copy.toList == b.copy.toList) && (a.version == b.version) && (a.hold.toList == b.hold.toList) && (a.pull == b.pull) && (a.start == b.start) && (a.dies == b.dies) && (a.grace == b.grace)

theorem guardW : Tryz.prog.eqGuardType Tryz.prog.depth 72 = false := by kernel_rfl
theorem fieldsW : Tryz.prog.underlying 72 = some (.struct (Tryz.prog.fieldsOf 72)) := by kernel_rfl
theorem stoodW : Tryz.prog.stoodInHeld 72 = false := by kernel_rfl

set_option maxHeartbeats 1000000 in
theorem equalW (a b : Wnt) (w : World) : (Op.equalIn 10000 72 (.agg #[.string a.copy, .int .i64 a.version, .string a.hold, .int .i64 a.pull, .int .i64 a.start, .int .i64 a.dies, .int .i64 a.grace]) (.agg #[.string b.copy, .int .i64 b.version, .string b.hold, .int .i64 b.pull, .int .i64 b.start, .int .i64 b.dies, .int .i64 b.grace])).run Tryz.prog w = .ok (eqW a b) w := by
  rw [show (10000 : Nat) = 9999 + 1 from rfl, run_equalIn_struct w 9999 _ _ _ fieldsW stoodW]
  unfold eqW
  cases h0 : (a.copy.toList == b.copy.toList)
  · simp [go_sem, Program.fieldsOf, Tryz.underlying72, Tryz.underlying3, Tryz.underlying9, h0]
  · skip
    cases h1 : (a.version == b.version)
    · simp [go_sem, Program.fieldsOf, Tryz.underlying72, Tryz.underlying3, Tryz.underlying9, h0, h1]
    · skip
      cases h2 : (a.hold.toList == b.hold.toList)
      · simp [go_sem, Program.fieldsOf, Tryz.underlying72, Tryz.underlying3, Tryz.underlying9, h0, h1, h2]
      · skip
        cases h3 : (a.pull == b.pull)
        · simp [go_sem, Program.fieldsOf, Tryz.underlying72, Tryz.underlying3, Tryz.underlying9, h0, h1, h2, h3]
        · skip
          cases h4 : (a.start == b.start)
          · simp [go_sem, Program.fieldsOf, Tryz.underlying72, Tryz.underlying3, Tryz.underlying9, h0, h1, h2, h3, h4]
          · skip
            cases h5 : (a.dies == b.dies)
            · simp [go_sem, Program.fieldsOf, Tryz.underlying72, Tryz.underlying3, Tryz.underlying9, h0, h1, h2, h3, h4, h5]
            · skip
              cases h6 : (a.grace == b.grace)
              · simp [go_sem, Program.fieldsOf, Tryz.underlying72, Tryz.underlying3, Tryz.underlying9, h0, h1, h2, h3, h4, h5, h6]
              · skip
                simp [go_sem, Program.fieldsOf, Tryz.underlying72, Tryz.underlying3, Tryz.underlying9, h0, h1, h2, h3, h4, h5, h6]

end Go.Proofs.YtlcjfiikiblcdaaGreat
