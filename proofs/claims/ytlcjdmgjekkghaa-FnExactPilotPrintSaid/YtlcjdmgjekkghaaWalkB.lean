/-
  Walks over one node.
-/
import Derived.Test.YtlcjdmgjekkghaaWalkA
namespace Go.Proofs.Ytlcjdmgjekkghaa
open Go.RowKit

/-- a node as a value -/
def ndV (n : P.Nd) : Value := .agg #[.int .i64 n.kind, .string n.name, .string n.value, .int .i64 n.kids]

def sz1 (n : P.Nd) (left : Int) : Int := if left - n.name.size < 0 then -1 else if left - n.name.size - n.value.size < 0 then -1 else left - n.name.size - n.value.size

set_option maxHeartbeats 400000 in
theorem szNode_any (n : P.Nd) (left : Int) (w : World) (h0 : 0 ≤ left) (h1 : left ≤ 1048576) (hn : n.name.size ≤ maxLen) (hv : n.value.size ≤ maxLen) :
    Calls Try.prog 17 #[.agg #[.int .i64 n.kind, .string n.name, .string n.value, .int .i64 n.kids], .int .i64 left] w fun e w' => e = .returned (.int .i64 (sz1 n left)) ∧ Below w.heap.size w w' := by
  unfold maxLen at hn hv
  have HH : Hid (sz1 n left = if left - n.name.size < 0 then -1 else if left - n.name.size - n.value.size < 0 then -1 else left - n.name.size - n.value.size) := rfl
  generalize sz1 n left = L at *
  by_cases c1 : left - n.name.size < 0
  · go_enter Try.func17, Try.ntmps17
    go_wp2
    go_ret
    exact ⟨ret_int (by rw [HH.out, if_pos c1]), by go_grown⟩
  · by_cases c2 : left - n.name.size - n.value.size < 0
    · go_enter Try.func17, Try.ntmps17
      go_wp2
      go_ret
      exact ⟨ret_int (by rw [HH.out, if_neg (by omega), if_pos c2]), by go_grown⟩
    · go_enter Try.func17, Try.ntmps17
      go_wp2
      go_ret
      exact ⟨ret_int (by rw [HH.out, if_neg (by omega), if_neg (by omega)]), by go_grown⟩

set_option maxHeartbeats 400000 in
theorem toNode_any (n : P.Nd) (w : World) :
    Calls Try.prog 21 #[.agg #[.int .i64 n.kind, .string n.name, .string n.value, .int .i64 n.kids]] w fun e w' => e = .returned (.agg #[.int .i64 n.kind, .string n.name, .string n.value, .int .i64 n.kids]) ∧ Below w.heap.size w w' := by
  go_enter Try.func21, Try.ntmps21
  go_wp2
  go_returns
  exact ⟨rfl, by go_grown⟩

set_option maxHeartbeats 400000 in
theorem eqNode_any (n : P.Nd) (w : World) :
    Calls Try.prog 23 #[.agg #[.int .i64 n.kind, .string n.name, .string n.value, .int .i64 n.kids], .agg #[.int .i64 n.kind, .string n.name, .string n.value, .int .i64 n.kids]] w fun e w' => e = .returned (.bool true) ∧ Below w.heap.size w w' := by
  go_enter Try.func23, Try.ntmps23
  go_wp2
  go_ret
  exact ⟨rfl, by go_grown⟩

end Go.Proofs.Ytlcjdmgjekkghaa
