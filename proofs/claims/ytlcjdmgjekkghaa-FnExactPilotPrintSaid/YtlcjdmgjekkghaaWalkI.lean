/-
  Walks: the parts are printed into the text that grows.
-/
import Derived.Test.YtlcjdmgjekkghaaWalkH
namespace Go.Proofs.Ytlcjdmgjekkghaa
open Go.RowKit

theorem put_put (st : Option ByteArray) (a b : ByteArray) : put (put st a) b = put st (a ++ b) := by
  match st with
  | none => rfl
  | some t =>
    unfold put
    by_cases h : 200 < t.size + a.size
    · simp only [h, if_true]
      rw [if_pos (by rw [ByteArray.size_append]; omega)]
    · simp only [h, if_false]
      by_cases h2 : 200 < t.size + a.size + b.size
      · rw [if_pos (by rw [ByteArray.size_append]; omega), if_pos (by rw [ByteArray.size_append]; omega)]
      · rw [if_neg (by rw [ByteArray.size_append]; omega), if_neg (by rw [ByteArray.size_append]; omega), ByteArray.append_assoc]

theorem textAt_alloc {B b : Nat} {st : Option ByteArray} {w : World} (h : TextAt B b st w) (o : Obj) : TextAt B b st (w.alloc o) := by
  obtain ⟨hB, hb, h⟩ := h
  have hk : ∀ {x : Obj}, w.heap[b]? = some x → (w.alloc o).heap[b]? = some x := fun hx => (Below.heap_alloc w o b hb).trans hx
  refine ⟨hB, by simp; omega, ?_⟩
  match st, h with
  | none, ⟨p, v, h1⟩ => exact ⟨p, v, hk h1⟩
  | some s, ⟨h0, p, v, h1, h2, h3, h4⟩ => exact ⟨h0, p, v, hk h1, h2, h3.alloc o, h4⟩

theorem box_kept {w w1 : World} {b : Nat} {cs : Array Value} {T : TypeId} (hK : Lib.OthersKept 5 (some b) (w.alloc (.cells cs T)) w1) (hb : b < w.heap.size) (hT : T ≠ 5) :
    w1.heap[w.heap.size]? = some (.cells cs T (0, 0)) := by
  refine hK w.heap.size _ ?_ ?_ ?_
  · exact heap_alloc_new w _
  · intro e
    have : w.heap.size = b := Option.some.inj e
    omega
  · intro c fz e
    simp only [Obj.cells.injEq] at e
    exact hT e.2.1

/-- what a print of a part leaves -/
def Printed (B b : Nat) (st : Option ByteArray) (w w' : World) : Prop := TextAt B b st w' ∧ Below B w w' ∧ Lib.OthersKept 5 (some b) w w'

structure PrintName (name : String) : Prop where
  c0 : ∀ x w, (callMethod (.iface 65 (.agg #[])) name #[x]).run Try.prog w = .ok (.enter 53 #[.agg #[], x]) w
  c1 : ∀ n x w, (callMethod (.iface 74 (.agg #[.string n])) name #[x]).run Try.prog w = .ok (.enter 56 #[.agg #[.string n], x]) w
  c2 : ∀ n v x w, (callMethod (.iface 76 (.agg #[.string n, .string v])) name #[x]).run Try.prog w = .ok (.enter 64 #[.agg #[.string n, .string v], x]) w
  c3 : ∀ y h x w, (callMethod (.iface 81 (.agg #[y, .int .i64 h])) name #[x]).run Try.prog w = .ok (.enter 68 #[.agg #[y, .int .i64 h], x]) w
  c4 : ∀ y z h x w, (callMethod (.iface 86 (.agg #[y, z, .int .i64 h])) name #[x]).run Try.prog w = .ok (.enter 75 #[.agg #[y, z, .int .i64 h], x]) w
  c5 : ∀ y z h x w, (callMethod (.iface 87 (.agg #[y, z, .int .i64 h])) name #[x]).run Try.prog w = .ok (.enter 80 #[.agg #[y, z, .int .i64 h], x]) w

structure BindsName (name : String) : Prop where
  c0 : ∀ w, (callMethod (.iface 65 (.agg #[])) name #[]).run Try.prog w = .ok (.enter 49 #[.agg #[]]) w
  c1 : ∀ n w, (callMethod (.iface 74 (.agg #[.string n])) name #[]).run Try.prog w = .ok (.enter 49 #[.agg #[]]) w
  c2 : ∀ n v w, (callMethod (.iface 76 (.agg #[.string n, .string v])) name #[]).run Try.prog w = .ok (.enter 49 #[.agg #[]]) w
  c3 : ∀ y h w, (callMethod (.iface 81 (.agg #[y, .int .i64 h])) name #[]).run Try.prog w = .ok (.enter 65 #[.agg #[y, .int .i64 h]]) w
  c4 : ∀ y z h w, (callMethod (.iface 86 (.agg #[y, z, .int .i64 h])) name #[]).run Try.prog w = .ok (.enter 72 #[.agg #[y, z, .int .i64 h]]) w
  c5 : ∀ y z h w, (callMethod (.iface 87 (.agg #[y, z, .int .i64 h])) name #[]).run Try.prog w = .ok (.enter 77 #[.agg #[y, z, .int .i64 h]]) w

/-- how tightly a part binds, as the program counts it -/
def bindI : P.Tr → Int
  | .nil => 3
  | .node b _ _ _ _ => if b = 5 then 0 else if b = 4 then 1 else if b = 3 then 2 else 3

theorem bindI_lvl {t : P.Tr} (hw : P.wf t) (l : Nat) (hl : l ≤ 2) : ((l : Int) ≤ bindI t) ↔ ¬ P.bindT t < l + 1 := by
  rcases P.wf_cases hw with rfl | ⟨n, rfl⟩ | ⟨n, v, rfl⟩ | ⟨k, hk, rfl⟩ | ⟨a, b, ha, hb, rfl⟩ | ⟨a, b, ha, hb, rfl⟩
  · show (l : Int) ≤ 3 ↔ ¬ (3 < l + 1); omega
  · show (l : Int) ≤ 3 ↔ ¬ (3 < l + 1); omega
  · show (l : Int) ≤ 3 ↔ ¬ (3 < l + 1); omega
  · show (l : Int) ≤ 2 ↔ ¬ (3 < l + 1); omega
  · show (l : Int) ≤ 1 ↔ ¬ (2 < l + 1); omega
  · show (l : Int) ≤ 0 ↔ ¬ (1 < l + 1); omega

theorem leafBinds_any (w : World) : Calls Try.prog 49 #[.agg #[]] w fun e w' => e = .returned (.int .i64 3) ∧ w' = w.alloc (.cells #[] 63) := by
  go_enter Try.func49, Try.ntmps49
  go_wp2
  go_ret
  exact ⟨rfl, rfl⟩
theorem oppBinds_any (y : Value) (h : Int) (w : World) : Calls Try.prog 65 #[.agg #[y, .int .i64 h]] w fun e w' => e = .returned (.int .i64 2) ∧ w' = w.alloc (.cells #[y, .int .i64 h] 81) := by
  go_enter Try.func65, Try.ntmps65
  go_wp2
  go_ret
  exact ⟨rfl, rfl⟩
theorem bothBinds_any (y z : Value) (h : Int) (w : World) : Calls Try.prog 72 #[.agg #[y, z, .int .i64 h]] w fun e w' => e = .returned (.int .i64 1) ∧ w' = w.alloc (.cells #[y, z, .int .i64 h] 86) := by
  go_enter Try.func72, Try.ntmps72
  go_wp2
  go_ret
  exact ⟨rfl, rfl⟩
theorem eitherBinds_any (y z : Value) (h : Int) (w : World) : Calls Try.prog 77 #[.agg #[y, z, .int .i64 h]] w fun e w' => e = .returned (.int .i64 0) ∧ w' = w.alloc (.cells #[y, z, .int .i64 h] 87) := by
  go_enter Try.func77, Try.ntmps77
  go_wp2
  go_ret
  exact ⟨rfl, rfl⟩

theorem binds_meth {name : String} (H : BindsName name) {t : P.Tr} (hw : P.wf t) {x : Value} (hx : Hid (val t = x)) (w : World) : Meth Try.prog x name #[] w fun u w' => u = .int .i64 (bindI t) ∧ ∃ o, w' = w.alloc o := by
  rw [← hx.out]
  rcases P.wf_cases hw with rfl | ⟨n, rfl⟩ | ⟨n, v, rfl⟩ | ⟨k, hk, rfl⟩ | ⟨a, b, ha, hb, rfl⟩ | ⟨a, b, ha, hb, rfl⟩
  · exact ⟨_, _, H.c0 w, (leafBinds_any w).mono fun e w' ⟨he, hb⟩ => ⟨_, he, rfl, _, hb⟩⟩
  · exact ⟨_, _, H.c1 n w, (leafBinds_any w).mono fun e w' ⟨he, hb⟩ => ⟨_, he, rfl, _, hb⟩⟩
  · exact ⟨_, _, H.c2 n v w, (leafBinds_any w).mono fun e w' ⟨he, hb⟩ => ⟨_, he, rfl, _, hb⟩⟩
  · exact ⟨_, _, H.c3 _ _ w, (oppBinds_any _ _ w).mono fun e w' ⟨he, hb⟩ => ⟨_, he, rfl, _, hb⟩⟩
  · exact ⟨_, _, H.c4 _ _ _ w, (bothBinds_any _ _ _ w).mono fun e w' ⟨he, hb⟩ => ⟨_, he, rfl, _, hb⟩⟩
  · exact ⟨_, _, H.c5 _ _ _ w, (eitherBinds_any _ _ _ w).mono fun e w' ⟨he, hb⟩ => ⟨_, he, rfl, _, hb⟩⟩

/-- a part prints as it should -/
def PrintOk (t : P.Tr) : Prop := ∀ (name : String), PrintName name → ∀ (B b : Nat) (st : Option ByteArray) (w : World), TextAt B b st w → B ≤ w.heap.size →
  Meth Try.prog (val t) name #[.pointer (some ⟨b, 0, none⟩)] w fun u w' => u = .tuple #[] ∧ Printed B b (put st (P.pr t)) w w'

end Go.Proofs.Ytlcjdmgjekkghaa
