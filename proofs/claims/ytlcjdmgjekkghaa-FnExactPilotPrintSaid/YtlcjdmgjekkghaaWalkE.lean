/-
  The parts of a select as values of an interface; their heights.
-/
import Derived.Test.YtlcjdmgjekkghaaWalkA
import Derived.Test.YtlcjdmgjekkghaaMeth
import Derived.BigQuiet
namespace Go.Proofs.Ytlcjdmgjekkghaa
open Go.RowKit

/-- the height of a pair -/
def tops (a b : P.Tr) : Int := ((max (P.tall a) (P.tall b) + 1 : Nat) : Int)

/-- a tree as the program holds it -/
def val : P.Tr → Value
  | .nil => .nilIface
  | .node b _ p l r =>
    if b = 0 then .iface 65 (.agg #[])
    else if b = 1 then .iface 74 (.agg #[.string p.1])
    else if b = 2 then .iface 76 (.agg #[.string p.1, .string p.2])
    else if b = 3 then .iface 81 (.agg #[val l, .int .i64 ((P.tall l : Int) + 1)])
    else if b = 4 then .iface 86 (.agg #[val l, val r, .int .i64 (tops l r)])
    else .iface 87 (.agg #[val l, val r, .int .i64 (tops l r)])

theorem val_non : val P.nonT = .iface 65 (.agg #[]) := rfl
theorem val_nm (n : ByteArray) : val (P.nmT n) = .iface 74 (.agg #[.string n]) := rfl
theorem val_vl (n v : ByteArray) : val (P.vlT n v) = .iface 76 (.agg #[.string n, .string v]) := rfl
theorem val_nt (k : P.Tr) : val (P.ntT k) = .iface 81 (.agg #[val k, .int .i64 ((P.tall k : Int) + 1)]) := rfl
theorem val_an (a b : P.Tr) : val (P.anT a b) = .iface 86 (.agg #[val a, val b, .int .i64 (tops a b)]) := rfl
theorem val_or (a b : P.Tr) : val (P.orT a b) = .iface 87 (.agg #[val a, val b, .int .i64 (tops a b)]) := rfl

theorem leafTall_any (w : World) : Calls Try.prog 50 #[.agg #[]] w fun e w' => e = .returned (.int .i64 0) ∧ Below w.heap.size w w' := by
  go_enter Try.func50, Try.ntmps50
  go_wp2
  go_ret
  exact ⟨rfl, by go_grown⟩

theorem oppTall_any (x : Value) (h : Int) (w : World) : Calls Try.prog 69 #[.agg #[x, .int .i64 h]] w fun e w' => e = .returned (.int .i64 h) ∧ Below w.heap.size w w' := by
  go_enter Try.func69, Try.ntmps69
  go_wp2
  go_ret
  exact ⟨rfl, by go_grown⟩

theorem pairTall_any (x y : Value) (h : Int) (w : World) : Calls Try.prog 71 #[.agg #[x, y, .int .i64 h]] w fun e w' => e = .returned (.int .i64 h) ∧ Below w.heap.size w w' := by
  go_enter Try.func71, Try.ntmps71
  go_wp2
  go_ret
  exact ⟨rfl, by go_grown⟩

/-- this is the name by which the method 'tall' is called -/
structure TallName (name : String) : Prop where
  c0 : ∀ w, (callMethod (.iface 65 (.agg #[])) name #[]).run Try.prog w = .ok (.enter 50 #[.agg #[]]) w
  c1 : ∀ n w, (callMethod (.iface 74 (.agg #[.string n])) name #[]).run Try.prog w = .ok (.enter 50 #[.agg #[]]) w
  c2 : ∀ n v w, (callMethod (.iface 76 (.agg #[.string n, .string v])) name #[]).run Try.prog w = .ok (.enter 50 #[.agg #[]]) w
  c3 : ∀ x h w, (callMethod (.iface 81 (.agg #[x, .int .i64 h])) name #[]).run Try.prog w = .ok (.enter 69 #[.agg #[x, .int .i64 h]]) w
  c4 : ∀ x y h w, (callMethod (.iface 86 (.agg #[x, y, .int .i64 h])) name #[]).run Try.prog w = .ok (.enter 71 #[.agg #[x, y, .int .i64 h]]) w
  c5 : ∀ x y h w, (callMethod (.iface 87 (.agg #[x, y, .int .i64 h])) name #[]).run Try.prog w = .ok (.enter 71 #[.agg #[x, y, .int .i64 h]]) w

theorem val_iface {t : P.Tr} (hw : P.wf t) : ∃ ty v, val t = .iface ty v := by
  rcases P.wf_cases hw with rfl | ⟨n, rfl⟩ | ⟨n, v, rfl⟩ | ⟨k, hk, rfl⟩ | ⟨a, b, ha, hb, rfl⟩ | ⟨a, b, ha, hb, rfl⟩
  · exact ⟨_, _, val_non⟩
  · exact ⟨_, _, val_nm _⟩
  · exact ⟨_, _, val_vl _ _⟩
  · exact ⟨_, _, val_nt _⟩
  · exact ⟨_, _, val_an _ _⟩
  · exact ⟨_, _, val_or _ _⟩

theorem tall_meth {name : String} (H : TallName name) {t : P.Tr} (hw : P.wf t) {x : Value} (hx : Hid (val t = x)) (w : World) : Meth Try.prog x name #[] w fun u w' => u = .int .i64 (P.tall t : Int) ∧ Below w.heap.size w w' := by
  rw [← hx.out]
  rcases P.wf_cases hw with rfl | ⟨n, rfl⟩ | ⟨n, v, rfl⟩ | ⟨k, hk, rfl⟩ | ⟨a, b, ha, hb, rfl⟩ | ⟨a, b, ha, hb, rfl⟩
  · exact ⟨_, _, H.c0 w, (leafTall_any w).mono fun e w' ⟨he, hb⟩ => ⟨_, he, rfl, hb⟩⟩
  · exact ⟨_, _, H.c1 n w, (leafTall_any w).mono fun e w' ⟨he, hb⟩ => ⟨_, he, rfl, hb⟩⟩
  · exact ⟨_, _, H.c2 n v w, (leafTall_any w).mono fun e w' ⟨he, hb⟩ => ⟨_, he, rfl, hb⟩⟩
  · refine ⟨_, _, H.c3 _ _ w, (oppTall_any _ _ w).mono fun e w' ⟨he, hb⟩ => ⟨_, he, ?_, hb⟩⟩
    rw [P.tall_nt]; congr 1
  · exact ⟨_, _, H.c4 _ _ _ w, (pairTall_any _ _ _ w).mono fun e w' ⟨he, hb⟩ => ⟨_, he, rfl, hb⟩⟩
  · exact ⟨_, _, H.c5 _ _ _ w, (pairTall_any _ _ _ w).mono fun e w' ⟨he, hb⟩ => ⟨_, he, rfl, hb⟩⟩

set_option maxHeartbeats 1000000 in
set_option maxRecDepth 100000 in
theorem negate_any (t : P.Tr) (hw : P.wf t) (ht : P.tall t ≤ 20) (w : World) :
    Calls Try.prog 27 #[val t] w fun e w' => e = .returned (val (P.ntT t)) ∧ Below w.heap.size w w' := by
  rw [val_nt]
  obtain ⟨ty, v, hv⟩ := val_iface hw
  rw [hv]
  have HV : Hid (val t = .iface ty v) := hv
  clear hv
  go_enter Try.func27, Try.ntmps27
  go_wp2_with (refine wpList_meth rfl (.tmp 4) _ #[] #[] rfl _ rfl #[] (map_none _) _ (tall_meth ⟨fun _ => by kernel_rfl, fun _ _ => by kernel_rfl, fun _ _ _ => by kernel_rfl, fun _ _ _ => by kernel_rfl, fun _ _ _ _ => by kernel_rfl, fun _ _ _ _ => by kernel_rfl⟩ hw HV _) ?_; rintro u w1 ⟨rfl, hb⟩)
  go_ret
  exact ⟨rfl, hb⟩

theorem pair_cells {w w1 w2 : World} (hb : Below (w.alloc (Obj.cells #[Value.nilIface, Value.nilIface, Value.int IntKind.i64 0] 83)).heap.size (w.alloc (Obj.cells #[Value.nilIface, Value.nilIface, Value.int IntKind.i64 0] 83)) w1)
    (hb2 : Below w1.heap.size w1 w2) : w2.cell? ⟨w.heap.size, 0, none⟩ = some .nilIface ∧ w2.cell? ⟨w.heap.size, 1, none⟩ = some .nilIface ∧ w2.cell? ⟨w.heap.size, 2, none⟩ = some (.int .i64 0) ∧
      w2.frozen? ⟨w.heap.size, 0, none⟩ = false ∧ w2.frozen? ⟨w.heap.size, 1, none⟩ = false ∧ w2.frozen? ⟨w.heap.size, 2, none⟩ = false := by
  have B := hb.trans (hb2.mono hb.size)
  have hlt : w.heap.size < (w.alloc (Obj.cells #[Value.nilIface, Value.nilIface, Value.int IntKind.i64 0] 83)).heap.size := by simp
  refine ⟨?_, ?_, ?_, ?_, ?_, ?_⟩
  · rw [B.cell (p := ⟨w.heap.size, 0, none⟩) hlt]; simp
  · rw [B.cell (p := ⟨w.heap.size, 1, none⟩) hlt]; simp
  · rw [B.cell (p := ⟨w.heap.size, 2, none⟩) hlt]; simp
  · rw [B.frozen (p := ⟨w.heap.size, 0, none⟩) hlt]; simp
  · rw [B.frozen (p := ⟨w.heap.size, 1, none⟩) hlt]; simp
  · rw [B.frozen (p := ⟨w.heap.size, 2, none⟩) hlt]; simp

set_option maxHeartbeats 1000000 in
set_option maxRecDepth 100000 in
theorem pairOf_any (s t : P.Tr) (hs : P.wf s) (ht : P.wf t) (hs' : P.tall s ≤ 20) (ht' : P.tall t ≤ 20) (w : World) :
    Calls Try.prog 32 #[val s, val t] w fun e w' => e = .returned (.agg #[val s, val t, .int .i64 (tops s t)]) ∧ Below w.heap.size w w' := by
  obtain ⟨ty, v, hv⟩ := val_iface hs
  obtain ⟨ty', v', hv'⟩ := val_iface ht
  rw [hv, hv']
  have HV : Hid (val s = .iface ty v) := hv
  have HV' : Hid (val t = .iface ty' v') := hv'
  clear hv hv'
  have e : Hid (tops s t = max ((P.tall s : Nat) : Int) ((P.tall t : Nat) : Int) + 1) := by show _ = _; unfold tops; omega
  by_cases hlt : P.tall s < P.tall t
  all_goals
    go_enter Try.func32, Try.ntmps32
    go_wp2_with (first
      | (refine wpList_meth rfl (.tmp 7) _ #[] #[] rfl _ rfl #[] (map_none _) _ (tall_meth ⟨fun _ => by kernel_rfl, fun _ _ => by kernel_rfl, fun _ _ _ => by kernel_rfl, fun _ _ _ => by kernel_rfl, fun _ _ _ _ => by kernel_rfl, fun _ _ _ _ => by kernel_rfl⟩ hs HV _) ?_; rintro u w1 ⟨rfl, hb⟩)
      | (refine wpList_meth rfl (.tmp 9) _ #[] #[] rfl _ rfl #[] (map_none _) _ (tall_meth ⟨fun _ => by kernel_rfl, fun _ _ => by kernel_rfl, fun _ _ _ => by kernel_rfl, fun _ _ _ => by kernel_rfl, fun _ _ _ _ => by kernel_rfl, fun _ _ _ _ => by kernel_rfl⟩ ht HV' _) ?_; rintro u w2 ⟨rfl, hb2⟩; obtain ⟨c0, c1, c2, f0, f1, f2⟩ := pair_cells hb hb2))
    have hB : Below w.heap.size w w2 := ((Below.refl _ w).alloc (Nat.le_refl _) _).trans ((hb.trans (hb2.mono hb.size)).mono (by simp))
    refine bodyPost_ret (v := .agg #[.iface ty v, .iface ty' v', .int .i64 (tops s t)]) ?_ rfl ⟨rfl, ?_⟩
    · first
        | (rw [show tops s t = (P.tall t : Int) + 1 by rw [e.out]; omega]; simp [results, Try.results32, go_sem, c0, c1, c2]; done)
        | (rw [show tops s t = (P.tall s : Int) + 1 by rw [e.out]; omega]; simp [results, Try.results32, go_sem, c0, c1, c2]; done)
    · exact ((hB.setCell (Nat.le_refl _) _).setCell (Nat.le_refl _) _).setCell (Nat.le_refl _) _

set_option maxHeartbeats 400000 in
theorem joinBoth_any (s t : P.Tr) (hs : P.wf s) (ht : P.wf t) (hs' : P.tall s ≤ 20) (ht' : P.tall t ≤ 20) (w : World) :
    Calls Try.prog 28 #[val s, val t] w fun e w' => e = .returned (val (P.anT s t)) ∧ Below w.heap.size w w' := by
  rw [val_an]
  obtain ⟨ty, v, hv⟩ := val_iface hs
  obtain ⟨ty', v', hv'⟩ := val_iface ht
  have c := fun w => pairOf_any s t hs ht hs' ht' w
  rw [hv, hv'] at c
  rw [hv, hv']
  have C : Hid _ := c
  clear c hv hv'
  go_enter Try.func28, Try.ntmps28
  go_wp2_with fail
  refine (C.out _).mono ?_
  rintro e w1 ⟨rfl, hb⟩
  go_wp2_with fail
  go_ret
  exact ⟨rfl, hb⟩

set_option maxHeartbeats 400000 in
theorem joinEither_any (s t : P.Tr) (hs : P.wf s) (ht : P.wf t) (hs' : P.tall s ≤ 20) (ht' : P.tall t ≤ 20) (w : World) :
    Calls Try.prog 29 #[val s, val t] w fun e w' => e = .returned (val (P.orT s t)) ∧ Below w.heap.size w w' := by
  rw [val_or]
  obtain ⟨ty, v, hv⟩ := val_iface hs
  obtain ⟨ty', v', hv'⟩ := val_iface ht
  have c := fun w => pairOf_any s t hs ht hs' ht' w
  rw [hv, hv'] at c
  rw [hv, hv']
  have C : Hid _ := c
  clear c hv hv'
  go_enter Try.func29, Try.ntmps29
  go_wp2_with fail
  refine (C.out _).mono ?_
  rintro e w1 ⟨rfl, hb⟩
  go_wp2_with fail
  go_ret
  exact ⟨rfl, hb⟩

end Go.Proofs.Ytlcjdmgjekkghaa
