/-
  Several texts in one: PrI, PrJ.
-/
import Derived.Test.YthjicahpfhjfdaaGreatDoorPrH
namespace Go.Proofs.YthjicahpfhjfdaaGreatDoor
open Go.RowKit

theorem put_put (st : Option ByteArray) (a b : ByteArray) : put (put st a) b = put st (a ++ b) := by
  match st with
  | none => rfl
  | some t =>
    unfold put
    by_cases h : 200 < t.size + a.size
    · simp only [h, if_true]
      rw [if_pos (by rw [ByteArray.size_append]; omega)]
    · simp only [h, if_false]
      by_cases h2 : 200 < t.size + a.size + b.size
      · rw [if_pos (by rw [ByteArray.size_append]; omega), if_pos (by rw [ByteArray.size_append]; omega)]
      · rw [if_neg (by rw [ByteArray.size_append]; omega), if_neg (by rw [ByteArray.size_append]; omega), ByteArray.append_assoc]

theorem textAt_alloc {B b : Nat} {st : Option ByteArray} {w : World} (h : TextAt B b st w) (o : Obj) : TextAt B b st (w.alloc o) := by
  obtain ⟨hB, hb, h⟩ := h
  have hk : ∀ {x : Obj}, w.heap[b]? = some x → (w.alloc o).heap[b]? = some x := fun hx => (Below.heap_alloc w o b hb).trans hx
  refine ⟨hB, by simp; omega, ?_⟩
  match st, h with
  | none, ⟨p, v, h1⟩ => exact ⟨p, v, hk h1⟩
  | some s, ⟨h0, p, v, h1, h2, h3, h4⟩ => exact ⟨h0, p, v, hk h1, h2, h3.alloc o, h4⟩

theorem box_kept {w w1 : World} {b : Nat} {cs : Array Value} {T : TypeId} (hK : Lib.OthersKept 5 (some b) (w.alloc (.cells cs T)) w1) (hb : b < w.heap.size) (hT : T ≠ 5) :
    w1.heap[w.heap.size]? = some (.cells cs T (0, 0)) := by
  refine hK w.heap.size _ ?_ ?_ ?_
  · exact heap_alloc_new w _
  · intro e
    have : w.heap.size = b := Option.some.inj e
    omega
  · intro c fz e
    simp only [Obj.cells.injEq] at e
    exact hT e.2.1

/-- what a print of a part leaves -/
def Printed (B b : Nat) (st : Option ByteArray) (w w' : World) : Prop := TextAt B b st w' ∧ Below B w w' ∧ Lib.OthersKept 5 (some b) w w'

structure PrintName (name : String) : Prop where
  c0 : ∀ x w, (callMethod (.iface 89 (.agg #[])) name #[x]).run Tryz.prog w = .ok (.enter 107 #[.agg #[], x]) w
  c1 : ∀ n x w, (callMethod (.iface 124 (.agg #[.string n])) name #[x]).run Tryz.prog w = .ok (.enter 113 #[.agg #[.string n], x]) w
  c2 : ∀ n v x w, (callMethod (.iface 126 (.agg #[.string n, .string v])) name #[x]).run Tryz.prog w = .ok (.enter 121 #[.agg #[.string n, .string v], x]) w
  c3 : ∀ y h x w, (callMethod (.iface 147 (.agg #[y, .int .i64 h])) name #[x]).run Tryz.prog w = .ok (.enter 136 #[.agg #[y, .int .i64 h], x]) w
  c4 : ∀ y z h x w, (callMethod (.iface 152 (.agg #[y, z, .int .i64 h])) name #[x]).run Tryz.prog w = .ok (.enter 143 #[.agg #[y, z, .int .i64 h], x]) w
  c5 : ∀ y z h x w, (callMethod (.iface 153 (.agg #[y, z, .int .i64 h])) name #[x]).run Tryz.prog w = .ok (.enter 149 #[.agg #[y, z, .int .i64 h], x]) w

structure BindsName (name : String) : Prop where
  c0 : ∀ w, (callMethod (.iface 89 (.agg #[])) name #[]).run Tryz.prog w = .ok (.enter 103 #[.agg #[]]) w
  c1 : ∀ n w, (callMethod (.iface 124 (.agg #[.string n])) name #[]).run Tryz.prog w = .ok (.enter 103 #[.agg #[]]) w
  c2 : ∀ n v w, (callMethod (.iface 126 (.agg #[.string n, .string v])) name #[]).run Tryz.prog w = .ok (.enter 103 #[.agg #[]]) w
  c3 : ∀ y h w, (callMethod (.iface 147 (.agg #[y, .int .i64 h])) name #[]).run Tryz.prog w = .ok (.enter 133 #[.agg #[y, .int .i64 h]]) w
  c4 : ∀ y z h w, (callMethod (.iface 152 (.agg #[y, z, .int .i64 h])) name #[]).run Tryz.prog w = .ok (.enter 140 #[.agg #[y, z, .int .i64 h]]) w
  c5 : ∀ y z h w, (callMethod (.iface 153 (.agg #[y, z, .int .i64 h])) name #[]).run Tryz.prog w = .ok (.enter 146 #[.agg #[y, z, .int .i64 h]]) w

/-- how tightly a part binds, as the program counts it -/
def bindI : P.Tr → Int
  | .nil => 3
  | .node b _ _ _ _ => if b = 5 then 0 else if b = 4 then 1 else if b = 3 then 2 else 3

theorem bindI_lvl {t : P.Tr} (hw : P.wf t) (l : Nat) (hl : l ≤ 2) : ((l : Int) ≤ bindI t) ↔ ¬ P.bindT t < l + 1 := by
  rcases P.wf_cases hw with rfl | ⟨n, rfl⟩ | ⟨n, v, rfl⟩ | ⟨k, hk, rfl⟩ | ⟨a, b, ha, hb, rfl⟩ | ⟨a, b, ha, hb, rfl⟩
  · show (l : Int) ≤ 3 ↔ ¬ (3 < l + 1); omega
  · show (l : Int) ≤ 3 ↔ ¬ (3 < l + 1); omega
  · show (l : Int) ≤ 3 ↔ ¬ (3 < l + 1); omega
  · show (l : Int) ≤ 2 ↔ ¬ (3 < l + 1); omega
  · show (l : Int) ≤ 1 ↔ ¬ (2 < l + 1); omega
  · show (l : Int) ≤ 0 ↔ ¬ (1 < l + 1); omega

theorem leafBinds_any (w : World) : Calls Tryz.prog 103 #[.agg #[]] w fun e w' => e = .returned (.int .i64 3) ∧ w' = w.alloc (.cells #[] 87) := by
  go_enter Tryz.func103, Tryz.ntmps103
  go_wp2
  go_ret
  exact ⟨rfl, rfl⟩
theorem oppBinds_any (y : Value) (h : Int) (w : World) : Calls Tryz.prog 133 #[.agg #[y, .int .i64 h]] w fun e w' => e = .returned (.int .i64 2) ∧ w' = w.alloc (.cells #[y, .int .i64 h] 147) := by
  go_enter Tryz.func133, Tryz.ntmps133
  go_wp2
  go_ret
  exact ⟨rfl, rfl⟩
theorem bothBinds_any (y z : Value) (h : Int) (w : World) : Calls Tryz.prog 140 #[.agg #[y, z, .int .i64 h]] w fun e w' => e = .returned (.int .i64 1) ∧ w' = w.alloc (.cells #[y, z, .int .i64 h] 152) := by
  go_enter Tryz.func140, Tryz.ntmps140
  go_wp2
  go_ret
  exact ⟨rfl, rfl⟩
theorem eitherBinds_any (y z : Value) (h : Int) (w : World) : Calls Tryz.prog 146 #[.agg #[y, z, .int .i64 h]] w fun e w' => e = .returned (.int .i64 0) ∧ w' = w.alloc (.cells #[y, z, .int .i64 h] 153) := by
  go_enter Tryz.func146, Tryz.ntmps146
  go_wp2
  go_ret
  exact ⟨rfl, rfl⟩

theorem binds_meth {name : String} (H : BindsName name) {t : P.Tr} (hw : P.wf t) {x : Value} (hx : Hid (val t = x)) (w : World) : Meth Tryz.prog x name #[] w fun u w' => u = .int .i64 (bindI t) ∧ ∃ o, w' = w.alloc o := by
  rw [← hx.out]
  rcases P.wf_cases hw with rfl | ⟨n, rfl⟩ | ⟨n, v, rfl⟩ | ⟨k, hk, rfl⟩ | ⟨a, b, ha, hb, rfl⟩ | ⟨a, b, ha, hb, rfl⟩
  · exact ⟨_, _, H.c0 w, (leafBinds_any w).mono fun e w' ⟨he, hb⟩ => ⟨_, he, rfl, _, hb⟩⟩
  · exact ⟨_, _, H.c1 n w, (leafBinds_any w).mono fun e w' ⟨he, hb⟩ => ⟨_, he, rfl, _, hb⟩⟩
  · exact ⟨_, _, H.c2 n v w, (leafBinds_any w).mono fun e w' ⟨he, hb⟩ => ⟨_, he, rfl, _, hb⟩⟩
  · exact ⟨_, _, H.c3 _ _ w, (oppBinds_any _ _ w).mono fun e w' ⟨he, hb⟩ => ⟨_, he, rfl, _, hb⟩⟩
  · exact ⟨_, _, H.c4 _ _ _ w, (bothBinds_any _ _ _ w).mono fun e w' ⟨he, hb⟩ => ⟨_, he, rfl, _, hb⟩⟩
  · exact ⟨_, _, H.c5 _ _ _ w, (eitherBinds_any _ _ _ w).mono fun e w' ⟨he, hb⟩ => ⟨_, he, rfl, _, hb⟩⟩

/-- a part prints as it should -/
def PrintOk (t : P.Tr) : Prop := ∀ (name : String), PrintName name → ∀ (B b : Nat) (st : Option ByteArray) (w : World), TextAt B b st w → B ≤ w.heap.size →
  Meth Tryz.prog (val t) name #[.pointer (some ⟨b, 0, none⟩)] w fun u w' => u = .tuple #[] ∧ Printed B b (put st (P.pr t)) w w'

end Go.Proofs.YthjicahpfhjfdaaGreatDoor

namespace Go.Proofs.YthjicahpfhjfdaaGreatDoor
open Go.RowKit

theorem Printed.trans {B b : Nat} {s t : Option ByteArray} {w w1 w2 : World} (h : Printed B b s w w1) (k : Printed B b t w1 w2) : Printed B b t w w2 :=
  ⟨k.1, h.2.1.trans k.2.1, h.2.2.trans k.2.2⟩

theorem Printed.after {B b : Nat} {t : Option ByteArray} {w w2 : World} (o : Obj) (hB : B ≤ w.heap.size) (k : Printed B b t (w.alloc o) w2) : Printed B b t w w2 :=
  ⟨k.1, ((Below.refl B w).alloc hB o).trans k.2.1, ((Lib.OthersKept.refl _ _ w).alloc o).trans k.2.2⟩

theorem addKid_over (x : Value) (l : Int) (B b : Nat) (w : World) (h : TextAt B b none w) :
    Calls Tryz.prog 138 #[.pointer (some ⟨b, 0, none⟩), x, .int .i64 l] w fun e w' => e = .returned (.tuple #[]) ∧ w' = w := by
  obtain ⟨hB, hb, p, v, hblk⟩ := h
  obtain ⟨_, _, c2, _, _, _⟩ := text_cells hblk
  clear hblk
  go_enter Tryz.func138, Tryz.ntmps138
  go_wp2_with fail
  go_returns
  exact ⟨rfl, rfl⟩

set_option maxHeartbeats 1000000 in
set_option maxRecDepth 100000 in
theorem addKid_some (t : P.Tr) (hw : P.wf t) (hok : PrintOk t) (l : Nat) (hl : l ≤ 2) (s : ByteArray) (B b : Nat) (w : World) (h : TextAt B b (some s) w) (hBw : B ≤ w.heap.size) :
    Calls Tryz.prog 138 #[.pointer (some ⟨b, 0, none⟩), val t, .int .i64 l] w fun e w' => e = .returned (.tuple #[]) ∧ Printed B b (put (some s) (P.wr (l + 1) (P.bindT t) (P.pr t))) w w' := by
  have HT : Hid (TextAt B b (some s) w) := h
  obtain ⟨hB, hb, hs, p, v, hblk, _⟩ := h
  obtain ⟨_, _, c2, _, _, _⟩ := text_cells hblk
  clear hblk
  have hlv := bindI_lvl hw l hl
  obtain ⟨ty, vt, hvt⟩ := val_iface hw
  have HV : Hid (val t = .iface ty vt) := hvt
  have HP : Hid (∀ (name : String), PrintName name → ∀ (B b : Nat) (st : Option ByteArray) (w : World), TextAt B b st w → B ≤ w.heap.size → Meth Tryz.prog (.iface ty vt) name #[.pointer (some ⟨b, 0, none⟩)] w fun u w' => u = .tuple #[] ∧ Printed B b (put st (P.pr t)) w w') := by
    have h := hok
    unfold PrintOk at h
    rw [hvt] at h
    exact h
  rw [hvt]
  clear hvt
  by_cases hge : (l : Int) ≤ bindI t
  · have hw1 : Hid (P.wr (l + 1) (P.bindT t) (P.pr t) = P.pr t) := by show _ = _; unfold P.wr; rw [if_neg (hlv.1 hge)]
    clear hlv
    rw [hw1.out]
    clear hw1
    go_enter Tryz.func138, Tryz.ntmps138
    go_wp2_with (first
      | (refine wpList_meth rfl (.tmp 10) _ #[] #[] rfl _ rfl #[] (map_none _) _ (binds_meth ⟨fun _ => by kernel_rfl, fun _ _ => by kernel_rfl, fun _ _ _ => by kernel_rfl, fun _ _ _ => by kernel_rfl, fun _ _ _ _ => by kernel_rfl, fun _ _ _ _ => by kernel_rfl⟩ hw HV _) ?_; rintro u w1 ⟨rfl, o, rfl⟩)
      | (refine wpList_meth rfl (.tmp 14) _ #[.tmp 15] _ rfl _ rfl _ (map_one _ _) _ (HP.out _ ⟨fun _ _ => by kernel_rfl, fun _ _ _ => by kernel_rfl, fun _ _ _ _ => by kernel_rfl, fun _ _ _ _ => by kernel_rfl, fun _ _ _ _ _ => by kernel_rfl, fun _ _ _ _ _ => by kernel_rfl⟩ B b _ _ (textAt_alloc HT.out _) (by simp; omega)) ?_; rintro u w2 ⟨rfl, hp2⟩))
    go_returns
    exact ⟨rfl, hp2.after _ hBw⟩
  · have hw1 : Hid (P.wr (l + 1) (P.bindT t) (P.pr t) = ⟨#[40]⟩ ++ P.pr t ++ ⟨#[41]⟩) := by
      show _ = _
      unfold P.wr
      rw [if_pos (Decidable.not_not.1 fun h => hge (hlv.2 h))]
    clear hlv
    rw [hw1.out, ← put_put, ← put_put]
    clear hw1
    go_enter Tryz.func138, Tryz.ntmps138
    go_wp2_with (refine wpList_meth rfl (.tmp 10) _ #[] #[] rfl _ rfl #[] (map_none _) _ (binds_meth ⟨fun _ => by kernel_rfl, fun _ _ => by kernel_rfl, fun _ _ _ => by kernel_rfl, fun _ _ _ => by kernel_rfl, fun _ _ _ _ => by kernel_rfl, fun _ _ _ _ => by kernel_rfl⟩ hw HV _) ?_; rintro u w1 ⟨rfl, o, rfl⟩)
    refine (add_any _ (some s) B b _ (textAt_alloc HT.out _) (by unfold maxLen; decide) (by simp; omega)).mono ?_
    rintro e w1 ⟨rfl, hp1⟩
    have hp1 : Printed B b _ _ w1 := hp1
    have hs1 : B ≤ w1.heap.size := by
      have := hp1.2.1.size
      simp at this
      omega
    go_wp2_with (refine wpList_meth rfl (.tmp 19) _ #[.tmp 20] _ rfl _ rfl _ (map_one _ _) _ (HP.out _ ⟨fun _ _ => by kernel_rfl, fun _ _ _ => by kernel_rfl, fun _ _ _ _ => by kernel_rfl, fun _ _ _ _ => by kernel_rfl, fun _ _ _ _ _ => by kernel_rfl, fun _ _ _ _ _ => by kernel_rfl⟩ B b _ _ hp1.1 hs1) ?_; rintro u w2 ⟨rfl, hp2⟩)
    have hs2 : B ≤ w2.heap.size := Nat.le_trans hs1 hp2.2.1.size
    refine (add_any _ _ B b _ hp2.1 (by unfold maxLen; decide) hs2).mono ?_
    rintro e w3 ⟨rfl, hp3⟩
    have hp3 : Printed B b _ _ w3 := hp3
    have hfin := (hp1.after _ hBw).trans (hp2.trans hp3)
    clear hp1 hp2 hp3 hs1 hs2
    go_wp2_with fail
    go_returns
    exact ⟨rfl, hfin⟩

theorem addKid_any (t : P.Tr) (hw : P.wf t) (hok : PrintOk t) (l : Nat) (hl : l ≤ 2) (st : Option ByteArray) (B b : Nat) (w : World) (h : TextAt B b st w) (hBw : B ≤ w.heap.size) :
    Calls Tryz.prog 138 #[.pointer (some ⟨b, 0, none⟩), val t, .int .i64 l] w fun e w' => e = .returned (.tuple #[]) ∧ Printed B b (put st (P.wr (l + 1) (P.bindT t) (P.pr t))) w w' := by
  match st, h with
  | none, h =>
    refine (addKid_over (val t) l B b w h).mono ?_
    rintro e w' ⟨rfl, rfl⟩
    exact ⟨rfl, h, Below.refl _ _, Lib.OthersKept.refl _ _ _⟩
  | some s, h => exact addKid_some t hw hok l hl s B b w h hBw

end Go.Proofs.YthjicahpfhjfdaaGreatDoor
