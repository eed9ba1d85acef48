/-
  Several texts in one: PrL, PrM, PrN.
-/
import Derived.Test.YthjicahpfhjfdaaGreatDoorPrK
import Derived.Test.YthjicahpfhjfdaaGreatDoorPrG
import Derived.Lib.UnsafeStr
import Derived.RegionTactic
import Derived.ChangeAlike
namespace Go.Proofs.YthjicahpfhjfdaaGreatDoor
open Go.RowKit

set_option maxHeartbeats 2000000 in
set_option maxRecDepth 100000 in
theorem string_any (s : ByteArray) (hs0 : s.size ≠ 0) (B b : Nat) (w : World) (h : TextAt B b (some s) w) :
    Calls Tryz.prog 18 #[.pointer (some ⟨b, 0, none⟩)] w fun e w' => e = .returned (.string s) ∧ Below B w w' := by
  obtain ⟨hB, hb, hs, p, v, hblk, hp, hown, hne⟩ := h
  obtain ⟨g, cap, cur, rfl, hbg, hg, hnc, hcm, hcs, htake⟩ : ∃ g cap cur, v = .slice (some ⟨g, 0, none⟩) s.size cap ∧ B ≤ g ∧ w.heap[g]? = some (.cells cur 5 (0, 0)) ∧ s.size ≤ cap ∧ cap ≤ maxLen ∧ cur.size = cap * 1 ∧ cur.toList.take (s.size * 1) = Lib.strCells s := by
    rcases hown.2 with ⟨_, hz⟩ | ⟨g, cap, cur, hv, r⟩
    · exact absurd hz hs0
    · exact ⟨g, cap, cur, hv, r⟩
  have c1 : w.drew.cell? ⟨b, 1, none⟩ = some (.slice (some ⟨g, 0, none⟩) s.size cap) := (text_cells hblk).2.1
  have hll : s.data.toList.length = s.size := by simp
  have hSD : (Builtin.unsafeSliceData_ #[22] 93 #[.slice (some ⟨g, 0, none⟩) s.size cap]).run Tryz.prog w.drew = .ok (.pointer (some ⟨g, 0, none⟩)) w.drew :=
    Lib.run_unsafeSliceData_row _ _ _ _ _ _ (by omega)
  have hUS : (Builtin.unsafeString_ #[93, 3] 9 #[.pointer (some ⟨g, 0, none⟩), .int .i64 s.size]).run Tryz.prog w.drew = .ok (.string ⟨s.data.toList.toArray⟩) (w.drew.freeze ⟨g, 0, none⟩ s.size) := by
    have key := Lib.run_unsafeString_row (P := Tryz.prog) w.drew 93 3 9 5 Tryz.underlying93 (by kernel_rfl) g cur.size (by have hg' : w.drew.heap[g]? = some (.cells cur 5 (0, 0)) := hg; simp [World.shape?, hg']) s.data.toList (by intro e; rw [e] at hll; exact hs0 hll.symm) (by omega) (by unfold maxLen at hcm; omega) (by
      intro j x hx
      have := hown.cells (g := g) rfl j (.int .u8 x.toNat) (by simp [Lib.strCells, hx])
      exact this)
    rw [hll] at key
    exact key
  clear hblk hp hown hne hg hcs htake
  go_enter Tryz.func18, Tryz.ntmps18
  go_wp2_with fail
  go_region
  all_goals (go_wp2_with fail; go_ret; exact ⟨ret_str rfl, Lib.below_freeze (Below.drew (Below.refl B w)) (p := ⟨g, 0, none⟩) hbg _⟩)

set_option maxHeartbeats 2000000 in
set_option maxRecDepth 100000 in
theorem stringNil_any (b : Nat) (w : World) (c1 : w.cell? ⟨b, 1, none⟩ = some (.slice none 0 0)) :
    Calls Tryz.prog 18 #[.pointer (some ⟨b, 0, none⟩)] w fun e w' => e = .returned (.string ⟨#[]⟩) ∧ Below w.heap.size w w' := by
  have hUS : ∀ (W : World) (q : Option Addr), (Builtin.unsafeString_ #[93, 3] 9 #[.pointer q, .int .i64 0]).run Tryz.prog W = .ok (.string .empty) W := fun W q => Lib.run_unsafeString_none W _ _ _ q
  have c2 : w.drew.cell? ⟨b, 1, none⟩ = some (.slice none 0 0) := c1
  have hSD : (Builtin.unsafeSliceData_ #[22] 93 #[.slice none 0 0]).run Tryz.prog w.drew = .ok (.pointer none) w.drew := rfl
  clear c1
  go_enter Tryz.func18, Tryz.ntmps18
  go_wp2_with fail
  go_region
  all_goals (go_wp2_with fail; go_ret; exact ⟨rfl, Below.drew (Below.refl _ w)⟩)

end Go.Proofs.YthjicahpfhjfdaaGreatDoor

namespace Go.Proofs.YthjicahpfhjfdaaGreatDoor
open Go.RowKit

theorem textAt_fresh (w : World) : TextAt w.heap.size w.heap.size (some ⟨#[]⟩) (w.alloc (.cells #[.pointer none, .slice none 0 0, .bool false] 51)) :=
  ⟨Nat.le_refl _, by simp, Nat.zero_le _, .pointer none, .slice none 0 0, heap_alloc_new w _, .inl rfl, World.ownsRow_nil _ _ _ _, by intro e; cases e⟩

theorem count_pos (t : P.Tr) (hw : P.wf t) : 1 ≤ P.count t := by
  rcases P.wf_cases hw with rfl | ⟨n, rfl⟩ | ⟨n, v, rfl⟩ | ⟨k, hk, rfl⟩ | ⟨a, b, ha, hb, rfl⟩ | ⟨a, b, ha, hb, rfl⟩
  · exact Nat.le_refl _
  · exact Nat.le_refl _
  · exact Nat.le_refl _
  · rw [P.count_nt]; omega
  · rw [P.count_an]; omega
  · rw [P.count_or]; omega

theorem over_cell {B b : Nat} {st : Option ByteArray} {w w2 : World} (he : st = none) (hp : Printed B b st w w2) : Below B w w2 ∧ w2.cell? ⟨b, 2, none⟩ = some (.bool true) := by
  subst he
  obtain ⟨⟨_, _, p, v, hblk⟩, hb, _⟩ := hp
  exact ⟨hb, (text_cells hblk).2.2.1⟩

theorem whole_cell {B b : Nat} {st : Option ByteArray} {s : ByteArray} {w w2 : World} (he : st = some s) (hp : Printed B b st w w2) : Below B w w2 ∧ w2.cell? ⟨b, 2, none⟩ = some (.bool false) ∧ TextAt B b (some s) w2 := by
  subst he
  have hT := hp.1
  obtain ⟨⟨_, _, _, p, v, hblk, _⟩, hb, _⟩ := hp
  exact ⟨hb, (text_cells hblk).2.2.1, hT⟩

set_option maxHeartbeats 1000000 in
theorem implNone_any (ns : List P.Nd) (g cn : Nat) (w : World) (h : Nodes0 w g ns) (hsm : Small ns) (ht : P.treeI ns = none) :
    Calls Tryz.prog 5 #[.agg #[.slice (some ⟨g, 0, none⟩) ns.length cn]] w fun e w' => e = .returned (.string (P.outI ns)) ∧ Below w.heap.size w w' := by
  have HO : Hid (P.outI ns = ⟨#[]⟩) := by show _ = _; unfold P.outI; rw [ht]
  have C := fun w h => tree_any ns g cn w h hsm
  rw [ht] at C
  have HC : Hid (∀ w, Nodes0 w g ns → Calls Tryz.prog 17 #[.slice (some ⟨g, 0, none⟩) ns.length cn] w fun e w' => e = .returned (.tuple #[.nilIface, .bool false]) ∧ Below w.heap.size w w') := C
  have HN : Hid (Nodes0 w g ns) := h
  clear C h ht
  go_enter Tryz.func5, Tryz.ntmps5
  go_wp2_with fail
  refine (HC.out _ (HN.out.grown (by go_grown))).mono ?_
  rintro e w1 ⟨rfl, hb⟩
  have hB : Below w.heap.size w w1 := ((Below.refl _ _).alloc (Nat.le_refl _) _).trans (hb.mono (by simp))
  clear hb
  go_wp2_with fail
  go_ret
  exact ⟨ret_str HO.out.symm, hB⟩

set_option maxHeartbeats 1000000 in
set_option maxRecDepth 100000 in
theorem implSome_any (ns : List P.Nd) (g cn : Nat) (w : World) (h : Nodes0 w g ns) (hsm : Small ns) (t : P.Tr) (ht : P.treeI ns = some t) (hf : P.fine t) :
    Calls Tryz.prog 5 #[.agg #[.slice (some ⟨g, 0, none⟩) ns.length cn]] w fun e w' => e = .returned (.string (P.outI ns)) ∧ Below w.heap.size w w' := by
  have HO : Hid (P.outI ns = if 200 < (P.pr t).size then ⟨#[]⟩ else P.pr t) := by show _ = _; unfold P.outI; rw [ht]
  have C := fun w h => tree_any ns g cn w h hsm
  rw [ht] at C
  obtain ⟨ty, vt, hvt⟩ := val_iface hf.1
  have C2 : ∀ w, Nodes0 w g ns → Calls Tryz.prog 17 #[.slice (some ⟨g, 0, none⟩) ns.length cn] w fun e w' => e = .returned (.tuple #[val t, .bool true]) ∧ Below w.heap.size w w' := C
  rw [hvt] at C2
  have HC : Hid (∀ w, Nodes0 w g ns → Calls Tryz.prog 17 #[.slice (some ⟨g, 0, none⟩) ns.length cn] w fun e w' => e = .returned (.tuple #[.iface ty vt, .bool true]) ∧ Below w.heap.size w w') := C2
  have hok := printOk_fine t hf.1 hf.2
  have HP : Hid (∀ (name : String), PrintName name → ∀ (B b : Nat) (st : Option ByteArray) (w : World), TextAt B b st w → B ≤ w.heap.size → Meth Tryz.prog (.iface ty vt) name #[.pointer (some ⟨b, 0, none⟩)] w fun u w' => u = .tuple #[] ∧ Printed B b (put st (P.pr t)) w w') := by
    unfold PrintOk at hok
    rw [hvt] at hok
    exact hok
  have hpos := Nat.le_trans (by have := count_pos t hf.1; omega) (P.count_le t hf.1 hf.2)
  have HN : Hid (Nodes0 w g ns) := h
  clear C C2 h ht hok hvt hf
  go_enter Tryz.func5, Tryz.ntmps5
  go_wp2_with fail
  refine (HC.out _ (HN.out.grown (by go_grown))).mono ?_
  rintro e w1 ⟨rfl, hb⟩
  have hB : Below w.heap.size w w1 := ((Below.refl _ _).alloc (Nat.le_refl _) _).trans (hb.mono (by simp))
  clear hb HC
  have e0 : put (some ⟨#[]⟩) (P.pr t) = if 200 < (P.pr t).size then none else some (P.pr t) := by
    show (if 200 < (⟨#[]⟩ : ByteArray).size + (P.pr t).size then none else some (⟨#[]⟩ ++ P.pr t)) = _
    have z : (⟨#[]⟩ : ByteArray).size = 0 := rfl
    rw [z, Nat.zero_add, show (⟨#[]⟩ : ByteArray) ++ P.pr t = P.pr t from ByteArray.empty_append]
  by_cases hov : 200 < (P.pr t).size
  · rw [if_pos hov] at e0
    have HO2 : Hid (P.outI ns = ⟨#[]⟩) := by show _ = _; rw [HO.out, if_pos hov]
    have HE : Hid (put (some ⟨#[]⟩) (P.pr t) = none) := e0
    clear e0 HO hov
    go_wp2_with (refine wpList_meth rfl (.tmp 14) _ #[.tmp 5] _ rfl _ rfl _ (map_one _ _) _ (HP.out _ ⟨fun _ _ => by kernel_rfl, fun _ _ _ => by kernel_rfl, fun _ _ _ _ => by kernel_rfl, fun _ _ _ _ => by kernel_rfl, fun _ _ _ _ _ => by kernel_rfl, fun _ _ _ _ _ => by kernel_rfl⟩ w1.heap.size w1.heap.size _ _ (textAt_fresh w1) (by simp)) ?_; rintro u w2 ⟨rfl, hp2⟩; obtain ⟨q, c2⟩ := over_cell HE.out hp2)
    go_ret
    exact ⟨ret_str HO2.out.symm, hB.trans ((((Below.refl _ _).alloc (Nat.le_refl _) _).trans q).mono hB.size)⟩
  · rw [if_neg hov] at e0
    have HO2 : Hid (P.outI ns = P.pr t) := by show _ = _; rw [HO.out, if_neg hov]
    have HE : Hid (put (some ⟨#[]⟩) (P.pr t) = some (P.pr t)) := e0
    clear e0 HO hov
    go_wp2_with (refine wpList_meth rfl (.tmp 14) _ #[.tmp 5] _ rfl _ rfl _ (map_one _ _) _ (HP.out _ ⟨fun _ _ => by kernel_rfl, fun _ _ _ => by kernel_rfl, fun _ _ _ _ => by kernel_rfl, fun _ _ _ _ => by kernel_rfl, fun _ _ _ _ _ => by kernel_rfl, fun _ _ _ _ _ => by kernel_rfl⟩ w1.heap.size w1.heap.size _ _ (textAt_fresh w1) (by simp)) ?_; rintro u w2 ⟨rfl, hp2⟩; obtain ⟨q, c2, hT2⟩ := whole_cell HE.out hp2)
    refine (string_any (P.pr t) (by omega) _ _ _ hT2).mono ?_
    rintro e w3 ⟨rfl, hb3⟩
    go_wp2_with fail
    go_ret
    exact ⟨ret_str HO2.out.symm, hB.trans (((((Below.refl _ _).alloc (Nat.le_refl _) _).trans q).trans hb3).mono hB.size)⟩

end Go.Proofs.YthjicahpfhjfdaaGreatDoor

namespace Go.Proofs.YthjicahpfhjfdaaGreatDoor
open Go.RowKit

set_option maxHeartbeats 400000 in
theorem nothingSame_any (x : Value) (w : World) :
    Calls Tryz.prog 107 #[.agg #[], x] w fun e w' => e = .returned (.tuple #[]) ∧ w' = w.alloc (.cells #[] 89) := by
  go_enter Tryz.func107, Tryz.ntmps107
  go_wp2_with fail
  go_returns
  exact ⟨rfl, rfl⟩

theorem nothing_meth {name : String} (H : PrintName name) (x : Value) (w : World) : Meth Tryz.prog (.iface 89 (.agg #[])) name #[x] w fun u w' => u = .tuple #[] ∧ w' = w.alloc (.cells #[] 89) := by
  exact ⟨_, _, H.c0 x w, (nothingSame_any x w).mono fun e w' ⟨he, hp⟩ => ⟨_, he, rfl, hp⟩⟩

set_option maxHeartbeats 1000000 in
set_option maxRecDepth 100000 in
theorem implNon_any (ns : List P.Nd) (g cn : Nat) (w : World) (h : Nodes0 w g ns) (hsm : Small ns) (ht : P.treeI ns = some P.nonT) :
    Calls Tryz.prog 5 #[.agg #[.slice (some ⟨g, 0, none⟩) ns.length cn]] w fun e w' => e = .returned (.string (P.outI ns)) ∧ Below w.heap.size w w' := by
  have HO : Hid (P.outI ns = ⟨#[]⟩) := by
    show _ = _
    unfold P.outI
    rw [ht]
    show (if 200 < (P.pr P.nonT).size then ⟨#[]⟩ else P.pr P.nonT) = _
    rw [P.pr_non]
    rfl
  have C := fun w h => tree_any ns g cn w h hsm
  rw [ht] at C
  have HC : Hid (∀ w, Nodes0 w g ns → Calls Tryz.prog 17 #[.slice (some ⟨g, 0, none⟩) ns.length cn] w fun e w' => e = .returned (.tuple #[.iface 89 (.agg #[]), .bool true]) ∧ Below w.heap.size w w') := C
  have HN : Hid (Nodes0 w g ns) := h
  clear C h ht
  go_enter Tryz.func5, Tryz.ntmps5
  go_wp2_with fail
  refine (HC.out _ (HN.out.grown (by go_grown))).mono ?_
  rintro e w1 ⟨rfl, hb⟩
  have hB : Below w.heap.size w w1 := ((Below.refl _ _).alloc (Nat.le_refl _) _).trans (hb.mono (by simp))
  clear hb HC
  go_wp2_with (refine wpList_meth rfl (.tmp 14) _ #[.tmp 5] _ rfl _ rfl _ (map_one _ _) _ (nothing_meth ⟨fun _ _ => by kernel_rfl, fun _ _ _ => by kernel_rfl, fun _ _ _ _ => by kernel_rfl, fun _ _ _ _ => by kernel_rfl, fun _ _ _ _ _ => by kernel_rfl, fun _ _ _ _ _ => by kernel_rfl⟩ _ _) ?_; rintro u w2 ⟨rfl, rfl⟩)
  refine (stringNil_any _ _ (by simp)).mono ?_
  rintro e w3 ⟨rfl, hb3⟩
  go_wp2_with fail
  go_ret
  refine ⟨ret_str HO.out.symm, hB.trans ((((((Below.refl w1.heap.size w1).alloc (Nat.le_refl _) _).alloc (by simp) _)).trans (hb3.mono (by simp; omega))).mono hB.size)⟩

theorem implPrint_any (ns : List P.Nd) (g cn : Nat) (w : World) (h : Nodes0 w g ns) (hsm : Small ns) :
    Calls Tryz.prog 5 #[.agg #[.slice (some ⟨g, 0, none⟩) ns.length cn]] w fun e w' => e = .returned (.string (P.outI ns)) ∧ Below w.heap.size w w' := by
  cases ht : P.treeI ns with
  | none => exact implNone_any ns g cn w h hsm ht
  | some t =>
    rcases P.treeI_fine ht with rfl | hf
    · exact implNon_any ns g cn w h hsm ht
    · exact implSome_any ns g cn w h hsm t ht hf

end Go.Proofs.YthjicahpfhjfdaaGreatDoor
