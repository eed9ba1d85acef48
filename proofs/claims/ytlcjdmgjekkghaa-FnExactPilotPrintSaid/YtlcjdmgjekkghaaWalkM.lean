/-
  Walk: the program's PilotPrint.
-/
import Derived.Test.YtlcjdmgjekkghaaWalkL
namespace Go.Proofs.Ytlcjdmgjekkghaa
open Go.RowKit

theorem textAt_fresh (w : World) : TextAt w.heap.size w.heap.size (some ⟨#[]⟩) (w.alloc (.cells #[.pointer none, .slice none 0 0, .bool false] 49)) :=
  ⟨Nat.le_refl _, by simp, Nat.zero_le _, .pointer none, .slice none 0 0, heap_alloc_new w _, .inl rfl, World.ownsRow_nil _ _ _ _, by intro e; cases e⟩

theorem count_pos (t : P.Tr) (hw : P.wf t) : 1 ≤ P.count t := by
  rcases P.wf_cases hw with rfl | ⟨n, rfl⟩ | ⟨n, v, rfl⟩ | ⟨k, hk, rfl⟩ | ⟨a, b, ha, hb, rfl⟩ | ⟨a, b, ha, hb, rfl⟩
  · exact Nat.le_refl _
  · exact Nat.le_refl _
  · exact Nat.le_refl _
  · rw [P.count_nt]; omega
  · rw [P.count_an]; omega
  · rw [P.count_or]; omega

theorem over_cell {B b : Nat} {st : Option ByteArray} {w w2 : World} (he : st = none) (hp : Printed B b st w w2) : Below B w w2 ∧ w2.cell? ⟨b, 2, none⟩ = some (.bool true) := by
  subst he
  obtain ⟨⟨_, _, p, v, hblk⟩, hb, _⟩ := hp
  exact ⟨hb, (text_cells hblk).2.2.1⟩

theorem whole_cell {B b : Nat} {st : Option ByteArray} {s : ByteArray} {w w2 : World} (he : st = some s) (hp : Printed B b st w w2) : Below B w w2 ∧ w2.cell? ⟨b, 2, none⟩ = some (.bool false) ∧ TextAt B b (some s) w2 := by
  subst he
  have hT := hp.1
  obtain ⟨⟨_, _, _, p, v, hblk, _⟩, hb, _⟩ := hp
  exact ⟨hb, (text_cells hblk).2.2.1, hT⟩

set_option maxHeartbeats 1000000 in
theorem implNone_any (ns : List P.Nd) (g : Nat) (w : World) (h : Nodes0 w g ns) (hsm : Small ns) (ht : P.treeI ns = none) :
    Calls Try.prog 7 #[.agg #[.slice (some ⟨g, 0, none⟩) ns.length ns.length]] w fun e w' => e = .returned (.string (P.outI ns)) ∧ Below w.heap.size w w' := by
  have HO : Hid (P.outI ns = ⟨#[]⟩) := by show _ = _; unfold P.outI; rw [ht]
  have C := fun w h => tree_any ns g w h hsm
  rw [ht] at C
  have HC : Hid (∀ w, Nodes0 w g ns → Calls Try.prog 14 #[.slice (some ⟨g, 0, none⟩) ns.length ns.length] w fun e w' => e = .returned (.tuple #[.nilIface, .bool false]) ∧ Below w.heap.size w w') := C
  have HN : Hid (Nodes0 w g ns) := h
  clear C h ht
  go_enter Try.func7, Try.ntmps7
  go_wp2_with fail
  refine (HC.out _ (HN.out.grown (by go_grown))).mono ?_
  rintro e w1 ⟨rfl, hb⟩
  have hB : Below w.heap.size w w1 := ((Below.refl _ _).alloc (Nat.le_refl _) _).trans (hb.mono (by simp))
  clear hb
  go_wp2_with fail
  go_ret
  exact ⟨ret_str HO.out.symm, hB⟩

set_option maxHeartbeats 1000000 in
set_option maxRecDepth 100000 in
theorem implSome_any (ns : List P.Nd) (g : Nat) (w : World) (h : Nodes0 w g ns) (hsm : Small ns) (t : P.Tr) (ht : P.treeI ns = some t) (hf : P.fine t) :
    Calls Try.prog 7 #[.agg #[.slice (some ⟨g, 0, none⟩) ns.length ns.length]] w fun e w' => e = .returned (.string (P.outI ns)) ∧ Below w.heap.size w w' := by
  have HO : Hid (P.outI ns = if 200 < (P.pr t).size then ⟨#[]⟩ else P.pr t) := by show _ = _; unfold P.outI; rw [ht]
  have C := fun w h => tree_any ns g w h hsm
  rw [ht] at C
  obtain ⟨ty, vt, hvt⟩ := val_iface hf.1
  have C2 : ∀ w, Nodes0 w g ns → Calls Try.prog 14 #[.slice (some ⟨g, 0, none⟩) ns.length ns.length] w fun e w' => e = .returned (.tuple #[val t, .bool true]) ∧ Below w.heap.size w w' := C
  rw [hvt] at C2
  have HC : Hid (∀ w, Nodes0 w g ns → Calls Try.prog 14 #[.slice (some ⟨g, 0, none⟩) ns.length ns.length] w fun e w' => e = .returned (.tuple #[.iface ty vt, .bool true]) ∧ Below w.heap.size w w') := C2
  have hok := printOk_fine t hf.1 hf.2
  have HP : Hid (∀ (name : String), PrintName name → ∀ (B b : Nat) (st : Option ByteArray) (w : World), TextAt B b st w → B ≤ w.heap.size → Meth Try.prog (.iface ty vt) name #[.pointer (some ⟨b, 0, none⟩)] w fun u w' => u = .tuple #[] ∧ Printed B b (put st (P.pr t)) w w') := by
    unfold PrintOk at hok
    rw [hvt] at hok
    exact hok
  have hpos := Nat.le_trans (by have := count_pos t hf.1; omega) (P.count_le t hf.1 hf.2)
  have HN : Hid (Nodes0 w g ns) := h
  clear C C2 h ht hok hvt hf
  go_enter Try.func7, Try.ntmps7
  go_wp2_with fail
  refine (HC.out _ (HN.out.grown (by go_grown))).mono ?_
  rintro e w1 ⟨rfl, hb⟩
  have hB : Below w.heap.size w w1 := ((Below.refl _ _).alloc (Nat.le_refl _) _).trans (hb.mono (by simp))
  clear hb HC
  have e0 : put (some ⟨#[]⟩) (P.pr t) = if 200 < (P.pr t).size then none else some (P.pr t) := by
    show (if 200 < (⟨#[]⟩ : ByteArray).size + (P.pr t).size then none else some (⟨#[]⟩ ++ P.pr t)) = _
    have z : (⟨#[]⟩ : ByteArray).size = 0 := rfl
    rw [z, Nat.zero_add, show (⟨#[]⟩ : ByteArray) ++ P.pr t = P.pr t from ByteArray.empty_append]
  by_cases hov : 200 < (P.pr t).size
  · rw [if_pos hov] at e0
    have HO2 : Hid (P.outI ns = ⟨#[]⟩) := by show _ = _; rw [HO.out, if_pos hov]
    have HE : Hid (put (some ⟨#[]⟩) (P.pr t) = none) := e0
    clear e0 HO hov
    go_wp2_with (refine wpList_meth rfl (.tmp 14) _ #[.tmp 5] _ rfl _ rfl _ (map_one _ _) _ (HP.out _ ⟨fun _ _ => by kernel_rfl, fun _ _ _ => by kernel_rfl, fun _ _ _ _ => by kernel_rfl, fun _ _ _ _ => by kernel_rfl, fun _ _ _ _ _ => by kernel_rfl, fun _ _ _ _ _ => by kernel_rfl⟩ w1.heap.size w1.heap.size _ _ (textAt_fresh w1) (by simp)) ?_; rintro u w2 ⟨rfl, hp2⟩; obtain ⟨q, c2⟩ := over_cell HE.out hp2)
    go_ret
    exact ⟨ret_str HO2.out.symm, hB.trans ((((Below.refl _ _).alloc (Nat.le_refl _) _).trans q).mono hB.size)⟩
  · rw [if_neg hov] at e0
    have HO2 : Hid (P.outI ns = P.pr t) := by show _ = _; rw [HO.out, if_neg hov]
    have HE : Hid (put (some ⟨#[]⟩) (P.pr t) = some (P.pr t)) := e0
    clear e0 HO hov
    go_wp2_with (refine wpList_meth rfl (.tmp 14) _ #[.tmp 5] _ rfl _ rfl _ (map_one _ _) _ (HP.out _ ⟨fun _ _ => by kernel_rfl, fun _ _ _ => by kernel_rfl, fun _ _ _ _ => by kernel_rfl, fun _ _ _ _ => by kernel_rfl, fun _ _ _ _ _ => by kernel_rfl, fun _ _ _ _ _ => by kernel_rfl⟩ w1.heap.size w1.heap.size _ _ (textAt_fresh w1) (by simp)) ?_; rintro u w2 ⟨rfl, hp2⟩; obtain ⟨q, c2, hT2⟩ := whole_cell HE.out hp2)
    refine (string_any (P.pr t) (by omega) _ _ _ hT2).mono ?_
    rintro e w3 ⟨rfl, hb3⟩
    go_wp2_with fail
    go_ret
    exact ⟨ret_str HO2.out.symm, hB.trans (((((Below.refl _ _).alloc (Nat.le_refl _) _).trans q).trans hb3).mono hB.size)⟩

end Go.Proofs.Ytlcjdmgjekkghaa
