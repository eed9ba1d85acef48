/-
  Walk: the program's PilotPrint at the select that asks for nothing; at every list of nodes.
-/
import Derived.Test.YtlcjdmgjekkghaaWalkM
namespace Go.Proofs.Ytlcjdmgjekkghaa
open Go.RowKit

set_option maxHeartbeats 400000 in
theorem nothingSame_any (x : Value) (w : World) :
    Calls Try.prog 53 #[.agg #[], x] w fun e w' => e = .returned (.tuple #[]) ∧ w' = w.alloc (.cells #[] 65) := by
  go_enter Try.func53, Try.ntmps53
  go_wp2_with fail
  go_returns
  exact ⟨rfl, rfl⟩

theorem nothing_meth {name : String} (H : PrintName name) (x : Value) (w : World) : Meth Try.prog (.iface 65 (.agg #[])) name #[x] w fun u w' => u = .tuple #[] ∧ w' = w.alloc (.cells #[] 65) := by
  exact ⟨_, _, H.c0 x w, (nothingSame_any x w).mono fun e w' ⟨he, hp⟩ => ⟨_, he, rfl, hp⟩⟩

set_option maxHeartbeats 1000000 in
set_option maxRecDepth 100000 in
theorem implNon_any (ns : List P.Nd) (g : Nat) (w : World) (h : Nodes0 w g ns) (hsm : Small ns) (ht : P.treeI ns = some P.nonT) :
    Calls Try.prog 7 #[.agg #[.slice (some ⟨g, 0, none⟩) ns.length ns.length]] w fun e w' => e = .returned (.string (P.outI ns)) ∧ Below w.heap.size w w' := by
  have HO : Hid (P.outI ns = ⟨#[]⟩) := by
    show _ = _
    unfold P.outI
    rw [ht]
    show (if 200 < (P.pr P.nonT).size then ⟨#[]⟩ else P.pr P.nonT) = _
    rw [P.pr_non]
    rfl
  have C := fun w h => tree_any ns g w h hsm
  rw [ht] at C
  have HC : Hid (∀ w, Nodes0 w g ns → Calls Try.prog 14 #[.slice (some ⟨g, 0, none⟩) ns.length ns.length] w fun e w' => e = .returned (.tuple #[.iface 65 (.agg #[]), .bool true]) ∧ Below w.heap.size w w') := C
  have HN : Hid (Nodes0 w g ns) := h
  clear C h ht
  go_enter Try.func7, Try.ntmps7
  go_wp2_with fail
  refine (HC.out _ (HN.out.grown (by go_grown))).mono ?_
  rintro e w1 ⟨rfl, hb⟩
  have hB : Below w.heap.size w w1 := ((Below.refl _ _).alloc (Nat.le_refl _) _).trans (hb.mono (by simp))
  clear hb HC
  go_wp2_with (refine wpList_meth rfl (.tmp 14) _ #[.tmp 5] _ rfl _ rfl _ (map_one _ _) _ (nothing_meth ⟨fun _ _ => by kernel_rfl, fun _ _ _ => by kernel_rfl, fun _ _ _ _ => by kernel_rfl, fun _ _ _ _ => by kernel_rfl, fun _ _ _ _ _ => by kernel_rfl, fun _ _ _ _ _ => by kernel_rfl⟩ _ _) ?_; rintro u w2 ⟨rfl, rfl⟩)
  refine (stringNil_any _ _ (by simp)).mono ?_
  rintro e w3 ⟨rfl, hb3⟩
  go_wp2_with fail
  go_ret
  refine ⟨ret_str HO.out.symm, hB.trans ((((((Below.refl w1.heap.size w1).alloc (Nat.le_refl _) _).alloc (by simp) _)).trans (hb3.mono (by simp; omega))).mono hB.size)⟩

theorem implPrint_any (ns : List P.Nd) (g : Nat) (w : World) (h : Nodes0 w g ns) (hsm : Small ns) :
    Calls Try.prog 7 #[.agg #[.slice (some ⟨g, 0, none⟩) ns.length ns.length]] w fun e w' => e = .returned (.string (P.outI ns)) ∧ Below w.heap.size w w' := by
  cases ht : P.treeI ns with
  | none => exact implNone_any ns g w h hsm ht
  | some t =>
    rcases P.treeI_fine ht with rfl | hf
    · exact implNon_any ns g w h hsm ht
    · exact implSome_any ns g w h hsm t ht hf

end Go.Proofs.Ytlcjdmgjekkghaa
