/-
  The program's PilotMeets; PilotPrint without nodes; selects held against each other (made by mkslk.py).
-/
import Derived.Test.YthjicahpfhjfdaaGreatDoorJ42
import Derived.Test.YthjicahpfhjfdaaGreatDoorJ47
import Derived.BigQuiet
namespace Go.Proofs.YthjicahpfhjfdaaGreatDoor
open Go.RowKit

theorem step_methW {P : Program} {ops : Array Oper} {o : Oper} {a : Act} {K : Act → World → Prop} {Q : Exit → Act → World → Prop} {E : Prop} {w : World}
    (hg : Region.wanted o (yielded ops a.tmps) = true) (x : Operand) (name : String) (qs : Array Operand) (ts : Array TypeId)
    (ho : o.op = .call { callee := .invoke x name, args := qs, argTypes := ts })
    (xv : Value) (hx : a.eval x = xv) (bs : Array Value) (hq : qs.map a.eval = bs) (R : Value → World → Prop) (hm : Meth P xv name bs w R)
    (h : ∀ u w', R u w' → K (a.put o.dst u) w') : if Region.wanted o (yielded ops a.tmps) = true then Oper.wp P o a w K Q else E := by
  rw [if_pos hg]
  obtain ⟨f, bs', hr, hc⟩ := hm
  subst hx
  subst hq
  have hrun : (execOp a.eval o).run P w = .ok (.enter f bs') w := by
    unfold execOp
    simp only [ho, resolve, invoke, Sem.run_bind, Sem.run_pure, Result.andThen_ok]
    rw [extract_one]
    simp only [Array.getElem?_append, List.size_toArray, List.length_cons, List.length_nil]
    simp only [Nat.zero_add, Nat.lt_one_iff, if_true]
    exact hr
  unfold Oper.wp
  rw [hrun, Oper.upon_enter]
  refine hc.mono ?_
  rintro e w' ⟨u, rfl, hR⟩
  exact h u w' hR

theorem short_of {ns : List P.Nd} {t : P.Tr} (h : P.treeI ns = some t) : P.wf t ∧ shortT t := by
  rcases treeI_inv h with rfl | ⟨_, h2, _, _⟩
  · exact ⟨P.wf_non, by decide, by decide, trivial, trivial⟩
  · exact ⟨h2.1, shortT_of t h2.1 h2.2.1⟩

set_option maxHeartbeats 4000000 in
set_option maxRecDepth 100000 in
theorem implMeets_any (ns : List P.Nd) (g cn : Nat) (ms : List ByteArray) (am : Option Addr) (cm : Nat) (w : World) (hN : Nodes0 w g ns) (hsm : Small ns) (hM : SliceC StrC 1 0 w am ms) (hml : ms.length ≤ 1000) :
    Calls Tryz.prog 11 #[.agg #[.slice (some ⟨g, 0, none⟩) ns.length cn], .slice am ms.length cm] w fun e w' => e = .returned (.bool (mtI ns ms)) ∧ Below w.heap.size w w' := by
  have hb0 : Below w.heap.size w (w.alloc (Obj.cells #[.slice (some ⟨g, 0, none⟩) ns.length cn] 25)) := (Below.refl _ _).alloc (Nat.le_refl _) _
  have HN := Hid.intro (hN.grown hb0)
  have HM := Hid.intro (hM.below StrC.holds hb0 (Nat.le_refl _))
  have HB := Hid.intro hb0
  have HS := Hid.intro hsm
  clear hN hM hb0 hsm
  cases ht : P.treeI ns with
  | none =>
    have HT : Hid (P.treeI ns = none) := ht
    have HO : Hid (mtI ns ms = false) := by show _ = _; unfold mtI; rw [ht]
    clear ht
    go_enter Tryz.func11, Tryz.ntmps11
    go_wp2_with fail
    refine (tree_any ns g cn _ HN.out HS.out).mono ?_
    rintro e w1 ⟨rfl, hb⟩
    rw [HT.out]
    replace HB := Hid.intro (HB.out.trans (hb.mono HB.out.size))
    clear hb
    unfold growV
    go_upto_region 2 with fail
    refine wp_region_held_drew (S := fun _ => True) (by kernel_rfl) trivial (fun hS => ?_)
    replace HB := Hid.intro HB.out.drew
    generalize w1.drew = wn at *
    refine wpAnyH_take (i := 0) (oi := { dst := some 13, op := _, type := _, pos := _, after := _, guard := none }) (v := .bool false) rfl (by kernel_rfl) (by kernel_rfl) (by kernel_rfl) (fun _ _ _ h => h) (Or.inl ⟨by rfl, ?_⟩) hS ?_
    · intro wy hy
      clear hy
      go_simp
    simp only [Act.put, List.setIfInBounds_toArray, List.set_cons_zero, List.set_cons_succ]
    refine wpAnyH_take (i := 1) (oi := { dst := some 14, op := _, type := _, pos := _, after := _, guard := none }) (v := .bool false) rfl (by kernel_rfl) (by kernel_rfl) (by kernel_rfl) (fun _ _ _ h => h) (Or.inl ⟨by rfl, ?_⟩) hS ?_
    · intro wy hy
      clear hy
      go_simp
    simp only [Act.put, List.setIfInBounds_toArray, List.set_cons_zero, List.set_cons_succ]
    refine wpAnyH_take (i := 2) (oi := { dst := some 15, op := _, type := _, pos := _, after := _, guard := some (1, true) }) (v := undef) rfl (by kernel_rfl) (by kernel_rfl) (by kernel_rfl) (fun _ _ _ h => h) (Or.inr ⟨by rfl, rfl⟩) hS ?_
    simp only [Act.put, List.setIfInBounds_toArray, List.set_cons_zero, List.set_cons_succ]
    refine wpAnyH_take (i := 3) (oi := { dst := some 16, op := _, type := _, pos := _, after := _, guard := some (1, true) }) (v := undef) rfl (by kernel_rfl) (by kernel_rfl) (by kernel_rfl) (fun _ _ _ h => h) (Or.inr ⟨by rfl, rfl⟩) hS ?_
    simp only [Act.put, List.setIfInBounds_toArray, List.set_cons_zero, List.set_cons_succ]
    refine wpAnyH_take (i := 4) (oi := { dst := some 17, op := _, type := _, pos := _, after := _, guard := some (1, true) }) (v := undef) rfl (by kernel_rfl) (by kernel_rfl) (by kernel_rfl) (fun _ _ _ h => h) (Or.inr ⟨by rfl, rfl⟩) hS ?_
    simp only [Act.put, List.setIfInBounds_toArray, List.set_cons_zero, List.set_cons_succ]
    refine wpAnyH_take (i := 5) (oi := { dst := some 18, op := _, type := _, pos := _, after := _, guard := some (1, true) }) (v := undef) rfl (by kernel_rfl) (by kernel_rfl) (by kernel_rfl) (fun _ _ _ h => h) (Or.inr ⟨by rfl, rfl⟩) hS ?_
    simp only [Act.put, List.setIfInBounds_toArray, List.set_cons_zero, List.set_cons_succ]
    refine wpAnyH_take (i := 6) (oi := { dst := some 19, op := _, type := _, pos := _, after := _, guard := some (1, true) }) (v := undef) rfl (by kernel_rfl) (by kernel_rfl) (by kernel_rfl) (fun _ _ _ h => h) (Or.inr ⟨by rfl, rfl⟩) hS ?_
    simp only [Act.put, List.setIfInBounds_toArray, List.set_cons_zero, List.set_cons_succ]
    refine wpAnyH_take (i := 7) (oi := { dst := some 20, op := _, type := _, pos := _, after := _, guard := some (1, true) }) (v := undef) rfl (by kernel_rfl) (by kernel_rfl) (by kernel_rfl) (fun _ _ _ h => h) (Or.inr ⟨by rfl, rfl⟩) hS ?_
    simp only [Act.put, List.setIfInBounds_toArray, List.set_cons_zero, List.set_cons_succ]
    refine wpAnyH_take (i := 8) (oi := { dst := some 21, op := _, type := _, pos := _, after := _, guard := some (1, true) }) (v := undef) rfl (by kernel_rfl) (by kernel_rfl) (by kernel_rfl) (fun _ _ _ h => h) (Or.inr ⟨by rfl, rfl⟩) hS ?_
    simp only [Act.put, List.setIfInBounds_toArray, List.set_cons_zero, List.set_cons_succ]
    refine wpAnyH_take (i := 9) (oi := { dst := some 22, op := _, type := _, pos := _, after := _, guard := none }) (v := .bool false) rfl (by kernel_rfl) (by kernel_rfl) (by kernel_rfl) (fun _ _ _ h => h) (Or.inl ⟨by rfl, ?_⟩) hS ?_
    · intro wy hy
      clear hy
      go_simp
    simp only [Act.put, List.setIfInBounds_toArray, List.set_cons_zero, List.set_cons_succ]
    refine wpAnyH_take (i := 10) (oi := { dst := some 4, op := _, type := _, pos := _, after := _, guard := none }) (v := .bool false) rfl (by kernel_rfl) (by kernel_rfl) (by kernel_rfl) (fun _ _ _ h => h) (Or.inl ⟨by rfl, ?_⟩) hS ?_
    · intro wy hy
      clear hy
      go_simp
    simp only [Act.put, List.setIfInBounds_toArray, List.set_cons_zero, List.set_cons_succ]
    refine wpAnyH_done (by kernel_rfl) ?_ _
    clear hS
    go_wp2_with fail
    go_ret
    exact ⟨by rw [HO.out]; rfl, HB.out⟩
  | some t =>
    have HT : Hid (P.treeI ns = some t) := ht
    have HO : Hid (mtI ns ms = meetsK (keysR ms ms.length) t) := by show _ = _; unfold mtI; rw [ht]
    obtain ⟨hwf, hsh⟩ := short_of ht
    have HW := Hid.intro hwf
    have HSH := Hid.intro hsh
    obtain ⟨ty, x, hv⟩ := val_iface hwf
    have HV := Hid.intro hv
    clear ht hwf hsh
    go_enter Tryz.func11, Tryz.ntmps11
    go_wp2_with fail
    refine (tree_any ns g cn _ HN.out HS.out).mono ?_
    rintro e w1 ⟨rfl, hb⟩
    rw [show growV (P.treeI ns) = .tuple #[.iface ty x, .bool true] from by rw [HT.out, ← hv]; rfl]
    replace HM := Hid.intro (HM.out.below StrC.holds hb (Nat.le_refl _))
    replace HB := Hid.intro (HB.out.trans (hb.mono HB.out.size))
    clear hb
    go_upto_region 2 with fail
    refine wp_region_held_drew (S := fun _ => True) (by kernel_rfl) trivial (fun hS => ?_)
    replace HB := Hid.intro HB.out.drew
    replace HM : Hid (SliceC StrC 1 0 w1.drew am ms) := HM.out.below StrC.holds ((Below.refl _ w1).drew) (Nat.le_refl _)
    generalize w1.drew = wn at *
    refine wpAnyH_take (i := 0) (oi := { dst := some 13, op := _, type := _, pos := _, after := _, guard := none }) (v := .bool true) rfl (by kernel_rfl) (by kernel_rfl) (by kernel_rfl) (fun _ _ _ h => h) (Or.inl ⟨by rfl, ?_⟩) hS ?_
    · intro wy hy
      clear hy
      go_simp
    simp only [Act.put, List.setIfInBounds_toArray, List.set_cons_zero, List.set_cons_succ]
    refine wpAnyH_take (i := 1) (oi := { dst := some 14, op := _, type := _, pos := _, after := _, guard := none }) (v := .bool true) rfl (by kernel_rfl) (by kernel_rfl) (by kernel_rfl) (fun _ _ _ h => h) (Or.inl ⟨by rfl, ?_⟩) hS ?_
    · intro wy hy
      clear hy
      go_simp
    simp only [Act.put, List.setIfInBounds_toArray, List.set_cons_zero, List.set_cons_succ]
    refine wpAnyH_take (i := 2) (oi := { dst := some 15, op := _, type := _, pos := _, after := _, guard := some (1, true) }) (v := .iface ty x) rfl (by kernel_rfl) (by kernel_rfl) (by kernel_rfl) (fun _ _ _ h => h) (Or.inl ⟨by rfl, fun _ _ => rfl⟩) hS ?_
    simp only [Act.put, List.setIfInBounds_toArray, List.set_cons_zero, List.set_cons_succ]
    refine wpAnyH_take (i := 3) (oi := { dst := some 16, op := _, type := _, pos := _, after := _, guard := some (1, true) }) (v := .slice am ms.length cm) rfl (by kernel_rfl) (by kernel_rfl) (by kernel_rfl) (fun _ _ _ h => h) (Or.inl ⟨by rfl, fun _ _ => rfl⟩) hS ?_
    simp only [Act.put, List.setIfInBounds_toArray, List.set_cons_zero, List.set_cons_succ]
    refine wpAnyH_take (i := 5) (oi := { dst := some 18, op := _, type := _, pos := _, after := _, guard := some (1, true) }) (v := _) rfl (by kernel_rfl) (by kernel_rfl) (by kernel_rfl) (fun _ _ _ h => h) (Or.inl ⟨by rfl, fun _ _ => rfl⟩) hS ?_
    simp only [Act.put, List.setIfInBounds_toArray, List.set_cons_zero, List.set_cons_succ]
    refine wpAnyH_take (i := 6) (oi := { dst := some 19, op := _, type := _, pos := _, after := _, guard := some (1, true) }) (v := _) rfl (by kernel_rfl) (by kernel_rfl) (by kernel_rfl) (fun _ _ _ h => h) (Or.inl ⟨by rfl, fun wy _ => run_nilCheck_meth rfl rfl rfl (fun w => nil_ok ⟨fun _ => by kernel_rfl, fun _ _ => by kernel_rfl, fun _ _ _ => by kernel_rfl, fun _ _ _ => by kernel_rfl, fun _ _ _ _ => by kernel_rfl, fun _ _ _ _ => by kernel_rfl⟩ HW.out HV w) wy⟩) hS ?_
    simp only [Act.put, List.setIfInBounds_toArray, List.set_cons_zero, List.set_cons_succ]
    refine wpAnyH_take (i := 7) (oi := { dst := some 20, op := _, type := _, pos := _, after := _, guard := some (1, true) }) (v := .iface ty x) rfl (by kernel_rfl) (by kernel_rfl) (by kernel_rfl) (fun _ _ _ h => h) (Or.inl ⟨by rfl, fun _ _ => rfl⟩) hS ?_
    simp only [Act.put, List.setIfInBounds_toArray, List.set_cons_zero, List.set_cons_succ]
    refine wpAnyH_ready (rs := [4]) (by kernel_rfl) (by simp) (AllReadyH.cons (o := { dst := some 17, op := _, type := _, pos := _, after := _, guard := some (1, true) }) rfl (fun KK hKK => ?_) AllReadyH.nil)
    go_simp
    refine (marksOf_any ms _ cm 0 _ HM.out (by omega)).mono ?_
    rintro e w2 ⟨m, n, rfl, hom, hb⟩
    have HMM := Hid.intro hom
    replace HB := Hid.intro (HB.out.trans (hb.mono HB.out.size))
    refine hKK.out _ _ trivial (fun hS => ?_)
    clear hom hb hKK KK HM
    refine wpAnyH_ready (rs := [8]) (by kernel_rfl) (by simp) (AllReadyH.cons (o := { dst := some 21, op := _, type := _, pos := _, after := _, guard := some (1, true) }) rfl (fun KK hKK => ?_) AllReadyH.nil)
    refine step_methW (by rfl) (.tmp 20) _ #[.tmp 17] #[80] (by rfl) _ (by rfl) #[.map (some m)] (map_one _ _) _ (meets_ok _ HW.out _ ⟨fun _ _ => by kernel_rfl, fun _ _ _ => by kernel_rfl, fun _ _ _ _ => by kernel_rfl, fun _ _ _ _ => by kernel_rfl, fun _ _ _ _ _ => by kernel_rfl, fun _ _ _ _ _ => by kernel_rfl⟩ _ HV m n _ _ HMM.out HSH.out) ?_
    rintro u w3 ⟨rfl, hb⟩
    replace HB := Hid.intro (HB.out.trans (hb.mono HB.out.size))
    rw [← HO.out]
    refine hKK.out _ _ trivial (fun hS => ?_)
    clear hb hKK KK HMM
    refine wpAnyH_take (i := 9) (oi := { dst := some 22, op := _, type := _, pos := _, after := _, guard := none }) (v := .bool (mtI ns ms)) rfl (by kernel_rfl) (by kernel_rfl) (by kernel_rfl) (fun _ _ _ h => h) (Or.inl ⟨by rfl, fun _ _ => rfl⟩) hS ?_
    simp only [Act.put, List.setIfInBounds_toArray, List.set_cons_zero, List.set_cons_succ]
    refine wpAnyH_take (i := 10) (oi := { dst := some 4, op := _, type := _, pos := _, after := _, guard := none }) (v := .bool (mtI ns ms)) rfl (by kernel_rfl) (by kernel_rfl) (by kernel_rfl) (fun _ _ _ h => h) (Or.inl ⟨by rfl, fun _ _ => rfl⟩) hS ?_
    simp only [Act.put, List.setIfInBounds_toArray, List.set_cons_zero, List.set_cons_succ]
    refine wpAnyH_done (by kernel_rfl) ?_ _
    clear hS
    go_wp2_with fail
    go_ret
    exact ⟨rfl, HB.out⟩
end Go.Proofs.YthjicahpfhjfdaaGreatDoor
