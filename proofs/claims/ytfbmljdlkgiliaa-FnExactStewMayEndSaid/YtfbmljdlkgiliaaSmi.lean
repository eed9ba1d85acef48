/-
  What may be taken away, by the program. Made by mksmi.py.
-/
import Derived.Test.YtfbmljdlkgiliaaSi7
import Derived.Test.YtfbmljdlkgiliaaSt9
import Derived.Test.YtfbmljdlkgiliaaSvo
namespace Go.Proofs.Ytfbmljdlkgiliaa
open Go.RowKit Go.WideMaps Go.Maps

/-- the rule of a service -/
def rlV (x : Sbk) (v : Ssv) : Value := if v.gone = true then .iface 100 (.agg #[]) else .iface 103 (.agg #[.int .i64 (cntL x.copies v.name v.image).ready, .int .i64 (v.want - v.down)])

theorem extract_one' (x : Value) (qs : Array Value) : (#[x] ++ qs).extract 1 (#[x] ++ qs).size = qs := by
  apply Array.ext_getElem?
  intro i
  rw [Array.getElem?_extract]
  simp only [Array.size_append, List.size_toArray, List.length_cons, List.length_nil]
  split
  · rw [Array.getElem?_append_right (by simp)]
    congr 1
    simp
  · rw [Array.getElem?_eq_none]
    omega

theorem map_oneX (f : Operand → Value) (q : Operand) : (#[q] : Array Operand).map f = #[f q] := by simp

theorem step_methG {P : Program} {ops : Array Oper} {o : Oper} {a : Act} {K : Act → World → Prop} {Q : Exit → Act → World → Prop} {E : Prop} {w : World}
    (hg : Region.wanted o (yielded ops a.tmps) = true) (x : Operand) (name : String) (qs : Array Operand) (ts : Array TypeId)
    (ho : o.op = .call { callee := .invoke x name, args := qs, argTypes := ts })
    (xv : Value) (hx : a.eval x = xv) (bs : Array Value) (hq : qs.map a.eval = bs) {f : FuncId} {bs' : Array Value} (hr : (callMethod xv name bs).run P w = .ok (.enter f bs') w) {R : Ending → World → Prop} (hc : Calls P f bs' w R)
    (h : ∀ e w', R e w' → ∃ u, e = .returned u ∧ K (a.put o.dst u) w') : if Region.wanted o (yielded ops a.tmps) = true then Oper.wp P o a w K Q else E := by
  rw [if_pos hg]
  subst hx
  subst hq
  have hrun : (execOp a.eval o).run P w = .ok (.enter f bs') w := by
    unfold execOp
    simp only [ho, resolve, invoke, Sem.run_bind, Sem.run_pure, Result.andThen_ok]
    rw [extract_one']
    simp only [Array.getElem?_append, List.size_toArray, List.length_cons, List.length_nil]
    simp only [Nat.zero_add, Nat.lt_one_iff, if_true]
    exact hr
  unfold Oper.wp
  rw [hrun, Oper.upon_enter]
  refine hc.mono ?_
  intro e w' hR
  obtain ⟨u, rfl, hK⟩ := h e w' hR
  exact hK

set_option maxHeartbeats 4000000 in
set_option maxRecDepth 100000 in
theorem ruleOf_any (x : Sbk) (a1 : Option Addr) (c1 : Nat) (b2 o2 c2 : Nat) (a3 : Option Addr) (c3 : Nat) (p m n lo : Nat) (v : Ssv) (w : World) (hF : FndS x a1 c1 (some ⟨b2, o2, none⟩) c2 a3 c3 p m n lo w) (hv : SVal x) (hcap : x.copies.length ≤ c2) (hs : 0 ≤ v.want ∧ v.want ≤ 10 ∧ 0 ≤ v.down ∧ v.down ≤ 10) :
    Calls Try.prog 42 #[.pointer (some ⟨p, 0, none⟩), .agg #[.string v.name, .int .i64 v.version, .bool v.gone, .int .i64 v.image, .int .i64 v.want, .int .i64 v.down, .int .i64 v.over, .int .i64 v.next, .int .i64 v.per, .int .i64 v.least, .int .i64 v.most, .int .i64 v.load, .int .i64 v.cool]] w fun e w' => e = .returned (rlV x v) ∧ Below w.heap.size w w' := by
  have hB1 : Below w.heap.size w (w.alloc (Obj.cells #[.string v.name, .int .i64 v.version, .bool v.gone, .int .i64 v.image, .int .i64 v.want, .int .i64 v.down, .int .i64 v.over, .int .i64 v.next, .int .i64 v.per, .int .i64 v.least, .int .i64 v.most, .int .i64 v.load, .int .i64 v.cool] 65)) := by go_grown
  have HK : Hid (Blk w.heap.size #[.string v.name, .int .i64 v.version, .bool v.gone, .int .i64 v.image, .int .i64 v.want, .int .i64 v.down, .int .i64 v.over, .int .i64 v.next, .int .i64 v.per, .int .i64 v.least, .int .i64 v.most, .int .i64 v.load, .int .i64 v.cool] 65 (w.alloc (Obj.cells #[.string v.name, .int .i64 v.version, .bool v.gone, .int .i64 v.image, .int .i64 v.want, .int .i64 v.down, .int .i64 v.over, .int .i64 v.next, .int .i64 v.per, .int .i64 v.least, .int .i64 v.most, .int .i64 v.load, .int .i64 v.cool] 65))) := Blk.alloc _ _ _
  have HF1 := Hid.intro (hF.below hB1)
  have HV := Hid.intro hv
  have HC := Hid.intro hcap
  clear hF hv hcap
  go_enter Try.func42, Try.ntmps42
  go_upto_region 1 with fail
  generalize w.alloc (Obj.cells #[.string v.name, .int .i64 v.version, .bool v.gone, .int .i64 v.image, .int .i64 v.want, .int .i64 v.down, .int .i64 v.over, .int .i64 v.next, .int .i64 v.per, .int .i64 v.least, .int .i64 v.most, .int .i64 v.load, .int .i64 v.cool] 65) = w1 at *
  have k2 : w1.cell? ⟨w.heap.size, 2, none⟩ = some (.bool v.gone) := HK.out.cell rfl
  cases hg : v.gone with
  | true =>
    have HE : Hid (rlV x v = .iface 100 (.agg #[])) := if_pos hg
    rw [hg] at k2
    clear hg HK HF1
    go_wp2_with fail
    go_ret
    exact ⟨by rw [HE.out]; rfl, hB1⟩
  | false =>
    have HE : Hid (rlV x v = .iface 103 (.agg #[.int .i64 (cntL x.copies v.name v.image).ready, .int .i64 (v.want - v.down)])) := if_neg (by rw [hg]; exact Bool.false_ne_true)
    rw [hg] at k2
    clear hg
    go_upto_region 3 with fail
    clear k2
    refine wp_region_held_drew (S := fun wy => FndS x a1 c1 (some ⟨b2, o2, none⟩) c2 a3 c3 p m n lo wy ∧ Blk w.heap.size #[.string v.name, .int .i64 v.version, .bool v.gone, .int .i64 v.image, .int .i64 v.want, .int .i64 v.down, .int .i64 v.over, .int .i64 v.next, .int .i64 v.per, .int .i64 v.least, .int .i64 v.most, .int .i64 v.load, .int .i64 v.cool] 65 wy) (by kernel_rfl) ⟨HF1.out.below (Below.refl _ _).drew, HK.out.drew⟩ (fun hS => ?_)
    have hB2 : Below w.heap.size w w1.drew := hB1.drew
    clear HF1 HK hB1
    generalize w1.drew = w2 at *
    refine wpAnyH_take (i := 0) (oi := { dst := some 9, op := _, type := _, pos := _, after := _, guard := none }) (v := .pointer (some ⟨p, 0, none⟩)) rfl (by kernel_rfl) (by kernel_rfl) (by kernel_rfl) (fun _ _ _ h => h) (Or.inl ⟨by rfl, ?_⟩) hS ?_
    · intro wy hy
      clear hy
      go_simp
    simp only [Act.put, List.setIfInBounds_toArray, List.set_cons_zero, List.set_cons_succ]
    refine wpAnyH_take (i := 1) (oi := { dst := some 10, op := _, type := _, pos := _, after := _, guard := none }) (v := .agg #[.string v.name, .int .i64 v.version, .bool v.gone, .int .i64 v.image, .int .i64 v.want, .int .i64 v.down, .int .i64 v.over, .int .i64 v.next, .int .i64 v.per, .int .i64 v.least, .int .i64 v.most, .int .i64 v.load, .int .i64 v.cool]) rfl (by kernel_rfl) (by kernel_rfl) (by kernel_rfl) (fun _ _ _ h => h) (yieldsIf_load_mid (by rfl) _ _ rfl w.heap.size (0) rfl [.string v.name, .int .i64 v.version, .bool v.gone, .int .i64 v.image, .int .i64 v.want, .int .i64 v.down, .int .i64 v.over, .int .i64 v.next, .int .i64 v.per, .int .i64 v.least, .int .i64 v.most, .int .i64 v.load, .int .i64 v.cool] _ (fun _ h => h.2.rangeA) Try.underlying65 rfl isz_Ssv) hS ?_
    simp only [Act.put, List.setIfInBounds_toArray, List.set_cons_zero, List.set_cons_succ]
    refine wpAnyH_take (i := 4) (oi := { dst := some 13, op := _, type := _, pos := _, after := _, guard := none }) (v := .pointer (some ⟨w.heap.size, 4, none⟩)) rfl (by kernel_rfl) (by kernel_rfl) (by kernel_rfl) (fun _ _ _ h => h) (Or.inl ⟨by rfl, ?_⟩) hS ?_
    · intro wy hy
      clear hy
      go_simp
    simp only [Act.put, List.setIfInBounds_toArray, List.set_cons_zero, List.set_cons_succ]
    refine wpAnyH_take (i := 5) (oi := { dst := some 14, op := _, type := _, pos := _, after := _, guard := none }) (v := .int .i64 v.want) rfl (by kernel_rfl) (by kernel_rfl) (by kernel_rfl) (fun _ _ _ h => h) (Or.inl ⟨by rfl, ?_⟩) hS ?_
    · intro wy hy
      have h0 : wy.cell? ⟨w.heap.size, 4, none⟩ = some (.int .i64 v.want) := hy.2.cell rfl
      clear hy
      go_simp
    simp only [Act.put, List.setIfInBounds_toArray, List.set_cons_zero, List.set_cons_succ]
    refine wpAnyH_take (i := 6) (oi := { dst := some 15, op := _, type := _, pos := _, after := _, guard := none }) (v := .pointer (some ⟨w.heap.size, 5, none⟩)) rfl (by kernel_rfl) (by kernel_rfl) (by kernel_rfl) (fun _ _ _ h => h) (Or.inl ⟨by rfl, ?_⟩) hS ?_
    · intro wy hy
      clear hy
      go_simp
    simp only [Act.put, List.setIfInBounds_toArray, List.set_cons_zero, List.set_cons_succ]
    refine wpAnyH_take (i := 7) (oi := { dst := some 16, op := _, type := _, pos := _, after := _, guard := none }) (v := .int .i64 v.down) rfl (by kernel_rfl) (by kernel_rfl) (by kernel_rfl) (fun _ _ _ h => h) (Or.inl ⟨by rfl, ?_⟩) hS ?_
    · intro wy hy
      have h0 : wy.cell? ⟨w.heap.size, 5, none⟩ = some (.int .i64 v.down) := hy.2.cell rfl
      clear hy
      go_simp
    simp only [Act.put, List.setIfInBounds_toArray, List.set_cons_zero, List.set_cons_succ]
    refine wpAnyH_take (i := 8) (oi := { dst := some 17, op := _, type := _, pos := _, after := _, guard := none }) (v := .int .i64 (v.want - v.down)) rfl (by kernel_rfl) (by kernel_rfl) (by kernel_rfl) (fun _ _ _ h => h) (Or.inl ⟨by rfl, ?_⟩) hS ?_
    · intro wy hy
      clear hy
      (go_simp; rw [IntKind.wrap_i64]; omega)
    simp only [Act.put, List.setIfInBounds_toArray, List.set_cons_zero, List.set_cons_succ]
    refine wpAnyH_ready (rs := [2]) (by kernel_rfl) (by simp) (AllReadyH.cons (o := { dst := some 11, op := _, type := _, pos := _, after := _, guard := none }) rfl (fun K hK => ?_) AllReadyH.nil)
    go_simp
    refine (fcount_any x a1 c1 b2 o2 c2 a3 c3 p m n lo v _ hS.1 HV.out HC.out).mono ?_
    rintro e w3 ⟨rfl, hbk⟩
    have hB3 : Below w.heap.size w w3 := hB2.trans (hbk.mono hB2.size)
    clear hB2
    refine hK.out _ _ ⟨hS.1.below hbk, hS.2.below hbk hS.2.lt⟩ (fun hS => ?_)
    clear hK K
    clear hbk
    refine wpAnyH_take (i := 3) (oi := { dst := some 12, op := _, type := _, pos := _, after := _, guard := none }) (v := .int .i64 (cntL x.copies v.name v.image).ready) rfl (by kernel_rfl) (by kernel_rfl) (by kernel_rfl) (fun _ _ _ h => h) (Or.inl ⟨by rfl, ?_⟩) hS ?_
    · intro wy hy
      clear hy
      (go_simp; kernel_rfl)
    simp only [Act.put, List.setIfInBounds_toArray, List.set_cons_zero, List.set_cons_succ]
    refine wpAnyH_take (i := 9) (oi := { dst := some 18, op := _, type := _, pos := _, after := _, guard := none }) (v := .agg #[.int .i64 (cntL x.copies v.name v.image).ready, .int .i64 (v.want - v.down)]) rfl (by kernel_rfl) (by kernel_rfl) (by kernel_rfl) (fun _ _ _ h => h) (Or.inl ⟨by rfl, ?_⟩) hS ?_
    · intro wy hy
      clear hy
      go_simp
    simp only [Act.put, List.setIfInBounds_toArray, List.set_cons_zero, List.set_cons_succ]
    refine wpAnyH_take (i := 10) (oi := { dst := some 19, op := _, type := _, pos := _, after := _, guard := none }) (v := .iface 103 (.agg #[.int .i64 (cntL x.copies v.name v.image).ready, .int .i64 (v.want - v.down)])) rfl (by kernel_rfl) (by kernel_rfl) (by kernel_rfl) (fun _ _ _ h => h) (Or.inl ⟨by rfl, ?_⟩) hS ?_
    · intro wy hy
      clear hy
      go_simp
    simp only [Act.put, List.setIfInBounds_toArray, List.set_cons_zero, List.set_cons_succ]
    refine wpAnyH_take (i := 11) (oi := { dst := some 4, op := _, type := _, pos := _, after := _, guard := none }) (v := .iface 103 (.agg #[.int .i64 (cntL x.copies v.name v.image).ready, .int .i64 (v.want - v.down)])) rfl (by kernel_rfl) (by kernel_rfl) (by kernel_rfl) (fun _ _ _ h => h) (Or.inl ⟨by rfl, ?_⟩) hS ?_
    · intro wy hy
      clear hy
      go_simp
    simp only [Act.put, List.setIfInBounds_toArray, List.set_cons_zero, List.set_cons_succ]
    refine wpAnyH_done (by kernel_rfl) ?_ _
    clear hS
    go_wp2_with fail
    go_ret
    exact ⟨by rw [HE.out]; rfl, hB3⟩

/-- whether a copy of the book may be taken away -/
def mayC (x : Sbk) (c : Scp) (v : Ssv) : Bool := !c.ending && (v.gone || krB c (cntL x.copies v.name v.image).ready (v.want - v.down))

set_option maxHeartbeats 8000000 in
set_option maxRecDepth 100000 in
theorem mayEnd_any (x : Sbk) (a1 : Option Addr) (c1 : Nat) (b2 o2 c2 : Nat) (a3 : Option Addr) (c3 : Nat) (p m n lo : Nat) (c : Scp) (v : Ssv) (w : World) (hF : FndS x a1 c1 (some ⟨b2, o2, none⟩) c2 a3 c3 p m n lo w) (hv : SVal x) (hcap : x.copies.length ≤ c2) (hz : c.service.size ≤ maxLen) (hf : x.services.find? (fun b => decide (b.name = c.service)) = some v) :
    Calls Try.prog 19 #[.pointer (some ⟨p, 0, none⟩), .agg #[.string c.service, .int .i64 c.number, .int .i64 c.version, .int .i64 c.image, .int .i64 c.state, .bool c.ending, .string c.berth]] w fun e w' => e = .returned (.bool (mayC x c v)) ∧ Below w.heap.size w w' := by
  have hB1 : Below w.heap.size w (w.alloc (Obj.cells #[.string c.service, .int .i64 c.number, .int .i64 c.version, .int .i64 c.image, .int .i64 c.state, .bool c.ending, .string c.berth] 48)) := by go_grown
  have HK : Hid (Blk w.heap.size #[.string c.service, .int .i64 c.number, .int .i64 c.version, .int .i64 c.image, .int .i64 c.state, .bool c.ending, .string c.berth] 48 (w.alloc (Obj.cells #[.string c.service, .int .i64 c.number, .int .i64 c.version, .int .i64 c.image, .int .i64 c.state, .bool c.ending, .string c.berth] 48))) := Blk.alloc _ _ _
  have HF1 := Hid.intro (hF.below hB1)
  have HV := Hid.intro hv
  have HC := Hid.intro hcap
  have HFD := Hid.intro hf
  have HZ := Hid.intro hz
  have HSM : Hid (0 ≤ v.want ∧ v.want ≤ 10 ∧ 0 ≤ v.down ∧ v.down ≤ 10) := by
    obtain ⟨j, hj⟩ := List.getElem?_of_mem (List.mem_of_find?_eq_some hf)
    exact sv_small (hv.s1 j v hj)
  have HRD : Hid (0 ≤ (cntL x.copies v.name v.image).ready ∧ (cntL x.copies v.name v.image).ready ≤ 1000) := by
    have h1 := cntL_ready x.copies v.name v.image
    have h2 := hv.l2
    exact ⟨h1.1, by omega⟩
  clear hF hv hcap hf hz
  go_enter Try.func19, Try.ntmps19
  go_upto_region 1 with fail
  generalize w.alloc (Obj.cells #[.string c.service, .int .i64 c.number, .int .i64 c.version, .int .i64 c.image, .int .i64 c.state, .bool c.ending, .string c.berth] 48) = w1 at *
  have HSO : Hid (svO x c = v) := by show _ = _; unfold svO; rw [HFD.out]; rfl
  refine wp_region_held_drew (S := fun wy => FndS x a1 c1 (some ⟨b2, o2, none⟩) c2 a3 c3 p m n lo wy ∧ Blk w.heap.size #[.string c.service, .int .i64 c.number, .int .i64 c.version, .int .i64 c.image, .int .i64 c.state, .bool c.ending, .string c.berth] 48 wy) (by kernel_rfl) ⟨HF1.out.below (Below.refl _ _).drew, HK.out.drew⟩ (fun hS => ?_)
  have hB6 : Below w.heap.size w w1.drew := hB1.drew
  clear HF1 HK hB1
  generalize w1.drew = w6 at *
  have hcs : c.ending = true ∨ c.ending = false := by cases c.ending <;> simp
  rcases hcs with hen | hen
  case inl =>
    have HE : Hid (mayC x c v = false) := by show _ = _; unfold mayC; rw [hen]; rfl
    have HEN := Hid.intro hen
    clear hen
    refine wpAnyH_take (i := 0) (oi := { dst := some 5, op := _, type := _, pos := _, after := _, guard := none }) (v := .pointer (some ⟨w.heap.size, 5, none⟩)) rfl (by kernel_rfl) (by kernel_rfl) (by kernel_rfl) (fun _ _ _ h => h) (Or.inl ⟨by rfl, ?_⟩) hS ?_
    · intro wy hy
      clear hy
      go_simp
    simp only [Act.put, List.setIfInBounds_toArray, List.set_cons_zero, List.set_cons_succ]
    refine wpAnyH_take (i := 1) (oi := { dst := some 6, op := _, type := _, pos := _, after := _, guard := none }) (v := .bool true) rfl (by kernel_rfl) (by kernel_rfl) (by kernel_rfl) (fun _ _ _ h => h) (Or.inl ⟨by rfl, ?_⟩) hS ?_
    · intro wy hy
      have h0 : wy.cell? ⟨w.heap.size, 5, none⟩ = some (.bool c.ending) := hy.2.cell rfl
      rw [HEN.out] at h0
      clear hy
      go_simp
    simp only [Act.put, List.setIfInBounds_toArray, List.set_cons_zero, List.set_cons_succ]
    refine wpAnyH_take (i := 2) (oi := { dst := some 7, op := _, type := _, pos := _, after := _, guard := none }) (v := .bool false) rfl (by kernel_rfl) (by kernel_rfl) (by kernel_rfl) (fun _ _ _ h => h) (Or.inl ⟨by rfl, ?_⟩) hS ?_
    · intro wy hy
      clear hy
      go_simp
    simp only [Act.put, List.setIfInBounds_toArray, List.set_cons_zero, List.set_cons_succ]
    refine wpAnyH_take (i := 3) (oi := { dst := some 8, op := _, type := _, pos := _, after := _, guard := none }) (v := .bool false) rfl (by kernel_rfl) (by kernel_rfl) (by kernel_rfl) (fun _ _ _ h => h) (Or.inl ⟨by rfl, ?_⟩) hS ?_
    · intro wy hy
      clear hy
      go_simp
    simp only [Act.put, List.setIfInBounds_toArray, List.set_cons_zero, List.set_cons_succ]
    refine wpAnyH_take (i := 4) (oi := { dst := some 9, op := _, type := _, pos := _, after := _, guard := some (3, true) }) (v := undef) rfl (by kernel_rfl) (by kernel_rfl) (by kernel_rfl) (fun _ _ _ h => h) (Or.inr ⟨by rfl, rfl⟩) hS ?_
    simp only [Act.put, List.setIfInBounds_toArray, List.set_cons_zero, List.set_cons_succ]
    refine wpAnyH_take (i := 5) (oi := { dst := some 10, op := _, type := _, pos := _, after := _, guard := some (3, true) }) (v := undef) rfl (by kernel_rfl) (by kernel_rfl) (by kernel_rfl) (fun _ _ _ h => h) (Or.inr ⟨by rfl, rfl⟩) hS ?_
    simp only [Act.put, List.setIfInBounds_toArray, List.set_cons_zero, List.set_cons_succ]
    refine wpAnyH_take (i := 6) (oi := { dst := some 11, op := _, type := _, pos := _, after := _, guard := some (3, true) }) (v := undef) rfl (by kernel_rfl) (by kernel_rfl) (by kernel_rfl) (fun _ _ _ h => h) (Or.inr ⟨by rfl, rfl⟩) hS ?_
    simp only [Act.put, List.setIfInBounds_toArray, List.set_cons_zero, List.set_cons_succ]
    refine wpAnyH_take (i := 7) (oi := { dst := some 12, op := _, type := _, pos := _, after := _, guard := some (3, true) }) (v := undef) rfl (by kernel_rfl) (by kernel_rfl) (by kernel_rfl) (fun _ _ _ h => h) (Or.inr ⟨by rfl, rfl⟩) hS ?_
    simp only [Act.put, List.setIfInBounds_toArray, List.set_cons_zero, List.set_cons_succ]
    refine wpAnyH_take (i := 8) (oi := { dst := some 13, op := _, type := _, pos := _, after := _, guard := some (3, true) }) (v := undef) rfl (by kernel_rfl) (by kernel_rfl) (by kernel_rfl) (fun _ _ _ h => h) (Or.inr ⟨by rfl, rfl⟩) hS ?_
    simp only [Act.put, List.setIfInBounds_toArray, List.set_cons_zero, List.set_cons_succ]
    refine wpAnyH_take (i := 9) (oi := { dst := some 14, op := _, type := _, pos := _, after := _, guard := some (3, true) }) (v := undef) rfl (by kernel_rfl) (by kernel_rfl) (by kernel_rfl) (fun _ _ _ h => h) (Or.inr ⟨by rfl, rfl⟩) hS ?_
    simp only [Act.put, List.setIfInBounds_toArray, List.set_cons_zero, List.set_cons_succ]
    refine wpAnyH_take (i := 10) (oi := { dst := some 15, op := _, type := _, pos := _, after := _, guard := some (3, true) }) (v := undef) rfl (by kernel_rfl) (by kernel_rfl) (by kernel_rfl) (fun _ _ _ h => h) (Or.inr ⟨by rfl, rfl⟩) hS ?_
    simp only [Act.put, List.setIfInBounds_toArray, List.set_cons_zero, List.set_cons_succ]
    refine wpAnyH_take (i := 11) (oi := { dst := some 16, op := _, type := _, pos := _, after := _, guard := none }) (v := .bool false) rfl (by kernel_rfl) (by kernel_rfl) (by kernel_rfl) (fun _ _ _ h => h) (Or.inl ⟨by rfl, ?_⟩) hS ?_
    · intro wy hy
      clear hy
      go_simp
    simp only [Act.put, List.setIfInBounds_toArray, List.set_cons_zero, List.set_cons_succ]
    refine wpAnyH_take (i := 12) (oi := { dst := some 4, op := _, type := _, pos := _, after := _, guard := none }) (v := .bool false) rfl (by kernel_rfl) (by kernel_rfl) (by kernel_rfl) (fun _ _ _ h => h) (Or.inl ⟨by rfl, ?_⟩) hS ?_
    · intro wy hy
      clear hy
      go_simp
    simp only [Act.put, List.setIfInBounds_toArray, List.set_cons_zero, List.set_cons_succ]
    refine wpAnyH_done (by kernel_rfl) ?_ _
    clear hS
    go_wp2_with fail
    go_ret
    exact ⟨ret_bool HE.out.symm, hB6⟩
  case inr =>
    have HE : Hid (mayC x c v = (v.gone || krB c (cntL x.copies v.name v.image).ready (v.want - v.down))) := by show _ = _; unfold mayC; rw [hen]; rfl
    have HEN := Hid.intro hen
    clear hen
    refine wpAnyH_take (i := 0) (oi := { dst := some 5, op := _, type := _, pos := _, after := _, guard := none }) (v := .pointer (some ⟨w.heap.size, 5, none⟩)) rfl (by kernel_rfl) (by kernel_rfl) (by kernel_rfl) (fun _ _ _ h => h) (Or.inl ⟨by rfl, ?_⟩) hS ?_
    · intro wy hy
      clear hy
      go_simp
    simp only [Act.put, List.setIfInBounds_toArray, List.set_cons_zero, List.set_cons_succ]
    refine wpAnyH_take (i := 1) (oi := { dst := some 6, op := _, type := _, pos := _, after := _, guard := none }) (v := .bool false) rfl (by kernel_rfl) (by kernel_rfl) (by kernel_rfl) (fun _ _ _ h => h) (Or.inl ⟨by rfl, ?_⟩) hS ?_
    · intro wy hy
      have h0 : wy.cell? ⟨w.heap.size, 5, none⟩ = some (.bool c.ending) := hy.2.cell rfl
      rw [HEN.out] at h0
      clear hy
      go_simp
    simp only [Act.put, List.setIfInBounds_toArray, List.set_cons_zero, List.set_cons_succ]
    refine wpAnyH_take (i := 2) (oi := { dst := some 7, op := _, type := _, pos := _, after := _, guard := none }) (v := .bool true) rfl (by kernel_rfl) (by kernel_rfl) (by kernel_rfl) (fun _ _ _ h => h) (Or.inl ⟨by rfl, ?_⟩) hS ?_
    · intro wy hy
      clear hy
      go_simp
    simp only [Act.put, List.setIfInBounds_toArray, List.set_cons_zero, List.set_cons_succ]
    refine wpAnyH_take (i := 3) (oi := { dst := some 8, op := _, type := _, pos := _, after := _, guard := none }) (v := .bool true) rfl (by kernel_rfl) (by kernel_rfl) (by kernel_rfl) (fun _ _ _ h => h) (Or.inl ⟨by rfl, ?_⟩) hS ?_
    · intro wy hy
      clear hy
      go_simp
    simp only [Act.put, List.setIfInBounds_toArray, List.set_cons_zero, List.set_cons_succ]
    refine wpAnyH_take (i := 4) (oi := { dst := some 9, op := _, type := _, pos := _, after := _, guard := some (3, true) }) (v := .pointer (some ⟨p, 0, none⟩)) rfl (by kernel_rfl) (by kernel_rfl) (by kernel_rfl) (fun _ _ _ h => h) (Or.inl ⟨by rfl, ?_⟩) hS ?_
    · intro wy hy
      clear hy
      go_simp
    simp only [Act.put, List.setIfInBounds_toArray, List.set_cons_zero, List.set_cons_succ]
    refine wpAnyH_take (i := 5) (oi := { dst := some 10, op := _, type := _, pos := _, after := _, guard := some (3, true) }) (v := .pointer (some ⟨p, 0, none⟩)) rfl (by kernel_rfl) (by kernel_rfl) (by kernel_rfl) (fun _ _ _ h => h) (Or.inl ⟨by rfl, ?_⟩) hS ?_
    · intro wy hy
      clear hy
      go_simp
    simp only [Act.put, List.setIfInBounds_toArray, List.set_cons_zero, List.set_cons_succ]
    refine wpAnyH_take (i := 6) (oi := { dst := some 11, op := _, type := _, pos := _, after := _, guard := some (3, true) }) (v := .agg #[.string c.service, .int .i64 c.number, .int .i64 c.version, .int .i64 c.image, .int .i64 c.state, .bool c.ending, .string c.berth]) rfl (by kernel_rfl) (by kernel_rfl) (by kernel_rfl) (fun _ _ _ h => h) (yieldsIf_load_mid (by rfl) _ _ rfl w.heap.size (0) rfl [.string c.service, .int .i64 c.number, .int .i64 c.version, .int .i64 c.image, .int .i64 c.state, .bool c.ending, .string c.berth] _ (fun _ h => h.2.rangeA) Try.underlying48 rfl isz_Scp) hS ?_
    simp only [Act.put, List.setIfInBounds_toArray, List.set_cons_zero, List.set_cons_succ]
    refine wpAnyH_take (i := 9) (oi := { dst := some 14, op := _, type := _, pos := _, after := _, guard := some (3, true) }) (v := .agg #[.string c.service, .int .i64 c.number, .int .i64 c.version, .int .i64 c.image, .int .i64 c.state, .bool c.ending, .string c.berth]) rfl (by kernel_rfl) (by kernel_rfl) (by kernel_rfl) (fun _ _ _ h => h) (yieldsIf_load_mid (by rfl) _ _ rfl w.heap.size (0) rfl [.string c.service, .int .i64 c.number, .int .i64 c.version, .int .i64 c.image, .int .i64 c.state, .bool c.ending, .string c.berth] _ (fun _ h => h.2.rangeA) Try.underlying48 rfl isz_Scp) hS ?_
    simp only [Act.put, List.setIfInBounds_toArray, List.set_cons_zero, List.set_cons_succ]
    refine wpAnyH_ready (rs := [7]) (by kernel_rfl) (by simp) (AllReadyH.cons (o := { dst := some 12, op := _, type := _, pos := _, after := _, guard := some (3, true) }) rfl (fun K hK => ?_) AllReadyH.nil)
    go_simp
    refine (serviceOf_any x a1 c1 b2 o2 c2 a3 c3 p m n lo c _ hS.1 HZ.out (asc_uniq HV.out.s2)).mono ?_
    rintro e w7 ⟨rfl, hbk⟩
    rw [HSO.out]
    have hB7 : Below w.heap.size w w7 := hB6.trans (hbk.mono hB6.size)
    clear hB6
    refine hK.out _ _ ⟨hS.1.below hbk, hS.2.below hbk hS.2.lt⟩ (fun hS => ?_)
    clear hK K
    clear hbk
    refine wpAnyH_ready (rs := [8]) (by kernel_rfl) (by simp) (AllReadyH.cons (o := { dst := some 13, op := _, type := _, pos := _, after := _, guard := some (3, true) }) rfl (fun K hK => ?_) AllReadyH.nil)
    go_simp
    refine (ruleOf_any x a1 c1 b2 o2 c2 a3 c3 p m n lo v _ hS.1 HV.out HC.out HSM.out).mono ?_
    rintro e w9 ⟨rfl, hbk⟩
    have hB9 : Below w.heap.size w w9 := hB7.trans (hbk.mono hB7.size)
    clear hB7
    refine hK.out _ _ ⟨hS.1.below hbk, hS.2.below hbk hS.2.lt⟩ (fun hS => ?_)
    clear hK K
    clear hbk
    have hcs : v.gone = true ∨ v.gone = false := by cases v.gone <;> simp
    rcases hcs with hgo | hgo
    case inl =>
      have HRL : Hid (rlV x v = .iface 100 (.agg #[])) := if_pos hgo
      rw [hgo] at HE
      have HE2 : Hid (mayC x c v = true) := HE.out
      clear HE hgo
      rw [HRL.out]
      refine wpAnyH_ready (rs := [10]) (by kernel_rfl) (by simp) (AllReadyH.cons (o := { dst := some 15, op := _, type := _, pos := _, after := _, guard := some (3, true) }) rfl (fun K hK => ?_) AllReadyH.nil)
      refine step_methG (by rfl) (.tmp 13) _ #[.tmp 14] #[48] (by rfl) (.iface 100 (.agg #[])) (by first | rfl | exact HRL.out) #[.agg #[.string c.service, .int .i64 c.number, .int .i64 c.version, .int .i64 c.image, .int .i64 c.state, .bool c.ending, .string c.berth]] (map_oneX _ _) (f := 112) (bs' := #[.agg #[], .agg #[.string c.service, .int .i64 c.number, .int .i64 c.version, .int .i64 c.image, .int .i64 c.state, .bool c.ending, .string c.berth]]) (by kernel_rfl) (letAll_any c _) ?_
      rintro e w8 ⟨rfl, hbk⟩
      have hB8 : Below w.heap.size w w8 := hB9.trans (hbk.mono hB9.size)
      clear hB9
      refine ⟨_, rfl, ?_⟩
      refine hK.out _ _ ⟨hS.1.below hbk, hS.2.below hbk hS.2.lt⟩ (fun hS => ?_)
      clear hK K hbk
      simp only [Act.put, List.setIfInBounds_toArray, List.set_cons_zero, List.set_cons_succ]
      refine wpAnyH_take (i := 11) (oi := { dst := some 16, op := _, type := _, pos := _, after := _, guard := none }) (v := .bool true) rfl (by kernel_rfl) (by kernel_rfl) (by kernel_rfl) (fun _ _ _ h => h) (Or.inl ⟨by rfl, ?_⟩) hS ?_
      · intro wy hy
        clear hy
        go_simp
      simp only [Act.put, List.setIfInBounds_toArray, List.set_cons_zero, List.set_cons_succ]
      refine wpAnyH_take (i := 12) (oi := { dst := some 4, op := _, type := _, pos := _, after := _, guard := none }) (v := .bool true) rfl (by kernel_rfl) (by kernel_rfl) (by kernel_rfl) (fun _ _ _ h => h) (Or.inl ⟨by rfl, ?_⟩) hS ?_
      · intro wy hy
        clear hy
        go_simp
      simp only [Act.put, List.setIfInBounds_toArray, List.set_cons_zero, List.set_cons_succ]
      refine wpAnyH_done (by kernel_rfl) ?_ _
      clear hS
      go_wp2_with fail
      go_ret
      exact ⟨ret_bool HE2.out.symm, hB8⟩
    case inr =>
      have HRL : Hid (rlV x v = .iface 103 (.agg #[.int .i64 (cntL x.copies v.name v.image).ready, .int .i64 (v.want - v.down)])) := if_neg (by rw [hgo]; exact Bool.false_ne_true)
      rw [hgo] at HE
      have HE2 : Hid (mayC x c v = krB c (cntL x.copies v.name v.image).ready (v.want - v.down)) := HE.out
      clear HE hgo
      rw [HRL.out]
      generalize hKR : krB c (cntL x.copies v.name v.image).ready (v.want - v.down) = T at HE2
      have HKR := Hid.intro hKR
      clear hKR
      refine wpAnyH_ready (rs := [10]) (by kernel_rfl) (by simp) (AllReadyH.cons (o := { dst := some 15, op := _, type := _, pos := _, after := _, guard := some (3, true) }) rfl (fun K hK => ?_) AllReadyH.nil)
      refine step_methG (by rfl) (.tmp 13) _ #[.tmp 14] #[48] (by rfl) (.iface 103 (.agg #[.int .i64 (cntL x.copies v.name v.image).ready, .int .i64 (v.want - v.down)])) (by first | rfl | exact HRL.out) #[.agg #[.string c.service, .int .i64 c.number, .int .i64 c.version, .int .i64 c.image, .int .i64 c.state, .bool c.ending, .string c.berth]] (map_oneX _ _) (f := 113) (bs' := #[.agg #[.int .i64 (cntL x.copies v.name v.image).ready, .int .i64 (v.want - v.down)], .agg #[.string c.service, .int .i64 c.number, .int .i64 c.version, .int .i64 c.image, .int .i64 c.state, .bool c.ending, .string c.berth]]) (by kernel_rfl) ((keepReady_any c _ _ _ HRD.out).mono (fun e w' h => (show e = .returned (.bool T) ∧ Below _ _ w' from HKR.out ▸ h))) ?_
      rintro e w8 ⟨rfl, hbk⟩
      have hB8 : Below w.heap.size w w8 := hB9.trans (hbk.mono hB9.size)
      clear hB9
      refine ⟨_, rfl, ?_⟩
      refine hK.out _ _ ⟨hS.1.below hbk, hS.2.below hbk hS.2.lt⟩ (fun hS => ?_)
      clear hK K hbk
      simp only [Act.put, List.setIfInBounds_toArray, List.set_cons_zero, List.set_cons_succ]
      refine wpAnyH_take (i := 11) (oi := { dst := some 16, op := _, type := _, pos := _, after := _, guard := none }) (v := .bool T) rfl (by kernel_rfl) (by kernel_rfl) (by kernel_rfl) (fun _ _ _ h => h) (Or.inl ⟨by rfl, ?_⟩) hS ?_
      · intro wy hy
        clear hy
        go_simp
      simp only [Act.put, List.setIfInBounds_toArray, List.set_cons_zero, List.set_cons_succ]
      refine wpAnyH_take (i := 12) (oi := { dst := some 4, op := _, type := _, pos := _, after := _, guard := none }) (v := .bool T) rfl (by kernel_rfl) (by kernel_rfl) (by kernel_rfl) (fun _ _ _ h => h) (Or.inl ⟨by rfl, ?_⟩) hS ?_
      · intro wy hy
        clear hy
        go_simp
      simp only [Act.put, List.setIfInBounds_toArray, List.set_cons_zero, List.set_cons_succ]
      refine wpAnyH_done (by kernel_rfl) ?_ _
      clear hS
      go_wp2_with fail
      go_ret
      exact ⟨ret_bool HE2.out.symm, hB8⟩

theorem may_eq {x : Sbk} {s : ByteArray} {n : Int} {c : Scp} {v : Ssv} (hc : x.copies.find? (isC s n) = some c) (hv : x.services.find? (fun b => decide (b.name = s)) = some v) : mayB x s n = mayC x c v := by
  have h2 : v.name = s := by simpa using List.find?_some hv
  unfold mayB mayC krB
  rw [hc, hv]
  simp only
  rw [h2]
  cases c.ending <;> cases (c.state == 3) <;> cases v.gone <;> simp

theorem may_none {x : Sbk} {s : ByteArray} {n : Int} (hc : x.copies.find? (isC s n) = none) : mayB x s n = false := by
  unfold mayB
  rw [hc]

set_option maxHeartbeats 4000000 in
set_option maxRecDepth 100000 in
theorem implMayEnd_any (x : Sbk) (a1 : Option Addr) (c1 : Nat) (b2 o2 c2 : Nat) (a3 : Option Addr) (c3 : Nat) (lo : Nat) (s : ByteArray) (n : Int) (w : World) (n1 : SliceC SsvC 13 lo w a1 x.services) (n2 : SliceC ScpC 7 lo w (some ⟨b2, o2, none⟩) x.copies) (n3 : SliceC SbtC 2 lo w a3 x.berths) (hcap : x.copies.length ≤ c2) (hs : s.size ≤ maxLen) (hwn : Wf n) (hw : NumOk x) :
    Calls Try.prog 7 #[.agg #[.int .i64 x.now, .slice a1 x.services.length c1, .slice (some ⟨b2, o2, none⟩) x.copies.length c2, .slice a3 x.berths.length c3], .string s, .int .i64 n] w fun e w' => MeRes x s n w e w' := by
  have HN1 := Hid.intro n1
  have HN2 := Hid.intro n2
  have HN3 := Hid.intro n3
  have HCAP := Hid.intro hcap
  have HSZ := Hid.intro hs
  have HWN := Hid.intro hwn
  have HW := Hid.intro hw
  clear n1 n2 n3 hcap hs hwn hw
  have HK1 : Hid (Blk w.heap.size #[.int .i64 x.now, .slice a1 x.services.length c1, .slice (some ⟨b2, o2, none⟩) x.copies.length c2, .slice a3 x.berths.length c3] 33 (w.alloc (Obj.cells #[.int .i64 x.now, .slice a1 x.services.length c1, .slice (some ⟨b2, o2, none⟩) x.copies.length c2, .slice a3 x.berths.length c3] 33))) := Blk.alloc _ _ _
  have hB1 : Below w.heap.size w (w.alloc (Obj.cells #[.int .i64 x.now, .slice a1 x.services.length c1, .slice (some ⟨b2, o2, none⟩) x.copies.length c2, .slice a3 x.berths.length c3] 33)) := by go_grown
  go_enter Try.func7, Try.ntmps7
  go_upto_region 1 with fail
  generalize w.alloc (Obj.cells #[.int .i64 x.now, .slice a1 x.services.length c1, .slice (some ⟨b2, o2, none⟩) x.copies.length c2, .slice a3 x.berths.length c3] 33) = w1 at *
  go_wp2_with (refine wpList_load_mid rfl 33 _ rfl w.heap.size 0 rfl [.int .i64 x.now, .slice a1 x.services.length c1, .slice (some ⟨b2, o2, none⟩) x.copies.length c2, .slice a3 x.berths.length c3] _ HK1.out.rangeA Try.underlying33 rfl isz_Sbk ?_)
  refine (findValid_any x a1 c1 (some ⟨b2, o2, none⟩) c2 a3 c3 lo _ (HN1.out.below SsvC.holds hB1 (Nat.le_refl _)) (HN2.out.below ScpC.holds hB1 (Nat.le_refl _)) (HN3.out.below SbtC.holds hB1 (Nat.le_refl _)) HW.out).mono ?_
  rintro e w2 ⟨hr, hb2⟩
  have hB2 : Below w.heap.size w w2 := hB1.trans (hb2.mono hB1.size)
  clear hb2 hB1 HK1 HN1 HN2 HN3
  rcases hr with ⟨hn, rfl⟩ | ⟨hy, p, m, n', rfl, hF⟩
  · have HE := Hid.intro hn
    clear hn
    go_wp2_with fail
    go_ret
    exact ⟨false, rfl, ⟨fun h => (by cases h), fun h => absurd h.1 HE.out⟩, hB2⟩
  · have HV := Hid.intro hy
    have HF := Hid.intro hF
    clear hy hF
    go_wp2_with fail
    refine (fcopy_any x a1 c1 (some ⟨b2, o2, none⟩) c2 a3 c3 p m n' lo s n _ HF.out HSZ.out HWN.out HW.out (asc_uniqC HV.out.c2)).mono ?_
    rintro e w3 ⟨hr, hb3⟩
    have HF3 := Hid.intro (HF.out.below hb3)
    have hB3 : Below w.heap.size w w3 := hB2.trans (hb3.mono hB2.size)
    clear hb3 hB2 HF
    have hza : Blk w3.heap.size #[.string ⟨#[]⟩, .int .i64 0, .int .i64 0, .int .i64 0, .int .i64 0, .bool false, .string ⟨#[]⟩] 48 (w3.alloc (Obj.cells #[.string ⟨#[]⟩, .int .i64 0, .int .i64 0, .int .i64 0, .int .i64 0, .bool false, .string ⟨#[]⟩] 48)) := Blk.alloc _ _ _
    have HTS : Hid ((w3.alloc (Obj.cells #[.string ⟨#[]⟩, .int .i64 0, .int .i64 0, .int .i64 0, .int .i64 0, .bool false, .string ⟨#[]⟩] 48)).there w3.heap.size 0 7) := hza.there
    rcases hr with ⟨c, hc, rfl⟩ | ⟨hc, rfl⟩
    · have HCC := Hid.intro hc
      clear hc
      obtain ⟨w5, HW5⟩ : ∃ w5, Hid (w5 = (w3.alloc (Obj.cells #[.string ⟨#[]⟩, .int .i64 0, .int .i64 0, .int .i64 0, .int .i64 0, .bool false, .string ⟨#[]⟩] 48)).setCells w3.heap.size 0 [.string c.service, .int .i64 c.number, .int .i64 c.version, .int .i64 c.image, .int .i64 c.state, .bool c.ending, .string c.berth]) := ⟨_, rfl⟩
      have HK5 : Hid (Blk w3.heap.size #[.string c.service, .int .i64 c.number, .int .i64 c.version, .int .i64 c.image, .int .i64 c.state, .bool c.ending, .string c.berth] 48 w5) := by
        show Blk _ _ _ _
        rw [HW5.out]
        exact hza.setAll #[.string c.service, .int .i64 c.number, .int .i64 c.version, .int .i64 c.image, .int .i64 c.state, .bool c.ending, .string c.berth] rfl
      have hbx : Below w3.heap.size w3 w5 := by
        rw [HW5.out]
        exact below_setCells (Nat.le_refl _) _ _ _ ((Below.refl _ w3).alloc (Nat.le_refl _) _)
      have hB5 : Below w.heap.size w w5 := hB3.trans (hbx.mono hB3.size)
      have HF5 := Hid.intro (HF3.out.below hbx)
      clear hza hbx hB3 HF3
      go_upto_region 5 with (refine wpList_store_to rfl 48 _ _ rfl w3.heap.size 0 #[.string c.service, .int .i64 c.number, .int .i64 c.version, .int .i64 c.image, .int .i64 c.state, .bool c.ending, .string c.berth] (by first | rfl | (simp [go_sem]; done)) rfl HTS.out isz_Scp (by simp [Value.oneCell']) w5 HW5.out ?_)
      clear HTS HW5
      generalize w3.heap.size = g at *
      obtain ⟨k, hk⟩ := List.getElem?_of_mem (List.mem_of_find?_eq_some HCC.out)
      obtain ⟨v, _, _, _, hv⟩ := copy_service (SWk.of HV.out) hk HCC.out
      have hcs : c.service = s := by
        have h1 := List.find?_some HCC.out
        unfold isC at h1
        simp at h1
        exact h1.1
      have HME := Hid.intro (may_eq HCC.out hv)
      have HFV : Hid (x.services.find? (fun b => decide (b.name = c.service)) = some v) := by
        show _ = _
        rw [hcs]
        exact hv
      have HCS := Hid.intro hcs
      clear hk hv hcs
      have k0 : w5.cell? ⟨g, 0, none⟩ = some (.string c.service) := HK5.out.cell rfl
      have k1 : w5.cell? ⟨g, 1, none⟩ = some (.int .i64 c.number) := HK5.out.cell rfl
      have k2 : w5.cell? ⟨g, 2, none⟩ = some (.int .i64 c.version) := HK5.out.cell rfl
      have k3 : w5.cell? ⟨g, 3, none⟩ = some (.int .i64 c.image) := HK5.out.cell rfl
      have k4 : w5.cell? ⟨g, 4, none⟩ = some (.int .i64 c.state) := HK5.out.cell rfl
      have k5 : w5.cell? ⟨g, 5, none⟩ = some (.bool c.ending) := HK5.out.cell rfl
      have k6 : w5.cell? ⟨g, 6, none⟩ = some (.string c.berth) := HK5.out.cell rfl
      go_wp2_with fail
      refine (mayEnd_any x a1 c1 b2 o2 c2 a3 c3 p m n' lo c v _ HF5.out HV.out HCAP.out (by rw [HCS.out]; exact HSZ.out) HFV.out).mono ?_
      rintro e w6 ⟨rfl, hb6⟩
      have hB6 : Below w.heap.size w w6 := hB5.trans (hb6.mono hB5.size)
      clear hb6 hB5 HF5 HK5 k0 k1 k2 k3 k4 k5 k6
      rw [← HME.out]
      generalize hT : mayB x s n = T
      have HT := Hid.intro hT
      clear hT
      go_wp2_with fail
      go_ret
      exact ⟨T, rfl, ⟨fun h => ⟨HV.out, HT.out.trans h⟩, fun h => HT.out.symm.trans h.2⟩, hB6⟩
    · have HCC := Hid.intro hc
      clear hc
      obtain ⟨w5, HW5⟩ : ∃ w5, Hid (w5 = (w3.alloc (Obj.cells #[.string ⟨#[]⟩, .int .i64 0, .int .i64 0, .int .i64 0, .int .i64 0, .bool false, .string ⟨#[]⟩] 48)).setCells w3.heap.size 0 [.string ⟨#[]⟩, .int .i64 0, .int .i64 0, .int .i64 0, .int .i64 0, .bool false, .string ⟨#[]⟩]) := ⟨_, rfl⟩
      have HK5 : Hid (Blk w3.heap.size #[.string ⟨#[]⟩, .int .i64 0, .int .i64 0, .int .i64 0, .int .i64 0, .bool false, .string ⟨#[]⟩] 48 w5) := by
        show Blk _ _ _ _
        rw [HW5.out]
        exact hza.setAll #[.string ⟨#[]⟩, .int .i64 0, .int .i64 0, .int .i64 0, .int .i64 0, .bool false, .string ⟨#[]⟩] rfl
      have hbx : Below w3.heap.size w3 w5 := by
        rw [HW5.out]
        exact below_setCells (Nat.le_refl _) _ _ _ ((Below.refl _ w3).alloc (Nat.le_refl _) _)
      have hB5 : Below w.heap.size w w5 := hB3.trans (hbx.mono hB3.size)
      have HF5 := Hid.intro (HF3.out.below hbx)
      clear hza hbx hB3 HF3
      go_upto_region 5 with (refine wpList_store_to rfl 48 _ _ rfl w3.heap.size 0 #[.string ⟨#[]⟩, .int .i64 0, .int .i64 0, .int .i64 0, .int .i64 0, .bool false, .string ⟨#[]⟩] (by first | rfl | (simp [go_sem]; done)) rfl HTS.out isz_Scp (by simp [Value.oneCell']) w5 HW5.out ?_)
      clear HTS HW5
      generalize w3.heap.size = g at *
      go_wp2_with fail
      go_ret
      exact ⟨false, rfl, ⟨fun h => (by cases h), fun h => (by rw [may_none HCC.out] at h; cases h.2)⟩, hB5⟩

end Go.Proofs.Ytfbmljdlkgiliaa
