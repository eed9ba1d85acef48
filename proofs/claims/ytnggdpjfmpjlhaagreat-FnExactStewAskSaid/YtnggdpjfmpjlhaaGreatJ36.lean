import Derived.Test.YtnggdpjfmpjlhaaGreatSi3
import Derived.Test.YtnggdpjfmpjlhaaGreatSci
import Derived.Test.YtnggdpjfmpjlhaaGreatJ11
import Derived.Test.YtnggdpjfmpjlhaaGreatJ6
import Derived.Test.YtnggdpjfmpjlhaaGreatTkw
import Derived.Test.YtnggdpjfmpjlhaaGreatSt9
namespace Go.Proofs.YtnggdpjfmpjlhaaGreat
open Go.RowKit Go.WideMaps Go.Maps

theorem ah_tr {u v z : Scp} (h1 : ahB u v = true) (h2 : ahB v z = true) : ahB u z = true := by
 unfold ahB at *
 simp only [Bool.or_eq_true, Bool.and_eq_true, beq_iff_eq, decide_eq_true_eq] at *
 rcases h1 with a | ⟨a, b⟩ <;> rcases h2 with c | ⟨c, d⟩
 ·exact .inl (bl_tr _ _ _ a c)
 ·exact .inl (c ▸ a)
 ·exact .inl (a ▸ c)
 ·exact .inr ⟨a.trans c, by omega⟩

theorem asc_uniqC {xs : List Scp} (h : ∀ (j : Nat) u v, xs[j]? = some u → xs[j + 1]? = some v → ahB u v = true) : ∀ (j k : Nat) u v, xs[j]? = some u → xs[k]? = some v → (u.service, u.number) = (v.service, v.number) → j = k := by
 have hl : ∀ (d i : Nat) u v, xs[i]? = some u → xs[i + d + 1]? = some v → ahB u v = true := by
  intro d
  induction d with
  | zero => exact fun i u v h1 h2 => h i u v h1 h2
  | succ d ih =>
   intro i u v h1 h2
   have hd : i + d + 1 < xs.length := by have := lt_of_some h2; omega
   have h3 : xs[i + d + 1]? = some xs[i + d + 1] := List.getElem?_eq_getElem hd
   exact ah_tr (ih i u _ h1 h3) (h _ _ _ h3 h2)
 have key : ∀ u v : Scp, (u.service, u.number) = (v.service, v.number) → ahB u v = true → False := by
  intro u v he ha
  obtain ⟨e1, e2⟩ := Prod.mk.inj he
  unfold ahB at ha
  rw [e1, bl_irr, e2] at ha
  simp at ha
 intro j k u v hj hk he
 rcases Nat.lt_trichotomy j k with c | c | c
 ·exact (key u v he (hl (k - j - 1) j u v hj (by rw [show j + (k - j - 1) + 1 = k by omega]; exact hk))).elim
 ·exact c
 ·exact (key v u he.symm (hl (j - k - 1) k v u hk (by rw [show k + (j - k - 1) + 1 = j by omega]; exact hj))).elim

set_option maxHeartbeats 1000000 in
theorem letAll_any (c : Scp) (w : World) : Calls Tryz.prog 162 #[.agg #[], .agg #[.string c.service, .int .i64 c.number, .int .i64 c.version, .int .i64 c.image, .int .i64 c.state, .bool c.ending, .string c.berth]] w fun e w' => e = .returned (.bool true) ∧ Below w.heap.size w w' := by
 go_enter Tryz.func162, Tryz.ntmps162
 go_wp2_with fail
 go_ret
 exact ⟨rfl, by go_grown⟩

def krB (c : Scp) (R L : Int) : Bool := !(c.state == 3) || decide (L ≤ R - 1)

set_option maxHeartbeats 2000000 in
theorem keepReady_any (c : Scp) (R L : Int) (w : World) (hR : 0 ≤ R ∧ R ≤ 1000) : Calls Tryz.prog 163 #[.agg #[.int .i64 R, .int .i64 L], .agg #[.string c.service, .int .i64 c.number, .int .i64 c.version, .int .i64 c.image, .int .i64 c.state, .bool c.ending, .string c.berth]] w fun e w' => e = .returned (.bool (krB c R L)) ∧ Below w.heap.size w w' := by
 have hb : Below w.heap.size w ((w.alloc (Obj.cells #[.int .i64 R, .int .i64 L] 142)).alloc (Obj.cells #[.string c.service, .int .i64 c.number, .int .i64 c.version, .int .i64 c.image, .int .i64 c.state, .bool c.ending, .string c.berth] 87)) := by go_grown
 have HA : Blk w.heap.size #[.int .i64 R, .int .i64 L] 142 (w.alloc (Obj.cells #[.int .i64 R, .int .i64 L] 142)) := Blk.alloc _ _ _
 have HB : Hid (Blk (w.heap.size + 1) #[.string c.service, .int .i64 c.number, .int .i64 c.version, .int .i64 c.image, .int .i64 c.state, .bool c.ending, .string c.berth] 87 ((w.alloc (Obj.cells #[.int .i64 R, .int .i64 L] 142)).alloc (Obj.cells #[.string c.service, .int .i64 c.number, .int .i64 c.version, .int .i64 c.image, .int .i64 c.state, .bool c.ending, .string c.berth] 87))) := by
  have := Blk.alloc (w.alloc (Obj.cells #[.int .i64 R, .int .i64 L] 142)) #[.string c.service, .int .i64 c.number, .int .i64 c.version, .int .i64 c.image, .int .i64 c.state, .bool c.ending, .string c.berth] 87
  show Blk _ _ _ _
  simpa using this
 have HA2 : Hid (Blk w.heap.size #[.int .i64 R, .int .i64 L] 142 ((w.alloc (Obj.cells #[.int .i64 R, .int .i64 L] 142)).alloc (Obj.cells #[.string c.service, .int .i64 c.number, .int .i64 c.version, .int .i64 c.image, .int .i64 c.state, .bool c.ending, .string c.berth] 87))) := HA.below ((Below.refl _ _).alloc (Nat.le_refl _) _) HA.lt
 clear HA
 have HWR : Hid (IntKind.i64.wrap (R - 1) = R - 1) := by show _ = _; rw [IntKind.wrap_i64]; omega
 go_enter Tryz.func163, Tryz.ntmps163
 go_upto_region 1 with fail
 generalize (w.alloc (Obj.cells #[.int .i64 R, .int .i64 L] 142)).alloc (Obj.cells #[.string c.service, .int .i64 c.number, .int .i64 c.version, .int .i64 c.image, .int .i64 c.state, .bool c.ending, .string c.berth] 87) = w2 at *
 have k0 : w2.cell? ⟨w.heap.size, 0, none⟩ = some (.int .i64 R) := HA2.out.cell rfl
 have k1 : w2.cell? ⟨w.heap.size, 1, none⟩ = some (.int .i64 L) := HA2.out.cell rfl
 have k4 : w2.cell? ⟨w.heap.size + 1, 4, none⟩ = some (.int .i64 c.state) := HB.out.cell rfl
 clear HA2 HB
 generalize w.heap.size + 1 = g at *
 by_cases hs : c.state = 3
 ·have hs2 : (c.state == 3) = true := by rw [hs]; rfl
  have hs3 : (c.state != 3) = false := by rw [hs]; rfl
  have HE : Hid (krB c R L = decide (L ≤ R - 1)) := by show _ = _; unfold krB; rw [hs2]; rfl
  clear hs
  go_wp2_with fail
  try rw [HWR.out]
  go_ret
  exact ⟨ret_bool (by rw [HE.out]), hb⟩
 ·have hs2 : (c.state == 3) = false := by simpa using hs
  have hs3 : (c.state != 3) = true := by simpa using hs
  have HE : Hid (krB c R L = true) := by show _ = _; unfold krB; rw [hs2]; rfl
  go_wp2_with fail
  go_ret
  exact ⟨ret_bool HE.out.symm, hb⟩

end Go.Proofs.YtnggdpjfmpjlhaaGreat

namespace Go.Proofs.YtnggdpjfmpjlhaaGreat
open Go.RowKit

end Go.Proofs.YtnggdpjfmpjlhaaGreat

namespace Go.Proofs.YtnggdpjfmpjlhaaGreat
open Go.RowKit Go.WideMaps Go.Maps

def rlV (x : Sbk) (v : Ssv) : Value := if v.gone = true then .iface 140 (.agg #[]) else .iface 142 (.agg #[.int .i64 (cntL x.copies v.name v.image).ready, .int .i64 (v.want - v.down)])

theorem extract_one' (x : Value) (qs : Array Value) : (#[x] ++ qs).extract 1 (#[x] ++ qs).size = qs := by
 apply Array.ext_getElem?
 intro i
 rw [Array.getElem?_extract]
 simp only [Array.size_append, List.size_toArray, List.length_cons, List.length_nil]
 split
 ·rw [Array.getElem?_append_right (by simp)]
  congr 1
  simp
 ·rw [Array.getElem?_eq_none]
  omega

theorem map_oneX (f : Operand → Value) (q : Operand) : (#[q] : Array Operand).map f = #[f q] := by simp

theorem step_methG {P : Program} {ops : Array Oper} {o : Oper} {a : Act} {K : Act → World → Prop} {Q : Exit → Act → World → Prop} {E : Prop} {w : World}
  (hg : Region.wanted o (yielded ops a.tmps) = true) (x : Operand) (name : String) (qs : Array Operand) (ts : Array TypeId)
  (ho : o.op = .call { callee := .invoke x name, args := qs, argTypes := ts })
  (xv : Value) (hx : a.eval x = xv) (bs : Array Value) (hq : qs.map a.eval = bs) {f : FuncId} {bs' : Array Value} (hr : (callMethod xv name bs).run P w = .ok (.enter f bs') w) {R : Ending → World → Prop} (hc : Calls P f bs' w R)
  (h : ∀ e w', R e w' → ∃ u, e = .returned u ∧ K (a.put o.dst u) w') : if Region.wanted o (yielded ops a.tmps) = true then Oper.wp P o a w K Q else E := by
 rw [if_pos hg]
 subst hx
 subst hq
 have hrun : (execOp a.eval o).run P w = .ok (.enter f bs') w := by
  unfold execOp
  simp only [ho, resolve, invoke, Sem.run_bind, Sem.run_pure, Result.andThen_ok]
  rw [extract_one']
  simp only [Array.getElem?_append, List.size_toArray, List.length_cons, List.length_nil]
  simp only [Nat.zero_add, Nat.lt_one_iff, if_true]
  exact hr
 unfold Oper.wp
 rw [hrun, Oper.upon_enter]
 refine hc.mono ?_
 intro e w' hR
 obtain ⟨u, rfl, hK⟩ := h e w' hR
 exact hK

set_option maxHeartbeats 4000000 in
set_option maxRecDepth 100000 in
theorem ruleOf_any (x : Sbk) (a1 : Option Addr) (c1 : Nat) (b2 o2 c2 : Nat) (a3 : Option Addr) (c3 : Nat) (p m n lo : Nat) (v : Ssv) (w : World) (hF : FndS x a1 c1 (some ⟨b2, o2, none⟩) c2 a3 c3 p m n lo w) (hv : SVal x) (hcap : x.copies.length ≤ c2) (hs : 0 ≤ v.want ∧ v.want ≤ 10 ∧ 0 ≤ v.down ∧ v.down ≤ 10) :
  Calls Tryz.prog 59 #[.pointer (some ⟨p, 0, none⟩), .agg #[.string v.name, .int .i64 v.version, .bool v.gone, .int .i64 v.image, .int .i64 v.want, .int .i64 v.down, .int .i64 v.over, .int .i64 v.next, .int .i64 v.per, .int .i64 v.least, .int .i64 v.most, .int .i64 v.load, .int .i64 v.cool]] w fun e w' => e = .returned (rlV x v) ∧ Below w.heap.size w w' := by
 have hB1 : Below w.heap.size w (w.alloc (Obj.cells #[.string v.name, .int .i64 v.version, .bool v.gone, .int .i64 v.image, .int .i64 v.want, .int .i64 v.down, .int .i64 v.over, .int .i64 v.next, .int .i64 v.per, .int .i64 v.least, .int .i64 v.most, .int .i64 v.load, .int .i64 v.cool] 50)) := by go_grown
 have HK : Hid (Blk w.heap.size #[.string v.name, .int .i64 v.version, .bool v.gone, .int .i64 v.image, .int .i64 v.want, .int .i64 v.down, .int .i64 v.over, .int .i64 v.next, .int .i64 v.per, .int .i64 v.least, .int .i64 v.most, .int .i64 v.load, .int .i64 v.cool] 50 (w.alloc (Obj.cells #[.string v.name, .int .i64 v.version, .bool v.gone, .int .i64 v.image, .int .i64 v.want, .int .i64 v.down, .int .i64 v.over, .int .i64 v.next, .int .i64 v.per, .int .i64 v.least, .int .i64 v.most, .int .i64 v.load, .int .i64 v.cool] 50))) := Blk.alloc _ _ _
 have HF1 := Hid.intro (hF.below hB1)
 have HV := Hid.intro hv
 have HC := Hid.intro hcap
 clear hF hv hcap
 go_enter Tryz.func59, Tryz.ntmps59
 go_upto_region 1 with fail
 generalize w.alloc (Obj.cells #[.string v.name, .int .i64 v.version, .bool v.gone, .int .i64 v.image, .int .i64 v.want, .int .i64 v.down, .int .i64 v.over, .int .i64 v.next, .int .i64 v.per, .int .i64 v.least, .int .i64 v.most, .int .i64 v.load, .int .i64 v.cool] 50) = w1 at *
 have k2 : w1.cell? ⟨w.heap.size, 2, none⟩ = some (.bool v.gone) := HK.out.cell rfl
 cases hg : v.gone with
 | true =>
  have HE : Hid (rlV x v = .iface 140 (.agg #[])) := if_pos hg
  rw [hg] at k2
  clear hg HK HF1
  go_wp2_with fail
  go_ret
  exact ⟨by rw [HE.out]; rfl, hB1⟩
 | false =>
  have HE : Hid (rlV x v = .iface 142 (.agg #[.int .i64 (cntL x.copies v.name v.image).ready, .int .i64 (v.want - v.down)])) := if_neg (by rw [hg]; exact Bool.false_ne_true)
  rw [hg] at k2
  clear hg
  go_upto_region 3 with fail
  clear k2
  refine wp_region_held_drew (S := fun wy => FndS x a1 c1 (some ⟨b2, o2, none⟩) c2 a3 c3 p m n lo wy ∧ Blk w.heap.size #[.string v.name, .int .i64 v.version, .bool v.gone, .int .i64 v.image, .int .i64 v.want, .int .i64 v.down, .int .i64 v.over, .int .i64 v.next, .int .i64 v.per, .int .i64 v.least, .int .i64 v.most, .int .i64 v.load, .int .i64 v.cool] 50 wy) (by kernel_rfl) ⟨HF1.out.below (Below.refl _ _).drew, HK.out.drew⟩ (fun hS => ?_)
  have hB2 : Below w.heap.size w w1.drew := hB1.drew
  clear HF1 HK hB1
  generalize w1.drew = w2 at *
  refine tz 0 9 (.pointer (some ⟨p, 0, none⟩)) rfl hS ?_
  simp only [pA,pB,pC,pD]
  refine tm 1 10 w.heap.size 0 [.string v.name, .int .i64 v.version, .bool v.gone, .int .i64 v.image, .int .i64 v.want, .int .i64 v.down, .int .i64 v.over, .int .i64 v.next, .int .i64 v.per, .int .i64 v.least, .int .i64 v.most, .int .i64 v.load, .int .i64 v.cool] rfl (fun _ h => h.2.rangeA) Tryz.underlying50 isz_Ssv hS ?_
  simp only [pA,pB,pC,pD]
  refine tz 4 13 (.pointer (some ⟨w.heap.size, 4, none⟩)) rfl hS ?_
  simp only [pA,pB,pC,pD]
  refine tl 5 14 (.int .i64 v.want) ⟨w.heap.size, 4, none⟩ rfl (fun wy hy => hy.2.cell rfl) hS ?_
  simp only [pA,pB,pC,pD]
  refine tz 6 15 (.pointer (some ⟨w.heap.size, 5, none⟩)) rfl hS ?_
  simp only [pA,pB,pC,pD]
  refine tl 7 16 (.int .i64 v.down) ⟨w.heap.size, 5, none⟩ rfl (fun wy hy => hy.2.cell rfl) hS ?_
  simp only [pA,pB,pC,pD]
  refine ty 8 ⟨some 17, _, _, _, _, none⟩ (.int .i64 (v.want - v.down)) rfl (by rfl) ?_ hS ?_
  ·intro wy hy
   clear hy
   (go_simp; rw [IntKind.wrap_i64]; omega)
  simp only [pA,pB,pC,pD]
  refine rd1 2 ⟨some 11, _, _, _, _, none⟩ rfl (fun K hK => ?_)
  go_simp
  refine (fcount_any x a1 c1 b2 o2 c2 a3 c3 p m n lo v _ hS.1 HV.out HC.out).mono ?_
  rintro e w3 ⟨rfl, hbk⟩
  have hB3 : Below w.heap.size w w3 := hB2.trans (hbk.mono hB2.size)
  clear hB2
  refine hK.out _ _ ⟨hS.1.below hbk, hS.2.below hbk hS.2.lt⟩ (fun hS => ?_)
  clear hK K
  clear hbk
  refine ty 3 ⟨some 12, _, _, _, _, none⟩ (.int .i64 (cntL x.copies v.name v.image).ready) rfl (by rfl) ?_ hS ?_
  ·intro wy hy
   clear hy
   (go_simp; kernel_rfl)
  simp only [pA,pB,pC,pD]
  refine tz 9 18 (.agg #[.int .i64 (cntL x.copies v.name v.image).ready, .int .i64 (v.want - v.down)]) rfl hS ?_
  simp only [pA,pB,pC,pD]
  refine tz 10 19 (.iface 142 (.agg #[.int .i64 (cntL x.copies v.name v.image).ready, .int .i64 (v.want - v.down)])) rfl hS ?_
  simp only [pA,pB,pC,pD]
  refine tz 11 4 (.iface 142 (.agg #[.int .i64 (cntL x.copies v.name v.image).ready, .int .i64 (v.want - v.down)])) rfl hS ?_
  simp only [pA,pB,pC,pD]
  refine wpAnyH_done (by kernel_rfl) ?_ _
  clear hS
  go_wp2_with fail
  go_ret
  exact ⟨by rw [HE.out]; rfl, hB3⟩

def mayC (x : Sbk) (c : Scp) (v : Ssv) : Bool := !c.ending && (v.gone || krB c (cntL x.copies v.name v.image).ready (v.want - v.down))

theorem may_eq {x : Sbk} {s : ByteArray} {n : Int} {c : Scp} {v : Ssv} (hc : x.copies.find? (isC s n) = some c) (hv : x.services.find? (fun b => decide (b.name = s)) = some v) : mayB x s n = mayC x c v := by
 have h2 : v.name = s := by simpa using List.find?_some hv
 unfold mayB mayC krB
 rw [hc, hv]
 simp only
 rw [h2]
 cases c.ending <;> cases (c.state == 3) <;> cases v.gone <;> simp

end Go.Proofs.YtnggdpjfmpjlhaaGreat
