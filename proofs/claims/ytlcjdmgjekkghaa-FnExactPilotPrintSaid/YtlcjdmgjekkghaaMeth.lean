/-
  A call of a method on an interface value, by a contract on the value: no dynamic type need stand in the walk.
-/
import Derived.WalkKit
import Derived.Handy
namespace Go.Proofs.Ytlcjdmgjekkghaa
open Go.RowKit

/-- a call of a method on an interface value comes to a function, which hands back a value -/
def Meth (P : Program) (x : Value) (name : String) (args : Array Value) (w : World) (R : Value → World → Prop) : Prop :=
  ∃ f bs, (callMethod x name args).run P w = .ok (.enter f bs) w ∧ Calls P f bs w fun e w' => ∃ u, e = .returned u ∧ R u w'

theorem extract_one (x : Value) (qs : Array Value) : (#[x] ++ qs).extract 1 (#[x] ++ qs).size = qs := by
  apply Array.ext_getElem?
  intro i
  rw [Array.getElem?_extract]
  simp only [Array.size_append, List.size_toArray, List.length_cons, List.length_nil]
  split
  · rw [Array.getElem?_append_right (by simp)]
    congr 1
    simp
  · rw [Array.getElem?_eq_none]
    omega

theorem map_none (f : Operand → Value) : (#[] : Array Operand).map f = #[] := by simp
theorem map_one (f : Operand → Value) (x : Operand) : #[x].map f = #[f x] := by simp

theorem wpList_meth {P : Program} {ops : Array Oper} {rest : List Oper} {o : Oper} {a : Act} {Q : Exit → Act → World → Prop} {w : World}
    (hw : Region.wanted o (yielded ops a.tmps) = true) (x : Operand) (name : String) (qs : Array Operand) (ts : Array TypeId)
    (ho : o.op = .call { callee := .invoke x name, args := qs, argTypes := ts })
    (xv : Value) (hx : a.eval x = xv) (bs : Array Value) (hq : qs.map a.eval = bs) (R : Value → World → Prop) (hm : Meth P xv name bs w R)
    (h : ∀ u w', R u w' → wpList P ops Q rest (a.put o.dst u) w') : wpList P ops Q (o :: rest) a w := by
  refine wpList_step fun K hK => ?_
  rw [if_pos hw]
  obtain ⟨f, bs', hr, hc⟩ := hm
  subst hx
  subst hq
  have hrun : (execOp a.eval o).run P w = .ok (.enter f bs') w := by
    unfold execOp
    simp only [ho, resolve, invoke, Sem.run_bind, Sem.run_pure, Result.andThen_ok]
    rw [extract_one]
    simp only [Array.getElem?_append, List.size_toArray, List.length_cons, List.length_nil]
    simp only [Nat.zero_add, Nat.lt_one_iff, if_true]
    exact hr
  unfold Oper.wp
  rw [hrun, Oper.upon_enter]
  refine hc.mono ?_
  rintro e w' ⟨u, rfl, hR⟩
  exact hK _ _ (h u w' hR)

end Go.Proofs.Ytlcjdmgjekkghaa
