import Derived.Test.YtpeajnkkdioflaaGreatTkw
namespace Go.Proofs.YtpeajnkkdioflaaGreat
open Go.RowKit
section
variable {P:Program} {ops:Array Oper} {Q:Exit→Act→World→Prop} {md:Region.Mode} {S:World→Prop} {n:Nat} {l:Array Bool} {a:Act} {w:World} {op:Op} {ty:TypeId} {pos:String} {af:Array Edge} {g:Option (Nat×Bool)}
theorem x0 (i:Nat) (d:Tmp) (v:Value) (hi:ops[i]?=some ⟨some d,op,ty,pos,af,g⟩) (hS:S w) (h:wpAnyH P md ops Q S n (l.setIfInBounds i true) (a.put (some d) v) w) (hw:Region.wanted ⟨some d,op,ty,pos,af,g⟩ (yielded ops a.tmps)=true:=by rfl)
  (hy:∀ w,S w→(execOp a.eval ⟨some d,op,ty,pos,af,g⟩).run P w=.ok (.value v) w:=by intro wy hy;obtain ⟨y0,y3,yx⟩:=hy;go_simp) (hs:Region.noSelect ops=true:=by kernel_rfl) (hf:Region.free md ops l i=true:=by kernel_rfl) (hr:(Region.ready md ops l).contains i=true:=by kernel_rfl)
  (hQ:∀ c a w,Q (.panic c) (a.put (some d) v) w→Q (.panic c) a w:=by first | exact fun _ _ _ h=>h | (intro _ _ _ h;cases h.1)):wpAnyH P md ops Q S (n+1) l a w:=wpAnyH_take hi hs hf hr hQ (Or.inl ⟨hw,hy⟩) hS h
theorem x1 (i:Nat) (d:Tmp) (v:Value) (hi:ops[i]?=some ⟨some d,op,ty,pos,af,g⟩) (hS:S w) (h:wpAnyH P md ops Q S n (l.setIfInBounds i true) (a.put (some d) v) w) (hw:Region.wanted ⟨some d,op,ty,pos,af,g⟩ (yielded ops a.tmps)=true:=by rfl)
  (hy:∀ w,S w→(execOp a.eval ⟨some d,op,ty,pos,af,g⟩).run P w=.ok (.value v) w:=by intro wy hy;obtain ⟨y0,y1,y2⟩:=hy;go_simp <;> omega) (hs:Region.noSelect ops=true:=by kernel_rfl) (hf:Region.free md ops l i=true:=by kernel_rfl) (hr:(Region.ready md ops l).contains i=true:=by kernel_rfl)
  (hQ:∀ c a w,Q (.panic c) (a.put (some d) v) w→Q (.panic c) a w:=by first | exact fun _ _ _ h=>h | (intro _ _ _ h;cases h.1)):wpAnyH P md ops Q S (n+1) l a w:=wpAnyH_take hi hs hf hr hQ (Or.inl ⟨hw,hy⟩) hS h
theorem x2 (i:Nat) (d:Tmp) (v:Value) (hi:ops[i]?=some ⟨some d,op,ty,pos,af,g⟩) (hS:S w) (h:wpAnyH P md ops Q S n (l.setIfInBounds i true) (a.put (some d) v) w) (hw:Region.wanted ⟨some d,op,ty,pos,af,g⟩ (yielded ops a.tmps)=true:=by rfl)
  (hy:∀ w,S w→(execOp a.eval ⟨some d,op,ty,pos,af,g⟩).run P w=.ok (.value v) w:=by intro wy hy;clear hy;(go_simp;try omega)) (hs:Region.noSelect ops=true:=by kernel_rfl) (hf:Region.free md ops l i=true:=by kernel_rfl) (hr:(Region.ready md ops l).contains i=true:=by kernel_rfl)
  (hQ:∀ c a w,Q (.panic c) (a.put (some d) v) w→Q (.panic c) a w:=by first | exact fun _ _ _ h=>h | (intro _ _ _ h;cases h.1)):wpAnyH P md ops Q S (n+1) l a w:=wpAnyH_take hi hs hf hr hQ (Or.inl ⟨hw,hy⟩) hS h
theorem x3 (i:Nat) (d:Tmp) (v:Value) (hi:ops[i]?=some ⟨some d,op,ty,pos,af,g⟩) (hS:S w) (h:wpAnyH P md ops Q S n (l.setIfInBounds i true) (a.put (some d) v) w) (hw:Region.wanted ⟨some d,op,ty,pos,af,g⟩ (yielded ops a.tmps)=true:=by rfl)
  (hy:∀ w,S w→(execOp a.eval ⟨some d,op,ty,pos,af,g⟩).run P w=.ok (.value v) w:=by intro wy hy;obtain ⟨y0,y1,y2,y3⟩:=hy;go_simp) (hs:Region.noSelect ops=true:=by kernel_rfl) (hf:Region.free md ops l i=true:=by kernel_rfl) (hr:(Region.ready md ops l).contains i=true:=by kernel_rfl)
  (hQ:∀ c a w,Q (.panic c) (a.put (some d) v) w→Q (.panic c) a w:=by first | exact fun _ _ _ h=>h | (intro _ _ _ h;cases h.1)):wpAnyH P md ops Q S (n+1) l a w:=wpAnyH_take hi hs hf hr hQ (Or.inl ⟨hw,hy⟩) hS h
theorem td {fuel:Nat} (h:Q .normal a w) (hr:Region.ready md ops l=[]:=by kernel_rfl):wpAnyH P md ops Q S fuel l a w:=wpAnyH_done hr h fuel
end
end Go.Proofs.YtpeajnkkdioflaaGreat
