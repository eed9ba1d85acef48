import Derived.Test.YtpidfnfilnkhkaaGreatHst
namespace Go.Proofs.YtpidfnfilnkhkaaGreat
open Go.RowKit
section
variable {P:Program} {ops:Array Oper} {Q:Exit→Act→World→Prop} {md:Region.Mode} {S:World→Prop} {n s:Nat} {l:Array Bool} {a:Act} {w:World}
theorem tk (i:Nat) (oi:Oper) (v:Value) (hi:ops[i]?=some oi) (hy:YieldsIf P ops S oi v a) (hS:S w)
  (h:wpAnyH P md ops Q S n (l.setIfInBounds i true) (a.put oi.dst v) w) (hs:Region.noSelect ops=true:=by kernel_rfl) (hf:Region.free md ops l i=true:=by kernel_rfl) (hr:(Region.ready md ops l).contains i=true:=by kernel_rfl)
  (hQ:∀ c a w,Q (.panic c) (a.put oi.dst v) w→Q (.panic c) a w:=by first | exact fun _ _ _ h=>h | (intro _ _ _ h;cases h.1)):wpAnyH P md ops Q S (n+1) l a w:=wpAnyH_take hi hs hf hr hQ hy hS h
theorem ty (i:Nat) (oi:Oper) (v:Value) (hi:ops[i]?=some oi) (hw:Region.wanted oi (yielded ops a.tmps)=true) (hy:∀ w,S w→(execOp a.eval oi).run P w=.ok (.value v) w) (hS:S w)
  (h:wpAnyH P md ops Q S n (l.setIfInBounds i true) (a.put oi.dst v) w) (hs:Region.noSelect ops=true:=by kernel_rfl) (hf:Region.free md ops l i=true:=by kernel_rfl) (hr:(Region.ready md ops l).contains i=true:=by kernel_rfl)
  (hQ:∀ c a w,Q (.panic c) (a.put oi.dst v) w→Q (.panic c) a w:=by first | exact fun _ _ _ h=>h | (intro _ _ _ h;cases h.1)):wpAnyH P md ops Q S (n+1) l a w:=wpAnyH_take hi hs hf hr hQ (Or.inl ⟨hw,hy⟩) hS h
theorem rd1 (i:Nat) (o:Oper) (ho:ops[i]?=some o)
  (h:∀ K:Act→World→Prop,Shut (∀ b u,S u→(S u→wpAnyH P md ops Q S n (l.setIfInBounds i true) b u)→K b u)→if Region.wanted o (yielded ops a.tmps)=true then Oper.wp P o a w K Q else K (a.put o.dst undef) w)
  (hr:Region.ready md ops l=[i]:=by kernel_rfl):wpAnyH P md ops Q S (n+1) l a w:=wpAnyH_ready hr (by simp) (AllReadyH.cons ho h AllReadyH.nil)
theorem tu (i:Nat) (oi:Oper) (v:Value) (hi:ops[i]?=some oi) (hy:YieldsIf P ops S oi v a) (hS:S w)
  (h:wpAnyU P md ops Q s S n (l.setIfInBounds i true) (a.put oi.dst v) w) (hs:Region.noSelect ops=true:=by kernel_rfl) (hf:Region.free md ops l i=true:=by kernel_rfl) (hr:(Region.ready md ops l).contains i=true:=by kernel_rfl) (hws:Mv md ops s i=true:=by kernel_rfl)
  (hQ:∀ c a w,Q (.panic c) (a.put oi.dst v) w→Q (.panic c) a w:=by first | exact fun _ _ _ h=>h | (intro _ _ _ h;cases h.1)):wpAnyU P md ops Q s S (n+1) l a w:=Sv hi hs hf hr hws hQ hy hS h
theorem tv (i:Nat) (oi:Oper) (v:Value) (hi:ops[i]?=some oi) (hw:Region.wanted oi (yielded ops a.tmps)=true) (hy:∀ w,S w→(execOp a.eval oi).run P w=.ok (.value v) w) (hS:S w)
  (h:wpAnyU P md ops Q s S n (l.setIfInBounds i true) (a.put oi.dst v) w) (hs:Region.noSelect ops=true:=by kernel_rfl) (hf:Region.free md ops l i=true:=by kernel_rfl) (hr:(Region.ready md ops l).contains i=true:=by kernel_rfl) (hws:Mv md ops s i=true:=by kernel_rfl)
  (hQ:∀ c a w,Q (.panic c) (a.put oi.dst v) w→Q (.panic c) a w:=by first | exact fun _ _ _ h=>h | (intro _ _ _ h;cases h.1)):wpAnyU P md ops Q s S (n+1) l a w:=Sv hi hs hf hr hws hQ (Or.inl ⟨hw,hy⟩) hS h
theorem ru1 (i:Nat) (o:Oper) (ho:ops[i]?=some o)
  (h:∀ K:Act→World→Prop,Hid (∀ b u,S u→(S u→wpAnyU P md ops Q s S n (l.setIfInBounds i true) b u)→K b u)→if Region.wanted o (yielded ops a.tmps)=true then Oper.wp P o a w K Q else K (a.put o.dst undef) w)
  (hr:Region.ready md ops l=[i]:=by kernel_rfl):wpAnyU P md ops Q s S (n+1) l a w:=Ig hr (by simp) (AllReadyU.cons ho h AllReadyU.nil)
end
section
variable {P:Program} {ops:Array Oper} {Q:Exit→Act→World→Prop} {md:Region.Mode} {S:World→Prop} {n:Nat} {l:Array Bool} {a:Act} {w:World} {op:Op} {ty:TypeId} {pos:String} {af:Array Edge} {g:Option (Nat×Bool)}
theorem tz (i:Nat) (d:Tmp) (v:Value) (hi:ops[i]?=some ⟨some d,op,ty,pos,af,g⟩) (hS:S w) (h:wpAnyH P md ops Q S n (l.setIfInBounds i true) (a.put (some d) v) w) (hw:Region.wanted ⟨some d,op,ty,pos,af,g⟩ (yielded ops a.tmps)=true:=by rfl)
  (hy:∀ w,S w→(execOp a.eval ⟨some d,op,ty,pos,af,g⟩).run P w=.ok (.value v) w:=by intro wy hy;clear hy;go_simp) (hs:Region.noSelect ops=true:=by kernel_rfl) (hf:Region.free md ops l i=true:=by kernel_rfl) (hr:(Region.ready md ops l).contains i=true:=by kernel_rfl)
  (hQ:∀ c a w,Q (.panic c) (a.put (some d) v) w→Q (.panic c) a w:=by first | exact fun _ _ _ h=>h | (intro _ _ _ h;cases h.1)):wpAnyH P md ops Q S (n+1) l a w:=wpAnyH_take hi hs hf hr hQ (Or.inl ⟨hw,hy⟩) hS h
theorem tl (i:Nat) (d:Tmp) (v:Value) (A:Addr) (hi:ops[i]?=some ⟨some d,op,ty,pos,af,g⟩) (hc:∀ w,S w→w.cell? A=some v) (hS:S w) (h:wpAnyH P md ops Q S n (l.setIfInBounds i true) (a.put (some d) v) w) (hw:Region.wanted ⟨some d,op,ty,pos,af,g⟩ (yielded ops a.tmps)=true:=by rfl)
  (hy:∀ w,w.cell? A=some v→(execOp a.eval ⟨some d,op,ty,pos,af,g⟩).run P w=.ok (.value v) w:=by intro wy h0;go_simp) (hs:Region.noSelect ops=true:=by kernel_rfl) (hf:Region.free md ops l i=true:=by kernel_rfl) (hr:(Region.ready md ops l).contains i=true:=by kernel_rfl)
  (hQ:∀ c a w,Q (.panic c) (a.put (some d) v) w→Q (.panic c) a w:=by first | exact fun _ _ _ h=>h | (intro _ _ _ h;cases h.1)):wpAnyH P md ops Q S (n+1) l a w:=wpAnyH_take hi hs hf hr hQ (Or.inl ⟨hw,fun w hS=>hy w (hc w hS)⟩) hS h
theorem ts (i:Nat) (d:Tmp) (hi:ops[i]?=some ⟨some d,op,ty,pos,af,g⟩) (hS:S w) (h:wpAnyH P md ops Q S n (l.setIfInBounds i true) (a.put (some d) undef) w) (hw:Region.wanted ⟨some d,op,ty,pos,af,g⟩ (yielded ops a.tmps)=false:=by rfl)
  (hs:Region.noSelect ops=true:=by kernel_rfl) (hf:Region.free md ops l i=true:=by kernel_rfl) (hr:(Region.ready md ops l).contains i=true:=by kernel_rfl)
  (hQ:∀ c a w,Q (.panic c) (a.put (some d) undef) w→Q (.panic c) a w:=by first | exact fun _ _ _ h=>h | (intro _ _ _ h;cases h.1)):wpAnyH P md ops Q S (n+1) l a w:=wpAnyH_take hi hs hf hr hQ (Or.inr ⟨hw,rfl⟩) hS h
theorem tm (i:Nat) (d:Tmp) (b o:Nat) (cs:List Value) {T:TypeId} {x:Operand} {D:TypeDesc} (hi:ops[i]?=some ⟨some d,.load T x,ty,pos,af,g⟩) (hc:∀ w,S w→w.rangeAt b o cs) (hu:P.underlying T=some D) (hz:(P.info? T).map (·.size)=some cs.length) (hS:S w) (h:wpAnyH P md ops Q S n (l.setIfInBounds i true) (a.put (some d) (.agg cs.toArray)) w)
  (hd:D.isRow=true:=by rfl) (hx:a.eval x=.pointer (some ⟨b,o,none⟩):=by rfl) (hw:Region.wanted ⟨some d,.load T x,ty,pos,af,g⟩ (yielded ops a.tmps)=true:=by rfl) (hs:Region.noSelect ops=true:=by kernel_rfl) (hf:Region.free md ops l i=true:=by kernel_rfl) (hr:(Region.ready md ops l).contains i=true:=by kernel_rfl)
  (hQ:∀ c a w,Q (.panic c) (a.put (some d) (.agg cs.toArray)) w→Q (.panic c) a w:=by first | exact fun _ _ _ h=>h | (intro _ _ _ h;cases h.1)):wpAnyH P md ops Q S (n+1) l a w:=wpAnyH_take hi hs hf hr hQ (yieldsIf_load_mid hw T x rfl b o hx cs D hc hu hd hz) hS h
end
theorem pX:(∀ (a:Act) (d:Tmp) (v:Value),a.put (some d) v={ a with tmps:=a.tmps.setIfInBounds d v })∧(∀ (a:Act) (v:Value),a.put none v=a)∧(∀ (l:List Value) (i:Nat) (v:Value),l.toArray.setIfInBounds i v=(l.set i v).toArray)∧(∀ (x v:Value) (l:List Value),(x::l).set 0 v=v::l)∧(∀ (x v:Value) (l:List Value) (i:Nat),(x::l).set (i+1) v=x::l.set i v):=⟨fun _ _ _=>rfl,fun _ _=>rfl,fun _ _ _=>by simp,fun _ _ _=>rfl,fun _ _ _ _=>rfl⟩
theorem pA (a:Act) (d:Tmp) (v:Value):a.put (some d) v={ a with tmps:=a.tmps.setIfInBounds d v }:=rfl
theorem pN (a:Act) (v:Value):a.put none v=a:=rfl
theorem pB (l:List Value) (i:Nat) (v:Value):l.toArray.setIfInBounds i v=(l.set i v).toArray:=by simp
theorem pC (x v:Value) (l:List Value):(x::l).set 0 v=v::l:=rfl
theorem pD (x v:Value) (l:List Value) (i:Nat):(x::l).set (i+1) v=x::l.set i v:=rfl
end Go.Proofs.YtpidfnfilnkhkaaGreat
