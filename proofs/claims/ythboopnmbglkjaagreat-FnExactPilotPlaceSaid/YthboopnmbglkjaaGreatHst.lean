import Derived.Test.YthboopnmbglkjaaGreatShp
import Derived.Deep.RegionHeld3
namespace Go.Proofs.YthboopnmbglkjaaGreat
open Go.RowKit
section
variable {P:Program} {ops:Array Oper} {Q:Exit->Act->World->Prop} {md:Region.Mode} {S:World->Prop} {s:Nat}
def wpAnyU(P:Program)(md:Region.Mode)(ops:Array Oper)(Q:Exit->Act->World->Prop)(s:Nat)(S:World->Prop):Nat->Array Bool->Act->World->Prop
 |0,l,a,w=>Region.ready md ops l=[]/\Q .normal a w
 |n+1,l,a,w=>(Region.ready md ops l=[]->Q .normal a w)/\∀i∈Region.ready md ops l,wpOp P ops Q i (λb u=>(i≠s->S u)/\wpAnyU P md ops Q s S n (l.setIfInBounds i true) b u) a w
def Mr(md:Region.Mode)(ops:Array Oper)(s i:Nat):Bool :=
 match ops[s]? with
 |some o=>o.after.any (λe=>Region.binds md e&&e.on==i)
 |none=>false
theorem wpAnyU.any:∀(n:Nat)(l:Array Bool)(a:Act)(w:World),wpAnyU P md ops Q s S n l a w->wpAny P md ops Q n l a w
 |0,_,_,_,h=>h
 |n+1,_,_,_,h=>⟨h.1,λi hi=>wpOp_mono (λb u k=>wpAnyU.any n _ b u k.2) (h.2 i hi)⟩
theorem dL{S':World->Prop}(hS:∀w,S' w->S w):∀(n:Nat)(l:Array Bool)(a:Act)(w:World),wpAnyU P md ops Q s S' n l a w->wpAnyU P md ops Q s S n l a w
 |0,_,_,_,h=>h
 |n+1,_,_,_,h=>⟨h.1,λi hi=>wpOp_mono (λb u k=>⟨λe=>hS u (k.1 e),dL hS n _ b u k.2⟩) (h.2 i hi)⟩
theorem yP{n:Nat}{l:Array Bool}{a:Act}{w:World}(h:∀Z:(World->Prop)->Nat->Array Bool->Act->World->Prop,Hid (Z=wpAnyU P md ops Q s)->Z S n l a w):wpAnyU P md ops Q s S n l a w:=h _ (iH rfl)
theorem wpAnyU.first{i:Nat}{oi:Oper}{v:Value}(hi:ops[i]?=some oi)(hsel:∀(j:Nat) (o:Oper) cs b,ops[j]?=some o->o.op≠.select cs b)(hQ:∀c a w,Q (.panic c) (a.put oi.dst v) w->Q (.panic c) a w)(hws:Mr md ops s i=true) :
  ∀(n:Nat)(l:Array Bool)(a:Act)(w:World),
   (∀j oj,ops[j]?=some oj->j≠i->l.getD j true=false->(∀e∈oj.after,Region.binds md e=true->e.on≠i)->oi.apart ops oj=true) ->
   i∈Region.ready md ops l->YieldsIf P ops S oi v a->S w ->
   wpAnyU P md ops Q s S n (l.setIfInBounds i true) (a.put oi.dst v) w->wpAnyU P md ops Q s S (n+1) l a w
 | 0,l,a,w,_,hr,hy,hS,H=>by
  refine⟨λh=>(by rw[h]at hr;cases hr),λj hj=>?_⟩;by_cases e:j=i
  .rw[e]
   exact hy.wpOp hi hS ⟨λ_=>hS,H⟩
  have h0:=ready_mono hj e;rw[H.1]at h0;cases h0
 | n+1,l,a,w,hfree,hr,hy,hS,H=>by
  refine⟨λh=>(by rw[h]at hr;cases hr),λj hj=>?_⟩;by_cases e:j=i
  .rw[e]
   exact hy.wpOp hi hS ⟨λ_=>hS,H⟩
  obtain⟨hjun,oj,hoj,hall⟩:=mem_ready.1 hj;have hno:∀e∈oj.after,Region.binds md e=true->e.on≠i:=λe he hb heq=>by
   have k1:=hall e he hb;have k0:=(mem_ready.1 hr).1;rw[heq]at k1;rcases Nat.lt_or_ge i l.size with h'|h'
   .simp[h']at k0 k1
    rw[k0]at k1;cases k1
   simp[Array.getElem?_eq_none h']at k1
  have hjs:j≠s:=λe1=>by
   rw[e1]at hoj;unfold Mr at hws;rw[hoj]at hws;obtain⟨q,hq,hq2⟩:=Array.any_eq_true'.1 hws;rw[Bool.and_eq_true]at hq2;exact hno q hq hq2.1 (by simpa using hq2.2)
  have h2:=wpOp_putIf hoj (hfree j oj hoj e hjun hno) (λcs b=>hsel i oi cs b hi) (λcs b=>hsel j oj cs b hoj) hQ hy (H.2 j (ready_mono hj e));refine wpOp_mono (λb u k=>⟨λ_=>k.2.1 hjs,wpAnyU.first hi hsel hQ hws n (l.setIfInBounds j true) b u (λm om hm hmi hun hn=>hfree m om hm hmi ?_ hn) (ready_mono hr (Ne.symm e)) k.1 (k.2.1 hjs) ?_⟩) h2
  .by_cases hjm:j=m
   .rw[<-hjm]
    exact hjun
   rw[getD_set_ne true hjm]at hun;exact hun
  rw[Array.setIfInBounds_comm _ _ e];exact k.2.2
theorem Se{i:Nat}{oi:Oper}{v:Value}{n:Nat}{l:Array Bool}{a:Act}{w:World}(hi:ops[i]?=some oi)(hs:Region.noSelect ops=true)(hf:Region.free md ops l i=true)(hr:(Region.ready md ops l).contains i=true)(hws:Mr md ops s i=true)(hQ:∀c a w,Q (.panic c) (a.put oi.dst v) w->Q (.panic c) a w)(hy:YieldsIf P ops S oi v a)(hS:S w)(h:wpAnyU P md ops Q s S n (l.setIfInBounds i true) (a.put oi.dst v) w):wpAnyU P md ops Q s S (n+1) l a w :=
 wpAnyU.first hi (Region.noSelect_spec hs) hQ hws n l a w (Region.free_spec hi hf) (by simpa using hr) hy hS h
def AllReadyU(P:Program)(md:Region.Mode)(ops:Array Oper)(Q:Exit->Act->World->Prop)(s:Nat)(S:World->Prop)(n:Nat)(l:Array Bool)(a:Act)(w:World)(rs:List Nat):Prop :=
 ∀i∈rs,wpOp P ops Q i (λb u=>(i≠s->S u)/\wpAnyU P md ops Q s S n (l.setIfInBounds i true) b u) a w
theorem AllReadyU.nil{n:Nat}{l:Array Bool}{a:Act}{w:World}:AllReadyU P md ops Q s S n l a w []:=λ_ h=>by cases h
theorem AllReadyU.cons{n:Nat}{l:Array Bool}{a:Act}{w:World}{i:Nat}{o:Oper}{rs:List Nat}(ho:ops[i]?=some o)(h:∀K:Act->World->Prop,Hid (∀b u,S u->(S u->wpAnyU P md ops Q s S n (l.setIfInBounds i true) b u)->K b u)->if Region.wanted o (yielded ops a.tmps)=true then Oper.wp P o a w K Q else K (a.put o.dst undef) w)(hs:AllReadyU P md ops Q s S n l a w rs):AllReadyU P md ops Q s S n l a w (i::rs):=λj hj=>by
 rcases List.mem_cons.1 hj with e|hj
 .rw[e]
  exact wpOp_step ho (λK hK=>h K (iH (λb u hS hW=>hK b u ⟨λ_=>hS,hW hS⟩)))
 exact hs j hj
theorem AllReadyU.last{n:Nat}{l:Array Bool}{a:Act}{w:World}{o:Oper}(ho:ops[s]?=some o)(h:∀K:Act->World->Prop,Hid (∀b u,wpAnyU P md ops Q s S n (l.setIfInBounds s true) b u->K b u)->if Region.wanted o (yielded ops a.tmps)=true then Oper.wp P o a w K Q else K (a.put o.dst undef) w) :
  AllReadyU P md ops Q s S n l a w [s]:=λj hj=>by
 rw[List.mem_singleton.1 hj];exact wpOp_step ho (λK hK=>h K (iH (λb u hW=>hK b u ⟨λe=>absurd rfl e,hW⟩)))
theorem Gd{rs:List Nat}{n:Nat}{l:Array Bool}{a:Act}{w:World}(hr:Region.ready md ops l=rs)(hne:rs≠[])(h:AllReadyU P md ops Q s S n l a w rs):wpAnyU P md ops Q s S (n+1) l a w:=⟨λh0=>absurd (hr▸h0) hne,hr▸h⟩
theorem Ji{l:Array Bool}{a:Act}{w:World}(hr:Region.ready md ops l=[])(h:Q .normal a w):∀n,wpAnyU P md ops Q s S n l a w
 |0=>⟨hr,h⟩
 |_+1=>⟨λ_=>h,by rw[hr];simp⟩
theorem Fk{id:Nat}{a:Act}{w:World}(s:Nat)(hm:P.follows .mixedOrders=true)(hS:S w.drew)(h:S w.drew->wpAnyU P .any ops Q s S ops.size (Array.replicate ops.size false) a w.drew):(Code.region id ops true).wp P Q a w :=
 wp_region_any hm (wpAnyU.any _ _ _ _ (h hS))
end
end Go.Proofs.YthboopnmbglkjaaGreat
