import Derived.Test.YthboopnmbglkjaaGreatShp
import Derived.RangeFuncRecord
import Derived.Deep.Trees
namespace Go.Proofs.YthboopnmbglkjaaGreat
open Go.RowKit Tryz
def Blk(g:Nat)(cs:Array Value)(t:TypeId)(w:World):Prop:=w.heap[g]?=some (.cells cs t (0,0))
theorem Blk.lt{g:Nat}{cs:Array Value}{t:TypeId}{w:World}(h:Blk g cs t w):g<w.heap.size:=(Array.getElem?_eq_some_iff.1 h).1
theorem Blk.below{g:Nat}{cs:Array Value}{t:TypeId}{w w':World}{B:Nat}(h:Blk g cs t w)(hb:Below B w w')(hB:g<B):Blk g cs t w':=(hb.block g hB).trans h
theorem Blk.drew{g:Nat}{cs:Array Value}{t:TypeId}{w:World}(h:Blk g cs t w):Blk g cs t w.drew:=h
theorem Blk.cell{g:Nat}{cs:Array Value}{t:TypeId}{w:World}(h:Blk g cs t w){o:Nat}{v:Value}(hv:cs[o]?=some v):w.cell? (E g o)=some v:=by simp[World.cell?,show w.heap[g]?=_ from h,hv]
theorem Blk.frozen{g:Nat}{cs:Array Value}{t:TypeId}{w:World}(h:Blk g cs t w)(o:Nat):w.frozen? (E g o)=false:=by simp[World.frozen?,show w.heap[g]?=_ from h]
theorem Blk.range{g:Nat}{cs:List Value}{t:TypeId}{w:World}(h:Blk g cs.toArray t w):w.rangeAt g 0 cs:=λj v hj=>by rw[Nat.zero_add];exact h.cell (by simpa using hj)
theorem Blk.alloc(w:World)(cs:Array Value)(t:TypeId):Blk w.heap.size cs t (w.alloc (.cells cs t)):=World.alloc_heap_new w _
theorem Blk.other{g:Nat}{cs:Array Value}{t:TypeId}{w:World}(h:Blk g cs t w){a:Addr}(hne:g≠a.block)(v:Value):Blk g cs t (w.setCell a v):=(Below.heap_setCell w a v g hne).trans h
theorem Blk.set{g:Nat}{cs:Array Value}{t:TypeId}{w:World}(h:Blk g cs t w)(o:Nat)(v:Value):Blk g (cs.setIfInBounds o v) t (w.setCell (E g o) v):=by
 obtain⟨hlt,hk⟩:=Array.getElem?_eq_some_iff.1 h;show(w.heap.modify g _)[g]?=_
 rw[Array.getElem?_eq_getElem (by rw[Array.size_modify];exact hlt),Array.getElem_modify_self,hk];rfl
theorem Blk.there{g:Nat}{cs:Array Value}{t:TypeId}{w:World}(h:Blk g cs t w):w.there g 0 cs.size:=λj hj=>by
 refine⟨?_,h.frozen _⟩;rw[h.cell (o:=0+j) (v:=cs[j]) (by simp[hj])];rfl
theorem Blk.rangeA{g:Nat}{cs:Array Value}{t:TypeId}{w:World}(h:Blk g cs t w):w.rangeAt g 0 cs.toList:=λj v hj=>by
 rw[Nat.zero_add];exact h.cell (by simpa using hj)
theorem qLk{ops:Array Oper}{rest:List Oper}{op:Oper}{a:Act}{w:World}{Q:Exit->Act->World->Prop}{ty n b:Nat}{l:Array Value}(r:Po ty n)(H:Hid (Blk b l ty w))(h:wpList prog ops Q rest (a.put op.dst (.agg l)) w){x:Operand}(ho:op.op=.load ty x:=by rfl)(hg:op.guard=none:=by rfl)(hx:a.eval x=pP b 0:=by first|rfl|(simp[go_sem];done))(hn:n=l.toList.length:=by rfl):wpList prog ops Q (op::rest) a w:=by
 subst hn;obtain⟨d,h1,h2,h3⟩:=r;exact wpList_load_mid hg ty x ho b 0 hx l.toList d H.out.rangeA h1 h2 h3 (by simpa using h)
theorem qBk{g:Nat}{cs:Array Value}{t:TypeId}{w w':World}(h:Hid (Blk g cs t w))(hb:bW w w'):Hid (Blk g cs t w'):=h.out.below hb h.out.lt
theorem qRb{g:Nat}{cs:Array Value}{t:TypeId}{w:World}(h:Blk g cs t w)(o:Nat)(l:List Value)(e:(cs.toList.drop o).take l.length=l:=by rfl):w.rangeAt g o l:=λj v hj=>h.cell (by
 have hl:j<l.length:=Af hj;rw[<-e,List.getElem?_take_of_lt hl,List.getElem?_drop]at hj;rw[<-Array.getElem?_toList]
 exact hj)
theorem qRa(w:World)(cs:Array Value)(t:TypeId)(l:List Value)(e:cs.toList=l:=by rfl):Hid ((w.alloc (Obj.cells cs t)).rangeAt w.heap.size 0 l):=by
 subst e;exact(Blk.alloc w cs t).rangeA
theorem al2(w:World)(L:Array Value)(t:TypeId)(M:Array Value)(u:TypeId):Hid (Blk (w.heap.size+1) M u ((w.alloc (Obj.cells L t)).alloc (Obj.cells M u))):=by
 have:=Blk.alloc (w.alloc (Obj.cells L t)) M u;show Blk _ _ _ _
 simpa using this
theorem bl2(w:World)(L:Array Value)(t:TypeId)(M:Array Value)(u:TypeId):bW w ((w.alloc (Obj.cells L t)).alloc (Obj.cells M u)):=((Below.refl _ w).alloc (Nat.le_refl _) _).alloc (by simp) _
end Go.Proofs.YthboopnmbglkjaaGreat
namespace Go.Proofs.YthboopnmbglkjaaGreat.P
open Tryz
structure Nd where
 kind:Int
 name:BA
 value:BA
 kids:Int
abbrev Tr:=Go.Deep.BT (BA×BA)
def nonT:Tr:=.node 0 0 (⟨#[]⟩,⟨#[]⟩) .nil .nil
def nmT(n:BA):Tr:=.node 1 0 (n,⟨#[]⟩) .nil .nil
def vlT(n v:BA):Tr:=.node 2 0 (n,v) .nil .nil
def ntT(k:Tr):Tr:=.node 3 0 (⟨#[]⟩,⟨#[]⟩) k .nil
def anT(a b:Tr):Tr:=.node 4 0 (⟨#[]⟩,⟨#[]⟩) a b
def orT(a b:Tr):Tr:=.node 5 0 (⟨#[]⟩,⟨#[]⟩) a b
def wf:Tr->Prop
 |.nil=>False
 | .node b o p l r=>o=0/\((b=0/\p=(⟨#[]⟩,⟨#[]⟩)/\l=.nil/\r=.nil)\/(b=1/\p.2=⟨#[]⟩/\l=.nil/\r=.nil)\/(b=2/\l=.nil/\r=.nil) \/
   (b=3/\p=(⟨#[]⟩,⟨#[]⟩)/\wf l/\r=.nil)\/(b=4/\p=(⟨#[]⟩,⟨#[]⟩)/\wf l/\wf r)\/(b=5/\p=(⟨#[]⟩,⟨#[]⟩)/\wf l/\wf r))
theorem wf_non:wf nonT:=⟨rfl,.inl ⟨rfl,rfl,rfl,rfl⟩⟩
theorem yI(n:BA):wf (nmT n):=⟨rfl,.inr (.inl ⟨rfl,rfl,rfl,rfl⟩)⟩
theorem yQ(n v:BA):wf (vlT n v):=⟨rfl,.inr (.inr (.inl ⟨rfl,rfl,rfl⟩))⟩
theorem yO{k:Tr}(h:wf k):wf (ntT k):=⟨rfl,.inr (.inr (.inr (.inl ⟨rfl,rfl,h,rfl⟩)))⟩
theorem wf_an{a b:Tr}(h:wf a)(h':wf b):wf (anT a b):=⟨rfl,.inr (.inr (.inr (.inr (.inl ⟨rfl,rfl,h,h'⟩))))⟩
theorem wf_or{a b:Tr}(h:wf a)(h':wf b):wf (orT a b):=⟨rfl,.inr (.inr (.inr (.inr (.inr ⟨rfl,rfl,h,h'⟩))))⟩
theorem wf_ind{p:Tr->Prop}(c0:p nonT)(c1:∀n,p (nmT n))(c2:∀n v,p (vlT n v))(c3:∀k,wf k->p k->p (ntT k))(c4:∀a b,wf a->wf b->p a->p b->p (anT a b))(c5:∀a b,wf a->wf b->p a->p b->p (orT a b)):∀(t:Tr),wf t->p t
 |.nil,h=>h.elim
 | .node b o q l r,h=>by
  obtain⟨rfl,h⟩:=h;rcases h with⟨rfl,rfl,rfl,rfl⟩|⟨rfl,h2,rfl,rfl⟩|⟨rfl,rfl,rfl⟩|⟨rfl,rfl,hl,rfl⟩|⟨rfl,rfl,hl,hr⟩|⟨rfl,rfl,hl,hr⟩
  .exact c0
  .obtain⟨q1,q2⟩:=q
   simp only at h2;subst h2;exact c1 q1
  .obtain⟨q1,q2⟩:=q
   exact c2 q1 q2
  .exact c3 l hl (wf_ind c0 c1 c2 c3 c4 c5 l hl)
  .exact c4 l r hl hr (wf_ind c0 c1 c2 c3 c4 c5 l hl) (wf_ind c0 c1 c2 c3 c4 c5 r hr)
  exact c5 l r hl hr (wf_ind c0 c1 c2 c3 c4 c5 l hl) (wf_ind c0 c1 c2 c3 c4 c5 r hr)
theorem wf_cases{t:Tr}(h:wf t):t=nonT\/(∃n,t=nmT n)\/(∃n v,t=vlT n v)\/(∃k,wf k/\t=ntT k)\/(∃a b,wf a/\wf b/\t=anT a b)\/(∃a b,wf a/\wf b/\t=orT a b) :=
 wf_ind (p:=λt=>t=nonT\/(∃n,t=nmT n)\/(∃n v,t=vlT n v)\/(∃k,wf k/\t=ntT k)\/(∃a b,wf a/\wf b/\t=anT a b)\/(∃a b,wf a/\wf b/\t=orT a b))
  (.inl rfl) (λn=>.inr (.inl ⟨n,rfl⟩)) (λn v=>.inr (.inr (.inl ⟨n,v,rfl⟩))) (λk hk _=>.inr (.inr (.inr (.inl ⟨k,hk,rfl⟩))))
  (λa b ha hb _ _=>.inr (.inr (.inr (.inr (.inl ⟨a,b,ha,hb,rfl⟩))))) (λa b ha hb _ _=>.inr (.inr (.inr (.inr (.inr ⟨a,b,ha,hb,rfl⟩))))) t h
def tall:Tr->Nat
 |.nil=>0
 |.node b _ _ l r=>if b=3 then tall l+1 else if b=4\/b=5 then max (tall l) (tall r)+1 else 0
def count:Tr->Nat
 |.nil=>0
 |.node b _ _ l r=>if b=3 then count l+1 else if b=4\/b=5 then count l+count r+1 else 1
theorem gT:tall nonT=0:=rfl
theorem tall_nm(n:BA):tall (nmT n)=0:=rfl
theorem tall_vl(n v:BA):tall (vlT n v)=0:=rfl
theorem tall_nt(k:Tr):tall (ntT k)=tall k+1:=rfl
theorem tall_an(a b:Tr):tall (anT a b)=max (tall a) (tall b)+1:=rfl
theorem tall_or(a b:Tr):tall (orT a b)=max (tall a) (tall b)+1:=rfl
theorem Ue(n:BA):count (nmT n)=1:=rfl
theorem Ui(n v:BA):count (vlT n v)=1:=rfl
theorem count_nt(k:Tr):count (ntT k)=count k+1:=rfl
theorem count_an(a b:Tr):count (anT a b)=count a+count b+1:=rfl
theorem count_or(a b:Tr):count (orT a b)=count a+count b+1:=rfl
def wr(lvl b:Nat)(s:BA):BA :=
 if b<lvl then⟨#[40]⟩++s++⟨#[41]⟩else s
def letter(b:UInt8):Bool :=
 decide (97<=b.toNat/\b.toNat<=122\/48<=b.toNat/\b.toNat<=57\/b.toNat=45\/b.toNat=95)
def nameOk(s:BA):Bool:=decide (1<=s.size/\s.size<=20)&&s.data.toList.all letter
def grow(n:Nd)(ks:List Tr):Option Tr :=
 if n.kind=1/\n.kids=0/\nameOk n.name=true/\n.value.size=0 then some (nmT n.name)
 else if n.kind=2/\n.kids=0/\nameOk n.name=true/\nameOk n.value=true then some (vlT n.name n.value)
 else if n.name.size≠0\/n.value.size≠0 then none
 else if n.kind=3/\n.kids=1 then(match ks with|[a]=>some (ntT a)|_=>none)
 else if n.kind=4/\n.kids=2 then(match ks with|[a,b]=>some (anT a b)|_=>none)
 else if n.kind=5/\n.kids=2 then(match ks with|[a,b]=>some (orT a b)|_=>none)
 else none
def stepI(n:Nd)(ts:List Tr):Option (List Tr) :=
 if n.kids<0\/ts.length<n.kids then none
 else match grow n (ts.drop (ts.length-n.kids.toNat))with
  |none=>none
  |some t=>if 20<tall t then none else some (ts.take (ts.length-n.kids.toNat)++[t])
def runI:List Nd->List Tr->Option (List Tr)
 |[],ts=>some ts
 |n::r,ts=>match stepI n ts with
  |none=>none
  |some ts'=>runI r ts'
def lone(ns:List Nd):Bool:=match ns with
 |[n]=>decide (n.kind=0/\n.kids=0/\n.name.size=0/\n.value.size=0)
 |_=>false
def treeI(ns:List Nd):Option Tr :=
 if lone ns=true then some nonT
 else match runI ns []with
  |some [t]=>some t
  |_=>none
def stepK(i:Nat)(k:Int)(st:List Nat):Option (List Nat×List Nat) :=
 if k<0\/st.length<k then none
 else some (st.drop (st.length-k.toNat),st.take (st.length-k.toNat)++[i])
def runK:List Nd->Nat->List (List Nat)->List Nat->Option (List (List Nat)×List Nat)
 |[],_,out,st=>some (out,st)
 |n::r,i,out,st=>match stepK i n.kids st with
  |none=>none
  |some (ks,st')=>runK r (i+1) (out++[ks]) st'
def kidsOf(ns:List Nd):Option (List (List Nat)×List Nat):=runK ns 0 [] []
def arity(k:Int):Int:=if k=3 then 1 else if k=4\/k=5 then 2 else 0
def nodeOk(len:Nat)(n:Nd):Bool :=
 decide (0<=n.kind/\n.kind<=5)&&decide (n.kids=arity n.kind)&&!(decide (n.kind=0)&&decide (1<len))
 && (if n.kind=1\/n.kind=2 then nameOk n.name else decide (n.name.size=0))
 && (if n.kind=2 then nameOk n.value else decide (n.value.size=0))
def treeOk(ns:List Nd):Bool :=
 decide (ns.length<=400)&&(match kidsOf ns with|some (_,[_])=>true|_=>false)&&ns.all (nodeOk ns.length)
def IsT(ns:List Nd)(out:List (List Nat))(k:Nat):Tr->Prop
 |.nil=>False
 | .node b o p l r=>∃n,ns[k]?=some n/\n.kind=(b:Int)/\o=0 /\
   ((b=0/\p=(⟨#[]⟩,⟨#[]⟩)/\l=.nil/\r=.nil/\out[k]?=some [])\/(b=1/\p=(n.name,⟨#[]⟩)/\l=.nil/\r=.nil/\out[k]?=some []) \/
    (b=2/\p=(n.name,n.value)/\l=.nil/\r=.nil/\out[k]?=some [])\/(b=3/\p=(⟨#[]⟩,⟨#[]⟩)/\r=.nil/\∃a,out[k]?=some [a]/\a<k/\IsT ns out a l) \/
    (b=4/\p=(⟨#[]⟩,⟨#[]⟩)/\∃a c,out[k]?=some [a,c]/\a<k/\c<k/\IsT ns out a l/\IsT ns out c r) \/
    (b=5/\p=(⟨#[]⟩,⟨#[]⟩)/\∃a c,out[k]?=some [a,c]/\a<k/\c<k/\IsT ns out a l/\IsT ns out c r))
section
variable {ns:List Nd} {out:List (List Nat)} {k:Nat} {n:Nd}
theorem aZ(h:ns[k]?=some n)(e:n.kind=0)(o:out[k]?=some []):IsT ns out k nonT:=⟨n,h,e,rfl,.inl ⟨rfl,rfl,rfl,rfl,o⟩⟩
theorem tD(h:ns[k]?=some n)(e:n.kind=1)(o:out[k]?=some []):IsT ns out k (nmT n.name):=⟨n,h,e,rfl,.inr (.inl ⟨rfl,rfl,rfl,rfl,o⟩)⟩
theorem sM(h:ns[k]?=some n)(e:n.kind=2)(o:out[k]?=some []):IsT ns out k (vlT n.name n.value):=⟨n,h,e,rfl,.inr (.inr (.inl ⟨rfl,rfl,rfl,rfl,o⟩))⟩
theorem uG{a:Nat}{t:Tr}(h:ns[k]?=some n)(e:n.kind=3)(o:out[k]?=some [a])(l:a<k)(i:IsT ns out a t):IsT ns out k (ntT t):=⟨n,h,e,rfl,.inr (.inr (.inr (.inl ⟨rfl,rfl,rfl,a,o,l,i⟩)))⟩
theorem tJ{a b:Nat}{t u:Tr}(h:ns[k]?=some n)(e:n.kind=4)(o:out[k]?=some [a,b])(l:a<k)(l':b<k)(i:IsT ns out a t)(i':IsT ns out b u):IsT ns out k (anT t u) :=
 ⟨n,h,e,rfl,.inr (.inr (.inr (.inr (.inl ⟨rfl,rfl,a,b,o,l,l',i,i'⟩))))⟩
theorem tF{a b:Nat}{t u:Tr}(h:ns[k]?=some n)(e:n.kind=5)(o:out[k]?=some [a,b])(l:a<k)(l':b<k)(i:IsT ns out a t)(i':IsT ns out b u):IsT ns out k (orT t u) :=
 ⟨n,h,e,rfl,.inr (.inr (.inr (.inr (.inr ⟨rfl,rfl,a,b,o,l,l',i,i'⟩))))⟩
end
theorem isT_ind{ns:List Nd}{out:List (List Nat)}{p:Nat->Tr->Prop}(c0:∀k n,ns[k]?=some n->n.kind=0->out[k]?=some []->p k nonT)(c1:∀k n,ns[k]?=some n->n.kind=1->out[k]?=some []->p k (nmT n.name))(c2:∀k n,ns[k]?=some n->n.kind=2->out[k]?=some []->p k (vlT n.name n.value))(c3:∀k n a t,ns[k]?=some n->n.kind=3->out[k]?=some [a]->a<k->IsT ns out a t->p a t->p k (ntT t))(c4:∀k n a b t u,ns[k]?=some n->n.kind=4->out[k]?=some [a,b]->a<k->b<k->IsT ns out a t->IsT ns out b u->p a t->p b u->p k (anT t u))(c5:∀k n a b t u,ns[k]?=some n->n.kind=5->out[k]?=some [a,b]->a<k->b<k->IsT ns out a t->IsT ns out b u->p a t->p b u->p k (orT t u)) :
  ∀(t:Tr)(k:Nat),IsT ns out k t->p k t
 |.nil,_,h=>h.elim
 |.node b o q l r,k,h=>by
  obtain⟨n,hn,hk,rfl,h⟩:=h;rcases h with⟨rfl,rfl,rfl,rfl,ho⟩|⟨rfl,rfl,rfl,rfl,ho⟩|⟨rfl,rfl,rfl,rfl,ho⟩|⟨rfl,rfl,rfl,a,ho,ha,hl⟩|⟨rfl,rfl,a,c,ho,ha,hc,hl,hr⟩|⟨rfl,rfl,a,c,ho,ha,hc,hl,hr⟩
  .exact c0 k n hn hk ho
  .exact c1 k n hn hk ho
  .exact c2 k n hn hk ho
  .exact c3 k n a l hn hk ho ha hl (isT_ind c0 c1 c2 c3 c4 c5 l a hl)
  .exact c4 k n a c l r hn hk ho ha hc hl hr (isT_ind c0 c1 c2 c3 c4 c5 l a hl) (isT_ind c0 c1 c2 c3 c4 c5 r c hr)
  exact c5 k n a c l r hn hk ho ha hc hl hr (isT_ind c0 c1 c2 c3 c4 c5 l a hl) (isT_ind c0 c1 c2 c3 c4 c5 r c hr)
def Pt(n:Nd)(ts:List Tr):Option (List Tr) :=
 if n.kids<0\/ts.length<n.kids then none
 else match grow n (ts.drop (ts.length-n.kids.toNat))with
  |none=>none
  |some t=>some (ts.take (ts.length-n.kids.toNat)++[t])
def Sb:List Nd->List Tr->Option (List Tr)
 |[],ts=>some ts
 |n::r,ts=>match Pt n ts with
  |none=>none
  |some ts'=>Sb r ts'
theorem dS{ns:List Nd}{out:List (List Nat)}{k:Nat}{t:Tr}(x:List (List Nat))(h:IsT ns out k t):IsT ns (out++x) k t:=by
 have key:∀{k:Nat} {l:List Nat},out[k]?=some l->(out++x)[k]?=some l:=by
  intro k l hk;have hlt:k<out.length:=by
   rcases Nat.lt_or_ge k out.length with h|h
   .exact h
   rw[List.getElem?_eq_none h]at hk;cases hk
  rw[List.getElem?_append_left hlt];exact hk
 refine isT_ind (ns:=ns) (out:=out) (p:=λk t=>IsT ns (out++x) k t) ?_ ?_ ?_ ?_ ?_ ?_ t k h
 .exact λk n a b c=>aZ a b (key c)
 .exact λk n a b c=>tD a b (key c)
 .exact λk n a b c=>sM a b (key c)
 .exact λk n _ _ a b c d _ i=>uG a b (key c) d i
 .exact λk n _ _ _ _ a b c d e _ _ i j=>tJ a b (key c) d e i j
 exact λk n _ _ _ _ a b c d e _ _ i j=>tF a b (key c) d e i j
theorem vT{len:Nat}{n:Nd}{ks:List Tr}(h0:n.kind≠0)(h:nodeOk len n=true)(hk:(ks.length:Int)=n.kids):∃t,grow n ks=some t:=by
 simp only[nodeOk,arity,Bool.and_eq_true,decide_eq_true_eq]at h;obtain⟨⟨⟨⟨⟨h1,h2⟩,h3⟩,_⟩,h5⟩,h6⟩:=h;unfold grow;rcases(show n.kind=1\/n.kind=2\/n.kind=3\/n.kind=4\/n.kind=5 by omega)with e|e|e|e|e<;>simp[e]at h3 h5 h6⊢
 .simp[h3,h5,h6]
 .simp[h3,h5,h6]
 .have:ks.length=1:=by omega
  match ks,this with
  |[a],_=>simp[h3,h5,h6]
 .have:ks.length=2:=by omega
  match ks,this with
  |[a,b],_=>simp[h3,h5,h6]
 have:ks.length=2:=by omega
 match ks,this with
 |[a,b],_=>simp[h3,h5,h6]
theorem nD{len:Nat}{n:Nd}{ks:List Tr}{t:Tr}(h:grow n ks=some t):n.kind≠0/\nodeOk len n=true:=by
 unfold grow at h;unfold nodeOk arity
 split at h
 .rename_i c;obtain⟨a,b,c,d⟩:=c;simp[a,b,c,d]
 split at h
 .rename_i c;obtain⟨a,b,c,d⟩:=c;simp[a,b,c,d]
 split at h
 .cases h
 rename_i hne
 have e1:n.name.size=0:=by omega
 have e2:n.value.size=0:=by omega
 split at h
 .rename_i c;obtain⟨a,b⟩:=c;simp[a,b,e1,e2]
 split at h
 .rename_i c;obtain⟨a,b⟩:=c;simp[a,b,e1,e2]
 split at h
 .rename_i c;obtain⟨a,b⟩:=c;simp[a,b,e1,e2]
 cases h
theorem oH{n:Nd}{ks:List Tr}{t:Tr}(h:grow n ks=some t)(hk:(ks.length:Int)=n.kids) :
  (∀u∈ks,tall u<=tall t)/\count t=1+(ks.map count).sum:=by
 unfold grow at h
 split at h
 .rename_i c
  have:ks=[]:=List.eq_nil_of_length_eq_zero (by omega);cases h;subst this;simp[Ue]
 split at h
 .rename_i c
  have:ks=[]:=List.eq_nil_of_length_eq_zero (by omega);cases h;subst this;simp[Ui]
 split at h
 .cases h
 split at h
 .split at h
  .cases h;simp[tall_nt,count_nt];omega
  cases h
 split at h
 .split at h
  .cases h;simp[tall_an,count_an];omega
  cases h
 split at h
 .split at h
  .cases h;simp[tall_or,count_or];omega
  cases h
 cases h
def good:Tr->Prop
 |.nil=>False
 |.node b _ p l r=>if b=1 then 1<=p.1.size/\p.1.size<=20 else if b=2 then(1<=p.1.size/\p.1.size<=20)/\(1<=p.2.size/\p.2.size<=20)else if b=3 then good l else if b=4\/b=5 then good l/\good r else False
theorem nameOk_pos{s:BA}(h:nameOk s=true):1<=s.size/\s.size<=20:=by
 simp only[nameOk,Bool.and_eq_true,decide_eq_true_eq]at h;exact h.1
theorem xP(n:BA):good (nmT n)=(1<=n.size/\n.size<=20):=rfl
theorem yH(n v:BA):good (vlT n v)=((1<=n.size/\n.size<=20)/\(1<=v.size/\v.size<=20)):=rfl
theorem wY(k:Tr):good (ntT k)=good k:=rfl
theorem good_an(a b:Tr):good (anT a b)=(good a/\good b):=rfl
theorem good_or(a b:Tr):good (orT a b)=(good a/\good b):=rfl
def lG(t:Tr):Prop:=wf t/\good t
theorem qI{n:Nd}{ks:List Tr}{t:Tr}(h:grow n ks=some t)(hg:∀u∈ks,lG u):lG t:=by
 unfold grow at h
 split at h
 .rename_i c;cases h;exact⟨yI _,nameOk_pos c.2.2.1⟩
 split at h
 .rename_i c;cases h;exact⟨yQ _ _,nameOk_pos c.2.2.1,nameOk_pos c.2.2.2⟩
 split at h
 .cases h
 split at h
 .split at h
  .rename_i a;cases h;exact⟨yO (hg a (by simp)).1,(hg a (by simp)).2⟩
  cases h
 split at h
 .split at h
  .rename_i a b;cases h;exact⟨wf_an (hg a (by simp)).1 (hg b (by simp)).1,(hg a (by simp)).2,(hg b (by simp)).2⟩
  cases h
 split at h
 .split at h
  .rename_i a b;cases h;exact⟨wf_or (hg a (by simp)).1 (hg b (by simp)).1,(hg a (by simp)).2,(hg b (by simp)).2⟩
  cases h
 cases h
theorem eI{n:Nd}{ts ts':List Tr}(h:Pt n ts=some ts') :
  (∀u∈ts,∃v∈ts',tall u<=tall v)/\(ts'.map count).sum=1+(ts.map count).sum/\((∀u∈ts,lG u)->∀u∈ts',lG u)/\n.kind≠0/\∀len,nodeOk len n=true:=by
 unfold Pt at h
 split at h
 .cases h
 rename_i hb
 split at h
 .cases h
 rename_i t hg
 cases h
 have hl:((ts.drop (ts.length-n.kids.toNat)).length:Int)=n.kids:=by simp;omega
 obtain⟨g1,g2⟩:=oH hg hl;have hts:ts.take (ts.length-n.kids.toNat)++ts.drop (ts.length-n.kids.toNat)=ts:=List.take_append_drop _ _;refine⟨?_,?_,?_,(nD (len:=0) hg).1,λlen=>(nD hg).2⟩
 .intro u hu
  rw[<-hts]at hu;rcases List.mem_append.1 hu with hu|hu
  .exact⟨u,List.mem_append.2 (.inl hu),Nat.le_refl _⟩
  exact⟨t,by simp,g1 u hu⟩
 .have:(ts.map count).sum=((ts.take (ts.length-n.kids.toNat)).map count).sum+((ts.drop (ts.length-n.kids.toNat)).map count).sum:=by
   rw[<-List.sum_append,<-List.map_append,hts]
  rw[this,List.map_append,List.sum_append];simp only[List.map_cons,List.map_nil,List.sum_cons,List.sum_nil,g2];omega
 intro hgd u hu;rcases List.mem_append.1 hu with hu|hu
 .exact hgd u (List.mem_of_mem_take hu)
 simp at hu;subst hu;exact qI hg λv hv=>hgd v (List.mem_of_mem_drop hv)
theorem Kx:∀(r:List Nd)(ts ts':List Tr),Sb r ts=some ts' ->
  (∀u∈ts,∃v∈ts',tall u<=tall v)/\(ts'.map count).sum=r.length+(ts.map count).sum/\((∀u∈ts,lG u)->∀u∈ts',lG u)/\∀n∈r,n.kind≠0/\∀len,nodeOk len n=true
 |[],ts,ts',h=>by
  simp only[Sb,Option.some.injEq]at h;subst h;exact⟨λu hu=>⟨u,hu,Nat.le_refl _⟩,by simp,λh=>h,λn hn=>by cases hn⟩
 | n::r,ts,ts',h=>by
  unfold Sb at h
  split at h
  .cases h
  rename_i ts1 h1
  obtain⟨a1,a2,a3,a4,a5⟩:=eI h1;obtain⟨b1,b2,b3,b4⟩:=Kx r ts1 ts' h;refine⟨?_,?_,λhg=>b3 (a3 hg),?_⟩
  .intro u hu
   obtain⟨v,hv,l1⟩:=a1 u hu;obtain⟨x,hx,l2⟩:=b1 v hv;exact⟨x,hx,lT l1 l2⟩
  .rw[b2,a2];simp only[List.length_cons];omega
  intro m hm;rcases List.mem_cons.1 hm with rfl|hm
  .exact⟨a4,a5⟩
  exact b4 m hm
theorem Np:∀(r:List Nd)(ts ts':List Tr),runI r ts=some ts'->Sb r ts=some ts'/\((∀u∈ts,tall u<=20)->∀u∈ts',tall u<=20)
 |[],ts,ts',h=>by
  simp only[runI,Option.some.injEq]at h;subst h;exact⟨rfl,λh=>h⟩
 |n::r,ts,ts',h=>by
  unfold runI at h
  split at h
  .cases h
  rename_i ts1 h1
  obtain⟨b1,b2⟩:=Np r ts1 ts' h;unfold stepI at h1
  split at h1
  .cases h1
  rename_i hb
  split at h1
  .cases h1
  rename_i t hg
  split at h1
  .cases h1
  rename_i htl
  cases h1
  refine⟨?_,λhl=>b2 ?_⟩
  .unfold Sb Pt;rw[if_neg hb,hg];exact b1
  intro u hu;rcases List.mem_append.1 hu with hu|hu
  .exact hl u (List.mem_of_mem_take hu)
  simp at hu;subst hu;omega
theorem Rv:∀(r:List Nd)(ts ts':List Tr),Sb r ts=some ts'->(∀u∈ts',tall u<=20)->runI r ts=some ts'
 |[],ts,ts',h,_=>by simpa[Sb,runI]using h
 | n::r,ts,ts',h,hl=>by
  unfold Sb at h
  split at h
  .cases h
  rename_i ts1 h1
  have hlow:∀u∈ts1,tall u<=20:=by
   intro u hu;obtain⟨v,hv,hle⟩:=(Kx r ts1 ts' h).1 u hu;have:=hl v hv;omega
  have ih:=Rv r ts1 ts' h hl;unfold Pt at h1
  split at h1
  .cases h1
  rename_i hb
  split at h1
  .cases h1
  rename_i t hg
  cases h1
  have:tall t<=20:=hlow t (by simp);unfold runI stepI;rw[if_neg hb,hg];simp only[show ¬20<tall t by omega,if_false];exact ih
def xX(ns:List Nd)(out:List (List Nat))(i:Nat)(st:List Nat)(ts:List Tr):Prop :=
 st.length=ts.length/\∀(j a:Nat)(t:Tr),st[j]?=some a->ts[j]?=some t->IsT ns out a t/\a<i
theorem getElem?_lt {α:Type} {l:List α} {j:Nat} {a:α} (h:l[j]?=some a):j<l.length:=by
 rcases Nat.lt_or_ge j l.length with h'|h'
 .exact h'
 rw[List.getElem?_eq_none h']at h;cases h
theorem sJ{all:List Nd}{i:Nat}{n:Nd}{out:List (List Nat)}{st:List Nat}{ts:List Tr}(hi:all[i]?=some n)(ho:out.length=i)(hb:xX all out i st ts)(h0:n.kind≠0)(hok:nodeOk all.length n=true) :
  (stepK i n.kids st=none/\Pt n ts=none) \/
  ∃ks st' ts',stepK i n.kids st=some (ks,st')/\Pt n ts=some ts'/\xX all (out++[ks]) (i+1) st' ts':=by
 obtain⟨hlen,hrel⟩:=hb;by_cases hc:n.kids<0\/(st.length:Int)<n.kids
 .left
  unfold stepK Pt;rw[if_pos hc,if_pos (by rw[<-hlen];exact hc)];exact⟨rfl,rfl⟩
 right
 have hkl:((ts.drop (ts.length-n.kids.toNat)).length:Int)=n.kids:=by simp;omega
 obtain⟨t,hg⟩:=vT h0 hok hkl;refine⟨st.drop (st.length-n.kids.toNat),st.take (st.length-n.kids.toNat)++[i],ts.take (ts.length-n.kids.toNat)++[t],?_,?_,?_,?_⟩
 .unfold stepK;rw[if_neg hc]
 .unfold Pt;rw[if_neg (by rw[<-hlen];exact hc),hg]
 .simp;omega
 intro j a u hja hju;by_cases hj:j<st.length-n.kids.toNat
 .rw[List.getElem?_append_left (by simp;omega),List.getElem?_take_of_lt hj]at hja
  rw[List.getElem?_append_left (by simp;omega),List.getElem?_take_of_lt (by omega)]at hju;obtain⟨x,y⟩:=hrel j a u hja hju;exact⟨dS _ x,by omega⟩
 have hje:j=st.length-n.kids.toNat:=by have:=getElem?_lt hja;simp at this;omega
 have e1:a=i:=by
  rw[List.getElem?_append_right (by simp;omega)]at hja;simp[hje,Nat.min_eq_left (Nat.sub_le _ _)]at hja;exact hja.symm
 have e2:u=t:=by
  rw[List.getElem?_append_right (by simp;omega)]at hju;simp[hje,hlen,Nat.min_eq_left (Nat.sub_le _ _)]at hju;exact hju.symm
 subst e1;subst e2;refine⟨?_,by omega⟩;have hout:(out++[st.drop (st.length-n.kids.toNat)])[a]?=some (st.drop (st.length-n.kids.toNat)):=by
  rw[List.getElem?_append_right (by omega)];simp[ho]
 have hkid:∀(q b:Nat)(v:Tr),(st.drop (st.length-n.kids.toNat))[q]?=some b->(ts.drop (ts.length-n.kids.toNat))[q]?=some v->IsT all (out++[st.drop (st.length-n.kids.toNat)]) b v/\b<a:=by
  intro q b v h1 h2;rw[List.getElem?_drop]at h1 h2;rw[<-hlen]at h2;obtain⟨x,y⟩:=hrel _ b v h1 h2;exact⟨dS _ x,y⟩
 generalize hK:st.drop (st.length-n.kids.toNat)=ks at hout hkid⊢;generalize hT:ts.drop (ts.length-n.kids.toNat)=us at hg hkid hkl;have hK2:ks.length=us.length:=by rw[<-hK,<-hT];simp;omega
 unfold grow at hg
 split at hg
 .rename_i c;cases hg
  have:ks=[]:=List.eq_nil_of_length_eq_zero (by omega);subst this;exact tD hi c.1 hout
 split at hg
 .rename_i c;cases hg
  have:ks=[]:=List.eq_nil_of_length_eq_zero (by omega);subst this;exact sM hi c.1 hout
 split at hg
 .cases hg
 split at hg
 .rename_i c
  split at hg
  .cases hg
   match ks,hK2 with
   |[b],_ =>
    obtain⟨x,y⟩:=hkid 0 b _ rfl rfl;exact uG hi c.1 hout y x
  cases hg
 split at hg
 .rename_i c
  split at hg
  .cases hg
   match ks,hK2 with
   |[b,d],_ =>
    obtain⟨x,y⟩:=hkid 0 b _ rfl rfl;obtain⟨x',y'⟩:=hkid 1 d _ rfl rfl;exact tJ hi c.1 hout y y' x x'
  cases hg
 split at hg
 .rename_i c
  split at hg
  .cases hg
   match ks,hK2 with
   |[b,d],_ =>
    obtain⟨x,y⟩:=hkid 0 b _ rfl rfl;obtain⟨x',y'⟩:=hkid 1 d _ rfl rfl;exact tF hi c.1 hout y y' x x'
  cases hg
 cases hg
theorem sim(all:List Nd)(hall:∀n∈all,n.kind≠0/\nodeOk all.length n=true):∀(r:List Nd)(i:Nat)(out:List (List Nat))(st:List Nat)(ts:List Tr),
  all.drop i=r->out.length=i->xX all out i st ts ->
  (runK r i out st=none/\Sb r ts=none) \/
  ∃out' st' ts',runK r i out st=some (out',st')/\Sb r ts=some ts'/\xX all out' (i+r.length) st' ts'/\out'.length=i+r.length
 |[],i,out,st,ts,_,ho,hb=>.inr ⟨out,st,ts,rfl,rfl,hb,ho⟩
 | n::r,i,out,st,ts,hd,ho,hb=>by
  have hi:all[i]?=some n:=by
   have:=congrArg (λl=>l[0]?) hd;simpa using this
  have hn:=hall n (List.mem_of_getElem? hi);have hd':all.drop (i+1)=r:=by
   have:=congrArg List.tail hd;simpa[List.tail_drop]using this
  rcases sJ hi ho hb hn.1 hn.2 with⟨h1,h2⟩|⟨ks,st',ts',h1,h2,h3⟩
  .left;unfold runK Sb;rw[h1,h2];exact⟨rfl,rfl⟩
  unfold runK Sb;rw[h1,h2];rcases sim all hall r (i+1) (out++[ks]) st' ts' hd' (by simp[ho]) h3 with h|⟨o,s,t,a,b,c,d⟩
  .exact .inl h
  refine .inr ⟨o,s,t,a,b,?_,?_⟩
  .simpa[Nat.add_assoc,Nat.add_comm 1]using c
  simp[d];omega
theorem Zo:∀(r:List Nd)(i:Nat)(out:List (List Nat))(st:List Nat)(out':List (List Nat))(st':List Nat),r≠[]->runK r i out st=some (out',st')->st'.getLast?=some (i+r.length-1)
 |[],_,_,_,_,_,h,_=>absurd rfl h
 |[n],i,out,st,out',st',_,h=>by
  unfold runK at h
  split at h
  .cases h
  rename_i ks s1 h1
  simp only[runK,Option.some.injEq,Prod.mk.injEq]at h;obtain⟨_,rfl⟩:=h;unfold stepK at h1
  split at h1
  .cases h1
  simp only[Option.some.injEq,Prod.mk.injEq]at h1;obtain⟨_,rfl⟩:=h1;simp
 |n::m::r,i,out,st,out',st',_,h=>by
  unfold runK at h
  split at h
  .cases h
  rename_i ks s1 h1
  have:=Zo (m::r) (i+1) (out++[ks]) s1 out' st' (by simp) h;rw[this];simp;omega
theorem Oq{ns:List Nd}(h:lone ns=true):∃n,ns=[n]/\n.kind=0/\n.kids=0/\n.name.size=0/\n.value.size=0:=by
 unfold lone at h
 split at h
 .rename_i n;exact⟨n,rfl,by simpa using h⟩
 cases h
theorem qN{ns:List Nd}(h:treeOk ns=true):∃out r t,kidsOf ns=some (out,[r])/\out.length=ns.length/\r+1=ns.length/\IsT ns out r t /\
  (tall t<=20->treeI ns=some t)/\(20<tall t->treeI ns=none):=by
 simp only[treeOk,Bool.and_eq_true,decide_eq_true_eq,List.all_eq_true]at h;obtain⟨⟨h1,h2⟩,h3⟩:=h;by_cases hl:lone ns=true
 .obtain⟨n,rfl,e0,e1,e2,e3⟩:=Oq hl
  refine⟨[[]],0,nonT,?_,rfl,rfl,aZ rfl e0 rfl,?_,?_⟩
  .simp[kidsOf,runK,stepK,e1]
  .intro _;simp[treeI,hl]
  intro hh;simp[gT]at hh
 have hall:∀n∈ns,n.kind≠0/\nodeOk ns.length n=true:=by
  intro n hn;refine⟨λe=>?_,h3 n hn⟩;have hk:=h3 n hn;simp only[nodeOk,e,arity,Bool.and_eq_true]at hk;simp at hk;obtain⟨⟨⟨k1,k2⟩,k3⟩,k4⟩:=hk;have hlen:ns.length=1:=by
   have:=List.length_pos_of_mem hn;omega
  match ns,hlen with
  |[m],_ =>
   simp at hn;subst hn;exact hl (by simp[lone,e,k1,k3,k4])
 cases hkk:kidsOf ns with
 |none=>rw[hkk]at h2;cases h2
 | some p =>
  obtain⟨out,st⟩:=p;rw[hkk]at h2
  match st,hkk with
  | [r],hkk =>
   have hne:ns≠[]:=by
    intro e;subst e;simp[kidsOf,runK]at hkk
   rcases sim ns hall ns 0 [] [] [] rfl rfl ⟨rfl,λj a t h=>by simp at h⟩with⟨ha,_⟩|⟨o,s,ts,a,b,c,d⟩
   .rw[show runK ns 0 [] []=kidsOf ns from rfl,hkk]at ha;cases ha
   rw[show runK ns 0 [] []=kidsOf ns from rfl,hkk]at a;simp only[Option.some.injEq,Prod.mk.injEq]at a;obtain⟨rfl,rfl⟩:=a;obtain⟨c1,c2⟩:=c
   match ts,c1 with
   | [t],_ =>
    have hlast:=Zo ns 0 [] [] out [r] hne hkk;simp at hlast;have hr:r+1=ns.length:=by have:=List.length_pos_iff.2 hne;omega
    refine⟨out,r,t,rfl,by simpa using d,hr,(c2 0 r t rfl rfl).1,?_,?_⟩
    .intro ht
     have:=Rv ns [] [t] b (by intro u hu;simp at hu;subst hu;exact ht);simp[treeI,hl,this]
    intro ht;unfold treeI;rw[if_neg hl]
    cases hi:runI ns []with
    |none=>rfl
    |some us =>
     obtain⟨e1,e2⟩:=Np ns [] us hi;rw[b]at e1;simp only[Option.some.injEq]at e1;subst e1;have:=e2 (by intro u hu;cases hu) t (by simp);omega
  |[],hkk=>simp at h2
  |_::_::_,hkk=>simp at h2
theorem no_tree{ns:List Nd}(hlen:ns.length<=400)(h:treeOk ns=false):treeI ns=none:=by
 unfold treeI;by_cases hl:lone ns=true
 .exfalso
  obtain⟨n,rfl,e0,e1,e2,e3⟩:=Oq hl;simp[treeOk,kidsOf,runK,stepK,e1,nodeOk,e0,arity,e2,e3]at h
 rw[if_neg hl]
 cases hi:runI ns []with
 |none=>rfl
 | some us =>
  match us,hi with
  |[],_=>rfl
  |_::_::_,_=>rfl
  | [t],hi =>
   exfalso
   obtain⟨e1,_⟩:=Np ns [] [t] hi;obtain⟨_,_,_,b4⟩:=Kx ns [] [t] e1;have hall:∀n∈ns,n.kind≠0/\nodeOk ns.length n=true:=λn hn=>⟨(b4 n hn).1,(b4 n hn).2 _⟩
   rcases sim ns hall ns 0 [] [] [] rfl rfl ⟨rfl,λj a t h=>by simp at h⟩with⟨_,hb⟩|⟨o,s,ts,a,b,c,d⟩
   .rw[e1]at hb;cases hb
   rw[e1]at b;simp only[Option.some.injEq]at b;subst b;have c1:=c.1
   match s,c1 with
   | [r],_ =>
    have:treeOk ns=true:=by
     unfold treeOk kidsOf;rw[a];simp only[Bool.and_eq_true,decide_eq_true_eq,List.all_eq_true];exact⟨⟨hlen,trivial⟩,λn hn=>(hall n hn).2⟩
    rw[this]at h;cases h
theorem stepI_in{n:Nd}{ts:List Tr}(r c:Nat)(hc:n.kids=(c:Int))(hl:ts.length=r+c):stepI n ts=(match grow n (ts.drop r)with|none=>none|some t=>if 20<tall t then none else some (ts.take r++[t])):=by
 unfold stepI;rw[if_neg (by omega)];have:ts.length-n.kids.toNat=r:=by omega
 rw[this]
end Go.Proofs.YthboopnmbglkjaaGreat.P
