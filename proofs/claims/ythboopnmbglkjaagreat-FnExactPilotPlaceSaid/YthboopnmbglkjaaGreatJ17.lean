import Derived.Test.YthboopnmbglkjaaGreatJ16
import Derived.WalkSmall
set_option maxHeartbeats 8000000
set_option maxRecDepth 100000
namespace Go.Proofs.YthboopnmbglkjaaGreat
open Go.RowKit Tryz
def nOk:P.Tr->Prop
 |.nil=>True
 |.node b _ p l r=>b≠0/\(b=1->P.nameOk p.1=true)/\(b=2->P.nameOk p.1=true/\P.nameOk p.2=true)/\nOk l/\nOk r
theorem zN{n:BA}(h:P.nameOk n=true):nOk (P.nmT n):=⟨(by omega),λ_=>h,(λe=>by omega),trivial,trivial⟩
theorem zE{n v:BA}(h:P.nameOk n=true)(h':P.nameOk v=true):nOk (P.vlT n v):=⟨(by omega),(λe=>by omega),λ_=>⟨h,h'⟩,trivial,trivial⟩
theorem yV{k:P.Tr}(h:nOk k):nOk (P.ntT k):=⟨(by omega),(λe=>by omega),(λe=>by omega),h,trivial⟩
theorem AE{a b:P.Tr}(h:nOk a)(h':nOk b):nOk (P.anT a b):=⟨(by omega),(λe=>by omega),(λe=>by omega),h,h'⟩
theorem yX{a b:P.Tr}(h:nOk a)(h':nOk b):nOk (P.orT a b):=⟨(by omega),(λe=>by omega),(λe=>by omega),h,h'⟩
theorem Wj{l:List UInt8}(h:P.nmB l=true):Fi l=true:=by
 unfold P.nmB at h;simp only[Bool.and_eq_true,decide_eq_true_eq]at h;exact Qz (λe=>by rw[e]at h;simp at h) (List.all_eq_true.1 h.2)
def Rd2(l:List (List UInt8))(y:P.Tr)(r:List (List UInt8)):Prop:=nOk y/\∃pre,l=pre++r/\pre.all Fi=true
theorem Xc{s:UInt8}{l r:List (List UInt8)}(h:P.tk s l=some r)(hs:Fi [s]=true):∃pre,l=pre++r/\pre.all Fi=true:=⟨[[s]],by rw[P.tk_some h];rfl,by simp[hs]⟩
theorem Ey{l r q:List (List UInt8)}(h:∃pre,l=pre++r/\pre.all Fi=true)(h':∃pre,r=pre++q/\pre.all Fi=true):∃pre,l=pre++q/\pre.all Fi=true:=by
 obtain⟨a,rfl,h1⟩:=h;obtain⟨b,rfl,h2⟩:=h';exact⟨a++b,by simp,by rw[List.all_append,h1,h2];rfl⟩
theorem uQ{l r:List (List UInt8)}{y:P.Tr}(h:P.markT l=some (y,r)):Rd2 l y r:=by
 unfold P.markT at h
 split at h
 .cases h
 next n q hn =>
 obtain⟨e1,e2⟩:=P.nm_some hn
 split at h
 .injection h with h;injection h with h1 h2;subst h1 h2
  exact⟨zN ((P.nmB_eq n).trans e2),[n],by rw[e1];rfl,by simp[Wj e2]⟩
 next q' hq =>
 split at h
 .cases h
 next v r' hv =>
 obtain⟨e3,e4⟩:=P.nm_some hv;injection h with h;injection h with h1 h2;subst h1 h2;refine⟨zE ((P.nmB_eq n).trans e2) ((P.nmB_eq v).trans e4),[n,[61],v],?_,?_⟩
 .rw[e1,P.tk_some hq,e3];rfl
 simp[Wj e2,Wj e4];decide
theorem Gw:∀(f m:Nat)(x:P.Tr)(l:List (List UInt8))(y:P.Tr)(r:List (List UInt8)),(2<m->nOk x)->P.rd f m x l=some (y,r)->Rd2 l y r
 |0,m,x,l,y,r,_,h=>by cases m<;>cases h
 | f+1,0,x,l,y,r,_,h=>by
  unfold P.rd at h
  split at h
  .next q hq =>
   split at h
   .cases h
   next z r' hz =>
   injection h with h;injection h with h1 h2;subst h1 h2;obtain⟨a1,a3⟩:=Gw f 0 _ _ _ _ (λh=>by omega) hz;exact⟨yV a1,Ey (Xc hq (by decide)) a3⟩
  split at h
  .next q hq =>
   split at h
   .cases h
   next z r' hz =>
   split at h
   .cases h
   next r'' hr =>
   injection h with h;injection h with h1 h2;subst h1 h2;obtain⟨a1,a3⟩:=Gw f 2 _ _ _ _ (λh=>by omega) hz;exact⟨a1,Ey (Xc hq (by decide)) (Ey a3 (Xc hr (by decide)))⟩
  exact uQ h
 |f+1,1,x,l,y,r,_,h=>by
  unfold P.rd at h
  split at h
  .cases h
  next z q hz =>
  obtain⟨a1,a3⟩:=Gw f 0 _ _ _ _ (λh=>by omega) hz;obtain⟨b1,b3⟩:=Gw f 3 _ _ _ _ (λ_=>a1) h;exact⟨b1,Ey a3 b3⟩
 |f+1,2,x,l,y,r,_,h=>by
  unfold P.rd at h
  split at h
  .cases h
  next z q hz =>
  obtain⟨a1,a3⟩:=Gw f 1 _ _ _ _ (λh=>by omega) hz;obtain⟨b1,b3⟩:=Gw f 4 _ _ _ _ (λ_=>a1) h;exact⟨b1,Ey a3 b3⟩
 | f+1,3,x,l,y,r,hx,h=>by
  have x1:=hx (by omega);unfold P.rd at h
  split at h
  .injection h with h;injection h with h1 h2;subst h1 h2
   exact⟨x1,[],rfl,rfl⟩
  next q hq =>
  split at h
  .cases h
  next z r' hz =>
  obtain⟨a1,a3⟩:=Gw f 0 _ _ _ _ (λh=>by omega) hz;obtain⟨b1,b3⟩:=Gw f 3 _ _ _ _ (λ_=>AE x1 a1) h;exact⟨b1,Ey (Xc hq (by decide)) (Ey a3 b3)⟩
 | f+1,m+4,x,l,y,r,hx,h=>by
  have x1:=hx (by omega);unfold P.rd at h
  split at h
  .injection h with h;injection h with h1 h2;subst h1 h2
   exact⟨x1,[],rfl,rfl⟩
  next q hq =>
  split at h
  .cases h
  next z r' hz =>
  obtain⟨a1,a3⟩:=Gw f 1 _ _ _ _ (λh=>by omega) hz;obtain⟨b1,b3⟩:=Gw f 4 _ _ _ _ (λ_=>yX x1 a1) h;exact⟨b1,Ey (Xc hq (by decide)) (Ey a3 b3)⟩
theorem Ko{n:P.Nd}{ts ks:List P.Tr}(hc:n.kids=(ks.length:Int)):P.stepI n (ts++ks)=(match P.grow n ks with|none=>none|some t=>if 20<P.tall t then none else some (ts++[t])):=by
 rw[P.stepI_in ts.length ks.length hc (by simp)];simp;rfl
theorem vH{n:BA}(h:P.nameOk n=true):P.grow ⟨1,n,⟨#[]⟩,0⟩ []=some (P.nmT n):=by
 unfold P.grow;rw[if_pos ⟨rfl,rfl,h,rfl⟩]
theorem vL{n v:BA}(h:P.nameOk n=true)(h':P.nameOk v=true):P.grow ⟨2,n,v,0⟩ []=some (P.vlT n v):=by
 unfold P.grow;rw[if_neg (λe=>by cases e.1),if_pos ⟨rfl,rfl,h,h'⟩]
theorem vG(k:P.Tr):P.grow ⟨3,⟨#[]⟩,⟨#[]⟩,1⟩ [k]=some (P.ntT k):=by simp[P.grow,ByteArray.size]
theorem xR(a b:P.Tr):P.grow ⟨4,⟨#[]⟩,⟨#[]⟩,2⟩ ([a]++[b])=some (P.anT a b):=by simp[P.grow,ByteArray.size]
theorem yE(a b:P.Tr):P.grow ⟨5,⟨#[]⟩,⟨#[]⟩,2⟩ ([a]++[b])=some (P.orT a b):=by simp[P.grow,ByteArray.size]
theorem qB(y:P.Tr)(hw:P.wf y):nOk y->∀(rest:List P.Nd)(ts:List P.Tr),P.runI (post y++rest) ts=if P.tall y<=20 then P.runI rest (ts++[y])else none:=by
 refine P.wf_ind (p:=λy=>nOk y->∀(rest:List P.Nd)(ts:List P.Tr),P.runI (post y++rest) ts=if P.tall y<=20 then P.runI rest (ts++[y])else none) ?_ ?_ ?_ ?_ ?_ ?_ y hw
 .intro h;exact absurd rfl h.1
 .intro n hn rest ts
  have h1:=hn.2.1 rfl;rw[lR,P.tall_nm,if_pos (by omega)];show(match P.stepI _ ts with|none=>none|some ts'=>P.runI rest ts')=_
  have:=Ko (n:=⟨1,n,⟨#[]⟩,0⟩) (ts:=ts) (ks:=[]) rfl;rw[List.append_nil]at this;rw[this];rw[vH h1];simp[P.tall_nm]
 .intro n v hn rest ts
  obtain⟨h1,h2⟩:=hn.2.2.1 rfl;rw[mK,P.tall_vl,if_pos (by omega)];show(match P.stepI _ ts with|none=>none|some ts'=>P.runI rest ts')=_
  have:=Ko (n:=⟨2,n,v,0⟩) (ts:=ts) (ks:=[]) rfl;rw[List.append_nil]at this;rw[this];rw[vL h1 h2];simp[P.tall_vl]
 .intro k _ ih hn rest ts
  obtain⟨_,_,_,nk,_⟩:=hn;rw[Pf,List.append_assoc,ih nk];by_cases h1:P.tall k<=20
  .rw[if_pos h1]
   show(match P.stepI _ (ts++[k])with|none=>none|some ts'=>P.runI rest ts')=_
   rw[Ko (n:=⟨3,⟨#[]⟩,⟨#[]⟩,1⟩) (ts:=ts) (ks:=[k]) rfl];simp only[vG];by_cases h3:20<P.tall (P.ntT k)
   .rw[if_pos h3,if_neg (by omega)]
   rw[if_neg h3,if_pos (by omega)]
  rw[if_neg h1,if_neg (by rw[P.tall_nt];omega)]
 .intro a b _ _ iha ihb hn rest ts
  obtain⟨_,_,_,na,nb⟩:=hn;rw[Pk,List.append_assoc,List.append_assoc,iha na];by_cases h1:P.tall a<=20
  .rw[if_pos h1,ihb nb]
   by_cases h2:P.tall b<=20
   .rw[if_pos h2]
    show(match P.stepI _ ((ts++[a])++[b])with|none=>none|some ts'=>P.runI rest ts')=_
    rw[List.append_assoc,Ko (n:=⟨4,⟨#[]⟩,⟨#[]⟩,2⟩) (ts:=ts) (ks:=[a]++[b]) rfl];simp only[xR];by_cases h3:20<P.tall (P.anT a b)
    .rw[if_pos h3,if_neg (by omega)]
    rw[if_neg h3,if_pos (by omega)]
   rw[if_neg h2,if_neg (by rw[P.tall_an];omega)]
  rw[if_neg h1,if_neg (by rw[P.tall_an];omega)]
 intro a b _ _ iha ihb hn rest ts;obtain⟨_,_,_,na,nb⟩:=hn;rw[Qi,List.append_assoc,List.append_assoc,iha na];by_cases h1:P.tall a<=20
 .rw[if_pos h1,ihb nb]
  by_cases h2:P.tall b<=20
  .rw[if_pos h2]
   show(match P.stepI _ ((ts++[a])++[b])with|none=>none|some ts'=>P.runI rest ts')=_
   rw[List.append_assoc,Ko (n:=⟨5,⟨#[]⟩,⟨#[]⟩,2⟩) (ts:=ts) (ks:=[a]++[b]) rfl];simp only[yE];by_cases h3:20<P.tall (P.orT a b)
   .rw[if_pos h3,if_neg (by omega)]
   rw[if_neg h3,if_pos (by omega)]
  rw[if_neg h2,if_neg (by rw[P.tall_or];omega)]
 rw[if_neg h1,if_neg (by rw[P.tall_or];omega)]
theorem qW{y:P.Tr}(hw:P.wf y)(h:nOk y):P.lone (post y)=false:=by
 rcases P.wf_cases hw with rfl|⟨n,rfl⟩|⟨n,v,rfl⟩|⟨k,_,rfl⟩|⟨a,b,_,_,rfl⟩|⟨a,b,_,_,rfl⟩
 .exact absurd rfl h.1
 .rfl
 .rfl
 .rw[Pf]
  cases post k with
  |nil=>rfl
  |cons x r=>cases r<;>rfl
 .rw[Pk]
  cases post a++post b with
  |nil=>rfl
  |cons x r=>cases r<;>rfl
 rw[Qi]
 cases post a++post b with
 |nil=>rfl
 |cons x r=>cases r<;>rfl
theorem Oi{y:P.Tr}(hw:P.wf y)(h:nOk y):P.treeI (post y)=if P.tall y<=20 then some y else none:=by
 unfold P.treeI;rw[if_neg (by rw[qW hw h];exact Bool.false_ne_true)];have:=qB y hw h [] [];rw[List.append_nil]at this;rw[this];by_cases h20:P.tall y<=20
 .rw[if_pos h20,if_pos h20];rfl
 rw[if_neg h20,if_neg h20]
theorem Qj(y:P.Tr)(hw:P.wf y):(post y).length=P.count y:=by
 refine P.wf_ind (p:=λy=>(post y).length=P.count y) ?_ ?_ ?_ ?_ ?_ ?_ y hw
 .rfl
 .intro n;rfl
 .intro n v;rfl
 .intro k _ ih;rw[Pf,P.count_nt];simp;omega
 .intro a b _ _ ia ib;rw[Pk,P.count_an];simp;omega
 intro a b _ _ ia ib;rw[Qi,P.count_or];simp;omega
theorem Wy(y:P.Tr)(hw:P.wf y):nOk y->∀n∈post y,n.name.size<=20/\n.value.size<=20:=by
 refine P.wf_ind (p:=λy=>nOk y->∀n∈post y,n.name.size<=20/\n.value.size<=20) ?_ ?_ ?_ ?_ ?_ ?_ y hw
 .intro h;exact absurd rfl h.1
 .intro n hn m hm
  rw[lR]at hm;simp at hm;subst hm;exact⟨(P.nameOk_pos (hn.2.1 rfl)).2,by show(0:Nat)<=20;omega⟩
 .intro n v hn m hm
  rw[mK]at hm;simp at hm;subst hm;obtain⟨h1,h2⟩:=hn.2.2.1 rfl;exact⟨(P.nameOk_pos h1).2,(P.nameOk_pos h2).2⟩
 .intro k _ ih hn m hm
  rw[Pf]at hm;rcases List.mem_append.1 hm with hm|hm
  .exact ih hn.2.2.2.1 m hm
  simp at hm;subst hm;exact⟨by show(0:Nat)<=20;omega,by show(0:Nat)<=20;omega⟩
 .intro a b _ _ ia ib hn m hm
  rw[Pk]at hm;rcases List.mem_append.1 hm with hm|hm
  .rcases List.mem_append.1 hm with hm|hm
   .exact ia hn.2.2.2.1 m hm
   exact ib hn.2.2.2.2 m hm
  simp at hm;subst hm;exact⟨by show(0:Nat)<=20;omega,by show(0:Nat)<=20;omega⟩
 intro a b _ _ ia ib hn m hm;rw[Qi]at hm;rcases List.mem_append.1 hm with hm|hm
 .rcases List.mem_append.1 hm with hm|hm
  .exact ia hn.2.2.2.1 m hm
  exact ib hn.2.2.2.2 m hm
 simp at hm;subst hm;exact⟨by show(0:Nat)<=20;omega,by show(0:Nat)<=20;omega⟩
end Go.Proofs.YthboopnmbglkjaaGreat
namespace Go.Proofs.YthboopnmbglkjaaGreat.P
open Tryz
theorem same_tree2{ns:List Nd}(h:treeOk ns=true):∃out r t,kidsOf ns=some (out,[r])/\out.length=ns.length/\r+1=ns.length/\IsT ns out r t /\
  (tall t<=20->treeI ns=some t)/\(20<tall t->treeI ns=none)/\(t=nonT\/lG t)/\count t<=ns.length:=by
 obtain⟨out,r,t,e1,e2,e3,e4,e5,e6⟩:=qN h;by_cases hl:lone ns=true
 .obtain⟨n,rfl,k0,k1,k2,k3⟩:=Oq hl
  have hkk:kidsOf [n]=some ([[]],[0]):=by simp[kidsOf,runK,stepK,k1]
  rw[hkk]at e1;simp only[Option.some.injEq,Prod.mk.injEq,List.cons.injEq,and_true]at e1;obtain⟨rfl,rfl⟩:=e1;refine⟨[[]],0,nonT,hkk,rfl,rfl,aZ rfl k0 rfl,?_,?_,.inl rfl,Nat.le_refl _⟩
  .intro _;simp[treeI,hl]
  intro hh;simp[gT]at hh
 simp only[treeOk,Bool.and_eq_true,decide_eq_true_eq,List.all_eq_true]at h;obtain⟨⟨h1,h2⟩,h3⟩:=h;have hall:∀n∈ns,n.kind≠0/\nodeOk ns.length n=true:=by
  intro n hn;refine⟨λe=>?_,h3 n hn⟩;have hk:=h3 n hn;simp only[nodeOk,e,arity,Bool.and_eq_true]at hk;simp at hk;obtain⟨⟨⟨k1,k2⟩,k3⟩,k4⟩:=hk;have hlen:ns.length=1:=by
   have:=List.length_pos_of_mem hn;omega
  match ns,hlen with
  |[m],_ =>
   simp at hn;subst hn;exact hl (by simp[lone,e,k1,k3,k4])
 rcases sim ns hall ns 0 [] [] [] rfl rfl ⟨rfl,λj a t h=>by simp at h⟩with⟨ha,_⟩|⟨o,s,ts,a,b,c,d⟩
 .rw[show runK ns 0 [] []=kidsOf ns from rfl,e1]at ha;cases ha
 rw[show runK ns 0 [] []=kidsOf ns from rfl,e1]at a;simp only[Option.some.injEq,Prod.mk.injEq]at a;obtain⟨rfl,rfl⟩:=a;obtain⟨c1,c2⟩:=c
 match ts,c1 with
 | [u],_ =>
  obtain⟨_,f2,f3,_⟩:=Kx ns [] [u] b;simp at f2;refine⟨out,r,u,e1,e2,e3,(c2 0 r u rfl rfl).1,?_,?_,.inr (f3 (by intro x hx;cases hx) u (by simp)),by omega⟩
  .intro ht
   have:=Rv ns [] [u] b (by intro x hx;simp at hx;subst hx;exact ht);simp[treeI,hl,this]
  intro ht;unfold treeI;rw[if_neg hl]
  cases hi:runI ns []with
  |none=>rfl
  |some us =>
   obtain⟨q1,q2⟩:=Np ns [] us hi;rw[b]at q1;simp only[Option.some.injEq]at q1;subst q1;have:=q2 (by intro x hx;cases hx) u (by simp);omega
theorem tall_le_count:∀(t:Tr),tall t<=count t
 |.nil=>Nat.le_refl _
 |.node b _ _ l r=>by
  have h1:=tall_le_count l;have h2:=tall_le_count r;unfold tall count
  split
  .omega
  split
  .omega
  omega
end Go.Proofs.YthboopnmbglkjaaGreat.P
namespace Go.Proofs.YthboopnmbglkjaaGreat
open Go.RowKit Tryz
def gO(ns:List P.Nd):Prop:=ns.length<=1048576/\∀n∈ns,n.name.size<=1048576/\n.value.size<=1048576
def Nodes0(w:World)(g:Nat)(ns:List P.Nd):Prop :=
 g<w.heap.size/\∀(j:Nat)(n:P.Nd),ns[j]?=some n->w.cell? (E g (j*4))=some (X n.kind)/\w.cell? (E g (j*4+1))=some (Y n.name)/\w.cell? (E g (j*4+2))=some (Y n.value)/\w.cell? (E g (j*4+3))=some (X n.kids)
theorem Nodes0.below{w wr:World}{g:Nat}{ns:List P.Nd}{B:Nat}(h:Nodes0 w g ns)(hb:Below B w wr)(hB:g<B):Nodes0 wr g ns:=by
 refine⟨lL h.1 hb.size,?_⟩;intro j n hj;obtain⟨q0,q1,q2,q3⟩:=h.2 j n hj;exact⟨(hb.cell (p:=⟨g,_,none⟩) hB).trans q0,(hb.cell (p:=⟨g,_,none⟩) hB).trans q1,(hb.cell (p:=⟨g,_,none⟩) hB).trans q2,(hb.cell (p:=⟨g,_,none⟩) hB).trans q3⟩
theorem Nodes0.grown{w wr:World}{g:Nat}{ns:List P.Nd}(h:Nodes0 w g ns)(hb:bW w wr):Nodes0 wr g ns:=h.below hb h.1
theorem Nodes0.setCell{w:World}{g:Nat}{ns:List P.Nd}(h:Nodes0 w g ns){a:Addr}(ha:g≠a.block)(v:Value):Nodes0 (w.setCell a v) g ns:=by
 have hb:(w.setCell a v).heap[g]?=w.heap[g]?:=Below.heap_setCell w a v g ha;have key:∀o,(w.setCell a v).cell? (E g o)=w.cell? (E g o):=λo=>World.cell?_of_block (w:=w) (a:=(E g o)) hb
 refine⟨by simpa[World.setCell]using h.1,?_⟩;intro j n hj;obtain⟨q0,q1,q2,q3⟩:=h.2 j n hj;exact⟨(key _).trans q0,(key _).trans q1,(key _).trans q2,(key _).trans q3⟩
theorem Yi(w:World)(x:Value)(T:TypeId):∀j u,[x][j]?=some u->(w.alloc (.cells #[x] T)).cell? (((E w.heap.size 0):Addr).add j)=some u:=by
 intro j u hj
 match j,hj with
 |0,hj=>simp at hj;subst hj;simp[Addr.add]
theorem fF{w:World}{base:Nat}{e:TypeId}{g n cap:Nat}{xs:List Value}(h:w.ownsRow base e 1 (sP g 0 n cap) n xs)(r:Nat)(hr:r<=n) :
  w.ownsRow base e 1 (sP g 0 r cap) r (xs.take r):=by
 have hl:=h.1;refine⟨by rw[List.length_take];omega,?_⟩;rcases h.2 with⟨h',_⟩|⟨g',cap',cur,h1,h2,h3,h4,h5,h6,h7⟩
 .simp at h'
 simp only[Value.slice.injEq,Option.some.injEq,Addr.mk.injEq,and_true,true_and]at h1;obtain⟨rfl,rfl⟩:=h1;refine .inr ⟨g,cap,cur,rfl,h2,h3,by omega,h5,h6,?_⟩;rw[<-h7,List.take_take]
 congr 1
 omega
theorem qJ{w:World}{B n:Nat}{e:TypeId}{v:Value}{xs:List Value}(h:w.ownsRow B e 1 v n xs):∃a cap,v=.slice a n cap:=by
 rcases h.2 with⟨rfl,rfl⟩|⟨g,cap,cur,rfl,_⟩
 .exact⟨_,_,rfl⟩
 exact⟨_,_,rfl⟩
def KidsIn(w:World)(go:Nat)(out:List (List Nat)):Prop :=
 go<w.heap.size/\∀(j:Nat)(ks:List Nat),out[j]?=some ks->∃a c,w.cell? (E go j)=some (.slice a ks.length c) /\
  (ks=[]\/∃g,a=(O g 0)/\g<w.heap.size/\∀i v,ks[i]?=some v->w.cell? (E g i)=some (X ((v:Nat):Int)))
theorem KidsIn.grown{w w':World}{go:Nat}{out:List (List Nat)}(h:KidsIn w go out)(hb:bW w w'):KidsIn w' go out:=by
 refine⟨lL h.1 hb.size,?_⟩;intro j ks hj;obtain⟨a,c,h1,h2⟩:=h.2 j ks hj;refine⟨a,c,(hb.cell (p:=(E go j)) h.1).trans h1,?_⟩;rcases h2 with h2|⟨g,e,hg,h2⟩
 .exact .inl h2
 exact .inr ⟨g,e,lL hg hb.size,λi v hi=>(hb.cell (p:=(E g i)) hg).trans (h2 i v hi)⟩
theorem Wm{w:World}{go k:Nat}{out:List (List Nat)}(h:KidsIn w go out)(hk:out[k]?=some []):∃a c,w.cell? (E go k)=some (.slice a 0 c):=by
 obtain⟨a,c,h1,_⟩:=h.2 k [] hk;exact⟨a,c,h1⟩
theorem dU{w:World}{go k a:Nat}{out:List (List Nat)}(h:KidsIn w go out)(hk:out[k]?=some [a]):∃g c,w.cell? (E go k)=some (sP g 0 1 c)/\w.cell? (E g 0)=some (X (a:Int)):=by
 obtain⟨x,c,h1,h2⟩:=h.2 k [a] hk;rcases h2 with h2|⟨g,rfl,_,h2⟩
 .cases h2
 exact⟨g,c,h1,h2 0 a rfl⟩
theorem Qd{w:World}{go k a b:Nat}{out:List (List Nat)}(h:KidsIn w go out)(hk:out[k]?=some [a,b]):∃g c,w.cell? (E go k)=some (sP g 0 2 c)/\w.cell? (E g 0)=some (X (a:Int))/\w.cell? (E g 1)=some (X (b:Int)):=by
 obtain⟨x,c,h1,h2⟩:=h.2 k [a,b] hk;rcases h2 with h2|⟨g,rfl,_,h2⟩
 .cases h2
 exact⟨g,c,h1,h2 0 a rfl,h2 1 b rfl⟩
theorem Kv{out:List (List Nat)}{k n:Nat}{l:List Nat}(hl:out.length=n)(h:out[k]?=some l):k<n:=by
 have:=P.getElem?_lt h;omega
theorem uN(ns:List P.Nd)(out:List (List Nat))(n co go:Nat)(hol:out.length=n):∀(t:P.Tr)(k:Nat),P.IsT ns out k t->P.count t<=400->∀(w:World),KidsIn w go out ->
  Calls prog 173 #[sP go 0 n co,X (k:Int)] w λe w'=>e=.returned (X (P.tall t:Int))/\w'=w:=by
 intro t0 k0 h0;refine P.isT_ind (ns:=ns) (out:=out) (p:=λk t=>P.count t<=400->∀(w:World),KidsIn w go out->Calls prog 173 #[sP go 0 n co,X (k:Int)] w λe w'=>e=.returned (X (P.tall t:Int))/\w'=w) ?_ ?_ ?_ ?_ ?_ ?_ t0 k0 h0
 .intro k nd hnd hk hout hct w hK
  obtain⟨a,c,c0⟩:=Wm hK hout;have hkl:=Kv hol hout;clear hK hout;go_enter func173,ntmps173;go_wp2_with fail;refine wp_loop_rounds 1 ?_;rw[rounds_succ]
  go_wp2
  go_ret;exact⟨rfl,rfl⟩
 .intro k nd hnd hk hout hct w hK
  obtain⟨a,c,c0⟩:=Wm hK hout;have hkl:=Kv hol hout;clear hK hout;go_enter func173,ntmps173;go_wp2_with fail;refine wp_loop_rounds 1 ?_;rw[rounds_succ]
  go_wp2
  go_ret;exact⟨rfl,rfl⟩
 .intro k nd hnd hk hout hct w hK
  obtain⟨a,c,c0⟩:=Wm hK hout;have hkl:=Kv hol hout;clear hK hout;go_enter func173,ntmps173;go_wp2_with fail;refine wp_loop_rounds 1 ?_;rw[rounds_succ]
  go_wp2
  go_ret;exact⟨rfl,rfl⟩
 .intro k nd a t hnd hk hout hak hT ih hct w hK
  rw[P.count_nt]at hct;obtain⟨g,c,c0,c1⟩:=dU hK hout;have hkl:=Kv hol hout;have htl:P.tall t<=400:=lT (P.tall_le_count t) (by omega);have IH:Hid (∀(w:World),KidsIn w go out->Calls prog 173 #[sP go 0 n co,X (a:Int)] w λe w'=>e=.returned (X (P.tall t:Int))/\w'=w):=ih (by omega);have HK:=iH hK;rw[P.tall_nt];clear ih hK hout hnd hk;go_enter func173,ntmps173;go_wp2_with fail;refine wp_loop_rounds 2 ?_;rw[rounds_succ];go_wp2_with fail;refine(IH _ HK).mono ?_;rintro e w' ⟨rfl,rfl⟩;go_wp2_with fail;rw[rounds_succ]
  go_wp2
  go_ret;exact⟨Al (by omega),rfl⟩
 .intro k nd a b t u hnd hk hout hak hbk hT hU iht ihu hct w hK
  rw[P.count_an]at hct;obtain⟨g,c,c0,c1,c2⟩:=Qd hK hout;have hkl:=Kv hol hout;have htl:P.tall t<=400:=lT (P.tall_le_count t) (by omega);have hul:P.tall u<=400:=lT (P.tall_le_count u) (by omega);have IH:Hid (∀(w:World),KidsIn w go out->Calls prog 173 #[sP go 0 n co,X (a:Int)] w λe w'=>e=.returned (X (P.tall t:Int))/\w'=w):=iht (by omega);have IH2:Hid (∀(w:World),KidsIn w go out->Calls prog 173 #[sP go 0 n co,X (b:Int)] w λe w'=>e=.returned (X (P.tall u:Int))/\w'=w):=ihu (by omega);have HK:=iH hK;rw[P.tall_an];clear iht ihu hK hout hnd hk;by_cases hlt:P.tall t<P.tall u
  all_goals
   go_enter func173,ntmps173;go_wp2_with fail;refine wp_loop_rounds 3 ?_;rw[rounds_succ];go_wp2_with fail;refine(IH _ HK).mono ?_;rintro e w' ⟨rfl,rfl⟩;go_wp2_with fail;rw[rounds_succ];go_wp2_with fail;refine(IH2 _ HK).mono ?_;rintro e w' ⟨rfl,rfl⟩;go_wp2_with fail;rw[rounds_succ]
   go_wp2
   go_ret;exact⟨Al (by simp only[Nat.max_def];split<;>omega),rfl⟩
 intro k nd a b t u hnd hk hout hak hbk hT hU iht ihu hct w hK;rw[P.count_or]at hct;obtain⟨g,c,c0,c1,c2⟩:=Qd hK hout;have hkl:=Kv hol hout;have htl:P.tall t<=400:=lT (P.tall_le_count t) (by omega);have hul:P.tall u<=400:=lT (P.tall_le_count u) (by omega);have IH:Hid (∀(w:World),KidsIn w go out->Calls prog 173 #[sP go 0 n co,X (a:Int)] w λe w'=>e=.returned (X (P.tall t:Int))/\w'=w):=iht (by omega);have IH2:Hid (∀(w:World),KidsIn w go out->Calls prog 173 #[sP go 0 n co,X (b:Int)] w λe w'=>e=.returned (X (P.tall u:Int))/\w'=w):=ihu (by omega);have HK:=iH hK;rw[P.tall_or];clear iht ihu hK hout hnd hk;by_cases hlt:P.tall t<P.tall u
 all_goals
  go_enter func173,ntmps173;go_wp2_with fail;refine wp_loop_rounds 3 ?_;rw[rounds_succ];go_wp2_with fail;refine(IH _ HK).mono ?_;rintro e w' ⟨rfl,rfl⟩;go_wp2_with fail;rw[rounds_succ];go_wp2_with fail;refine(IH2 _ HK).mono ?_;rintro e w' ⟨rfl,rfl⟩;go_wp2_with fail;rw[rounds_succ]
  go_wp2
  go_ret;exact⟨Al (by simp only[Nat.max_def];split<;>omega),rfl⟩
theorem eK:(prog.info? 3).map (λi=>(i.zero,i.size,i.bytes))=some (some (X 0),1,8):=by kernel_rfl
theorem pT:(prog.info? 155).map (λi=>(i.zero,i.size,i.bytes))=some (some (.slice none 0 0),1,24):=by kernel_rfl
def Nu(l:List Nat):List Value:=l.map λ(a:Nat)=>X (a:Int)
def zX(w:World)(gs:Nat)(a:OA)(ks:List Nat):Prop :=
 ks=[]\/∃gk cur,a=(O gk 0)/\w.heap[gk]?=some (.cells cur 3 (0,0))/\gk≠gs/\∀(i v:Nat),ks[i]?=some v->cur[i]?=some (X (v:Int))
def Ti(w:World)(gs:Nat)(xs:List Value)(out:List (List Nat)):Prop :=
 xs.length=out.length/\∀(j:Nat)(ks:List Nat),out[j]?=some ks->∃a c,xs[j]?=some (.slice a ks.length c)/\zX w gs a ks
theorem Gp{w:World}{b:Nat}{o:Obj}(h:w.heap[b]?=some o):b<w.heap.size:=(Array.getElem?_eq_some_iff.1 h).1
theorem pK{wr w1 w2 w3:World}{E9 o2 o3:Obj}{B gs gs' go c:Nat}{v1:Value}{xs:List Value}{out:List (List Nat)}{news:List Nat}{cgo:Array Value}{fz:Nat×Nat}(hfam:Ti wr gs xs out)(hg1:(wr.alloc E9).grownBy w1 (some wr.heap.size))(hown1:w1.ownsRow B 3 1 v1 c (Nu news))(hc:news.length=c)(hat1:v1.ownBlock=some wr.heap.size\/v1.ownBlock=some (wr.alloc E9).heap.size)(hg2:(w1.alloc o2).grownBy w2 (some go))(hgo:wr.heap[go]?=some (.cells cgo 155 fz))(hg3:(w2.alloc o3).grownBy w3 (some gs))(hgs:gs<wr.heap.size)(hat3:gs'=gs\/gs'=(w2.alloc o3).heap.size):Ti w3 gs' (xs++[v1]) (out++[news]):=by
 have z0:(wr.alloc E9).heap.size=wr.heap.size+1:=by simp
 have z1:=hg1.size;have z2:=hg2.size;have z3:=hg3.size;have y1:(w1.alloc o2).heap.size=w1.heap.size+1:=by simp
 have y2:(w2.alloc o3).heap.size=w2.heap.size+1:=by simp
 have hgol:=Gp hgo;have old:∀gk x,wr.heap[gk]?=some x->gk≠go->gk≠gs->w3.heap[gk]?=some x:=by
  intro gk x hx n1 n2;have hl:=Gp hx;have e1:w1.heap[gk]?=some x:=by
   rw[hg1.block gk (by omega) (λe=>by have:=Option.some.inj e;omega),Below.heap_alloc wr E9 gk hl];exact hx
  have e2:w2.heap[gk]?=some x:=by
   rw[hg2.block gk (by omega) (λe=>n1 (Option.some.inj e)),Below.heap_alloc w1 o2 gk (by omega)];exact e1
  rw[hg3.block gk (by omega) (λe=>n2 (Option.some.inj e)),Below.heap_alloc w2 o3 gk (by omega)];exact e2
 refine⟨by simp[hfam.1],?_⟩;intro j ks hj;by_cases hjl:j<out.length
 .rw[List.getElem?_append_left hjl]at hj
  obtain⟨a,c',h1,h2⟩:=hfam.2 j ks hj;refine⟨a,c',by rw[List.getElem?_append_left (by rw[hfam.1];exact hjl)];exact h1,?_⟩;rcases h2 with h2|⟨gk,cur,e,hh,hne,hv⟩
  .exact .inl h2
  have hkl:=Gp hh;refine .inr ⟨gk,cur,e,old gk _ hh ?_ hne,?_,hv⟩
  .intro e'
   rw[e']at hh;rw[hgo]at hh;simp at hh
  rcases hat3 with h|h<;>omega
 have hje:j=out.length:=by have:=P.getElem?_lt hj;simp at this;omega
 subst hje;rw[List.getElem?_append_right nL]at hj;simp at hj;subst hj;obtain⟨a1,c1,hv1⟩:∃a c',v1=.slice a news.length c':=by
  rcases hown1.2 with⟨h,hz⟩|⟨gg,cap,cur,h,_⟩
  .exact⟨none,0,by rw[h];rw[hc,hz]⟩
  exact⟨_,_,by rw[h,hc]⟩
 refine⟨a1,c1,?_,?_⟩
 .rw[<-hfam.1,List.getElem?_append_right nL];simp[hv1]
 rcases hown1.2 with⟨h,hz⟩|⟨gg,cap,cur,h,hB,hh,_,_,_,htake⟩
 .exact .inl (List.eq_nil_of_length_eq_zero (by omega))
 rw[hv1]at h;simp only[Value.slice.injEq]at h;obtain⟨rfl,_,rfl⟩:=h;have hgg:gg=wr.heap.size\/gg=wr.heap.size+1:=by
  rw[hv1]at hat1;simp only[Value.ownBlock,Option.some.injEq,z0]at hat1;exact hat1
 have hl1:=Gp hh;have e2:w2.heap[gg]?=some (.cells cur 3 (0,0)):=by
  rw[hg2.block gg (by omega) (λe=>by have:=Option.some.inj e;omega),Below.heap_alloc w1 o2 gg hl1];exact hh
 have e3:w3.heap[gg]?=some (.cells cur 3 (0,0)):=by
  rw[hg3.block gg (by omega) (λe=>by have:=Option.some.inj e;omega),Below.heap_alloc w2 o3 gg (by omega)];exact e2
 refine .inr ⟨gg,cur,rfl,e3,by omega,?_⟩;intro i v hi;have hil:=P.getElem?_lt hi;have:=congrArg (λl=>l[i]?) htake;simp only[Nu,List.getElem?_map,hi,Option.map_some]at this;rw[List.getElem?_take_of_lt (by omega)]at this;simpa using this
theorem Yq{w:World}{gs go B n co:Nat}{xs:List Value}{out:List (List Nat)}(hfam:Ti w gs xs out)(hown:w.ownsRow B 155 1 (sP go 0 n co) n xs):KidsIn w go out:=by
 refine⟨(hown.lt go rfl).2,?_⟩;intro j ks hj;obtain⟨a,c,h1,h2⟩:=hfam.2 j ks hj;have hjl:=P.getElem?_lt h1;have hxl:xs.length=n*1:=hown.1;refine⟨a,c,(hown.cellAt j (by omega)).trans h1,?_⟩;rcases h2 with h2|⟨gk,cur,e,hh,_,hv⟩
 .exact .inl h2
 refine .inr ⟨gk,e,Gp hh,?_⟩;intro i v hi;rw[cell_of_row w gk i cur _ _ hh];exact hv i v hi
theorem Me:∀(a b:List P.Nd)(i:Nat)(out:List (List Nat))(st:List Nat),P.runK (a++b) i out st=(P.runK a i out st).bind λp=>P.runK b (i+a.length) p.1 p.2
 |[],b,i,out,st=>rfl
 | n::a,b,i,out,st=>by
  rw[List.cons_append,P.runK,P.runK]
  cases P.stepK i n.kids st with
  |none=>rfl
  |some p =>
   obtain⟨ks,st'⟩:=p;simp only;rw[Me a b (i+1) (out++[ks]) st',show i+1+a.length=i+(n::a).length by simp only[List.length_cons];omega]
theorem Zq{ns:List P.Nd}{k:Nat}{n:P.Nd}{out:List (List Nat)}{st:List Nat}(h:P.runK (ns.take k) 0 [] []=some (out,st))(hn:ns[k]?=some n) :
  P.runK (ns.take (k+1)) 0 [] []=(match P.stepK k n.kids st with|none=>none|some (ks,st')=>some (out++[ks],st')):=by
 have hl:=P.getElem?_lt hn;have e:ns.take (k+1)=ns.take k++[n]:=by rw[List.take_add_one,hn];rfl
 have e2:0+(ns.take k).length=k:=by simp;omega
 rw[e,Me,h];simp only[Option.bind_some,e2];unfold P.runK
 cases P.stepK k n.kids st with
 |none=>rfl
 |some p=>rfl
theorem Ta{ns:List P.Nd}{k:Nat}{n:P.Nd}{out:List (List Nat)}{st:List Nat}(h:P.runK (ns.take k) 0 [] []=some (out,st))(hn:ns[k]?=some n)(hs:P.stepK k n.kids st=none):P.kidsOf ns=none:=by
 have e:ns=ns.take (k+1)++ns.drop (k+1):=(List.take_append_drop _ _).symm;unfold P.kidsOf;rw[e,Me,Zq h hn,hs];rfl
theorem yC{l:List Nat}{c:Nat}(h:l.length=c)(h0:c=0)(ad:Addr)(w:World):∀j u,(Nu l)[j]?=some u->w.cell? (ad.add j)=some u:=by
 intro j u hj;have:=P.getElem?_lt hj;simp[Nu]at this;omega
theorem nZ(a:OA)(n c:Nat):∀u∈[Value.slice a n c],u.oneCell'=true:=by
 intro u hu;simp at hu;subst hu;rfl
theorem xS(k:Int):∀u∈[X k],u.oneCell'=true:=by
 intro u hu;simp at hu;subst hu;rfl
theorem fV{w:World}{B n:Nat}{e:TypeId}{v:Value}{xs:List Value}(h:w.ownsRow B e 1 v n xs)(hn:0<n):∃g cap,v=sP g 0 n cap:=by
 rcases h.2 with⟨rfl,rfl⟩|⟨g,cap,cur,rfl,_⟩
 .omega
 exact⟨_,_,rfl⟩
theorem Yo{w:World}{B n gs cs go:Nat}{xs:List Value}{cgo:Array Value}{fz:Nat×Nat}(h:w.ownsRow B 3 1 (sP gs 0 n cs) n xs)(hgo:w.heap[go]?=some (.cells cgo 155 fz)):gs≠go:=by
 intro e;rcases h.2 with⟨h',_⟩|⟨g',_,cur,h',_,hh,_⟩
 .simp at h'
 simp at h';obtain⟨rfl,_⟩:=h';rw[e,hgo]at hh;simp at hh
theorem zK{w:World}{B n go co:Nat}{e:TypeId}{xs:List Value}(h:w.ownsRow B e 1 (sP go 0 n co) n xs):∃cgo,w.heap[go]?=some (.cells cgo e (0,0)):=by
 rcases h.2 with⟨h',_⟩|⟨g',_,cur,h',_,hh,_⟩
 .simp at h'
 simp at h';obtain⟨rfl,_⟩:=h';exact⟨cur,hh⟩
theorem jX{wr w1:World}{B k co m cs go gs:Nat}{xs ys:List Value}{E9:Obj}{row:Option Nat}(hO:wr.ownsRow B 155 1 (sP go 0 k co) k xs)(hS:wr.ownsRow B 3 1 (sP gs 0 m cs) m ys)(hg:(wr.alloc E9).grownBy w1 row)(hr:row=some wr.heap.size:=by rfl):w1.ownsRow B 155 1 (sP go 0 k co) k xs/\w1.ownsRow B 3 1 (sP gs 0 m cs) m ys/\wr.heap.size+1<=w1.heap.size/\B<=w1.heap.size:=by
 subst hr;have h1:=(hO.lt go rfl);have h2:=(hS.lt gs rfl);have hz:=hg.size;simp at hz;refine⟨(hO.alloc E9).kept hg (.inr ?_),(hS.alloc E9).kept hg (.inr ?_),hz,by omega⟩
 .simp only[Value.ownBlock]
  intro e;have:=Option.some.inj e;omega
 simp only[Value.ownBlock];intro e;have:=Option.some.inj e;omega
theorem fR{w1 w2:World}{B m cs go gs:Nat}{ys:List Value}{o:Obj}{row:Option Nat}(hS:w1.ownsRow B 3 1 (sP gs 0 m cs) m ys)(hne:gs≠go)(hg:(w1.alloc o).grownBy w2 row)(hr:row=some go:=by rfl):w2.ownsRow B 3 1 (sP gs 0 m cs) m ys/\w1.heap.size+1<=w2.heap.size:=by
 subst hr;have hz:=hg.size;simp at hz;refine⟨(hS.alloc o).kept hg (.inr ?_),hz⟩;simp only[Value.ownBlock];intro e;exact hne (Option.some.inj e)
def xJ(ns:List P.Nd)(w:World)(e:Ending)(w':World):Prop :=
 bW w w'/\match P.kidsOf ns with
 |none=>∃v,e=.returned (.tuple #[v,.bool false])
 |some (out,st)=>∃go co,e=.returned (.tuple #[sP go 0 ns.length co,.bool (decide (st.length=1))])/\KidsIn w' go out/\out.length=ns.length
theorem Vs(ns:List P.Nd)(g cn:Nat)(w:World)(hN:Nodes0 w g ns)(hlen:ns.length<=400) :
  Calls prog 172 #[.agg #[sP g 0 ns.length cn]] w λe w'=>xJ ns w e w':=by
 obtain⟨i3,hi3,y0,y1,y2⟩:=info_parts eK;obtain⟨i6,hi6,z0,z1,z2⟩:=info_parts pT;have HN:=iH hN;clear hN;go_enter func172,ntmps172;go_wp2_with fail;generalize hW0:w.alloc (.cells #[sP g 0 ns.length cn] 174)=W0;have hz0:W0.heap.size=w.heap.size+1:=by rw[<-hW0];simp
 have hB0:bW w W0:=by rw[<-hW0];exact(Below.refl _ _).alloc nL _
 have hc0:W0.cell? (E w.heap.size 0)=some (sP g 0 ns.length cn):=by rw[<-hW0];simp
 have HN0:Hid (Nodes0 W0 g ns):=HN.out.grown hB0;clear hW0
 go_loopw [4,5,6] (λvo vs i wr=>∃(k m gs cs go co:Nat)(out:List (List Nat))(st:List Nat)(xs:List Value),k<=ns.length/\i=X k/\m<=k/\vo=sP go 0 k co/\vs=sP gs 0 m cs /\
   Hid (P.runK (ns.take k) 0 [] []=some (out,st)/\out.length=k/\st.length=m)/\wr.ownsRow W0.heap.size 155 1 vo k xs/\wr.ownsRow W0.heap.size 3 1 vs m (Nu st)/\Ti wr gs xs out/\bW W0 wr) (λ_ _ i _=>ns.length-(intOf i).toNat)
 case atStart =>
  refine⟨0,0,_,0,_,0,[],[],[],zL,rfl,Nat.le_refl _,rfl,rfl,⟨by rw[List.take_zero];rfl,rfl,rfl⟩,?_,?_,⟨rfl,λj ks h=>by simp at h⟩,?_⟩
  .have h1:=World.ownsRow_made (base:=W0.heap.size) (e:=155) (size:=1) W0 #[] 0 nL (zL) rfl
   have h2:=h1.alloc (.cells #[] 3);rw[hz0]at h2⊢;exact h2
  .have h1:=World.ownsRow_made (base:=W0.heap.size) (e:=3) (size:=1) (W0.alloc (.cells #[] 155)) #[] 0 (by simp) (zL) rfl
   simp only[World.size_alloc,hz0]at h1⊢;exact h1
  exact((Below.refl _ _).alloc nL _).alloc (by simp) _
 obtain⟨k,m,gs,cs,go,co,out,st,xs,hk,rfl,hmk,rfl,rfl,hrun,hown,hsown,hfam,hbel⟩:=hrel;have cx:wr.cell? (E w.heap.size 0)=some (sP g 0 ns.length cn):=(hbel.cell (p:=(E w.heap.size 0)) (by show w.heap.size<W0.heap.size;omega)).trans hc0;have HO:=iH hown;have HSO:=iH hsown;have HF:=iH hfam;have hcs:m<=cs:=by
  rcases hsown.2 with⟨h,_⟩|⟨_,_,_,h,_,_,h4,_⟩
  .simp at h
  simp at h;omega
 clear hown hsown hfam;by_cases hlt:k<ns.length
 .obtain⟨n,hn⟩:=gXe hlt
  obtain⟨_,_,_,r3⟩:=(HN0.out.grown hbel).2 k n hn;have HK:=iH hn;have hml:=hrun.out.2.2;clear hn;rcases(show n.kids<0\/(m:Int)<n.kids\/(0<=n.kids/\n.kids<=m) by omega)with hneg|hpos|⟨hin1,hin2⟩
  .have HE:Hid (P.kidsOf ns=none):=Ta hrun.out.1 HK (by unfold P.stepK;rw[if_pos (.inl hneg)])
   clear hml
   go_wp2
   go_ret2
   refine⟨hB0.trans (hbel.mono (by omega)),?_⟩;rw[HE.out];exact⟨_,rfl⟩
  .have HE:Hid (P.kidsOf ns=none):=Ta hrun.out.1 HK (by unfold P.stepK;rw[if_pos (.inr (by rw[hml];exact hpos))])
   clear hml
   go_wp2
   go_ret2
   refine⟨hB0.trans (hbel.mono (by omega)),?_⟩;rw[HE.out];exact⟨_,rfl⟩
  obtain⟨c,hc⟩:=Int.eq_ofNat_of_zero_le hin1;obtain⟨r,rfl⟩:∃r,m=r+c:=⟨m-c,by omega⟩;have HR:Hid (P.runK (ns.take (k+1)) 0 [] []=some (out++[st.drop r],st.take r++[k])):=by
   show _=_
   rw[Zq hrun.out.1 HK.out];unfold P.stepK;rw[if_neg (by rw[hml];omega)];have:st.length-n.kids.toNat=r:=by omega
   rw[this]
  have hdl:(st.drop r).length=c:=by rw[List.length_drop,hml];omega
  have HDL:=iH hdl;have hgsl:=(HSO.out.lt gs rfl).2;obtain⟨cgo,hgo⟩:∃cgo,wr.heap[go]?=some (.cells cgo 155 (0,0)):=by
   rcases HO.out.2 with⟨h,_⟩|⟨g',_,cur,h,_,hh,_⟩
   .simp at h
   simp at h;obtain⟨rfl,_⟩:=h;exact⟨cur,hh⟩
  have HGO:=iH hgo;have newsA:∀j u,(Nu (st.drop r))[j]?=some u->(wr.alloc (.cells #[] 3)).cell? (((E gs r):Addr).add j)=some u:=by
   intro j u hj;have hjl:=P.getElem?_lt hj;have h:=(HSO.out.alloc (.cells #[] 3)).cellAt (r+j) (by simp[Nu]at hjl;omega);have ea:(((E gs r):Addr).add j)=(E gs (r+j)):=by cases j<;>simp[Addr.add]
   rw[ea,h];simp only[Nu,List.getElem?_map,List.getElem?_drop]at hj⊢;exact hj
  have NA:Hid (∀j u,(Nu (st.drop r))[j]?=some u->(wr.alloc (.cells #[] 3)).cell? (((E gs r):Addr).add j)=some u):=newsA;have ON:Hid (∀u∈Nu (st.drop r),u.oneCell'=true):=by
   intro u hu;simp only[Nu,List.mem_map]at hu;obtain⟨x,_,rfl⟩:=hu;rfl
  have hbs:=hbel.size;rw[hc]at r3;have j0:(0:Int)<=(r:Int):=by omega
  have j1:(r:Int)<=(r:Int)+(c:Int):=by omega
  have j2:(r:Int)+(c:Int)<=(cs:Int):=by omega
  clear hin1 hin2 hc hml hdl newsA hgo;rcases(show ¬c=0\/(c=0/\r=cs)\/(c=0/\¬cs=r) by omega)with c0|⟨c0,hcr⟩|⟨c0,hcr⟩
  all_goals first
   | (have HC0:Hid (c=0):=c0
      clear c0
      try(subst hcr;clear hcs j2))
   | (have HC0:Hid True:=trivial
      have hcr:¬cs=r:=by omega)
  all_goals
   have hgne:gs≠go:=Yo HSO HGO;have hgol:=Gp HGO
   go_wp2_with(first
    |(at_builtin;refine wpList_append_own_at _ rfl (.tmp 33) (.tmp 39) 155 rfl W0.heap.size 3 i3 (X 0) 1 8 underlying155 hi3 y0 y1 y2 rfl (by decide) _ 0 [] rfl (World.ownsRow_made (base:=W0.heap.size) (e:=3) (size:=1) wr #[] 0 hbs (zL) rfl) _ c _ (Nu (st.drop r)) rfl (by simp only[Nu,List.length_map,Nat.mul_one];exact HDL.out) (by first|exact NA.out|exact yC HDL HC0 _ _) ON (by unfold maxLen;omega) (by omega) (by simp;omega) ?_;intro v1 w1 hown1 hg1 _ hat1;simp only[Nat.zero_add,List.nil_append]at hown1;obtain⟨a1,c1,hv1⟩:=qJ hown1;rw[hv1];obtain⟨hO1,hS1,hs1,hz1⟩:=jX HO HSO hg1)
    |(at_builtin;refine wpList_append_own_at _ rfl (.tmp 32) (.tmp 41) 231 rfl W0.heap.size 155 i6 (.slice none 0 0) 1 24 underlying231 hi6 z0 z1 z2 rfl (by decide) _ k xs rfl (hO1.alloc _) (E w1.heap.size 0) 1 1 [.slice a1 c c1] rfl rfl (Yi _ _ _) (nZ _ _ _) (by unfold maxLen;omega) (by omega) (by simp;omega) ?_;intro vo2 w2 hown2 hg2 _ _;obtain⟨go2,co2,hv2⟩:=fV hown2 (by omega);rw[hv2];obtain⟨hS2,hs2⟩:=fR hS1 hgne hg2)
    |(at_builtin;refine wpList_append_own_at _ rfl (.tmp 48) (.tmp 50) 155 rfl W0.heap.size 3 i3 (X 0) 1 8 underlying155 hi3 y0 y1 y2 rfl (by decide) _ r _ rfl ((fF hS2 r (Nat.le_add_right _ _)).alloc _) (E w2.heap.size 0) 1 1 [X (k:Int)] rfl rfl (Yi _ _ _) (xS _) (by unfold maxLen;omega) (by omega) (by simp;omega) ?_;intro vs3 w3 hown3 hg3 _ hat3;obtain⟨gs3,cs3,hv3⟩:=fV hown3 (by omega);rw[hv3]))
   go_roundw
   case rel =>
    have g1:(wr.alloc (.cells #[] 3)).grownBy w1 (some wr.heap.size):=hg1;have t1:v1.ownBlock=some wr.heap.size\/v1.ownBlock=some (wr.alloc (.cells #[] 3)).heap.size:=hat1;have g2:(w1.alloc (.cells #[.slice a1 c c1] 155)).grownBy w2 (some go):=hg2;have g3:(w2.alloc (.cells #[X (k:Int)] 3)).grownBy w3 (some gs):=hg3;have t3:vs3.ownBlock=some gs\/vs3.ownBlock=some (w2.alloc (.cells #[X (k:Int)] 3)).heap.size:=hat3;rw[hv3]at t3;simp only[Value.ownBlock,Option.some.injEq]at t3;have fam:=pK HF g1 hown1 HDL t1 g2 HGO g3 hgsl t3;rw[hv1]at fam;rw[hv2]at hown2;rw[hv3]at hown3;obtain⟨cg2,hcg2⟩:=zK hown2;have hne2:gs≠go2:=Yo hS2 hcg2;have own2:=(hown2.alloc (.cells #[X (k:Int)] 3)).kept g3 (.inr (by simp only[Value.ownBlock];intro e;exact hne2 (Option.some.inj e).symm));have hgo1:=(HO.out.lt go rfl).1;have hgs1:=(HSO.out.lt gs rfl).1;have b1:=(hbel.alloc hbs (.cells #[] 3)).grown g1 (by simp;omega) (λj hj=>by have:=Option.some.inj hj;omega);have b2:=(b1.alloc (by omega) (.cells #[.slice a1 c c1] 155)).grown g2 (by simp;omega) (λj hj=>by have:=Option.some.inj hj;omega);have b3:=(b2.alloc (by omega) (.cells #[X (k:Int)] 3)).grown g3 (by simp;omega) (λj hj=>by have:=Option.some.inj hj;omega);refine⟨k+1,r+1,gs3,cs3,go2,co2,out++[st.drop r],st.take r++[k],xs++[.slice a1 c c1],by omega,by go_num,by omega,rfl,rfl,⟨HR,?_,?_⟩,own2,?_,?_,b3⟩
    .simp[hrun.out.2.1]
    .have:=hrun.out.2.2
     simp;omega
    .have e:Nu (st.take r++[k])=(Nu st).take r++[X (k:Int)]:=by simp[Nu,List.map_take]
     rw[e];exact hown3
    exact fam
   case measure=>simp[intOf];omega
 have hke:k=ns.length:=by omega
 have HE:Hid (P.kidsOf ns=some (out,st)):=by
  have h:=hrun.out.1;rw[hke,List.take_length]at h;exact h
 have HL:Hid (out.length=ns.length/\st.length=m):=⟨by rw[<-hke];exact hrun.out.2.1,hrun.out.2.2⟩;subst hke;by_cases hm1:m=1
 .have j1:((m:Int)==1)=true:=by rw[beq_iff_eq];omega
  have HD:Hid (decide (st.length=1)=true):=by show _=_;rw[HL.out.2];simp[hm1]
  clear hm1
  go_wp2
  go_ret2
  refine⟨hB0.trans (hbel.mono (by omega)),?_⟩;rw[HE.out];refine⟨go,co,?_,Yq HF HO,HL.out.1⟩;rw[HD.out];rfl
 have j1:((m:Int)==1)=false:=by rw[beq_eq_false_iff_ne];omega
 have HD:Hid (decide (st.length=1)=false):=by show _=_;rw[HL.out.2];simp[hm1]
 clear hm1
 go_wp2
 go_ret2
 refine⟨hB0.trans (hbel.mono (by omega)),?_⟩;rw[HE.out];refine⟨go,co,?_,Yq HF HO,HL.out.1⟩;rw[HD.out];rfl
theorem Jc{s:BA}(h:s.size=0):s.toList=[]:=by
 rw[ByteArray.toList_eq];exact List.eq_nil_of_length_eq_zero (by simpa using h)
theorem Su{s:BA}(h:s.toList=[]):s.size=0:=by
 rw[ByteArray.toList_eq]at h;have:=congrArg List.length h;simpa using this
theorem Yg{s:BA}(h:s.toList.isEmpty=true):s.size=0:=Su (by simpa using h)
theorem Hy{s:BA}(h:s.size≠0):¬s.toList=[]:=λe=>h (Su e)
theorem Gt{s:BA}(h:s.size≠0):s.toList.isEmpty=false:=by
 cases e:s.toList.isEmpty with
 |false=>rfl
 |true=>exact absurd (Yg e) h
end Go.Proofs.YthboopnmbglkjaaGreat
