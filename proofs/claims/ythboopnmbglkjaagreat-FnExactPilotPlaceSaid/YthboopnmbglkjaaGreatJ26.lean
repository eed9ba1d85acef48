import Derived.Test.YthboopnmbglkjaaGreatJ25
import Derived.DeepKeys4
set_option maxRecDepth 100000
namespace Go.Proofs.YthboopnmbglkjaaGreat
open Go.RowKit Tryz
def n1C(y:Cpy)(b:Brt):Int:=Ct (λt=>Ch t b.marks b.zone) y.likes y.likes.length
def n2C(x:Flt)(ci:Nat)(y:Cpy)(b:Brt):Int:=((Fc (znF x ci y.service b.zone) x.copies.length:Nat):Int)
def n3C(x:Flt)(ci:Nat)(y:Cpy)(b:Brt):Int:=((Fc (Tc x ci y.service b.name) x.copies.length:Nat):Int)
def n4C(x:Flt)(ci:Nat)(y:Cpy)(b:Brt):Int:=b.room-y.room-Bl x ci b.name x.copies.length
theorem vB(x:Flt)(ci:Nat)(y:Cpy)(b:Brt):sW x ci y b=#[X (n1C y b),X (n2C x ci y b),X (n3C x ci y b),X (n4C x ci y b)]:=rfl
def btr(x:Flt)(ci:Nat)(y:Cpy)(b c:Brt):Bool:=Cl (n1C y b) (n2C x ci y b) (n3C x ci y b) (n4C x ci y b) (n1C y c) (n2C x ci y c) (n3C x ci y c) (n4C x ci y c) x.pack
def Kj(x:Flt)(ci:Nat)(y:Cpy):Nat->List (Nat×Brt)
 |0=>[]
 |k+1=>match x.berths[k]? with
  |none=>Kj x ci y k
  |some b=>if Cs x ci y b false=0 then Kj x ci y k++[(k,b)]else Kj x ci y k
def Qc(x:Flt)(ci:Nat)(y:Cpy)(o:Option (Nat×Brt))(z:Nat×Brt):Option (Nat×Brt):=match o with
 |none=>some z
 |some v=>if btr x ci y z.2 v.2=true then some z else some v
def Lu(x:Flt)(ci:Nat)(y:Cpy)(l:List (Nat×Brt)):Option (Nat×Brt):=l.foldl (Qc x ci y) none
theorem Ng(x:Flt)(ci:Nat)(y:Cpy)(l:List (Nat×Brt))(z:Nat×Brt):Lu x ci y (l++[z])=Qc x ci y (Lu x ci y l) z:=by
 unfold Lu;rw[List.foldl_append];rfl
theorem dY(x:Flt)(ci:Nat)(y:Cpy):∀(l:List (Nat×Brt))(o:Option (Nat×Brt))(z:Nat×Brt),l.foldl (Qc x ci y) o=some z->z∈l\/o=some z
 |[],o,z,h=>.inr h
 | a::r,o,z,h=>by
  rcases dY x ci y r _ z h with h|h
  .exact .inl (List.mem_cons_of_mem _ h)
  unfold Qc at h
  cases o with
  |none =>
   simp at h;subst h;exact .inl List.mem_cons_self
  | some v =>
   simp only at h
   split at h
   .simp at h
    subst h;exact .inl List.mem_cons_self
   exact .inr h
theorem gR{x:Flt}{ci:Nat}{y:Cpy}{l:List (Nat×Brt)}{z:Nat×Brt}(h:Lu x ci y l=some z):z∈l:=by
 rcases dY x ci y l none z h with h|h
 .exact h
 cases h
theorem fM{x:Flt}{ci:Nat}{y:Cpy}{k:Nat}{b:Brt}(h:x.berths[k]?=some b)(hf:¬Cs x ci y b false=0):Kj x ci y (k+1)=Kj x ci y k:=by
 rw[Kj,h];exact if_neg hf
theorem eX{x:Flt}{ci:Nat}{y:Cpy}{k:Nat}{b:Brt}(h:x.berths[k]?=some b)(hf:Cs x ci y b false=0):Kj x ci y (k+1)=Kj x ci y k++[(k,b)]:=by
 rw[Kj,h];exact if_pos hf
theorem Tq{x:Flt}{ci:Nat}{y:Cpy}:∀(k:Nat)(z:Nat×Brt),z∈Kj x ci y k->x.berths[z.1]?=some z.2/\z.1<k
 |0,z,h=>by cases h
 | k+1,z,h=>by
  rw[Kj]at h
  split at h
  .have:=Tq k z h
   exact⟨this.1,by omega⟩
  rename_i b hb
  split at h
  .rcases List.mem_append.1 h with h|h
   .have:=Tq k z h
    exact⟨this.1,by omega⟩
   rw[List.mem_singleton.1 h];exact⟨hb,Nat.lt_succ_self _⟩
  have:=Tq k z h;exact⟨this.1,by omega⟩
theorem nA{x:Flt}{ci:Nat}{y:Cpy}:∀k,(Kj x ci y k).length<=k
 |0=>Nat.le_refl _
 | k+1=>by
  have:=nA (x:=x) (ci:=ci) (y:=y) k;rw[Kj]
  split
  .omega
  split
  .simp
   omega
  omega
def chT(x:Flt)(ci:Nat)(y:Cpy)(k:Nat):Option (Nat×Brt):=Lu x ci y (Kj x ci y k)
theorem Gg{x:Flt}{ci:Nat}{y:Cpy}{k:Nat}{z:Nat×Brt}(h:chT x ci y k=some z):x.berths[z.1]?=some z.2/\z.1<k:=Tq k z (gR h)
theorem rR{x:Flt}{ci:Nat}{y:Cpy}{k:Nat}{b:Brt}(h:x.berths[k]?=some b)(hf:¬Cs x ci y b false=0):chT x ci y (k+1)=chT x ci y k:=by
 unfold chT;rw[fM h hf]
theorem rL{x:Flt}{ci:Nat}{y:Cpy}{k:Nat}{b:Brt}(h:x.berths[k]?=some b)(hf:Cs x ci y b false=0):chT x ci y (k+1)=Qc x ci y (chT x ci y k) (k,b):=by
 unfold chT;rw[eX h hf,Ng]
def nmC(o:Option (Nat×Brt)):BA:=match o with
 |none=>⟨#[]⟩
 |some z=>z.2.name
structure LtO (lt:Nat->Nat->Bool):Prop where
 irr:∀a,lt a a=false
 tr:∀a b c,lt a b=true->lt b c=true->lt a c=true
 tot:∀a b,lt a b=false->lt b a=false->a=b
theorem LtO.asym{lt:Nat->Nat->Bool}(o:LtO lt){a b:Nat}(h:lt a b=true):lt b a=false:=by
 cases h2:lt b a with
 |false=>rfl
 |true=>have:=o.tr a b a h h2;rw[o.irr]at this;cases this
theorem LtO.ntr{lt:Nat->Nat->Bool}(o:LtO lt){a b c:Nat}(h1:lt a b=false)(h2:lt b c=false):lt a c=false:=by
 cases h3:lt a c with
 |false=>rfl
 |true =>
  by_cases e:c=b
  .subst e;rw[h1]at h3;cases h3
  cases h4:lt c b with
  |true=>have:=o.tr a c b h3 h4;rw[h1]at this;cases this
  |false=>exact absurd (o.tot c b h4 h2) e
def hAt(l:List Nat)(i:Nat):Nat:=l.getD i 0
theorem Fh{l:List Nat}{i a:Nat}(h:l[i]?=some a):hAt l i=a:=by unfold hAt;rw[List.getD_eq_getElem?_getD,h];rfl
theorem Ql{l:List Nat}{i:Nat}(h:i<l.length):l[i]?=some (hAt l i):=by
 rw[gE h,Fh (gE h)]
theorem Nc{l:List Nat}{i:Nat}(h:i<l.length):hAt l i∈l:=List.mem_of_getElem? (Ql h)
def hSw(l:List Nat)(i j:Nat):List Nat:=(l.set i (hAt l j)).set j (hAt l i)
theorem Nm(l:List Nat)(i j:Nat):(hSw l i j).length=l.length:=by simp[hSw]
theorem Mn{l:List Nat}{i j k:Nat}(hi:i<l.length)(hj:j<l.length)(_hk:k<l.length):hAt (hSw l i j) k=if k=j then hAt l i else if k=i then hAt l j else hAt l k:=by
 unfold hSw;by_cases e1:k=j
 .subst e1
  rw[if_pos rfl];apply Fh;rw[List.getElem?_set_self (by simpa using hj)]
 rw[if_neg e1];have h1:((l.set i (hAt l j)).set j (hAt l i))[k]?=(l.set i (hAt l j))[k]?:=List.getElem?_set_ne (by omega);by_cases e2:k=i
 .subst e2
  rw[if_pos rfl];apply Fh;rw[h1,List.getElem?_set_self hi]
 rw[if_neg e2];apply Fh;rw[h1,List.getElem?_set_ne (by omega)];exact Ql _hk
theorem iE{l:List Nat}{i j:Nat}(hi:i<l.length)(hj:j<l.length):(hSw l i j).Perm l:=by
 unfold hSw;have h1:hAt l j=l[j]:=Fh (gE hj);have h2:hAt l i=l[i]:=Fh (gE hi);rw[h1,h2];exact List.set_set_perm hi hj
def Heap(lt:Nat->Nat->Bool)(l:List Nat):Prop:=∀i,0<i->i<l.length->lt (hAt l i) (hAt l ((i-1)/2))=false
def HUp(lt:Nat->Nat->Bool)(l:List Nat)(p:Nat):Prop:=(∀i,0<i->i<l.length->i≠p->lt (hAt l i) (hAt l ((i-1)/2))=false)/\∀i,0<i->i<l.length->(i-1)/2=p->0<p->lt (hAt l i) (hAt l ((p-1)/2))=false
def HDn(lt:Nat->Nat->Bool)(l:List Nat)(p:Nat):Prop:=(∀i,0<i->i<l.length->(i-1)/2≠p->lt (hAt l i) (hAt l ((i-1)/2))=false)/\∀i,0<i->i<l.length->(i-1)/2=p->0<p->lt (hAt l i) (hAt l ((p-1)/2))=false
theorem HUp.stop0{lt:Nat->Nat->Bool}{l:List Nat}(h:HUp lt l 0):Heap lt l:=λi h0 hi=>h.1 i h0 hi (by omega)
theorem HUp.stop{lt:Nat->Nat->Bool}{l:List Nat}{p:Nat}(h:HUp lt l p)(hs:lt (hAt l p) (hAt l ((p-1)/2))=false):Heap lt l:=λi h0 hi=>by
 by_cases e:i=p
 .subst e;exact hs
 exact h.1 i h0 hi e
theorem HUp.step{lt:Nat->Nat->Bool}(o:LtO lt){l:List Nat}{p:Nat}(h:HUp lt l p)(hp:p<l.length)(h0:0<p)(hs:lt (hAt l p) (hAt l ((p-1)/2))=true):HUp lt (hSw l p ((p-1)/2)) ((p-1)/2):=by
 obtain⟨q,hq⟩:∃q,q=(p-1)/2:=⟨_,rfl⟩;rw[<-hq]at hs⊢;have hql:q<l.length:=by omega
 constructor
 .intro i hi0 hil hne
  rw[Nm]at hil;obtain⟨r,hr⟩:∃r,r=(i-1)/2:=⟨_,rfl⟩;rw[<-hr,Mn hp hql hil,Mn hp hql (by omega)];rw[if_neg hne];by_cases e1:i=p
  .subst e1
   rw[if_pos rfl,if_pos (by omega)];exact o.asym hs
  rw[if_neg e1];by_cases e2:r=q
  .rw[if_pos e2]
   have h1:=h.1 i hi0 hil e1;rw[<-hr,e2]at h1;exact o.ntr h1 (o.asym hs)
  rw[if_neg e2];by_cases e3:r=p
  .rw[if_pos e3]
   have:=h.2 i hi0 hil (by omega) h0;rw[<-hq]at this;exact this
  rw[if_neg e3];have:=h.1 i hi0 hil e1;rw[<-hr]at this;exact this
 intro i hi0 hil hpar hq0;rw[Nm]at hil;obtain⟨r,hr⟩:∃r,r=(q-1)/2:=⟨_,rfl⟩;rw[<-hr,Mn hp hql hil,Mn hp hql (by omega),if_neg (show ¬i=q by omega),if_neg (show ¬r=q by omega),if_neg (show ¬r=p by omega)];have hqr:=h.1 q hq0 hql (by omega);rw[<-hr]at hqr;by_cases e1:i=p
 .rw[if_pos e1];exact hqr
 rw[if_neg e1];have h1:=h.1 i hi0 hil e1;rw[hpar]at h1;exact o.ntr h1 hqr
theorem HUp.of_snoc{lt:Nat->Nat->Bool}{l:List Nat}(h:Heap lt l)(a:Nat):HUp lt (l++[a]) l.length:=by
 have ha:∀i,i<l.length->hAt (l++[a]) i=hAt l i:=λi hi=>Fh (by rw[List.getElem?_append_left hi];exact Ql hi)
 constructor
 .intro i h0 hi hne
  rw[List.length_append]at hi;simp at hi;rw[ha i (by omega),ha _ (by omega)];exact h i h0 (by omega)
 intro i h0 hi hpar _;rw[List.length_append]at hi;simp at hi;omega
theorem HDn.step{lt:Nat->Nat->Bool}(o:LtO lt){l:List Nat}{p k:Nat}(h:HDn lt l p)(hk:k<l.length)(hk0:0<k)(hkp:(k-1)/2=p)(hl:∀i,0<i->i<l.length->(i-1)/2=p->lt (hAt l i) (hAt l k)=false)(hs:lt (hAt l k) (hAt l p)=true):HDn lt (hSw l k p) k:=by
 have hp:p<l.length:=by omega
 constructor
 .intro i hi0 hil hne
  rw[Nm]at hil;obtain⟨r,hr⟩:∃r,r=(i-1)/2:=⟨_,rfl⟩;rw[<-hr]at hne⊢;rw[Mn hk hp hil,Mn hk hp (by omega)];by_cases e1:r=p
  .rw[if_pos e1,if_neg (show ¬i=p by omega)]
   by_cases e2:i=k
   .rw[if_pos e2];exact o.asym hs
   rw[if_neg e2];exact hl i hi0 hil (by omega)
  rw[if_neg e1,if_neg hne];by_cases e2:i=p
  .rw[if_pos e2]
   have h1:=h.2 k hk0 hk hkp (by omega);rw[<-e2,<-hr]at h1;exact h1
  rw[if_neg e2,if_neg (show ¬i=k by omega)];have:=h.1 i hi0 hil (by omega);rw[<-hr]at this;exact this
 intro i hi0 hil hpar _;rw[Nm]at hil;rw[hkp,Mn hk hp hil,Mn hk hp hp,if_pos rfl,if_neg (show ¬i=p by omega),if_neg (show ¬i=k by omega)];have h1:=h.1 i hi0 hil (by omega);rw[hpar]at h1;exact h1
theorem HDn.stop{lt:Nat->Nat->Bool}{l:List Nat}{p:Nat}(h:HDn lt l p)(hs:∀i,0<i->i<l.length->(i-1)/2=p->lt (hAt l i) (hAt l p)=false):Heap lt l:=λi h0 hi=>by
 by_cases e:(i-1)/2=p
 .rw[e];exact hs i h0 hi e
 exact h.1 i h0 hi e
theorem Heap.top{lt:Nat->Nat->Bool}(o:LtO lt){l:List Nat}(h:Heap lt l):∀i,i<l.length->lt (hAt l i) (hAt l 0)=false:=by
 intro i
 induction i using Nat.strongRecOn with
 |ind i ih =>
  intro hi;by_cases e:i=0
  .subst e;exact o.irr _
  exact o.ntr (h i (by omega) hi) (ih ((i-1)/2) (by omega) (by omega))
def Ly(l:List Nat):List Nat:=(l.set 0 (hAt l (l.length-1))).take (l.length-1)
theorem gJ(l:List Nat):(Ly l).length=l.length-1:=by simp[Ly]
theorem lQ{l:List Nat}{i:Nat}(hi:i<l.length-1)(h0:0<i):hAt (Ly l) i=hAt l i:=by
 apply Fh;unfold Ly;rw[List.getElem?_take_of_lt hi,List.getElem?_set_ne (by omega)];exact Ql (by omega)
theorem HDn.of_cut{lt:Nat->Nat->Bool}{l:List Nat}(h:Heap lt l):HDn lt (Ly l) 0:=by
 constructor
 .intro i h0 hi hne
  rw[gJ]at hi;rw[lQ hi h0,lQ (by omega) (by omega)];exact h i h0 (by omega)
 intro i _ _ _ h9;omega
theorem aE{l:List Nat}(hl:0<l.length):(hAt l 0::Ly l).Perm l:=by
 cases l with
 |nil=>simp at hl
 | cons a t =>
  have h0:hAt (a::t) 0=a:=rfl;rw[h0];refine List.Perm.cons a ?_ |>.trans (List.Perm.refl _)
  unfold Ly
  cases ht:t.reverse with
  |nil =>
   have:t=[]:=by simpa using ht
   subst this;simp
  | cons b r =>
   have ht2:t=r.reverse++[b]:=by
    have:=congrArg List.reverse ht;simpa using this
   subst ht2;have e1:hAt (a::(r.reverse++[b])) ((a::(r.reverse++[b])).length-1)=b:=by
    apply Fh;simp
   rw[e1];simp only[List.set_cons_zero,List.length_cons,List.length_append,List.length_nil,Nat.add_sub_cancel];rw[show(b::(r.reverse++[b])).take (r.reverse.length+(0+1))=b::r.reverse by simp];exact(List.perm_append_comm (l₁:=[b]) (l₂:=r.reverse))
theorem lS{lt:Nat->Nat->Bool}(o:LtO lt):∀{a b:List Nat},a.Perm b->a.Pairwise (λx y=>lt y x=false)->b.Pairwise (λx y=>lt y x=false)->a=b
 |[],b,h,_,_=>(List.nil_perm.1 h).symm
 |x::a,[],h,_,_=>by have:=h.length_eq;simp at this
 | x::a,y::b,h,h1,h2=>by
  have e:x=y:=by
   rw[List.pairwise_cons]at h1 h2;rcases List.mem_cons.1 (h.subset (List.mem_cons_self (a:=x) (l:=a)))with e1|e1
   .exact e1
   rcases List.mem_cons.1 (h.symm.subset (List.mem_cons_self (a:=y) (l:=b)))with e2|e2
   .exact e2.symm
   exact o.tot x y (h2.1 x e1) (h1.1 y e2) |> λh=>h
  subst e;rw[List.pairwise_cons]at h1 h2;rw[lS o (List.Perm.cons_inv h) h1.2 h2.2]
open Go.WideMaps Go.Maps Tryz
abbrev plV(pl:List Nat):List Value:=pl.map λk=>X ((k:Nat):Int)
theorem PlOk.step{ns gone:List BA}{k:Nat}{pl:List Nat}{g:BA}{q:Nat}(h:PlOk ns gone k pl)(hg:gone[k]?=some g)(hq:Ar ns g ns.length=some q):PlOk ns gone (k+1) (pl++[q]):=by
 refine⟨by simp[h.1],λj g' hj hj'=>?_⟩;by_cases e:j=k
 .subst e
  rw[hg]at hj';cases hj'
  exact⟨q,by rw[List.getElem?_append_right (by rw[h.1];omega),h.1];simp,hq⟩
 obtain⟨p,h1,h2⟩:=h.2 j g' (by omega) hj';exact⟨p,by rw[List.getElem?_append_left (by rw[h.1];omega)];exact h1,h2⟩
theorem CV{w:World}{sb:Nat}{v:Value}(h:w.cell? (E sb 0)=some v):∀j u,[v][j]?=some u->w.cell? (((E sb 0):Addr).add j)=some u:=by
 intro j u hu
 cases j with
 |zero=>simp at hu;subst hu;simpa[Addr.add]using h
 |succ j=>simp at hu
def setRow(cs:Array Value):Nat->List Value->Array Value
 |_,[]=>cs
 |o,v::r=>setRow (cs.setIfInBounds o v) (o+1) r
theorem Nz(v:Value):∀(l:List Value)(o:Nat),o<l.length->(l.set o v).take (o+1)=l.take o++[v]
 |[],_,h=>by simp at h
 |a::l,0,_=>by simp
 |a::l,o+1,h=>by
  have ih:=Nz v l o (by simpa using h);simp[ih]
theorem Sg:∀(vs:List Value)(cs:Array Value)(o:Nat),o+vs.length=cs.size->(setRow cs o vs).toList=cs.toList.take o++vs
 |[],cs,o,h=>by
  have:cs.toList.length<=o:=by simp at h;simp;omega
  simp[setRow,List.take_of_length_le this]
 |v::r,cs,o,h=>by
  have h':o+(r.length+1)=cs.size:=by simpa using h
  have ih:=Sg r (cs.setIfInBounds o v) (o+1) (by simp;omega);simp only[setRow];rw[ih,Array.toList_setIfInBounds,Nz v _ _ (by simp;omega)];simp
theorem jL(vs:List Value)(cs:Array Value)(h:vs.length=cs.size):setRow cs 0 vs=vs.toArray:=by
 have:=Sg vs cs 0 (by omega);apply Array.toList_inj.1;rw[this];simp
theorem Blk.setRow{g:Nat}{t:TypeId}:∀(vs:List Value)(o:Nat)(cs:Array Value)(w:World),Blk g cs t w->Blk g (setRow cs o vs) t (w.setCells g o vs)
 |[],_,_,_,h=>h
 |v::r,o,_,_,h=>Blk.setRow r (o+1) _ _ (h.set o v)
theorem Blk.setAll{g:Nat}{cs:Array Value}{t:TypeId}{w:World}(h:Blk g cs t w)(vs:Array Value)(hl:vs.size=cs.size):Blk g vs t (w.setCells g 0 vs.toList):=by
 have:=h.setRow vs.toList 0;rw[jL vs.toList cs (by simpa using hl)]at this;simpa using this
theorem Blk.grown{g:Nat}{cs:Array Value}{t:TypeId}{w w':World}{row:Option Nat}(h:Blk g cs t w)(hg:w.grownBy w' row)(hr:some g≠row):Blk g cs t w':=(hg.block g h.lt hr).trans h
theorem Bq{g b:Nat}{cs:Array Value}{t:TypeId}(hne:g≠b):∀(vs:List Value)(o:Nat)(w:World),Blk g cs t w->Blk g cs t (w.setCells b o vs)
 |[],_,_,h=>h
 |v::r,o,_,h=>Bq hne r (o+1) _ (h.other (a:=(E b o)) hne v)
theorem vD:laidOutB prog=true:=by kernel_rfl
theorem CN:(245:TypeId)<prog.types.size:=of_decide_eq_true (by kernel_rfl)
theorem BH:(match prog.underlying 245 with|some (.array _ _)|some (.struct _)=>true|_=>false)=true:=by rw[underlying245]
theorem mD:Keyed prog 245:=Keyed.of_law (deep_law_laid vD (m:=2) (by decide) CN (by kernel_rfl) BH)
def Lf(v:Value):Option (DataW Unit×List MemPlace):=match v with
 |.agg cs=>match cs.toList with
  |[.bool x]=>some (.lit (.bool x),[])
  |_=>none
 |_=>none
theorem Xg(x:Bool):Lf (.agg #[.bool x])=some (.lit (.bool x),[]):=rfl
theorem gG{v:Value}{z:DataW Unit×List MemPlace}(h:Lf v=some z):∃x,v=.agg #[.bool x]/\z=(.lit (.bool x),[]):=by
 cases v with
 |agg cs =>
  obtain⟨l⟩:=cs
  match l,h with
  |[.bool x],h=>exact⟨x,rfl,(Option.some.inj h).symm⟩
 |_=>cases h
theorem uE:prog.keyType 245=true:=by kernel_rfl
theorem xF(t:BA)(k:Int):(Value.agg #[Y t,X k]).formed prog 245=true:=by kernel_rfl
theorem AN:prog.cellsOf 245=2:=by kernel_rfl
theorem AC:prog.cellsOf 9=1:=by kernel_rfl
theorem AG:prog.cellsOf 3=1:=by kernel_rfl
theorem AR(d:Nat){t:BA}(ht:t.size<=maxLen):prog.keyLits (d+1) 9 [Y t]=some [.string t.data.toList]:=by
 unfold Program.keyLits;rw[underlying9];exact if_pos ht
theorem BO(d:Nat){k:Int}(hk:(Lit.int .i64 k).wf=true):prog.keyLits (d+1) 3 [X k]=some [.int .i64 k]:=by
 unfold Program.keyLits;rw[underlying3];exact if_pos ⟨rfl,hk⟩
theorem CQ(t:BA)(k:Nat)(ht:t.size<=maxLen)(hk:k<=1048576):∃l,keyOf prog 245 (.agg #[Y t,X k])=some l:=by
 have hw:(Lit.int .i64 (k:Int)).wf=true:=WalkArith.wf_i64 (by omega);obtain⟨d,hd⟩:∃d,prog.types.size=d+1:=⟨308-1,by kernel_rfl⟩;unfold keyOf;rw[underlying245];simp only[uE,xF,Bool.and_self,if_true];rw[hd];unfold Program.keyLits;rw[underlying245];refine⟨.string (keyBytes [.string t.data.toList,.int .i64 k]),?_⟩;have hc:(Value.agg #[Value.string t,Value.int IntKind.i64 k]).cells.toList=[Y t,X k]:=rfl;rw[hc];simp only[AN,List.length_cons,List.length_nil];rw[if_pos ⟨trivial,by kernel_rfl⟩];simp only[List.mapM_cons,List.mapM_nil,AC,AG,List.drop_zero,List.take_succ_cons,List.take_zero,List.drop_succ_cons,AR d ht,BO d hw];rfl
def MemoOk(bs:List Brt)(D:DataW Unit):Prop:=IsMap D/\∀(t:BA)(k:Nat)(b:Brt)(l:Lit),bs[k]?=some b->keyOf prog 245 (.agg #[Y t,X ((k:Nat):Int)])=some l->has D l=true->D.atKey l (.lit (.bool false))=.lit (.bool (Ch t b.marks b.zone))
theorem MemoOk.nil(bs:List Brt):MemoOk bs (.map []):=⟨⟨_,rfl⟩,λ_ _ _ _ _ _ h=>by cases h⟩
theorem MemoOk.put{bs:List Brt}{D:DataW Unit}{t:BA}{k:Nat}{b:Brt}{l:Lit}(h:MemoOk bs D)(hb:bs[k]?=some b)(hl:keyOf prog 245 (.agg #[Y t,X ((k:Nat):Int)])=some l):MemoOk bs (D.put l (.lit (.bool (Ch t b.marks b.zone)))):=by
 refine⟨IsMap.put h.1 _ _,λt' k' b' l' hb' hl' hh=>?_⟩;by_cases e:l'=l
 .subst e
  have h1:=mD.inj hl hl';simp at h1;obtain⟨rfl,h2⟩:=h1;have h3:k'=k:=by omega
  subst h3;rw[hb]at hb';cases hb'
  exact atKey_put_same h.1 (mD.key hl) _ _
 rw[has_put_other e]at hh;rw[atKey_put_other e];exact h.2 t' k' b' l' hb' hl' hh
theorem uR(w:World):(zeroValue 247).run prog w=.ok (.agg #[.bool false]) w:=by kernel_rfl
theorem But.cell{p B:Nat}{w w':World}(h:But p B w w'){a:Addr}(h1:a.block<B)(h2:a.block≠p):w'.cell? a=w.cell? a:=World.cell?_of_block (w:=w) (h.block a.block h1 h2)
theorem But.owns{H:Type}{P:Program}{k:TypeId}{R:Value->Option (DataW H×List MemPlace)}{m n:Nat}{D:DataW H}{p B:Nat}{w w':World}(hb:But p B w w')(h:w.ownsMap P k R m n D)(h1:m<B)(h2:m≠p):w'.ownsMap P k R m n D:=by
 obtain⟨es,clock,q1,q2,q3,q4⟩:=h;exact⟨es,clock,(hb.block m h1 h2).trans q1,q2,q3,q4⟩
def MemoAt(m4 n:Nat)(bs:List Brt)(w:World):Prop:=∃(n':Nat)(D':DataW Unit),n'<=n/\w.ownsMap prog 245 Lf m4 n' D'/\MemoOk bs D'
theorem MemoAt.lt{m4 n:Nat}{bs:List Brt}{w:World}(h:MemoAt m4 n bs w):m4<w.heap.size:=by
 obtain⟨_,_,_,o,_⟩:=h;exact o.lt
theorem MemoAt.below{m4 n B:Nat}{bs:List Brt}{w w':World}(h:MemoAt m4 n bs w)(hb:Below B w w')(hB:m4<B):MemoAt m4 n bs w':=by
 obtain⟨n',D',h1,o,h2⟩:=h;obtain⟨es,clock,q1,q2,q3,q4⟩:=o;exact⟨n',D',h1,⟨es,clock,(hb.block m4 hB).trans q1,q2,q3,q4⟩,h2⟩
theorem MemoAt.drew{m4 n:Nat}{bs:List Brt}{w:World}(h:MemoAt m4 n bs w):MemoAt m4 n bs w.drew:=h
theorem MemoAt.mono{m4 n n':Nat}{bs:List Brt}{w:World}(h:MemoAt m4 n bs w)(hn:n<=n'):MemoAt m4 n' bs w:=by
 obtain⟨k,D',h1,h2⟩:=h;exact⟨k,D',lT h1 hn,h2⟩
theorem Yf{H:Type}{P:Program}{k:TypeId}{R:Value->Option (DataW H×List MemPlace)}{m:Nat}{w:World}(h:w.heap[m]?=some (Obj.map #[] 0)):w.ownsMap P k R m 0 (.map []) :=
 ⟨#[],0,h,⟨by simp,Go.MapKept.stamped_empty 0,by simp⟩,Nat.le_refl _,rfl⟩
def FoundM(p m1 m2 m3 m4 n:Nat)(x:Flt)(a1:OA)(c1:Nat)(a2:OA)(c2:Nat)(a3:OA)(c3:Nat)(w:World):Prop :=
 w.rangeAt p 0 (wT x a1 c1 a2 c2 a3 c3 m1 m2 m3 m4)/\p<w.heap.size/\w.ownsMap prog 9 (plainElem prog 3) m1 x.berths.length (Aj (x.berths.map (·.name)) x.berths.length)/\w.ownsMap prog 9 (plainElem prog 3) m2 x.services.length (Aj (x.services.map (·.name)) x.services.length)/\w.ownsMap prog 9 (plainElem prog 3) m3 x.copies.length (Aj (x.copies.map (·.name)) x.copies.length)/\MemoAt m4 n x.berths w/\p≠m4/\(x.berths≠[]->m1≠m4)/\(x.services≠[]->m2≠m4)/\(x.copies≠[]->m3≠m4)
theorem Lk{names:List BA}{m1 m4:Nat}{w:World}(h1:w.ownsMap prog 9 (plainElem prog 3) m1 names.length (Aj names names.length))(h4:w.heap[m4]?=some (Obj.map #[] 0))(hne:names≠[]):m1≠m4:=by
 rintro rfl
 cases names with
 |nil=>exact hne rfl
 | cons nm rest =>
  have hh:=Lj (nm::rest) nm (nm::rest).length;obtain⟨es,clock,e1,_,_,e4⟩:=h1;rw[h4]at e1;cases e1
  rw[e4]at hh
  cases hl:Ar (nm::rest) nm (nm::rest).length with
  |none=>exact(Dq (nm::rest) nm (nm::rest).length).1 hl 0 (by simp) rfl
  |some j =>
   rw[hl]at hh;have h2:false=true:=hh;cases h2
theorem FoundM.of{p m1 m2 m3 m4:Nat}{x:Flt}{a1:OA}{c1:Nat}{a2:OA}{c2:Nat}{a3:OA}{c3:Nat}{w:World}(h:Found p m1 m2 m3 m4 x a1 c1 a2 c2 a3 c3 w):FoundM p m1 m2 m3 m4 0 x a1 c1 a2 c2 a3 c3 w:=by
 obtain⟨h1,h2,h3,h4,h5,h6⟩:=h;refine⟨h1,h2,h3,h4,h5,⟨0,_,Nat.le_refl _,Yf h6,MemoOk.nil _⟩,?_,λe=>?_,λe=>?_,λe=>?_⟩
 .rintro rfl
  have q:=h1 7 _ rfl;simp[World.cell?,h6]at q
 .exact Lk (names:=x.berths.map (·.name)) (by simpa using h3) h6 (by simpa using e)
 .exact Lk (names:=x.services.map (·.name)) (by simpa using h4) h6 (by simpa using e)
 exact Lk (names:=x.copies.map (·.name)) (by simpa using h5) h6 (by simpa using e)
theorem FoundM.memo{p m1 m2 m3 m4 n:Nat}{x:Flt}{a1:OA}{c1:Nat}{a2:OA}{c2:Nat}{a3:OA}{c3:Nat}{w:World}(h:FoundM p m1 m2 m3 m4 n x a1 c1 a2 c2 a3 c3 w):MemoAt m4 n x.berths w:=h.2.2.2.2.2.1
theorem FoundM.below{p m1 m2 m3 m4 n:Nat}{x:Flt}{a1:OA}{c1:Nat}{a2:OA}{c2:Nat}{a3:OA}{c3:Nat}{w w':World}(h:FoundM p m1 m2 m3 m4 n x a1 c1 a2 c2 a3 c3 w)(hb:bW w w'):FoundM p m1 m2 m3 m4 n x a1 c1 a2 c2 a3 c3 w' :=
 ⟨Ac h.1 hb h.2.1,lL h.2.1 hb.size,Ag h.2.2.1 hb h.2.2.1.lt,Ag h.2.2.2.1 hb h.2.2.2.1.lt,Ag h.2.2.2.2.1 hb h.2.2.2.2.1.lt,h.memo.below hb h.memo.lt,h.2.2.2.2.2.2⟩
theorem FoundM.but{p m1 m2 m3 m4 n n':Nat}{x:Flt}{a1:OA}{c1:Nat}{a2:OA}{c2:Nat}{a3:OA}{c3:Nat}{w w':World}(h:FoundM p m1 m2 m3 m4 n x a1 c1 a2 c2 a3 c3 w)(hb:But m4 w.heap.size w w')(hm:MemoAt m4 n' x.berths w')(e1:x.berths≠[])(e2:x.services≠[])(e3:x.copies≠[]):FoundM p m1 m2 m3 m4 n' x a1 c1 a2 c2 a3 c3 w':=by
 obtain⟨h1,h2,h3,h4,h5,h6,h7,h8,h9,h10⟩:=h;refine⟨λj v hj=>(hb.cell (a:=(E p (0+j))) h2 h7).trans (h1 j v hj),lL h2 hb.size,hb.owns h3 h3.lt (h8 e1),hb.owns h4 h4.lt (h9 e2),hb.owns h5 h5.lt (h10 e3),hm,h7,h8,h9,h10⟩
end Go.Proofs.YthboopnmbglkjaaGreat
