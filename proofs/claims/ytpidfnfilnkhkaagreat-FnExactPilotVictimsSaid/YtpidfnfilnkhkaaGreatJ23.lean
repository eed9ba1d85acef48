import Derived.Test.YtpidfnfilnkhkaaGreatJ22
set_option maxHeartbeats 4000000
namespace Go.Proofs.YtpidfnfilnkhkaaGreat
open Tryz
set_option maxRecDepth 100000
open Go.RowKit Tryz
theorem Yt{ns:List BA}:∀n,Cm ns n=true↔∀k,k<n->Gl ns k=true
 |0=>by simp[Cm]
 | n+1=>by
  simp only[Cm,Bool.and_eq_true,Yt n];constructor
  .rintro⟨h1,h2⟩k hk
   by_cases e:k=n
   .subst e;exact h2
   .exact h1 k (by omega)
  .intro h
   exact⟨λk hk=>h k (by omega),h n (by omega)⟩
theorem Ya{f:Nat->Bool}:∀n,Dx f n=true↔∀k,k<n->f k=true
 |0=>by simp[Dx]
 | n+1=>by
  simp only[Dx,Bool.and_eq_true,Ya n];constructor
  .rintro⟨h1,h2⟩k hk
   by_cases e:k=n
   .subst e;exact h2
   .exact h1 k (by omega)
  .intro h
   exact⟨λk hk=>h k (by omega),h n (by omega)⟩
theorem Yz{ns:List BA}{k:Nat}{s:BA}(hk:ns[k]?=some s):Gl ns k=true↔P.nameOk s=true/\Iv ns k=true:=by
 cases k with
 |zero=>simp only[Gl,hk,Iv,and_true]
 |succ j =>
  have hlt:j+1<ns.length:=(List.getElem?_eq_some_iff.mp hk).1;have ht:ns[j]?=some ns[j]:=gE (by omega);simp only[Gl,hk,ht,Iv,Bool.and_eq_true]
theorem Tb{α:Type}(f:α->BA)(xs:List α):Cm (xs.map f) xs.length=true↔∀(k:Nat)(y:α),xs[k]?=some y->P.nameOk (f y)=true/\Iv (xs.map f) k=true:=by
 rw[Yt];constructor
 .intro h k y hy
  exact(Yz (by rw[List.getElem?_map,hy];rfl)).1 (h k (List.getElem?_eq_some_iff.mp hy).1)
 .intro h k hk
  have hy:xs[k]?=some xs[k]:=gE hk;exact(Yz (by rw[List.getElem?_map,hy];rfl)).2 (h k _ hy)
theorem Lf{α:Type}(f:α->Bool)(xs:List α):xs.all f=true↔∀(k:Nat)(y:α),xs[k]?=some y->f y=true:=by
 rw[List.all_eq_true];constructor
 .intro h k y hy
  exact h y (List.mem_of_getElem? hy)
 .intro h y hy
  obtain⟨j,hj,e⟩:=List.mem_iff_getElem.mp hy;exact h j y (by rw[gE hj,e])
theorem Oz(n a b:Int):inB n a b=inR n a b:=by
 unfold inB inR;rw[Bool.eq_iff_iff];simp
theorem qP:Pa=Ho:=by
 funext l;unfold Pa Ho;rw[Oz]
theorem Yb(y:Cpy):Rw y=true↔P.nameOk y.name=true/\P.nameOk y.service=true/\Cj y=true:=by
 unfold Rw Ek Cj Ev;simp only[Oz,qP,Bool.and_eq_true];constructor
 .rintro⟨h1,h2,h3,h4,h5,h6,⟨h7,h8,h9,h10,h11⟩,h12⟩
  exact⟨h1,h2,⟨⟨⟨⟨⟨⟨⟨h3,h4⟩,h5⟩,h6⟩,h7⟩,h8,h12⟩,h9⟩,h10⟩,h11⟩
 .rintro⟨h1,h2,⟨⟨⟨⟨⟨⟨⟨h3,h4⟩,h5⟩,h6⟩,h7⟩,h8,h12⟩,h9⟩,h10⟩,h11⟩
  exact⟨h1,h2,h3,h4,h5,h6,⟨h7,h8,h9,h10,h11⟩,h12⟩
theorem Vh(y:Brt):Mp y=true↔P.nameOk y.name=true/\Hc y=true:=by
 unfold Mp Hc;simp only[Oz,<-sS,Bool.and_eq_true];constructor
 .rintro⟨h1,h2,h3,h4,h5⟩
  exact⟨h1,⟨⟨h2,h4⟩,h5⟩,h3⟩
 .rintro⟨h1,⟨⟨h2,h4⟩,h5⟩,h3⟩
  exact⟨h1,h2,h3,h4,h5⟩
theorem lD(bs:List Svc)(s:BA):Qy bs s<0↔Al (bs.map (·.name)) s bs.length=none:=by
 rw[Dh];unfold Qy
 cases h:bs.findIdx? (λb=>decide (b.name=s))with
 | none =>
  rw[List.findIdx?_eq_none_iff]at h;constructor
  .intro _ j hj e
   rw[List.getElem?_map,gE hj]at e;simp at e;have:=h bs[j] (List.getElem_mem hj);simp at this;exact this e
  .intro _;decide
 | some k =>
  rw[List.findIdx?_eq_some_iff_getElem]at h;obtain⟨hk,h1,_⟩:=h;constructor
  .intro e
   simp at e;omega
  .intro e
   refine absurd ?_ (e k hk);rw[List.getElem?_map,gE hk];simpa using h1
theorem fB{α:Type}{o:Option α}:o.isSome=true↔¬o=none:=by cases o<;>simp
theorem oD{bs:List BA}{s:BA}{n:Nat}(h:¬Al bs s n=none):∃j,j<n/\bs[j]?=some s:=by
 rw[Dh]at h;exact Classical.byContradiction λhc=>h λj hj e=>hc ⟨j,hj,e⟩
theorem Te(cs:List Cpy)(s:BA):∀k,k<=1048576->(Ap cs s (-1) k).1=(Fk cs s k:Nat)
 |0,_=>rfl
 | k+1,hk=>by
  have ih:=Te cs s k (by omega);have hle:=dX cs s k;unfold Ap Fk
  cases h:cs[k]? with
  |none=>exact ih
  | some c =>
   by_cases e:c.at_=s
   .simp only[e,if_true,true_and]
    rw[if_pos (by omega),ih];show wrap64 _=_
    rw[show wrap64 (((Fk cs s k:Nat):Int)+1)=((Fk cs s k:Nat):Int)+1 from by unfold wrap64;omega];omega
   .simp only[e,if_false,false_and]
    exact ih
theorem Rj{s:BA}:s.size=0↔s=⟨#[]⟩ :=
 ⟨λe=>ByteArray.ext (Array.eq_empty_of_size_eq_zero e),λe=>by subst e;rfl⟩
theorem Iy{s:BA}(h:P.nameOk s=true):¬s=⟨#[]⟩:=by
 intro e;subst e;revert h
 decide
theorem vB{bs:List Brt}{k:Nat}{y:Brt}(h:bs[k]?=some y):¬Gk bs y.name<0:=by
 rw[Zr,Dh];intro hc;exact hc k (List.getElem?_eq_some_iff.mp h).1 (by rw[List.getElem?_map,h];rfl)
theorem mD{x:Flt}{k:Nat}{y:Brt}(h:x.berths[k]?=some y)(hn:P.nameOk y.name=true):Mo x y.name=(Ap x.copies y.name (-1) x.copies.length).2:=by
 unfold Mo Fo;rw[if_neg (vB h),if_neg (Iy hn)]
theorem qV(x:Flt)(l3:x.copies.length<=1048576):Au x=Qz x:=by
 unfold Au Qz
 congr 1
 rw[Bool.eq_iff_iff];simp only[Bool.and_eq_true,Eu,Tb,Ca,Fe,Bm,Dd,Lf,Ya];constructor
 .rintro⟨⟨⟨ob,os⟩,oc⟩,hb,hs,hc,hst⟩
  refine⟨λk hk=>?_,λk hk=>?_,λk hk=>?_⟩
  .have hy:x.services[k]?=some x.services[k]:=gE hk
   simp only[Gt,hy,Bool.and_eq_true,Oz];exact⟨(os k _ hy).1,(os k _ hy).2,hs k _ hy⟩
  .have hy:x.copies[k]?=some x.copies[k]:=gE hk
   have h1:=hc k _ hy;simp only[Hi,Bool.and_eq_true,Bool.or_eq_true,decide_eq_true_eq,fB]at h1;obtain⟨⟨h2,h3⟩,h4⟩:=h1;simp only[Gg,hy,Bool.and_eq_true,Bool.or_eq_true,decide_eq_true_eq,Bool.not_eq_true',decide_eq_false_iff_not,Yb];obtain⟨j,hj,e⟩:=oD h2;have hjs:x.services[j]?=some x.services[j]:=gE hj;have hsn:x.services[j].name=x.copies[k].service:=by
    rw[List.getElem?_map,hjs]at e;simpa using e
   refine⟨⟨(oc k _ hy).1,by rw[<-hsn];exact(os j _ hjs).1,h4⟩,(oc k _ hy).2,by rw[lD];exact h2,?_⟩;rcases h3 with h3|h3
   .exact Or.inr (by rw[Zr];exact h3)
   .exact Or.inl (Rj.1 h3)
  .have hy:x.berths[k]?=some x.berths[k]:=gE hk
   have h1:=hst k _ hy;simp only[Hr,Bool.and_eq_true,decide_eq_true_eq]at h1;obtain⟨⟨h2,h3⟩,h4⟩:=h1;simp only[Fr,hy,Bool.and_eq_true,Bool.not_eq_true',decide_eq_false_iff_not,Vh];rw[mD hy (ob k _ hy).1];rw[Te _ _ _ l3]at h2;exact⟨⟨(ob k _ hy).1,hb k _ hy⟩,(ob k _ hy).2,by omega,by omega,by omega⟩
 .rintro⟨hs,hc,hb⟩
  have hs':∀(k:Nat)(y:Svc),x.services[k]?=some y->P.nameOk y.name=true/\Iv (x.services.map (·.name)) k=true/\inR y.spare 0 60=true:=by
   intro k y hy;have:=hs k (List.getElem?_eq_some_iff.mp hy).1;simpa only[Gt,hy,Bool.and_eq_true,Oz]using this
  have hc':∀(k:Nat)(y:Cpy),x.copies[k]?=some y->(P.nameOk y.name=true/\P.nameOk y.service=true/\Cj y=true)/\Iv (x.copies.map (·.name)) k=true/\¬Qy x.services y.service<0/\(y.at_=⟨#[]⟩\/¬Gk x.berths y.at_<0):=by
   intro k y hy;have:=hc k (List.getElem?_eq_some_iff.mp hy).1;simpa only[Gg,hy,Bool.and_eq_true,Bool.or_eq_true,decide_eq_true_eq,Bool.not_eq_true',decide_eq_false_iff_not,Yb]using this
  have hb':∀(k:Nat)(y:Brt),x.berths[k]?=some y->(P.nameOk y.name=true/\Hc y=true)/\Iv (x.berths.map (·.name)) k=true/\¬y.room<(Mo x y.name).1/\¬y.hold<(Mo x y.name).2/\¬10<Fk x.copies y.name x.copies.length:=by
   intro k y hy;have:=hb k (List.getElem?_eq_some_iff.mp hy).1;simpa only[Fr,hy,Bool.and_eq_true,Bool.not_eq_true',decide_eq_false_iff_not,Vh]using this
  refine⟨⟨⟨λk y hy=>⟨(hb' k y hy).1.1,(hb' k y hy).2.1⟩,λk y hy=>⟨(hs' k y hy).1,(hs' k y hy).2.1⟩⟩,λk y hy=>⟨(hc' k y hy).1.1,(hc' k y hy).2.1⟩⟩,λk y hy=>(hb' k y hy).1.2,λk y hy=>(hs' k y hy).2.2,λk y hy=>?_,λk y hy=>?_⟩
  .obtain⟨⟨_,_,h4⟩,_,h2,h3⟩:=hc' k y hy
   simp only[Hi,Bool.and_eq_true,Bool.or_eq_true,decide_eq_true_eq,fB];rw[lD]at h2;refine⟨⟨h2,?_⟩,h4⟩;rcases h3 with h3|h3
   .exact Or.inr (Rj.2 h3)
   .exact Or.inl (by rw[Zr]at h3;exact h3)
  .obtain⟨⟨hn,_⟩,_,h1,h2,h3⟩:=hb' k y hy
   rw[mD hy hn]at h1 h2;simp only[Hr,Bool.and_eq_true,decide_eq_true_eq];rw[Te _ _ _ l3];exact⟨⟨by omega,by omega⟩,by omega⟩
def Ei(bs:List Cpy)(s:BA):Int:=match bs.findIdx? (λb=>decide (b.name=s))with
 |some k=>k
 |none=>-1
theorem lV{bs:List Cpy}{s:BA}{k:Nat}{b:Cpy}(hk:bs[k]?=some b)(h:b.name=s)(ho:∀j b,j<k->bs[j]?=some b->b.name≠s):Ei bs s=k:=by
 have:bs.findIdx? (λb=>decide (b.name=s))=some k:=by
  rw[List.findIdx?_eq_some_iff_getElem];have hlt:=Ac hk;rw[gE hlt]at hk;injection hk with hk;refine⟨hlt,by simp[hk,h],λj hj=>?_⟩;have:=ho j bs[j] hj (gE (by omega));simpa using this
 simp[Ei,this]
theorem Yk{bs:List Cpy}{s:BA}(ho:∀j b,j<bs.length->bs[j]?=some b->b.name≠s):Ei bs s=-1:=by
 have:bs.findIdx? (λb=>decide (b.name=s))=none:=by
  rw[List.findIdx?_eq_none_iff];intro b hb;obtain⟨j,hj⟩:=List.getElem?_of_mem hb;simpa using ho j b (Ac hj) hj
 simp[Ei,this]
theorem Il(x:Flt)(a1:OA)(c1:Nat)(a2:OA)(c2:Nat)(a3:OA)(c3:Nat)(lo:Nat)(s:BA)(w:World)(n3:SliceC CpyC 12 lo w a3 x.copies)(hl:x.copies.length<=1048576) :
  Calls prog 16 #[.agg (ffA x a1 c1 a2 c2 a3 c3),.string s] w (Rt (.int .i64 (Ei x.copies s)) w):=by
 have HI:=iH n3;clear n3
 try unfold ffA
 generalize hbs:x.copies=bs at *;clear hbs;go_enter func16,ntmps16
 go_wp2
 go_loopw [5] (λi wr=>∃k:Nat,k<=bs.length/\i=.int .i64 k/\wr.cell? ⟨w.heap.size,3,none⟩=some (.slice a3 bs.length c3)/\Hid (∀j b,j<k->bs[j]?=some b->b.name≠s)/\Below w.heap.size w wr) (λi _=>bs.length-(intOf i).toNat)
 case atStart=>exact⟨0,zL,rfl,by simp,λj b h=>by omega,by go_grown⟩
 case round =>
  obtain⟨k,hk,rfl,hcell,ho,hbel⟩:=hrel;by_cases hlt:k<bs.length
  .obtain⟨x,hx⟩:=gXe hlt
   obtain⟨b,o,rfl,_,_,hc⟩:=(HI.out.below CpyC.holds hbel nL).at hx;obtain⟨a9,c9,q0,q1,q2,q3,q4,q5,q6,q7,q8,q9,q10,q11,z0,z1,z2,z3,z4,z5,n9⟩:=hc;simp only[Nat.add_zero]at q0;have HX:=iH hx;clear hx q1 q2 q3 q4 q5 q6 q7 q8 q9 q10 q11 z0 z1 z2 z3 z4 z5 n9;by_cases h:x.name=s
   .have HZ:Hid (Ei bs s=k):=lV HX h ho.out
    have ht:=Br h;clear h
    go_wp2
    go_ret;exact⟨Am HZ.out.symm,hbel⟩
   .have ht:=Bu h
    go_wp2
    go_roundw
    case rel =>
     refine⟨k+1,by omega,by go_num,hcell,?_,hbel⟩;intro j y hj hy;by_cases e:j=k
     .subst e
      rw[HX.out]at hy;cases hy
      exact h
     .exact ho.out j y (by omega) hy
    case measure=>simp[intOf];omega
  .have hke:k=bs.length:=by omega
   have HZ:Hid (Ei bs s=-1):=Yk (hke▸ho.out)
   go_wp2
   go_ret;exact⟨Am HZ.out.symm,hbel⟩
theorem Du{ns:List BA}{s:BA}:∀{n k:Nat},Al ns s n=some k->k<n/\ns[k]?=some s
 |0,k,h=>by simp[Al]at h
 | n+1,k,h=>by
  unfold Al at h;by_cases e:ns[n]?=some s
  .rw[if_pos e]at h
   cases h
   exact⟨by omega,e⟩
  .rw[if_neg e]at h
   have:=Du h;exact⟨by omega,this.2⟩
theorem Cl{α:Type}{f:α->BA}{xs:List α}{k:Nat}{y:α}(h:xs[k]?=some y):(xs.map f)[k]?=some (f y):=by
 rw[List.getElem?_map,h];rfl
theorem Sv{α:Type}{f:α->BA}{xs:List α}{k:Nat}{s:BA}(h:(xs.map f)[k]?=some s):∃y,xs[k]?=some y/\f y=s:=by
 rw[List.getElem?_map]at h
 cases e:xs[k]? with
 |none=>rw[e]at h;cases h
 |some y=>rw[e]at h;cases h;exact⟨y,rfl,rfl⟩
def Bp(f:Nat->Bool):Nat->Nat
 |0=>0
 |k+1=>Bp f k+(if f k then 1 else 0)
theorem Mh{f g:Nat->Bool}:∀n,(∀k,k<n->f k=g k)->Bp f n=Bp g n
 |0,_=>rfl
 |n+1,h=>by
  unfold Bp;rw[Mh n (λk hk=>h k (by omega)),h n (by omega)]
theorem Jw(f:Nat->Bool):∀n,Bp f n<=n
 |0=>Nat.le_refl _
 |n+1=>by
  have:=Jw f n;unfold Bp
  split<;>omega
theorem Ts(f:Nat->Bool):∀n k,k<=n->Bp f k<=Bp f n
 |0,k,h=>by rw[show k=0 by omega];exact Nat.le_refl _
 | n+1,k,h=>by
  by_cases e:k=n+1
  .rw[e];exact Nat.le_refl _
  .have:=Ts f n k (by omega)
   rw[show Bp f (n+1)=Bp f n+(if f n then 1 else 0)from rfl];omega
theorem Gr{f:Nat->Bool}{k:Nat}(h:f k=true):Bp f (k+1)=Bp f k+1:=by
 unfold Bp;rw[if_pos h];cases k<;>rfl
theorem Ii{f:Nat->Bool}{k:Nat}(h:f k=false):Bp f (k+1)=Bp f k:=by
 unfold Bp;rw[if_neg (by rw[h];decide)];cases k<;>rfl
abbrev svN(x:Flt):List BA:=x.services.map (·.name)
abbrev cpN(x:Flt):List BA:=x.copies.map (·.name)
def lR(x:Flt)(p:Nat):Option Nat:=match x.copies[p]? with
 |some c=>Al (svN x) c.service x.services.length
 |none=>none
def Mf(x:Flt)(s i:Nat):Bool:=match x.copies[i]? with
 |some c=>decide (c.at_=⟨#[]⟩)&&decide (Al (svN x) c.service x.services.length=some s)
 |none=>false
def Ht(x:Flt)(s:Nat):Int:=match x.services[s]? with
 |some y=>y.spare
 |none=>0
def Gh(x:Flt)(s k:Nat):Int:=Ht x s-(Bp (Mf x s) k:Nat)
def goF(x:Flt)(pl:List Nat)(s i:Nat):Bool:=match pl[i]? with
 |some p=>decide (lR x p=some s)
 |none=>false
def PlOk(ns gone:List BA)(k:Nat)(pl:List Nat):Prop:=pl.length=k/\∀j g,j<k->gone[j]?=some g->∃p,pl[j]?=some p/\Al ns g ns.length=some p
def bL(x:Flt)(pl:List Nat)(k:Nat):Prop:=(∀j p,j<k->pl[j]?=some p->∃c,x.copies[p]?=some c/\¬c.at_=⟨#[]⟩)/\∀j q p,j+1<k->pl[j]?=some q->pl[j+1]?=some p->q<p
def Ft(x:Flt)(pl:List Nat):Prop:=∀s,s<x.services.length->0<Bp (goF x pl s) pl.length->((Bp (goF x pl s) pl.length:Nat):Int)<=Gh x s x.copies.length
def goS(x:Flt)(gone:List BA)(nm:BA)(i:Nat):Bool:=match gone[i]? with
 |some g=>match x.copies[(Ei x.copies g).toNat]? with
  |some c=>decide (c.service=nm)
  |none=>false
 |none=>false
def Lq(x:Flt)(nm:BA)(i:Nat):Bool:=match x.copies[i]? with
 |some c=>decide (c.service=nm)&&decide (c.at_=⟨#[]⟩)
 |none=>false
def MayA(x:Flt)(gone:List BA)(k:Nat):Prop:=(∀j g,j<k->gone[j]?=some g->0<=Ei x.copies g/\∃c,x.copies[(Ei x.copies g).toNat]?=some c/\¬c.at_=⟨#[]⟩)/\∀j s t,j+1<k->gone[j]?=some s->gone[j+1]?=some t->Op.bytesLess s.toList t.toList=true
def MayC(x:Flt)(gone:List BA)(k:Nat):Prop:=∀s y,s<k->x.services[s]?=some y->0<Bp (goS x gone y.name) gone.length->((Bp (goS x gone y.name) gone.length:Nat):Int)<=y.spare-(Bp (Lq x y.name) x.copies.length:Nat)
theorem Vx:∀x,Op.bytesLess x x=false
 |[]=>rfl
 |a::x=>by simp[Op.bytesLess,Vx x]
theorem sA:∀x y z,Op.bytesLess x y=true->Op.bytesLess y z=true->Op.bytesLess x z=true
 |_,_,[],_,h=>by simp[Op.bytesLess]at h
 |[],_,_::_,_,_=>rfl
 |a::x,[],c::z,h,_=>by simp[Op.bytesLess]at h
 | a::x,b::y,c::z,h1,h2=>by
  simp only[Op.bytesLess,Bool.or_eq_true,Bool.and_eq_true,decide_eq_true_eq,beq_iff_eq]at h1 h2⊢;rcases h1 with h1|⟨rfl,h1⟩
  .rcases h2 with h2|⟨rfl,h2⟩
   .exact Or.inl (UInt8.lt_trans h1 h2)
   .exact Or.inl h1
  .rcases h2 with h2|⟨rfl,h2⟩
   .exact Or.inl h2
   .exact Or.inr ⟨rfl,sA x y z h1 h2⟩
def AscN(ns:List BA):Prop:=∀k s t,ns[k]?=some s->ns[k+1]?=some t->Op.bytesLess s.toList t.toList=true
theorem iG{α:Type}(f:α->BA)(xs:List α)(h:Cm (xs.map f) xs.length=true):AscN (xs.map f):=by
 intro k s t hs ht;have hlt:=Ac ht;rw[List.length_map]at hlt;have h1:=((Tb f xs).1 h (k+1) _ (gE hlt)).2;simp only[Iv,hs,ht]at h1;exact h1
theorem AscN.lt{ns:List BA}(h:AscN ns):∀d i s t,ns[i]?=some s->ns[i+d+1]?=some t->Op.bytesLess s.toList t.toList=true
 |0,i,s,t,hs,ht=>h i s t hs ht
 |d+1,i,s,t,hs,ht=>by
  have hlt:=Ac ht;have hu:ns[i+d+1]?=some ns[i+d+1]:=gE (by omega);exact sA _ _ _ (AscN.lt h d i s _ hs hu) (h (i+d+1) _ t hu ht)
theorem AscN.less{ns:List BA}(h:AscN ns){i j:Nat}{s t:BA}(hi:ns[i]?=some s)(hj:ns[j]?=some t)(hl:i<j):Op.bytesLess s.toList t.toList=true :=
 h.lt (j-i-1) i s t hi (by rw[show i+(j-i-1)+1=j by omega];exact hj)
theorem AscN.inj{ns:List BA}(h:AscN ns){i j:Nat}{s:BA}(hi:ns[i]?=some s)(hj:ns[j]?=some s):i=j:=by
 rcases Nat.lt_trichotomy i j with hl|hl|hl
 .have:=h.less hi hj hl
  rw[Vx]at this;cases this
 .exact hl
 .have:=h.less hj hi hl
  rw[Vx]at this;cases this
theorem AscN.less_iff{ns:List BA}(h:AscN ns){i j:Nat}{s t:BA}(hi:ns[i]?=some s)(hj:ns[j]?=some t):i<j↔Op.bytesLess s.toList t.toList=true:=by
 constructor
 .exact h.less hi hj
 .intro hb
  rcases Nat.lt_trichotomy i j with hl|hl|hl
  .exact hl
  .subst hl
   rw[hi]at hj;cases hj
   rw[Vx]at hb;cases hb
  .have:=sA _ _ _ hb (h.less hj hi hl)
   rw[Vx]at this;cases this
theorem AscN.last{ns:List BA}(h:AscN ns){s:BA}{n k:Nat}(hk:ns[k]?=some s)(hn:k<n):Al ns s n=some k:=by
 cases e:Al ns s n with
 |none=>exact absurd hk ((Dh ns s n).1 e k hn)
 |some j=>rw[h.inj (Du e).2 hk]
theorem Hz{cs:List Cpy}(h:AscN (cs.map (·.name))){s:BA}{k:Nat}(e:Al (cs.map (·.name)) s cs.length=some k):Ei cs s=k/\∃c,cs[k]?=some c/\c.name=s:=by
 obtain⟨hk,hs⟩:=Du e;obtain⟨c,hc,hn⟩:=Sv hs;refine⟨lV hc hn λj b hj hb he=>?_,c,hc,hn⟩;have:=h.inj (Cl (f:=(·.name)) hb) (show _=some b.name by rw[he];exact hs);omega
theorem wK{cs:List Cpy}{s:BA}(e:Al (cs.map (·.name)) s cs.length=none):Ei cs s=-1 :=
 Yk λj b hj hb he=>(Dh _ s _).1 e j hj (by rw[Cl hb,he])
theorem Aw{x:Flt}(h:Au x=true):x.services.length<=30/\x.copies.length<=60/\AscN (svN x)/\AscN (cpN x)/\(∀(k:Nat)(y:Svc),x.services[k]?=some y->0<=y.spare/\y.spare<=60)/\∀(k:Nat)(c:Cpy),x.copies[k]?=some c->∃s,Al (svN x) c.service x.services.length=some s:=by
 unfold Au at h;simp only[Bool.and_eq_true,Dm,Eu,Fe,Bm,Lf,decide_eq_true_eq]at h;obtain⟨⟨⟨_,h1⟩,h2⟩,⟨⟨_,h3⟩,h4⟩,_,h5,h6,_⟩:=h;refine⟨h1,h2,iG _ _ h3,iG _ _ h4,λk y hy=>?_,λk c hc=>?_⟩
 .have:=h5 k y hy
  simpa[inR]using this
 .have:=h6 k c hc
  simp only[Hi,Bool.and_eq_true]at this;exact Option.isSome_iff_exists.1 this.1.1
theorem kX{x:Flt}(hs:AscN (svN x)){s:Nat}{y:Svc}(hy:x.services[s]?=some y)(n:BA):Al (svN x) n x.services.length=some s↔n=y.name:=by
 constructor
 .intro e
  have:=(Du e).2;rw[Cl hy]at this;cases this
  rfl
 .rintro rfl
  exact hs.last (Cl hy) (Ac hy)
theorem lY{x:Flt}(hs:AscN (svN x)){s:Nat}{y:Svc}(hy:x.services[s]?=some y)(n:Nat):Bp (Mf x s) n=Bp (Lq x y.name) n:=by
 refine Mh n λi _=>?_
 unfold Mf Lq
 cases x.copies[i]? with
 |none=>rfl
 |some c =>
  simp only[kX hs hy];exact Bool.and_comm _ _
theorem xU{x:Flt}(hs:AscN (svN x))(hc:AscN (cpN x)){gone:List BA}{pl:List Nat}(hp:PlOk (cpN x) gone gone.length pl){s:Nat}{y:Svc}(hy:x.services[s]?=some y):Bp (goF x pl s) pl.length=Bp (goS x gone y.name) gone.length:=by
 rw[hp.1];refine Mh _ λi hi=>?_
 obtain⟨p,hpi,hl⟩:=hp.2 i _ hi (gE hi);rw[List.length_map]at hl;obtain⟨hx,c,hcp,_⟩:=Hz hc hl;unfold goF goS;rw[hpi,gE hi];simp only[hx,Int.toNat_natCast,hcp,lR,kX hs hy]
theorem oR{x:Flt}(hv:Au x=true){gone:List BA}{pl:List Nat}(hp:PlOk (cpN x) gone gone.length pl):(bL x pl pl.length/\Ft x pl)↔(MayA x gone gone.length/\MayC x gone x.services.length):=by
 obtain⟨_,_,hs,hc,_,_⟩:=Aw hv;have key:∀j g,j<gone.length->gone[j]?=some g->∃p c,pl[j]?=some p/\Ei x.copies g=p/\x.copies[p]?=some c/\c.name=g:=by
  intro j g hj hg;obtain⟨p,h1,h2⟩:=hp.2 j g hj hg;rw[List.length_map]at h2;obtain⟨h3,c,h4,h5⟩:=Hz hc h2;exact⟨p,c,h1,h3,h4,h5⟩
 have hA:bL x pl pl.length↔MayA x gone gone.length:=by
  unfold bL MayA;rw[hp.1];constructor
  .rintro⟨h1,h2⟩
   refine⟨λj g hj hg=>?_,λj s t hj hs' ht=>?_⟩
   .obtain⟨p,c,e1,e2,e3,_⟩:=key j g hj hg
    refine⟨by omega,?_⟩;rw[e2,Int.toNat_natCast];exact h1 j p hj e1
   .obtain⟨p,c,e1,_,e3,e4⟩:=key j s (by omega) hs'
    obtain⟨q,d,f1,_,f3,f4⟩:=key (j+1) t hj ht;have:=(hc.less_iff (Cl (f:=(·.name)) e3) (Cl (f:=(·.name)) f3)).1 (h2 j p q hj e1 f1)
    rwa [e4,f4]at this
  .rintro⟨h1,h2⟩
   refine⟨λj p hj hpj=>?_,λj q p hj hq hpj=>?_⟩
   .obtain⟨p',c,e1,e2,e3,_⟩:=key j _ hj (gE hj)
    rw[hpj]at e1;cases e1
    obtain⟨_,h3⟩:=h1 j _ hj (gE hj);rw[e2,Int.toNat_natCast]at h3;exact h3
   .have hj0:j<gone.length:=by omega
    obtain⟨p',c,e1,_,e3,e4⟩:=key j _ hj0 (gE hj0);obtain⟨q',d,f1,_,f3,f4⟩:=key (j+1) _ hj (gE hj);rw[hq]at e1;rw[hpj]at f1;cases e1
    cases f1
    refine(hc.less_iff (Cl (f:=(·.name)) e3) (Cl (f:=(·.name)) f3)).2 ?_;rw[e4,f4];exact h2 j _ _ hj (gE hj0) (gE hj)
 have hC:Ft x pl↔MayC x gone x.services.length:=by
  unfold Ft MayC Gh;constructor
  .intro h s y hsl hy h0
   have h1:=h s hsl;rw[xU hs hc hp hy,lY hs hy]at h1;simp only[Ht,hy]at h1;exact h1 h0
  .intro h s hsl h0
   have hy:x.services[s]?=some x.services[s]:=gE hsl;rw[xU hs hc hp hy]at h0⊢;rw[lY hs hy];simp only[Ht,hy];exact h s _ hsl hy h0
 rw[hA,hC]
def Dc(bs:List Brt)(s:BA):BA:=if Gk bs s<0 then⟨#[]⟩else ((bs[(Gk bs s).toNat]?).map (·.zone)).getD ⟨#[]⟩
theorem eC{a b:BA}(h:a=b):Ending.returned (.string a)=.returned (.string b):=by rw[h]
theorem gY(bs:List Brt)(s:BA):-1<=Gk bs s/\Gk bs s<bs.length:=by
 unfold Gk
 split
 .rename_i i h
  have:=(List.findIdx?_eq_some_iff_findIdx_eq.1 h).1;omega
 .omega
theorem Ov(x:Flt)(a1:OA)(c1:Nat)(a2:OA)(c2:Nat)(a3:OA)(c3:Nat)(lo:Nat)(s:BA)(w:World)(n1:SliceC BrtC 6 lo w a1 x.berths)(hl:x.berths.length<=1048576) :
  Calls prog 95 #[.agg (ffA x a1 c1 a2 c2 a3 c3),.string s] w (Rt (.string (Dc x.berths s)) w):=by
 have HI:=iH n1;clear n1;go_enter func95,ntmps95;go_wp2_with fail;have hal:=(Below.refl _ w).alloc nL (Obj.cells (ffA x a1 c1 a2 c2 a3 c3) 35);refine(Jd x a1 c1 a2 c2 a3 c3 lo s _ (HI.out.below BrtC.holds hal nL) hl).mono ?_;rintro e w1⟨rfl,hb1⟩;have e1:w1.cell? ⟨w.heap.size,1,none⟩=some (.slice a1 x.berths.length c1):=(hb1.cell (p:=⟨w.heap.size,1,none⟩) (by simp)).trans (by simp);have HB1:=iH (qTr hal hb1);have HZ:Hid (Dc x.berths s=if Gk x.berths s<0 then⟨#[]⟩else ((x.berths[(Gk x.berths s).toNat]?).map (·.zone)).getD ⟨#[]⟩):=rfl;have hbd:=gY x.berths s;clear hb1 hal;generalize Gk x.berths s=I at *;by_cases h0:I<0
 .rw[if_pos h0]at HZ
  go_wp2
  go_ret;exact⟨eC HZ.out.symm,HB1⟩
 .rw[if_neg h0]at HZ
  obtain⟨k,rfl⟩:∃k:Nat,I=k:=⟨I.toNat,by omega⟩;have hk:k<x.berths.length:=by omega
  obtain⟨b,hb⟩:=gXe hk;obtain⟨bb,o,rfl,_,_,hc⟩:=(HI.out.below BrtC.holds HB1 nL).at hb;obtain⟨a9,c9,q0,q1,_,_,_,_,_,_,_⟩:=hc;have HV:Hid (Dc x.berths s=b.zone):=by show _=_;rw[HZ.out,Int.toNat_natCast,hb];rfl
  clear hb q0 HZ
  go_wp2
  go_ret;exact⟨eC HV.out.symm,HB1⟩
abbrev brN(x:Flt):List BA:=x.berths.map (·.name)
theorem Bb{x:Flt}(h:Au x=true):x.berths.length<=12/\AscN (brN x)/\(∀(k:Nat)(b:Brt),x.berths[k]?=some b->P.nameOk b.name=true/\P.nameOk b.zone=true/\(0<=b.room/\b.room<=1000)/\Ik b.marks=true)/\∀(k:Nat)(c:Cpy),x.copies[k]?=some c->(0<=c.room/\c.room<=1000)/\Ev c.likes=true/\(c.at_=⟨#[]⟩\/∃s,Al (brN x) c.at_ x.berths.length=some s):=by
 unfold Au at h;simp only[Bool.and_eq_true,Dm,Eu,Ca,Bm,Lf,decide_eq_true_eq]at h;obtain⟨⟨⟨h0,_⟩,_⟩,⟨⟨h1,_⟩,_⟩,h2,_,h3,_⟩:=h;refine⟨h0,iG _ _ h1,λk b hb=>?_,λk c hc=>?_⟩
 .have h4:=h2 k b hb
  simp only[Hc,Bool.and_eq_true,inR,decide_eq_true_eq]at h4;exact⟨((Tb _ _).1 h1 k b hb).1,h4.1.1.1,h4.1.1.2,h4.2⟩
 .have h4:=h3 k c hc
  simp only[Hi,Cj,Bool.and_eq_true,Bool.or_eq_true,inR,decide_eq_true_eq]at h4;obtain⟨⟨_,h5⟩,h6⟩:=h4;refine⟨h6.1.1.1.1.1.1.2,h6.1.1.1.2,?_⟩;rcases h5 with h5|h5
  .exact Or.inr (Option.isSome_iff_exists.1 h5)
  .exact Or.inl (Rj.1 h5)
theorem kT{x:Flt}(hb:∀(k:Nat) (b:Brt),x.berths[k]?=some b->P.nameOk b.name=true/\P.nameOk b.zone=true/\(0<=b.room/\b.room<=1000)/\Ik b.marks=true):Al (brN x) ⟨#[]⟩ x.berths.length=none:=by
 rw[Dh];intro j hj e;obtain⟨b,h1,h2⟩:=Sv e;exact Iy (hb j b h1).1 h2
theorem aO{x:Flt}(ha:AscN (brN x)){s:BA}{k:Nat}(h:Al (brN x) s x.berths.length=some k):∃b,x.berths[k]?=some b/\b.name=s/\Dc x.berths s=b.zone:=by
 obtain⟨hk,hs⟩:=Du h;obtain⟨b,h1,h2⟩:=Sv hs;have hi:Gk x.berths s=k:=bB h1 h2 λj b' hj hb' he=>by
  have:=ha.inj (Cl (f:=(·.name)) hb') (show _=some b'.name by rw[he];exact hs);omega
 refine⟨b,h1,h2,?_⟩;unfold Dc;rw[hi,if_neg (by omega),Int.toNat_natCast,h1];rfl
def znF(x:Flt)(ci:Nat)(sv z:BA)(i:Nat):Bool:=match x.copies[i]? with
 |some c=>decide (i≠ci)&&decide (c.service=sv)&&decide (¬c.at_=⟨#[]⟩)&&decide (Dc x.berths c.at_=z)
 |none=>false
def Bn(x:Flt)(ci:Nat)(nm:BA):Nat->Int
 |0=>0
 |k+1=>Bn x ci nm k+(match x.copies[k]? with
  |some c=>if c.at_=nm/\k≠ci then c.room else 0
  |none=>0)
theorem oS{x:Flt}{ci k:Nat}{nm:BA}{c:Cpy}(hk:x.copies[k]?=some c)(h1:c.at_=nm)(h2:k≠ci):Bn x ci nm (k+1)=Bn x ci nm k+c.room:=by
 simp only[Bn,hk];rw[if_pos ⟨h1,h2⟩]
theorem Vf{x:Flt}{ci k:Nat}{nm:BA}{c:Cpy}(hk:x.copies[k]?=some c)(h:¬(c.at_=nm/\k≠ci)):Bn x ci nm (k+1)=Bn x ci nm k:=by
 simp only[Bn,hk];rw[if_neg h];omega
theorem Rq{x:Flt}(ci:Nat)(nm:BA)(hc:∀(k:Nat) (c:Cpy),x.copies[k]?=some c->0<=c.room/\c.room<=1000):∀k,0<=Bn x ci nm k/\Bn x ci nm k<=1000*k
 |0=>by simp[Bn]
 | k+1=>by
  have ih:=Rq ci nm hc k;simp only[Bn]
  cases h:x.copies[k]? with
  |none=>simp only;omega
  |some c =>
   have h1:=hc k c h;simp only
   split<;>omega
theorem dF{x:Flt}(ci:Nat)(nm:BA)(hc:∀(k:Nat) (c:Cpy),x.copies[k]?=some c->0<=c.room/\c.room<=1000):∀k,k<=60->(Ap x.copies nm ci k).2.1=Bn x ci nm k
 |0,_=>rfl
 | k+1,hk=>by
  have ih:=dF ci nm hc k (by omega);have hb:=Rq ci nm hc k;unfold Ap Bn
  cases h:x.copies[k]? with
  |none=>simp only;omega
  | some c =>
   have h1:=hc k c h;simp only;by_cases e:c.at_=nm/\k≠ci
   .rw[if_pos e,if_pos ⟨e.1,by omega⟩]
    simp only;rw[ih];unfold wrap64;omega
   .rw[if_neg e,if_neg (λh=>e ⟨h.1,by omega⟩)]
    omega
theorem Th{x:Flt}{ci k:Nat}{sv z:BA}{c:Cpy}(hk:x.copies[k]?=some c)(h:¬(k≠ci/\c.service=sv/\(¬c.at_=⟨#[]⟩)/\Dc x.berths c.at_=z)):znF x ci sv z k=false:=by
 unfold znF;rw[hk];simp only[Bool.and_eq_false_iff,decide_eq_false_iff_not];by_cases h1:k≠ci
 .by_cases h2:c.service=sv
  .by_cases h3:¬c.at_=⟨#[]⟩
   .exact Or.inr (λh4=>h ⟨h1,h2,h3,h4⟩)
   .exact Or.inl (Or.inr h3)
  .exact Or.inl (Or.inl (Or.inr h2))
 .exact Or.inl (Or.inl (Or.inl h1))
theorem iZ{x:Flt}{ci k:Nat}{sv z:BA}{c:Cpy}(hk:x.copies[k]?=some c)(h1:k≠ci)(h2:c.service=sv)(h3:¬c.at_=⟨#[]⟩)(h4:Dc x.berths c.at_=z):znF x ci sv z k=true:=by
 unfold znF;rw[hk];simp only[Bool.and_eq_true,decide_eq_true_eq];exact⟨⟨⟨h1,h2⟩,h3⟩,h4⟩
theorem Yj{bs:List Brt}(h:AscN (bs.map (·.name))){s:BA}{k:Nat}(e:Al (bs.map (·.name)) s bs.length=some k):Gk bs s=k/\∃c,bs[k]?=some c/\c.name=s:=by
 obtain⟨hk,hs⟩:=Du e;obtain⟨c,hc,hn⟩:=Sv hs;refine⟨bB hc hn λj b hj hb he=>?_,c,hc,hn⟩;have:=h.inj (Cl (f:=(·.name)) hb) (show _=some b.name by rw[he];exact hs);omega
theorem vZ{bs:List Brt}{s:BA}(e:Al (bs.map (·.name)) s bs.length=none):Gk bs s=-1 :=
 Za λj b hj hb he=>(Dh _ s _).1 e j hj (by rw[Cl hb,he])
theorem Ou{s:BA}(h:P.nameOk s=true):s.size<=1000:=by
 unfold P.nameOk at h;simp only[Bool.and_eq_true,decide_eq_true_eq]at h;omega
theorem Xh{ms:List BA}(h:Ik ms=true):ms.length<=1000:=by
 unfold Ik at h;simp only[Bool.and_eq_true,decide_eq_true_eq]at h;omega
def Ir(x:Flt)(cn bn:BA):Option (Nat×Nat):=if Au x=true then(match Al (cpN x) cn x.copies.length,Al (brN x) bn x.berths.length with
 |some ci,some bi=>some (ci,bi)
 |_,_=>none)else none
theorem Uh{x:Flt}{cn bn:BA}(h:Au x=false):Ir x cn bn=none:=by
 unfold Ir;rw[if_neg (by rw[h];decide)]
theorem cP{x:Flt}{cn bn:BA}(h:Al (cpN x) cn x.copies.length=none):Ir x cn bn=none:=by
 unfold Ir;rw[h]
 split<;>rfl
theorem eO{x:Flt}{cn bn:BA}(h:Al (brN x) bn x.berths.length=none):Ir x cn bn=none:=by
 unfold Ir;rw[h]
 split
 .split
  .rename_i h1 h2
   cases h2
  .rfl
 .rfl
theorem cK{x:Flt}{cn bn:BA}{ci bi:Nat}(hv:Au x=true)(h1:Al (cpN x) cn x.copies.length=some ci)(h2:Al (brN x) bn x.berths.length=some bi):Ir x cn bn=some (ci,bi):=by
 unfold Ir;rw[if_pos hv,h1,h2]
def Oo(one:Bool)(nm vl:BA)(m:BA):Bool:=Ec m&&(decide (Ar m=nm)&&(one||decide (Fm m=vl)))
def Eo(ms:List BA)(one:Bool)(nm vl:BA):Nat->Bool
 |0=>false
 |k+1=>Eo ms one nm vl k||(match ms[k]? with|some m=>Oo one nm vl m|none=>false)
def bO(ms:List BA)(one:Bool)(nm vl:BA):Bool:=Eo ms one nm vl ms.length
def Bw(ms:List BA):P.Tr->Bool
 |.nil=>true
 |.node b _ p l r =>
  if b=0 then true
  else if b=1 then bO ms true p.1 ⟨#[]⟩
  else if b=2 then bO ms false p.1 p.2
  else if b=3 then !Bw ms l
  else if b=4 then Bw ms l&&Bw ms r
  else Bw ms l||Bw ms r
theorem Oj{ms:List BA}{one:Bool}{nm vl:BA}{k:Nat}(h:Eo ms one nm vl k=true):∀n,k<=n->Eo ms one nm vl n=true
 |0,hn=>(by have:k=0:=(by omega);subst this;exact h)
 |n+1,hn=>by
  by_cases e:k=n+1
  .subst e;exact h
  .rw[Eo,Oj h n (by omega)];rfl
theorem Vq{ms:List BA}{one:Bool}{nm vl:BA}{k:Nat}{m:BA}(hm:ms[k]?=some m):Eo ms one nm vl (k+1)=(Eo ms one nm vl k||Oo one nm vl m):=by
 rw[Eo,hm]
def Ge(ns:List P.Nd)(out:List (List Nat))(n cn co go g:Nat)(ms:List BA)(am:OA)(cm:Nat)(k:Nat)(t:P.Tr):Prop :=
 ∀(w:World),Nodes0 w g ns->KidsIn w go out->SliceC StrC 1 0 w am ms ->
  Calls prog 124 #[.agg #[.slice (some ⟨g,0,none⟩) ns.length cn],.slice (some ⟨go,0,none⟩) n co,.int .i64 (k:Int),.slice am ms.length cm] w λe w'=>e=.returned (.bool (Bw ms t))/\Below w.heap.size w w'
theorem gA(ns:List P.Nd)(out:List (List Nat))(n cn co go g:Nat)(ms:List BA)(am:OA)(cm:Nat)(k:Nat)(nd:P.Nd)(hnd:ns[k]?=some nd)(hk:nd.kind=0):Ge ns out n cn co go g ms am cm k P.nonT:=by
 intro w hN hK hM;have hkl:=P.getElem?_lt hnd;have hlt:=hN.1;have hml:ms.length<=maxLen:=hM.1;unfold maxLen at hml;have hNN:=iH hN;have hKK:=iH hK;have hMM:=iH hM;have q0:∀o1,(w.alloc o1).cell? ⟨g,k*4,none⟩=some (.int .i64 0):=λo1=>((Em ((Below.refl w.heap.size w).alloc nL o1)).1 _ _ hlt).trans (by rw[<-hk];exact(hN.2 k nd hnd).1)
 have q1:∀o1,(w.alloc o1).cell? ⟨g,k*4+1,none⟩=some (.string nd.name):=λo1=>((Em ((Below.refl w.heap.size w).alloc nL o1)).1 _ _ hlt).trans (hN.2 k nd hnd).2.1
 have q2:∀o1,(w.alloc o1).cell? ⟨g,k*4+2,none⟩=some (.string nd.value):=λo1=>((Em ((Below.refl w.heap.size w).alloc nL o1)).1 _ _ hlt).trans (hN.2 k nd hnd).2.2.1
 have q3:∀o1,(w.alloc o1).cell? ⟨g,k*4+3,none⟩=some (.int .i64 nd.kids):=λo1=>((Em ((Below.refl w.heap.size w).alloc nL o1)).1 _ _ hlt).trans (hN.2 k nd hnd).2.2.2
 show Calls _ _ _ _ λe w'=>e=.returned (.bool true)/\_
 clear hN hK hnd hk hM;go_enter func124,ntmps124
 go_wp2
 go_ret;exact⟨rfl,by go_grown⟩
theorem jY(ns:List P.Nd)(out:List (List Nat))(n cn co go g:Nat)(ms:List BA)(am:OA)(cm:Nat)(k:Nat)(nd:P.Nd)(hnd:ns[k]?=some nd)(hk:nd.kind=1):Ge ns out n cn co go g ms am cm k (P.nmT nd.name):=by
 intro w hN hK hM;have hkl:=P.getElem?_lt hnd;have hlt:=hN.1;have hml:ms.length<=maxLen:=hM.1;unfold maxLen at hml;have hNN:=iH hN;have hKK:=iH hK;have hMM:=iH hM;have q0:∀o1,(w.alloc o1).cell? ⟨g,k*4,none⟩=some (.int .i64 1):=λo1=>((Em ((Below.refl w.heap.size w).alloc nL o1)).1 _ _ hlt).trans (by rw[<-hk];exact(hN.2 k nd hnd).1)
 have q1:∀o1,(w.alloc o1).cell? ⟨g,k*4+1,none⟩=some (.string nd.name):=λo1=>((Em ((Below.refl w.heap.size w).alloc nL o1)).1 _ _ hlt).trans (hN.2 k nd hnd).2.1
 have q2:∀o1,(w.alloc o1).cell? ⟨g,k*4+2,none⟩=some (.string nd.value):=λo1=>((Em ((Below.refl w.heap.size w).alloc nL o1)).1 _ _ hlt).trans (hN.2 k nd hnd).2.2.1
 have q3:∀o1,(w.alloc o1).cell? ⟨g,k*4+3,none⟩=some (.int .i64 nd.kids):=λo1=>((Em ((Below.refl w.heap.size w).alloc nL o1)).1 _ _ hlt).trans (hN.2 k nd hnd).2.2.2
 show Calls _ _ _ _ λe w'=>e=.returned (.bool (bO ms true nd.name ⟨#[]⟩))/\_
 clear hN hK hnd hk hM;go_enter func124,ntmps124;go_wp2_with fail;have HB0:Hid (Below w.heap.size w ((w.alloc (Obj.cells #[.slice (some ⟨g,0,none⟩) ns.length cn] 158)).alloc (Obj.cells #[.int .i64 1,.string nd.name,.string nd.value,.int .i64 nd.kids] 184))):=((Below.refl w.heap.size w).alloc nL _).alloc (by simp) _;have HM0:=iH (hMM.out.below StrC.holds HB0 nL);have hz0:((w.alloc (Obj.cells #[.slice (some ⟨g,0,none⟩) ns.length cn] 158)).alloc (Obj.cells #[.int .i64 1,.string nd.name,.string nd.value,.int .i64 nd.kids] 184)).heap.size=w.heap.size+2:=by simp
 have c0:Hid (((w.alloc (Obj.cells #[.slice (some ⟨g,0,none⟩) ns.length cn] 158)).alloc (Obj.cells #[.int .i64 1,.string nd.name,.string nd.value,.int .i64 nd.kids] 184)).cell? ⟨w.heap.size+1,0,none⟩=some (.int .i64 1)):=by show _=_;simp
 have c1:Hid (((w.alloc (Obj.cells #[.slice (some ⟨g,0,none⟩) ns.length cn] 158)).alloc (Obj.cells #[.int .i64 1,.string nd.name,.string nd.value,.int .i64 nd.kids] 184)).cell? ⟨w.heap.size+1,1,none⟩=some (.string nd.name)):=by show _=_;simp
 have c2:Hid (((w.alloc (Obj.cells #[.slice (some ⟨g,0,none⟩) ns.length cn] 158)).alloc (Obj.cells #[.int .i64 1,.string nd.name,.string nd.value,.int .i64 nd.kids] 184)).cell? ⟨w.heap.size+1,2,none⟩=some (.string nd.value)):=by show _=_;simp
 clear q0 q1 q2 q3 hNN hKK hMM;generalize((w.alloc (Obj.cells #[.slice (some ⟨g,0,none⟩) ns.length cn] 158)).alloc (Obj.cells #[.int .i64 1,.string nd.name,.string nd.value,.int .i64 nd.kids] 184))=w0 at *;go_loopw [10] (λi wr=>∃j:Nat,j<=ms.length/\i=.int .i64 j/\Hid (Eo ms true nd.name ⟨#[]⟩ j=false)/\Hid (Below w0.heap.size w0 wr)) (λi _=>ms.length-(intOf i).toNat)
 case atStart=>exact⟨0,zL,rfl,rfl,Below.refl _ _⟩
 case round =>
  obtain⟨j,hj,rfl,hno,hbel⟩:=hrel;by_cases hlt2:j<ms.length
  .obtain⟨m,hm⟩:=gXe hlt2
   obtain⟨b,o,rfl,_,_,hc⟩:=(HM0.out.below StrC.holds hbel.out nL).at hm;obtain⟨q0,z0⟩:=hc;simp only[Nat.mul_one,Nat.add_zero]at q0;have HX:=iH hm;have HZ:=iH z0;clear hm z0;go_wp2_with fail;refine(Mv m _ HZ).mono ?_;rintro e w1⟨rfl,hb1⟩;have HB1:=qTH hbel hb1;have d0:w1.cell? ⟨w.heap.size+1,0,none⟩=some (.int .i64 1):=(HB1.out.cell (p:=⟨w.heap.size+1,0,none⟩) (by rw[hz0];exact Nat.lt_succ_self _)).trans c0.out;have d1:w1.cell? ⟨w.heap.size+1,1,none⟩=some (.string nd.name):=(HB1.out.cell (p:=⟨w.heap.size+1,1,none⟩) (by rw[hz0];exact Nat.lt_succ_self _)).trans c1.out;have d2:w1.cell? ⟨w.heap.size+1,2,none⟩=some (.string nd.value):=(HB1.out.cell (p:=⟨w.heap.size+1,2,none⟩) (by rw[hz0];exact Nat.lt_succ_self _)).trans c2.out;have HST:Hid (Eo ms true nd.name ⟨#[]⟩ (j+1)=(Eo ms true nd.name ⟨#[]⟩ j||Oo true nd.name ⟨#[]⟩ m)):=Vq HX;clear hb1 hbel q0
   cases hmk:Ec m with
   |false =>
    have HN:Hid (Eo ms true nd.name ⟨#[]⟩ (j+1)=false):=by show _=_;rw[HST.out,hno.out,Oo,hmk];rfl
    clear hmk HST hno
    go_wp2
    go_roundw
    case rel=>exact⟨j+1,by omega,by go_num,HN,HB1⟩
    case measure=>simp[intOf];omega
   | true =>
    have HH:Hid (Oo true nd.name ⟨#[]⟩ m=(decide (Ar m=nd.name)&&(true||decide (Fm m=⟨#[]⟩)))):=by show _=_;rw[Oo,hmk];rfl
    clear hmk;generalize Ar m=nm at *;generalize Fm m=vm at *;by_cases hne:nm=nd.name
    .have hte:=Br hne
     have HT:Hid (true=bO ms true nd.name ⟨#[]⟩):=by
      refine Eq.symm (Oj (k:=j+1) ?_ _ (by omega));rw[HST.out,HH.out,decide_eq_true hne];cases Eo ms true nd.name ⟨#[]⟩ j<;>rfl
     clear HST hno HH hne
     go_wp2
     go_ret;exact⟨Ab HT,HB0.out.trans (HB1.out.mono HB0.out.size)⟩
    .have hte:=Bu hne
     have HN:Hid (Eo ms true nd.name ⟨#[]⟩ (j+1)=false):=by show _=_;rw[HST.out,hno.out,HH.out,decide_eq_false hne];rfl
     clear HST hno HH hne
     go_wp2
     go_roundw
     case rel=>exact⟨j+1,by omega,by go_num,HN,HB1⟩
     case measure=>simp[intOf];omega
  .have hke:j=ms.length:=by omega
   subst hke;have HF:Hid (false=bO ms true nd.name ⟨#[]⟩):=hno.out.symm;clear hno
   go_wp2
   go_ret;exact⟨Ab HF,HB0.out.trans (hbel.out.mono HB0.out.size)⟩
theorem iF(ns:List P.Nd)(out:List (List Nat))(n cn co go g:Nat)(ms:List BA)(am:OA)(cm:Nat)(k:Nat)(nd:P.Nd)(hnd:ns[k]?=some nd)(hk:nd.kind=2):Ge ns out n cn co go g ms am cm k (P.vlT nd.name nd.value):=by
 intro w hN hK hM;have hkl:=P.getElem?_lt hnd;have hlt:=hN.1;have hml:ms.length<=maxLen:=hM.1;unfold maxLen at hml;have hNN:=iH hN;have hKK:=iH hK;have hMM:=iH hM;have q0:∀o1,(w.alloc o1).cell? ⟨g,k*4,none⟩=some (.int .i64 2):=λo1=>((Em ((Below.refl w.heap.size w).alloc nL o1)).1 _ _ hlt).trans (by rw[<-hk];exact(hN.2 k nd hnd).1)
 have q1:∀o1,(w.alloc o1).cell? ⟨g,k*4+1,none⟩=some (.string nd.name):=λo1=>((Em ((Below.refl w.heap.size w).alloc nL o1)).1 _ _ hlt).trans (hN.2 k nd hnd).2.1
 have q2:∀o1,(w.alloc o1).cell? ⟨g,k*4+2,none⟩=some (.string nd.value):=λo1=>((Em ((Below.refl w.heap.size w).alloc nL o1)).1 _ _ hlt).trans (hN.2 k nd hnd).2.2.1
 have q3:∀o1,(w.alloc o1).cell? ⟨g,k*4+3,none⟩=some (.int .i64 nd.kids):=λo1=>((Em ((Below.refl w.heap.size w).alloc nL o1)).1 _ _ hlt).trans (hN.2 k nd hnd).2.2.2
 show Calls _ _ _ _ λe w'=>e=.returned (.bool (bO ms false nd.name nd.value))/\_
 clear hN hK hnd hk hM;go_enter func124,ntmps124;go_wp2_with fail;have HB0:Hid (Below w.heap.size w ((w.alloc (Obj.cells #[.slice (some ⟨g,0,none⟩) ns.length cn] 158)).alloc (Obj.cells #[.int .i64 2,.string nd.name,.string nd.value,.int .i64 nd.kids] 184))):=((Below.refl w.heap.size w).alloc nL _).alloc (by simp) _;have HM0:=iH (hMM.out.below StrC.holds HB0 nL);have hz0:((w.alloc (Obj.cells #[.slice (some ⟨g,0,none⟩) ns.length cn] 158)).alloc (Obj.cells #[.int .i64 2,.string nd.name,.string nd.value,.int .i64 nd.kids] 184)).heap.size=w.heap.size+2:=by simp
 have c0:Hid (((w.alloc (Obj.cells #[.slice (some ⟨g,0,none⟩) ns.length cn] 158)).alloc (Obj.cells #[.int .i64 2,.string nd.name,.string nd.value,.int .i64 nd.kids] 184)).cell? ⟨w.heap.size+1,0,none⟩=some (.int .i64 2)):=by show _=_;simp
 have c1:Hid (((w.alloc (Obj.cells #[.slice (some ⟨g,0,none⟩) ns.length cn] 158)).alloc (Obj.cells #[.int .i64 2,.string nd.name,.string nd.value,.int .i64 nd.kids] 184)).cell? ⟨w.heap.size+1,1,none⟩=some (.string nd.name)):=by show _=_;simp
 have c2:Hid (((w.alloc (Obj.cells #[.slice (some ⟨g,0,none⟩) ns.length cn] 158)).alloc (Obj.cells #[.int .i64 2,.string nd.name,.string nd.value,.int .i64 nd.kids] 184)).cell? ⟨w.heap.size+1,2,none⟩=some (.string nd.value)):=by show _=_;simp
 clear q0 q1 q2 q3 hNN hKK hMM;generalize((w.alloc (Obj.cells #[.slice (some ⟨g,0,none⟩) ns.length cn] 158)).alloc (Obj.cells #[.int .i64 2,.string nd.name,.string nd.value,.int .i64 nd.kids] 184))=w0 at *;go_loopw [10] (λi wr=>∃j:Nat,j<=ms.length/\i=.int .i64 j/\Hid (Eo ms false nd.name nd.value j=false)/\Hid (Below w0.heap.size w0 wr)) (λi _=>ms.length-(intOf i).toNat)
 case atStart=>exact⟨0,zL,rfl,rfl,Below.refl _ _⟩
 case round =>
  obtain⟨j,hj,rfl,hno,hbel⟩:=hrel;by_cases hlt2:j<ms.length
  .obtain⟨m,hm⟩:=gXe hlt2
   obtain⟨b,o,rfl,_,_,hc⟩:=(HM0.out.below StrC.holds hbel.out nL).at hm;obtain⟨q0,z0⟩:=hc;simp only[Nat.mul_one,Nat.add_zero]at q0;have HX:=iH hm;have HZ:=iH z0;clear hm z0;go_wp2_with fail;refine(Mv m _ HZ).mono ?_;rintro e w1⟨rfl,hb1⟩;have HB1:=qTH hbel hb1;have d0:w1.cell? ⟨w.heap.size+1,0,none⟩=some (.int .i64 2):=(HB1.out.cell (p:=⟨w.heap.size+1,0,none⟩) (by rw[hz0];exact Nat.lt_succ_self _)).trans c0.out;have d1:w1.cell? ⟨w.heap.size+1,1,none⟩=some (.string nd.name):=(HB1.out.cell (p:=⟨w.heap.size+1,1,none⟩) (by rw[hz0];exact Nat.lt_succ_self _)).trans c1.out;have d2:w1.cell? ⟨w.heap.size+1,2,none⟩=some (.string nd.value):=(HB1.out.cell (p:=⟨w.heap.size+1,2,none⟩) (by rw[hz0];exact Nat.lt_succ_self _)).trans c2.out;have HST:Hid (Eo ms false nd.name nd.value (j+1)=(Eo ms false nd.name nd.value j||Oo false nd.name nd.value m)):=Vq HX;clear hb1 hbel q0
   cases hmk:Ec m with
   |false =>
    have HN:Hid (Eo ms false nd.name nd.value (j+1)=false):=by show _=_;rw[HST.out,hno.out,Oo,hmk];rfl
    clear hmk HST hno
    go_wp2
    go_roundw
    case rel=>exact⟨j+1,by omega,by go_num,HN,HB1⟩
    case measure=>simp[intOf];omega
   | true =>
    have HH:Hid (Oo false nd.name nd.value m=(decide (Ar m=nd.name)&&(false||decide (Fm m=nd.value)))):=by show _=_;rw[Oo,hmk];rfl
    clear hmk;generalize Ar m=nm at *;generalize Fm m=vm at *;by_cases hne:nm=nd.name
    .have hte:=Br hne
     by_cases hv:vm=nd.value
     .have htv:=Br hv
      have HT:Hid (true=bO ms false nd.name nd.value):=by
       refine Eq.symm (Oj (k:=j+1) ?_ _ (by omega));rw[HST.out,HH.out,decide_eq_true hne,decide_eq_true hv];cases Eo ms false nd.name nd.value j<;>rfl
      clear HST hno HH hne hv
      go_wp2
      go_ret;exact⟨Ab HT,HB0.out.trans (HB1.out.mono HB0.out.size)⟩
     .have htv:=Bu hv
      have HN:Hid (Eo ms false nd.name nd.value (j+1)=false):=by show _=_;rw[HST.out,hno.out,HH.out,decide_eq_false hv,decide_eq_true hne];rfl
      clear HST hno HH hne hv
      go_wp2
      go_roundw
      case rel=>exact⟨j+1,by omega,by go_num,HN,HB1⟩
      case measure=>simp[intOf];omega
    .have hte:=Bu hne
     have HN:Hid (Eo ms false nd.name nd.value (j+1)=false):=by show _=_;rw[HST.out,hno.out,HH.out,decide_eq_false hne];rfl
     clear HST hno HH hne
     go_wp2
     go_roundw
     case rel=>exact⟨j+1,by omega,by go_num,HN,HB1⟩
     case measure=>simp[intOf];omega
  .have hke:j=ms.length:=by omega
   subst hke;have HF:Hid (false=bO ms false nd.name nd.value):=hno.out.symm;clear hno
   go_wp2
   go_ret;exact⟨Ab HF,HB0.out.trans (hbel.out.mono HB0.out.size)⟩
end Go.Proofs.YtpidfnfilnkhkaaGreat
