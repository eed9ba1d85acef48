import Derived.Test.YtjoeojhdkoidbaaGreatJ21
set_option maxHeartbeats 1000000
set_option maxRecDepth 100000
namespace Go.Proofs.YtjoeojhdkoidbaaGreat
open Go.RowKit Tryz
theorem Wi {ns:List BA}:∀ n,Cs ns n=true↔∀ k,k<n→Gj ns k=true
 | 0=>by simp [Cs]
 | n+1=>by
  simp only [Cs,Bool.and_eq_true,Wi n];constructor
  ·rintro ⟨h1,h2⟩ k hk
   by_cases e:k=n
   ·subst e;exact h2
   ·exact h1 k (by omega)
  ·intro h
   exact ⟨fun k hk=>h k (by omega),h n (by omega)⟩
theorem Xb {f:Nat→Bool}:∀ n,Ea f n=true↔∀ k,k<n→f k=true
 | 0=>by simp [Ea]
 | n+1=>by
  simp only [Ea,Bool.and_eq_true,Xb n];constructor
  ·rintro ⟨h1,h2⟩ k hk
   by_cases e:k=n
   ·subst e;exact h2
   ·exact h1 k (by omega)
  ·intro h
   exact ⟨fun k hk=>h k (by omega),h n (by omega)⟩
theorem Vr {ns:List BA} {k:Nat} {s:BA} (hk:ns[k]?=some s):Gj ns k=true↔P.nameOk s=true∧Ie ns k=true:=by
 cases k with
 | zero=>simp only [Gj,hk,Ie,and_true]
 | succ j =>
  have hlt:j+1<ns.length:=(List.getElem?_eq_some_iff.mp hk).1;have ht:ns[j]?=some ns[j]:=gE (by omega);simp only [Gj,hk,ht,Ie,Bool.and_eq_true]
theorem Xt {α:Type} (f:α→BA) (xs:List α):Cs (xs.map f) xs.length=true↔∀ (k:Nat) (y:α),xs[k]?=some y→P.nameOk (f y)=true∧Ie (xs.map f) k=true:=by
 rw [Wi];constructor
 ·intro h k y hy
  exact (Vr (by rw [List.getElem?_map,hy];rfl)).1 (h k (List.getElem?_eq_some_iff.mp hy).1)
 ·intro h k hk
  have hy:xs[k]?=some xs[k]:=gE hk;exact (Vr (by rw [List.getElem?_map,hy];rfl)).2 (h k _ hy)
theorem Mh {α:Type} (f:α→Bool) (xs:List α):xs.all f=true↔∀ (k:Nat) (y:α),xs[k]?=some y→f y=true:=by
 rw [List.all_eq_true];constructor
 ·intro h k y hy
  exact h y (List.mem_of_getElem? hy)
 ·intro h y hy
  obtain ⟨j,hj,e⟩:=List.mem_iff_getElem.mp hy;exact h j y (by rw [gE hj,e])
theorem Nz (n a b:Int):inB n a b=inR n a b:=by
 unfold inB inR;rw [Bool.eq_iff_iff];simp
theorem nI:Pa=Hb:=by
 funext l;unfold Pa Hb;rw [Nz]
theorem Wa (y:Cpy):Rg y=true↔P.nameOk y.name=true∧P.nameOk y.service=true∧Cm y=true:=by
 unfold Rg Em Cm Ew;simp only [Nz,nI,Bool.and_eq_true];constructor
 ·rintro ⟨h1,h2,h3,h4,h5,h6,⟨h7,h8,h9,h10,h11⟩,h12⟩
  exact ⟨h1,h2,⟨⟨⟨⟨⟨⟨⟨h3,h4⟩,h5⟩,h6⟩,h7⟩,h8,h12⟩,h9⟩,h10⟩,h11⟩
 ·rintro ⟨h1,h2,⟨⟨⟨⟨⟨⟨⟨h3,h4⟩,h5⟩,h6⟩,h7⟩,h8,h12⟩,h9⟩,h10⟩,h11⟩
  exact ⟨h1,h2,h3,h4,h5,h6,⟨h7,h8,h9,h10,h11⟩,h12⟩
theorem Uu (y:Brt):Kv y=true↔P.nameOk y.name=true∧Gw y=true:=by
 unfold Kv Gw;simp only [Nz,← nX,Bool.and_eq_true];constructor
 ·rintro ⟨h1,h2,h3,h4,h5⟩
  exact ⟨h1,⟨⟨h2,h4⟩,h5⟩,h3⟩
 ·rintro ⟨h1,⟨⟨h2,h4⟩,h5⟩,h3⟩
  exact ⟨h1,h2,h3,h4,h5⟩
theorem jH (bs:List Svc) (s:BA):Pm bs s<0↔An (bs.map (·.name)) s bs.length=none:=by
 rw [Dh];unfold Pm
 cases h:bs.findIdx? (fun b=>decide (b.name=s)) with
 | none =>
  rw [List.findIdx?_eq_none_iff] at h;constructor
  ·intro _ j hj e
   rw [List.getElem?_map,gE hj] at e;simp at e;have:=h bs[j] (List.getElem_mem hj);simp at this;exact this e
  ·intro _;decide
 | some k =>
  rw [List.findIdx?_eq_some_iff_getElem] at h;obtain ⟨hk,h1,_⟩:=h;constructor
  ·intro e
   simp at e;omega
  ·intro e
   refine absurd ?_ (e k hk);rw [List.getElem?_map,gE hk];simpa using h1
theorem dJ {α:Type} {o:Option α}:o.isSome=true↔¬ o=none:=by cases o <;> simp
theorem kK {bs:List BA} {s:BA} {n:Nat} (h:¬ An bs s n=none):∃ j,j<n∧bs[j]?=some s:=by
 rw [Dh] at h;exact Classical.byContradiction fun hc=>h fun j hj e=>hc ⟨j,hj,e⟩
theorem Yo (cs:List Cpy) (s:BA):∀ k,k≤1048576→(Ar cs s (-1) k).1=(Gg cs s k:Nat)
 | 0,_=>rfl
 | k+1,hk=>by
  have ih:=Yo cs s k (by omega);have hle:=dL cs s k;unfold Ar Gg
  cases h:cs[k]? with
  | none=>exact ih
  | some c =>
   by_cases e:c.at_=s
   ·simp only [e,if_true,true_and]
    rw [if_pos (by omega),ih];show wrap64 _=_
    rw [show wrap64 (((Gg cs s k:Nat):Int)+1)=((Gg cs s k:Nat):Int)+1 from by unfold wrap64;omega];omega
   ·simp only [e,if_false,false_and]
    exact ih
theorem Qm {s:BA}:s.size=0↔s=⟨#[]⟩ :=
 ⟨fun e=>ByteArray.ext (Array.eq_empty_of_size_eq_zero e),fun e=>by subst e;rfl⟩
theorem Kk {s:BA} (h:P.nameOk s=true):¬ s=⟨#[]⟩:=by
 intro e;subst e;revert h
 decide
theorem qV {bs:List Brt} {k:Nat} {y:Brt} (h:bs[k]?=some y):¬ Gh bs y.name<0:=by
 rw [Yg,Dh];intro hc;exact hc k (List.getElem?_eq_some_iff.mp h).1 (by rw [List.getElem?_map,h];rfl)
theorem gT {x:Flt} {k:Nat} {y:Brt} (h:x.berths[k]?=some y) (hn:P.nameOk y.name=true):Lp x y.name=(Ar x.copies y.name (-1) x.copies.length).2:=by
 unfold Lp Fh;rw [if_neg (qV h),if_neg (Kk hn)]
theorem nF (x:Flt) (l3:x.copies.length≤1048576):Cf x=Qh x:=by
 unfold Cf Qh
 congr 1
 rw [Bool.eq_iff_iff];simp only [Bool.and_eq_true,Fb,Xt,Ch,Fe,Bw,Df,Mh,Xb];constructor
 ·rintro ⟨⟨⟨ob,os⟩,oc⟩,hb,hs,hc,hst⟩
  refine ⟨fun k hk=>?_,fun k hk=>?_,fun k hk=>?_⟩
  ·have hy:x.services[k]?=some x.services[k]:=gE hk
   simp only [Gu,hy,Bool.and_eq_true,Nz];exact ⟨(os k _ hy).1,(os k _ hy).2,hs k _ hy⟩
  ·have hy:x.copies[k]?=some x.copies[k]:=gE hk
   have h1:=hc k _ hy;simp only [Hc,Bool.and_eq_true,Bool.or_eq_true,decide_eq_true_eq,dJ] at h1;obtain ⟨⟨h2,h3⟩,h4⟩:=h1;simp only [Gd,hy,Bool.and_eq_true,Bool.or_eq_true,decide_eq_true_eq,Bool.not_eq_true',decide_eq_false_iff_not,Wa];obtain ⟨j,hj,e⟩:=kK h2;have hjs:x.services[j]?=some x.services[j]:=gE hj;have hsn:x.services[j].name=x.copies[k].service:=by
    rw [List.getElem?_map,hjs] at e;simpa using e
   refine ⟨⟨(oc k _ hy).1,by rw [← hsn];exact (os j _ hjs).1,h4⟩,(oc k _ hy).2,by rw [jH];exact h2,?_⟩;rcases h3 with h3 | h3
   ·exact Or.inr (by rw [Yg];exact h3)
   ·exact Or.inl (Qm.1 h3)
  ·have hy:x.berths[k]?=some x.berths[k]:=gE hk
   have h1:=hst k _ hy;simp only [Ih,Bool.and_eq_true,decide_eq_true_eq] at h1;obtain ⟨⟨h2,h3⟩,h4⟩:=h1;simp only [Fr,hy,Bool.and_eq_true,Bool.not_eq_true',decide_eq_false_iff_not,Uu];rw [gT hy (ob k _ hy).1];rw [Yo _ _ _ l3] at h2;exact ⟨⟨(ob k _ hy).1,hb k _ hy⟩,(ob k _ hy).2,by omega,by omega,by omega⟩
 ·rintro ⟨hs,hc,hb⟩
  have hs':∀ (k:Nat) (y:Svc),x.services[k]?=some y→P.nameOk y.name=true∧Ie (x.services.map (·.name)) k=true∧inR y.spare 0 60=true:=by
   intro k y hy;have:=hs k (List.getElem?_eq_some_iff.mp hy).1;simpa only [Gu,hy,Bool.and_eq_true,Nz] using this
  have hc':∀ (k:Nat) (y:Cpy),x.copies[k]?=some y→(P.nameOk y.name=true∧P.nameOk y.service=true∧Cm y=true)∧Ie (x.copies.map (·.name)) k=true∧¬ Pm x.services y.service<0∧(y.at_=⟨#[]⟩∨¬ Gh x.berths y.at_<0):=by
   intro k y hy;have:=hc k (List.getElem?_eq_some_iff.mp hy).1;simpa only [Gd,hy,Bool.and_eq_true,Bool.or_eq_true,decide_eq_true_eq,Bool.not_eq_true',decide_eq_false_iff_not,Wa] using this
  have hb':∀ (k:Nat) (y:Brt),x.berths[k]?=some y→(P.nameOk y.name=true∧Gw y=true)∧Ie (x.berths.map (·.name)) k=true∧¬ y.room<(Lp x y.name).1∧¬ y.hold<(Lp x y.name).2∧¬ 10<Gg x.copies y.name x.copies.length:=by
   intro k y hy;have:=hb k (List.getElem?_eq_some_iff.mp hy).1;simpa only [Fr,hy,Bool.and_eq_true,Bool.not_eq_true',decide_eq_false_iff_not,Uu] using this
  refine ⟨⟨⟨fun k y hy=>⟨(hb' k y hy).1.1,(hb' k y hy).2.1⟩,fun k y hy=>⟨(hs' k y hy).1,(hs' k y hy).2.1⟩⟩,fun k y hy=>⟨(hc' k y hy).1.1,(hc' k y hy).2.1⟩⟩,fun k y hy=>(hb' k y hy).1.2,fun k y hy=>(hs' k y hy).2.2,fun k y hy=>?_,fun k y hy=>?_⟩
  ·obtain ⟨⟨_,_,h4⟩,_,h2,h3⟩:=hc' k y hy
   simp only [Hc,Bool.and_eq_true,Bool.or_eq_true,decide_eq_true_eq,dJ];rw [jH] at h2;refine ⟨⟨h2,?_⟩,h4⟩;rcases h3 with h3 | h3
   ·exact Or.inr (Qm.2 h3)
   ·exact Or.inl (by rw [Yg] at h3;exact h3)
  ·obtain ⟨⟨hn,_⟩,_,h1,h2,h3⟩:=hb' k y hy
   rw [gT hy hn] at h1 h2;simp only [Ih,Bool.and_eq_true,decide_eq_true_eq];rw [Yo _ _ _ l3];exact ⟨⟨by omega,by omega⟩,by omega⟩
def Fy (bs:List Cpy) (s:BA):Int:=match bs.findIdx? (fun b=>decide (b.name=s)) with
 | some k=>k
 | none=>-1
theorem iW {bs:List Cpy} {s:BA} {k:Nat} {b:Cpy} (hk:bs[k]?=some b) (h:b.name=s) (ho:∀ j b,j<k→bs[j]?=some b→b.name≠s):Fy bs s=k:=by
 have:bs.findIdx? (fun b=>decide (b.name=s))=some k:=by
  rw [List.findIdx?_eq_some_iff_getElem];have hlt:=Ah hk;rw [gE hlt] at hk;injection hk with hk;refine ⟨hlt,by simp [hk,h],fun j hj=>?_⟩;have:=ho j bs[j] hj (gE (by omega));simpa using this
 simp [Fy,this]
theorem Xi {bs:List Cpy} {s:BA} (ho:∀ j b,j<bs.length→bs[j]?=some b→b.name≠s):Fy bs s=-1:=by
 have:bs.findIdx? (fun b=>decide (b.name=s))=none:=by
  rw [List.findIdx?_eq_none_iff];intro b hb;obtain ⟨j,hj⟩:=List.getElem?_of_mem hb;simpa using ho j b (Ah hj) hj
 simp [Fy,this]
theorem Ht (x:Flt) (a1:OA) (c1:Nat) (a2:OA) (c2:Nat) (a3:OA) (c3:Nat) (lo:Nat) (s:BA) (w:World) (n3:SliceC CpyC 12 lo w a3 x.copies) (hl:x.copies.length≤1048576) :
  Calls prog 19 #[.agg (ffA x a1 c1 a2 c2 a3 c3),.string s] w (Rt (.int .i64 (Fy x.copies s)) w):=by
 have HI:=iH n3;clear n3
 try unfold ffA
 generalize hbs:x.copies=bs at *;clear hbs;go_enter func19,ntmps19;go_wp2_with fail;go_loopw [5] (fun i wr=>∃ k:Nat,k≤bs.length∧i=.int .i64 k∧wr.cell? ⟨w.heap.size,3,none⟩=some (.slice a3 bs.length c3)∧Hid (∀ j b,j<k→bs[j]?=some b→b.name≠s)∧Below w.heap.size w wr) (fun i _=>bs.length - (intOf i).toNat)
 case atStart=>exact ⟨0,zL,rfl,by simp,fun j b h=>by omega,by go_grown⟩
 case round =>
  obtain ⟨k,hk,rfl,hcell,ho,hbel⟩:=hrel;by_cases hlt:k<bs.length
  ·obtain ⟨x,hx⟩:=gXe hlt
   obtain ⟨b,o,rfl,_,_,hc⟩:=(HI.out.below CpyC.holds hbel nL).at hx;obtain ⟨a9,c9,q0,q1,q2,q3,q4,q5,q6,q7,q8,q9,q10,q11,z0,z1,z2,z3,z4,z5,n9⟩:=hc;simp only [Nat.add_zero] at q0;have HX:=iH hx;clear hx q1 q2 q3 q4 q5 q6 q7 q8 q9 q10 q11 z0 z1 z2 z3 z4 z5 n9;by_cases h:x.name=s
   ·have HZ:Hid (Fy bs s=k):=iW HX h ho.out
    have ht:=Bo h;clear h;go_wp2_with fail;go_ret;exact ⟨Al HZ.out.symm,hbel⟩
   ·have ht:=Bt h
    go_wp2_with fail;go_roundw
    case rel =>
     refine ⟨k+1,by omega,by go_num,hcell,?_,hbel⟩;intro j y hj hy;by_cases e:j=k
     ·subst e
      rw [HX.out] at hy;cases hy
      exact h
     ·exact ho.out j y (by omega) hy
    case measure=>simp [intOf];omega
  ·have hke:k=bs.length:=by omega
   have HZ:Hid (Fy bs s=-1):=Xi (hke▸ho.out);go_wp2_with fail;go_ret;exact ⟨Al HZ.out.symm,hbel⟩
def IntC:Ej Int:=fun _ _ f x=>f 0=some (.int .i64 x)
theorem IntC.holds:Er IntC 1:=fun _ _ _ _ f g x h _ _ c=>(h 0 (by omega)).trans c
theorem Dk {ns:List BA} {s:BA}:∀ {n k:Nat},An ns s n=some k→k<n∧ns[k]?=some s
 | 0,k,h=>by simp [An] at h
 | n+1,k,h=>by
  unfold An at h;by_cases e:ns[n]?=some s
  ·rw [if_pos e] at h
   cases h
   exact ⟨by omega,e⟩
  ·rw [if_neg e] at h
   have:=Dk h;exact ⟨by omega,this.2⟩
theorem Dm {α:Type} {f:α→BA} {xs:List α} {k:Nat} {y:α} (h:xs[k]?=some y):(xs.map f)[k]?=some (f y):=by
 rw [List.getElem?_map,h];rfl
theorem Rp {α:Type} {f:α→BA} {xs:List α} {k:Nat} {s:BA} (h:(xs.map f)[k]?=some s):∃ y,xs[k]?=some y∧f y=s:=by
 rw [List.getElem?_map] at h
 cases e:xs[k]? with
 | none=>rw [e] at h;cases h
 | some y=>rw [e] at h;cases h;exact ⟨y,rfl,rfl⟩
def Co (f:Nat→Bool):Nat→Nat
 | 0=>0
 | k+1=>Co f k+(if f k then 1 else 0)
theorem Ld {f g:Nat→Bool}:∀ n,(∀ k,k<n→f k=g k)→Co f n=Co g n
 | 0,_=>rfl
 | n+1,h=>by
  unfold Co;rw [Ld n (fun k hk=>h k (by omega)),h n (by omega)]
theorem Jg (f:Nat→Bool):∀ n,Co f n≤n
 | 0=>Nat.le_refl _
 | n+1=>by
  have:=Jg f n;unfold Co
  split <;> omega
theorem Uv (f:Nat→Bool):∀ n k,k≤n→Co f k≤Co f n
 | 0,k,h=>by rw [show k=0 by omega];exact Nat.le_refl _
 | n+1,k,h=>by
  by_cases e:k=n+1
  ·rw [e];exact Nat.le_refl _
  ·have:=Uv f n k (by omega)
   rw [show Co f (n+1)=Co f n+(if f n then 1 else 0) from rfl];omega
theorem Gk {f:Nat→Bool} {k:Nat} (h:f k=true):Co f (k+1)=Co f k+1:=by
 unfold Co;rw [if_pos h];cases k <;> rfl
theorem Hs {f:Nat→Bool} {k:Nat} (h:f k=false):Co f (k+1)=Co f k:=by
 unfold Co;rw [if_neg (by rw [h];decide)];cases k <;> rfl
abbrev svN (x:Flt):List BA:=x.services.map (·.name)
abbrev cpN (x:Flt):List BA:=x.copies.map (·.name)
def mU (x:Flt) (p:Nat):Option Nat:=match x.copies[p]? with
 | some c=>An (svN x) c.service x.services.length
 | none=>none
def Lq (x:Flt) (s i:Nat):Bool:=match x.copies[i]? with
 | some c=>decide (c.at_=⟨#[]⟩) && decide (An (svN x) c.service x.services.length=some s)
 | none=>false
def Hi (x:Flt) (s:Nat):Int:=match x.services[s]? with
 | some y=>y.spare
 | none=>0
def Gp (x:Flt) (s k:Nat):Int:=Hi x s - (Co (Lq x s) k:Nat)
def goF (x:Flt) (pl:List Nat) (s i:Nat):Bool:=match pl[i]? with
 | some p=>decide (mU x p=some s)
 | none=>false
def PlOk (ns gone:List BA) (k:Nat) (pl:List Nat):Prop:=pl.length=k∧∀ j g,j<k→gone[j]?=some g→∃ p,pl[j]?=some p∧An ns g ns.length=some p
def Pg (x:Flt) (pl:List Nat) (k:Nat):Prop:=(∀ j p,j<k→pl[j]?=some p→∃ c,x.copies[p]?=some c∧¬ c.at_=⟨#[]⟩)∧∀ j q p,j+1<k→pl[j]?=some q→pl[j+1]?=some p→q<p
def Ur (x:Flt) (pl:List Nat):Prop:=∀ s,s<x.services.length→0<Co (goF x pl s) pl.length→((Co (goF x pl s) pl.length:Nat):Int)≤Gp x s x.copies.length
def goS (x:Flt) (gone:List BA) (nm:BA) (i:Nat):Bool:=match gone[i]? with
 | some g=>match x.copies[(Fy x.copies g).toNat]? with
  | some c=>decide (c.service=nm)
  | none=>false
 | none=>false
def Kr (x:Flt) (nm:BA) (i:Nat):Bool:=match x.copies[i]? with
 | some c=>decide (c.service=nm) && decide (c.at_=⟨#[]⟩)
 | none=>false
def MayA (x:Flt) (gone:List BA) (k:Nat):Prop:=(∀ j g,j<k→gone[j]?=some g→0≤Fy x.copies g∧∃ c,x.copies[(Fy x.copies g).toNat]?=some c∧¬ c.at_=⟨#[]⟩)∧∀ j s t,j+1<k→gone[j]?=some s→gone[j+1]?=some t→Op.bytesLess s.toList t.toList=true
def MayC (x:Flt) (gone:List BA) (k:Nat):Prop:=∀ s y,s<k→x.services[s]?=some y→0<Co (goS x gone y.name) gone.length→((Co (goS x gone y.name) gone.length:Nat):Int)≤y.spare - (Co (Kr x y.name) x.copies.length:Nat)
theorem Ty:∀ x,Op.bytesLess x x=false
 | []=>rfl
 | a::x=>by simp [Op.bytesLess,Ty x]
theorem nW:∀ x y z,Op.bytesLess x y=true→Op.bytesLess y z=true→Op.bytesLess x z=true
 | _,_,[],_,h=>by simp [Op.bytesLess] at h
 | [],_,_::_,_,_=>rfl
 | a::x,[],c::z,h,_=>by simp [Op.bytesLess] at h
 | a::x,b::y,c::z,h1,h2=>by
  simp only [Op.bytesLess,Bool.or_eq_true,Bool.and_eq_true,decide_eq_true_eq,beq_iff_eq] at h1 h2 ⊢;rcases h1 with h1 | ⟨rfl,h1⟩
  ·rcases h2 with h2 | ⟨rfl,h2⟩
   ·exact Or.inl (UInt8.lt_trans h1 h2)
   ·exact Or.inl h1
  ·rcases h2 with h2 | ⟨rfl,h2⟩
   ·exact Or.inl h2
   ·exact Or.inr ⟨rfl,nW x y z h1 h2⟩
def AscN (ns:List BA):Prop:=∀ k s t,ns[k]?=some s→ns[k+1]?=some t→Op.bytesLess s.toList t.toList=true
theorem gF {α:Type} (f:α→BA) (xs:List α) (h:Cs (xs.map f) xs.length=true):AscN (xs.map f):=by
 intro k s t hs ht;have hlt:=Ah ht;rw [List.length_map] at hlt;have h1:=((Xt f xs).1 h (k+1) _ (gE hlt)).2;simp only [Ie,hs,ht] at h1;exact h1
theorem AscN.lt {ns:List BA} (h:AscN ns):∀ d i s t,ns[i]?=some s→ns[i+d+1]?=some t→Op.bytesLess s.toList t.toList=true
 | 0,i,s,t,hs,ht=>h i s t hs ht
 | d+1,i,s,t,hs,ht=>by
  have hlt:=Ah ht;have hu:ns[i+d+1]?=some ns[i+d+1]:=gE (by omega);exact nW _ _ _ (AscN.lt h d i s _ hs hu) (h (i+d+1) _ t hu ht)
theorem AscN.less {ns:List BA} (h:AscN ns) {i j:Nat} {s t:BA} (hi:ns[i]?=some s) (hj:ns[j]?=some t) (hl:i<j):Op.bytesLess s.toList t.toList=true :=
 h.lt (j - i - 1) i s t hi (by rw [show i+(j - i - 1)+1=j by omega];exact hj)
theorem AscN.inj {ns:List BA} (h:AscN ns) {i j:Nat} {s:BA} (hi:ns[i]?=some s) (hj:ns[j]?=some s):i=j:=by
 rcases Nat.lt_trichotomy i j with hl | hl | hl
 ·have:=h.less hi hj hl
  rw [Ty] at this;cases this
 ·exact hl
 ·have:=h.less hj hi hl
  rw [Ty] at this;cases this
theorem AscN.less_iff {ns:List BA} (h:AscN ns) {i j:Nat} {s t:BA} (hi:ns[i]?=some s) (hj:ns[j]?=some t):i<j↔Op.bytesLess s.toList t.toList=true:=by
 constructor
 ·exact h.less hi hj
 ·intro hb
  rcases Nat.lt_trichotomy i j with hl | hl | hl
  ·exact hl
  ·subst hl
   rw [hi] at hj;cases hj
   rw [Ty] at hb;cases hb
  ·have:=nW _ _ _ hb (h.less hj hi hl)
   rw [Ty] at this;cases this
theorem AscN.last {ns:List BA} (h:AscN ns) {s:BA} {n k:Nat} (hk:ns[k]?=some s) (hn:k<n):An ns s n=some k:=by
 cases e:An ns s n with
 | none=>exact absurd hk ((Dh ns s n).1 e k hn)
 | some j=>rw [h.inj (Dk e).2 hk]
theorem Jl {cs:List Cpy} (h:AscN (cs.map (·.name))) {s:BA} {k:Nat} (e:An (cs.map (·.name)) s cs.length=some k):Fy cs s=k∧∃ c,cs[k]?=some c∧c.name=s:=by
 obtain ⟨hk,hs⟩:=Dk e;obtain ⟨c,hc,hn⟩:=Rp hs;refine ⟨iW hc hn fun j b hj hb he=>?_,c,hc,hn⟩;have:=h.inj (Dm (f:=(·.name)) hb) (show _=some b.name by rw [he];exact hs);omega
theorem gX {cs:List Cpy} {s:BA} (e:An (cs.map (·.name)) s cs.length=none):Fy cs s=-1 :=
 Xi fun j b hj hb he=>(Dh _ s _).1 e j hj (by rw [Dm hb,he])
theorem Cg {x:Flt} (h:Cf x=true):x.services.length≤30∧x.copies.length≤60∧AscN (svN x)∧AscN (cpN x)∧(∀ (k:Nat) (y:Svc),x.services[k]?=some y→0≤y.spare∧y.spare≤60)∧∀ (k:Nat) (c:Cpy),x.copies[k]?=some c→∃ s,An (svN x) c.service x.services.length=some s:=by
 unfold Cf at h;simp only [Bool.and_eq_true,Dt,Fb,Fe,Bw,Mh,decide_eq_true_eq] at h;obtain ⟨⟨⟨_,h1⟩,h2⟩,⟨⟨_,h3⟩,h4⟩,_,h5,h6,_⟩:=h;refine ⟨h1,h2,gF _ _ h3,gF _ _ h4,fun k y hy=>?_,fun k c hc=>?_⟩
 ·have:=h5 k y hy
  simpa [inR] using this
 ·have:=h6 k c hc
  simp only [Hc,Bool.and_eq_true] at this;exact Option.isSome_iff_exists.1 this.1.1
theorem iS {x:Flt} (hs:AscN (svN x)) {s:Nat} {y:Svc} (hy:x.services[s]?=some y) (n:BA):An (svN x) n x.services.length=some s↔n=y.name:=by
 constructor
 ·intro e
  have:=(Dk e).2;rw [Dm hy] at this;cases this
  rfl
 ·rintro rfl
  exact hs.last (Dm hy) (Ah hy)
theorem iR {x:Flt} (hs:AscN (svN x)) {s:Nat} {y:Svc} (hy:x.services[s]?=some y) (n:Nat):Co (Lq x s) n=Co (Kr x y.name) n:=by
 refine Ld n fun i _=>?_
 unfold Lq Kr
 cases x.copies[i]? with
 | none=>rfl
 | some c =>
  simp only [iS hs hy];exact Bool.and_comm _ _
theorem sS {x:Flt} (hs:AscN (svN x)) (hc:AscN (cpN x)) {gone:List BA} {pl:List Nat} (hp:PlOk (cpN x) gone gone.length pl) {s:Nat} {y:Svc} (hy:x.services[s]?=some y):Co (goF x pl s) pl.length=Co (goS x gone y.name) gone.length:=by
 rw [hp.1];refine Ld _ fun i hi=>?_
 obtain ⟨p,hpi,hl⟩:=hp.2 i _ hi (gE hi);rw [List.length_map] at hl;obtain ⟨hx,c,hcp,_⟩:=Jl hc hl;unfold goF goS;rw [hpi,gE hi];simp only [hx,Int.toNat_natCast,hcp,mU,iS hs hy]
theorem kU {x:Flt} (hv:Cf x=true) {gone:List BA} {pl:List Nat} (hp:PlOk (cpN x) gone gone.length pl):(Pg x pl pl.length∧Ur x pl)↔(MayA x gone gone.length∧MayC x gone x.services.length):=by
 obtain ⟨_,_,hs,hc,_,_⟩:=Cg hv;have key:∀ j g,j<gone.length→gone[j]?=some g→∃ p c,pl[j]?=some p∧Fy x.copies g=p∧x.copies[p]?=some c∧c.name=g:=by
  intro j g hj hg;obtain ⟨p,h1,h2⟩:=hp.2 j g hj hg;rw [List.length_map] at h2;obtain ⟨h3,c,h4,h5⟩:=Jl hc h2;exact ⟨p,c,h1,h3,h4,h5⟩
 have hA:Pg x pl pl.length↔MayA x gone gone.length:=by
  unfold Pg MayA;rw [hp.1];constructor
  ·rintro ⟨h1,h2⟩
   refine ⟨fun j g hj hg=>?_,fun j s t hj hs' ht=>?_⟩
   ·obtain ⟨p,c,e1,e2,e3,_⟩:=key j g hj hg
    refine ⟨by omega,?_⟩;rw [e2,Int.toNat_natCast];exact h1 j p hj e1
   ·obtain ⟨p,c,e1,_,e3,e4⟩:=key j s (by omega) hs'
    obtain ⟨q,d,f1,_,f3,f4⟩:=key (j+1) t hj ht;have:=(hc.less_iff (Dm (f:=(·.name)) e3) (Dm (f:=(·.name)) f3)).1 (h2 j p q hj e1 f1)
    rwa [e4,f4] at this
  ·rintro ⟨h1,h2⟩
   refine ⟨fun j p hj hpj=>?_,fun j q p hj hq hpj=>?_⟩
   ·obtain ⟨p',c,e1,e2,e3,_⟩:=key j _ hj (gE hj)
    rw [hpj] at e1;cases e1
    obtain ⟨_,h3⟩:=h1 j _ hj (gE hj);rw [e2,Int.toNat_natCast] at h3;exact h3
   ·have hj0:j<gone.length:=by omega
    obtain ⟨p',c,e1,_,e3,e4⟩:=key j _ hj0 (gE hj0);obtain ⟨q',d,f1,_,f3,f4⟩:=key (j+1) _ hj (gE hj);rw [hq] at e1;rw [hpj] at f1;cases e1
    cases f1
    refine (hc.less_iff (Dm (f:=(·.name)) e3) (Dm (f:=(·.name)) f3)).2 ?_;rw [e4,f4];exact h2 j _ _ hj (gE hj0) (gE hj)
 have hC:Ur x pl↔MayC x gone x.services.length:=by
  unfold Ur MayC Gp;constructor
  ·intro h s y hsl hy h0
   have h1:=h s hsl;rw [sS hs hc hp hy,iR hs hy] at h1;simp only [Hi,hy] at h1;exact h1 h0
  ·intro h s hsl h0
   have hy:x.services[s]?=some x.services[s]:=gE hsl;rw [sS hs hc hp hy] at h0 ⊢;rw [iR hs hy];simp only [Hi,hy];exact h s _ hsl hy h0
 rw [hA,hC]
theorem nT {x:Flt} {gone:List BA} {j:Nat} {g:BA} (hg:gone[j]?=some g) (hl:An (cpN x) g (cpN x).length=none):¬ MayA x gone gone.length:=by
 intro h;have:=(h.1 j g (Ah hg) hg).1;rw [List.length_map] at hl;rw [gX hl] at this;omega
end Go.Proofs.YtjoeojhdkoidbaaGreat
