import Derived.Test.YtpidfnfilnkhkaaGreatJ21
set_option maxHeartbeats 4000000
namespace Go.Proofs.YtpidfnfilnkhkaaGreat
set_option maxRecDepth 100000
open Go.RowKit
theorem Yy {ns:List BA}:∀ n,Ct ns n=true↔∀ k,k<n→Gu ns k=true
 | 0=>by simp [Ct]
 | n+1=>by
  simp only [Ct,Bool.and_eq_true,Yy n];constructor
  ·rintro ⟨h1,h2⟩ k hk
   by_cases e:k=n
   ·subst e;exact h2
   ·exact h1 k (by omega)
  ·intro h
   exact ⟨fun k hk=>h k (by omega),h n (by omega)⟩
theorem Zk {f:Nat→Bool}:∀ n,Ed f n=true↔∀ k,k<n→f k=true
 | 0=>by simp [Ed]
 | n+1=>by
  simp only [Ed,Bool.and_eq_true,Zk n];constructor
  ·rintro ⟨h1,h2⟩ k hk
   by_cases e:k=n
   ·subst e;exact h2
   ·exact h1 k (by omega)
  ·intro h
   exact ⟨fun k hk=>h k (by omega),h n (by omega)⟩
theorem Zo {ns:List BA} {k:Nat} {s:BA} (hk:ns[k]?=some s):Gu ns k=true↔P.nameOk s=true∧Jc ns k=true:=by
 cases k with
 | zero=>simp only [Gu,hk,Jc,and_true]
 | succ j =>
  have hlt:j+1<ns.length:=(List.getElem?_eq_some_iff.mp hk).1;have ht:ns[j]?=some ns[j]:=gE (by omega);simp only [Gu,hk,ht,Jc,Bool.and_eq_true]
theorem Tv {α:Type} (f:α→BA) (xs:List α):Ct (xs.map f) xs.length=true↔∀ (k:Nat) (y:α),xs[k]?=some y→P.nameOk (f y)=true∧Jc (xs.map f) k=true:=by
 rw [Yy];constructor
 ·intro h k y hy
  exact (Zo (by rw [List.getElem?_map,hy];rfl)).1 (h k (List.getElem?_eq_some_iff.mp hy).1)
 ·intro h k hk
  have hy:xs[k]?=some xs[k]:=gE hk;exact (Zo (by rw [List.getElem?_map,hy];rfl)).2 (h k _ hy)
theorem Ly {α:Type} (f:α→Bool) (xs:List α):xs.all f=true↔∀ (k:Nat) (y:α),xs[k]?=some y→f y=true:=by
 rw [List.all_eq_true];constructor
 ·intro h k y hy
  exact h y (List.mem_of_getElem? hy)
 ·intro h y hy
  obtain ⟨j,hj,e⟩:=List.mem_iff_getElem.mp hy;exact h j y (by rw [gE hj,e])
theorem Qk (n a b:Int):inB n a b=inR n a b:=by
 unfold inB inR;rw [Bool.eq_iff_iff];simp
theorem uA:Pt=Hr:=by
 funext l;unfold Pt Hr;rw [Qk]
theorem Zv (y:Cpy):Sw y=true↔P.nameOk y.name=true∧P.nameOk y.service=true∧Cp y=true:=by
 unfold Sw Er Cp Fe;simp only [Qk,uA,Bool.and_eq_true];constructor
 ·rintro ⟨h1,h2,h3,h4,h5,h6,⟨h7,h8,h9,h10,h11⟩,h12⟩
  exact ⟨h1,h2,⟨⟨⟨⟨⟨⟨⟨h3,h4⟩,h5⟩,h6⟩,h7⟩,h8,h12⟩,h9⟩,h10⟩,h11⟩
 ·rintro ⟨h1,h2,⟨⟨⟨⟨⟨⟨⟨h3,h4⟩,h5⟩,h6⟩,h7⟩,h8,h12⟩,h9⟩,h10⟩,h11⟩
  exact ⟨h1,h2,h3,h4,h5,h6,⟨h7,h8,h9,h10,h11⟩,h12⟩
theorem Wr (y:Brt):Nf y=true↔P.nameOk y.name=true∧Hj y=true:=by
 unfold Nf Hj;simp only [Qk,← sF,Bool.and_eq_true];constructor
 ·rintro ⟨h1,h2,h3,h4,h5⟩
  exact ⟨h1,⟨⟨h2,h4⟩,h5⟩,h3⟩
 ·rintro ⟨h1,⟨⟨h2,h4⟩,h5⟩,h3⟩
  exact ⟨h1,h2,h3,h4,h5⟩
theorem mX (bs:List Svc) (s:BA):Rp bs s<0↔Am (bs.map (·.name)) s bs.length=none:=by
 rw [Dq];unfold Rp
 cases h:bs.findIdx? (fun b=>decide (b.name=s)) with
 | none =>
  rw [List.findIdx?_eq_none_iff] at h;constructor
  ·intro _ j hj e
   rw [List.getElem?_map,gE hj] at e;simp at e;have:=h bs[j] (List.getElem_mem hj);simp at this;exact this e
  ·intro _;decide
 | some k =>
  rw [List.findIdx?_eq_some_iff_getElem] at h;obtain ⟨hk,h1,_⟩:=h;constructor
  ·intro e
   simp at e;omega
  ·intro e
   refine absurd ?_ (e k hk);rw [List.getElem?_map,gE hk];simpa using h1
theorem gF {α:Type} {o:Option α}:o.isSome=true↔¬ o=none:=by cases o <;> simp
theorem oB {bs:List BA} {s:BA} {n:Nat} (h:¬ Am bs s n=none):∃ j,j<n∧bs[j]?=some s:=by
 rw [Dq] at h;exact Classical.byContradiction fun hc=>h fun j hj e=>hc ⟨j,hj,e⟩
theorem Tl (cs:List Cpy) (s:BA):∀ k,k≤1048576→(Ap cs s (-1) k).1=(Fv cs s k:Nat)
 | 0,_=>rfl
 | k+1,hk=>by
  have ih:=Tl cs s k (by omega);have hle:=dY cs s k;unfold Ap Fv
  cases h:cs[k]? with
  | none=>exact ih
  | some c =>
   by_cases e:c.at_=s
   ·simp only [e,if_true,true_and]
    rw [if_pos (by omega),ih];show wrap64 _=_
    rw [show wrap64 (((Fv cs s k:Nat):Int)+1)=((Fv cs s k:Nat):Int)+1 from by unfold wrap64;omega];omega
   ·simp only [e,if_false,false_and]
    exact ih
theorem Sa {s:BA}:s.size=0↔s=⟨#[]⟩ :=
 ⟨fun e=>ByteArray.ext (Array.eq_empty_of_size_eq_zero e),fun e=>by subst e;rfl⟩
theorem Jl {s:BA} (h:P.nameOk s=true):¬ s=⟨#[]⟩:=by
 intro e;subst e;revert h
 decide
theorem wT {bs:List Brt} {k:Nat} {y:Brt} (h:bs[k]?=some y):¬ Gt bs y.name<0:=by
 rw [aU,Dq];intro hc;exact hc k (List.getElem?_eq_some_iff.mp h).1 (by rw [List.getElem?_map,h];rfl)
theorem mT {x:Flt} {k:Nat} {y:Brt} (h:x.berths[k]?=some y) (hn:P.nameOk y.name=true):Mn x y.name=(Ap x.copies y.name (-1) x.copies.length).2:=by
 unfold Mn Fy;rw [if_neg (wT h),if_neg (Jl hn)]
theorem uJ (x:Flt) (l3:x.copies.length≤1048576):Au x=Rw x:=by
 unfold Au Rw
 congr 1
 rw [Bool.eq_iff_iff];simp only [Bool.and_eq_true,Fd,Tv,Ci,Fr,Bw,Dk,Ly,Zk];constructor
 ·rintro ⟨⟨⟨ob,os⟩,oc⟩,hb,hs,hc,hst⟩
  refine ⟨fun k hk=>?_,fun k hk=>?_,fun k hk=>?_⟩
  ·have hy:x.services[k]?=some x.services[k]:=gE hk
   simp only [Ha,hy,Bool.and_eq_true,Qk];exact ⟨(os k _ hy).1,(os k _ hy).2,hs k _ hy⟩
  ·have hy:x.copies[k]?=some x.copies[k]:=gE hk
   have h1:=hc k _ hy;simp only [Hs,Bool.and_eq_true,Bool.or_eq_true,decide_eq_true_eq,gF] at h1;obtain ⟨⟨h2,h3⟩,h4⟩:=h1;simp only [Gq,hy,Bool.and_eq_true,Bool.or_eq_true,decide_eq_true_eq,Bool.not_eq_true',decide_eq_false_iff_not,Zv];obtain ⟨j,hj,e⟩:=oB h2;have hjs:x.services[j]?=some x.services[j]:=gE hj;have hsn:x.services[j].name=x.copies[k].service:=by
    rw [List.getElem?_map,hjs] at e;simpa using e
   refine ⟨⟨(oc k _ hy).1,by rw [← hsn];exact (os j _ hjs).1,h4⟩,(oc k _ hy).2,by rw [mX];exact h2,?_⟩;rcases h3 with h3 | h3
   ·exact Or.inr (by rw [aU];exact h3)
   ·exact Or.inl (Sa.1 h3)
  ·have hy:x.berths[k]?=some x.berths[k]:=gE hk
   have h1:=hst k _ hy;simp only [Ie,Bool.and_eq_true,decide_eq_true_eq] at h1;obtain ⟨⟨h2,h3⟩,h4⟩:=h1;simp only [Gf,hy,Bool.and_eq_true,Bool.not_eq_true',decide_eq_false_iff_not,Wr];rw [mT hy (ob k _ hy).1];rw [Tl _ _ _ l3] at h2;exact ⟨⟨(ob k _ hy).1,hb k _ hy⟩,(ob k _ hy).2,by omega,by omega,by omega⟩
 ·rintro ⟨hs,hc,hb⟩
  have hs':∀ (k:Nat) (y:Svc),x.services[k]?=some y→P.nameOk y.name=true∧Jc (x.services.map (·.name)) k=true∧inR y.spare 0 60=true:=by
   intro k y hy;have:=hs k (List.getElem?_eq_some_iff.mp hy).1;simpa only [Ha,hy,Bool.and_eq_true,Qk] using this
  have hc':∀ (k:Nat) (y:Cpy),x.copies[k]?=some y→(P.nameOk y.name=true∧P.nameOk y.service=true∧Cp y=true)∧Jc (x.copies.map (·.name)) k=true∧¬ Rp x.services y.service<0∧(y.at_=⟨#[]⟩∨¬ Gt x.berths y.at_<0):=by
   intro k y hy;have:=hc k (List.getElem?_eq_some_iff.mp hy).1;simpa only [Gq,hy,Bool.and_eq_true,Bool.or_eq_true,decide_eq_true_eq,Bool.not_eq_true',decide_eq_false_iff_not,Zv] using this
  have hb':∀ (k:Nat) (y:Brt),x.berths[k]?=some y→(P.nameOk y.name=true∧Hj y=true)∧Jc (x.berths.map (·.name)) k=true∧¬ y.room<(Mn x y.name).1∧¬ y.hold<(Mn x y.name).2∧¬ 10<Fv x.copies y.name x.copies.length:=by
   intro k y hy;have:=hb k (List.getElem?_eq_some_iff.mp hy).1;simpa only [Gf,hy,Bool.and_eq_true,Bool.not_eq_true',decide_eq_false_iff_not,Wr] using this
  refine ⟨⟨⟨fun k y hy=>⟨(hb' k y hy).1.1,(hb' k y hy).2.1⟩,fun k y hy=>⟨(hs' k y hy).1,(hs' k y hy).2.1⟩⟩,fun k y hy=>⟨(hc' k y hy).1.1,(hc' k y hy).2.1⟩⟩,fun k y hy=>(hb' k y hy).1.2,fun k y hy=>(hs' k y hy).2.2,fun k y hy=>?_,fun k y hy=>?_⟩
  ·obtain ⟨⟨_,_,h4⟩,_,h2,h3⟩:=hc' k y hy
   simp only [Hs,Bool.and_eq_true,Bool.or_eq_true,decide_eq_true_eq,gF];rw [mX] at h2;refine ⟨⟨h2,?_⟩,h4⟩;rcases h3 with h3 | h3
   ·exact Or.inr (Sa.2 h3)
   ·exact Or.inl (by rw [aU] at h3;exact h3)
  ·obtain ⟨⟨hn,_⟩,_,h1,h2,h3⟩:=hb' k y hy
   rw [mT hy hn] at h1 h2;simp only [Ie,Bool.and_eq_true,decide_eq_true_eq];rw [Tl _ _ _ l3];exact ⟨⟨by omega,by omega⟩,by omega⟩
def Eo (bs:List Cpy) (s:BA):Int:=match bs.findIdx? (fun b=>decide (b.name=s)) with
 | some k=>k
 | none=>-1
theorem lM {bs:List Cpy} {s:BA} {k:Nat} {b:Cpy} (hk:bs[k]?=some b) (h:b.name=s) (ho:∀ j b,j<k→bs[j]?=some b→b.name≠s):Eo bs s=k:=by
 have:bs.findIdx? (fun b=>decide (b.name=s))=some k:=by
  rw [List.findIdx?_eq_some_iff_getElem];have hlt:=Ac hk;rw [gE hlt] at hk;injection hk with hk;refine ⟨hlt,by simp [hk,h],fun j hj=>?_⟩;have:=ho j bs[j] hj (gE (by omega));simpa using this
 simp [Eo,this]
theorem Ze {bs:List Cpy} {s:BA} (ho:∀ j b,j<bs.length→bs[j]?=some b→b.name≠s):Eo bs s=-1:=by
 have:bs.findIdx? (fun b=>decide (b.name=s))=none:=by
  rw [List.findIdx?_eq_none_iff];intro b hb;obtain ⟨j,hj⟩:=List.getElem?_of_mem hb;simpa using ho j b (Ac hj) hj
 simp [Eo,this]
theorem Jb (x:Flt) (a1:OA) (c1:Nat) (a2:OA) (c2:Nat) (a3:OA) (c3:Nat) (lo:Nat) (s:BA) (w:World) (n3:SliceC CpyC 12 lo w a3 x.copies) (hl:x.copies.length≤1048576) :
  Calls Tryz.prog 16 #[.agg (ffA x a1 c1 a2 c2 a3 c3),.string s] w (Rt (.int .i64 (Eo x.copies s)) w):=by
 have HI:=iH n3;clear n3
 try unfold ffA
 generalize hbs:x.copies=bs at *;clear hbs;go_enter Tryz.func16,Tryz.ntmps16;go_wp2_with fail;go_loopw [5] (fun i wr=>∃ k:Nat,k≤bs.length∧i=.int .i64 k∧wr.cell? ⟨w.heap.size,3,none⟩=some (.slice a3 bs.length c3)∧Hid (∀ j b,j<k→bs[j]?=some b→b.name≠s)∧Below w.heap.size w wr) (fun i _=>bs.length - (intOf i).toNat)
 case atStart=>exact ⟨0,zL,rfl,by simp,fun j b h=>by omega,by go_grown⟩
 case round =>
  obtain ⟨k,hk,rfl,hcell,ho,hbel⟩:=hrel;by_cases hlt:k<bs.length
  ·obtain ⟨x,hx⟩:=gXe hlt
   obtain ⟨b,o,rfl,_,_,hc⟩:=(HI.out.below CpyC.holds hbel nL).at hx;obtain ⟨a9,c9,q0,q1,q2,q3,q4,q5,q6,q7,q8,q9,q10,q11,z0,z1,z2,z3,z4,z5,n9⟩:=hc;simp only [Nat.add_zero] at q0;have HX:=iH hx;clear hx q1 q2 q3 q4 q5 q6 q7 q8 q9 q10 q11 z0 z1 z2 z3 z4 z5 n9;by_cases h:x.name=s
   ·have HZ:Hid (Eo bs s=k):=lM HX h ho.out
    have ht:=Br h;clear h;go_wp2_with fail;go_ret;exact ⟨Ag HZ.out.symm,hbel⟩
   ·have ht:=Bz h
    go_wp2_with fail;go_roundw
    case rel =>
     refine ⟨k+1,by omega,by go_num,hcell,?_,hbel⟩;intro j y hj hy;by_cases e:j=k
     ·subst e
      rw [HX.out] at hy;cases hy
      exact h
     ·exact ho.out j y (by omega) hy
    case measure=>simp [intOf];omega
  ·have hke:k=bs.length:=by omega
   have HZ:Hid (Eo bs s=-1):=Ze (hke▸ho.out);go_wp2_with fail;go_ret;exact ⟨Ag HZ.out.symm,hbel⟩
theorem Ea {ns:List BA} {s:BA}:∀ {n k:Nat},Am ns s n=some k→k<n∧ns[k]?=some s
 | 0,k,h=>by simp [Am] at h
 | n+1,k,h=>by
  unfold Am at h;by_cases e:ns[n]?=some s
  ·rw [if_pos e] at h
   cases h
   exact ⟨by omega,e⟩
  ·rw [if_neg e] at h
   have:=Ea h;exact ⟨by omega,this.2⟩
theorem Cs {α:Type} {f:α→BA} {xs:List α} {k:Nat} {y:α} (h:xs[k]?=some y):(xs.map f)[k]?=some (f y):=by
 rw [List.getElem?_map,h];rfl
theorem Tt {α:Type} {f:α→BA} {xs:List α} {k:Nat} {s:BA} (h:(xs.map f)[k]?=some s):∃ y,xs[k]?=some y∧f y=s:=by
 rw [List.getElem?_map] at h
 cases e:xs[k]? with
 | none=>rw [e] at h;cases h
 | some y=>rw [e] at h;cases h;exact ⟨y,rfl,rfl⟩
def Ca (f:Nat→Bool):Nat→Nat
 | 0=>0
 | k+1=>Ca f k+(if f k then 1 else 0)
theorem Mu {f g:Nat→Bool}:∀ n,(∀ k,k<n→f k=g k)→Ca f n=Ca g n
 | 0,_=>rfl
 | n+1,h=>by
  unfold Ca;rw [Mu n (fun k hk=>h k (by omega)),h n (by omega)]
theorem Kr (f:Nat→Bool):∀ n,Ca f n≤n
 | 0=>Nat.le_refl _
 | n+1=>by
  have:=Kr f n;unfold Ca
  split <;> omega
theorem Vd (f:Nat→Bool):∀ n k,k≤n→Ca f k≤Ca f n
 | 0,k,h=>by rw [show k=0 by omega];exact Nat.le_refl _
 | n+1,k,h=>by
  by_cases e:k=n+1
  ·rw [e];exact Nat.le_refl _
  ·have:=Vd f n k (by omega)
   rw [show Ca f (n+1)=Ca f n+(if f n then 1 else 0) from rfl];omega
theorem Hb {f:Nat→Bool} {k:Nat} (h:f k=true):Ca f (k+1)=Ca f k+1:=by
 unfold Ca;rw [if_pos h];cases k <;> rfl
theorem Iy {f:Nat→Bool} {k:Nat} (h:f k=false):Ca f (k+1)=Ca f k:=by
 unfold Ca;rw [if_neg (by rw [h];decide)];cases k <;> rfl
abbrev svN (x:Flt):List BA:=x.services.map (·.name)
abbrev cpN (x:Flt):List BA:=x.copies.map (·.name)
def nA (x:Flt) (p:Nat):Option Nat:=match x.copies[p]? with
 | some c=>Am (svN x) c.service x.services.length
 | none=>none
def Mo (x:Flt) (s i:Nat):Bool:=match x.copies[i]? with
 | some c=>decide (c.at_=⟨#[]⟩) && decide (Am (svN x) c.service x.services.length=some s)
 | none=>false
def Ih (x:Flt) (s:Nat):Int:=match x.services[s]? with
 | some y=>y.spare
 | none=>0
def Gs (x:Flt) (s k:Nat):Int:=Ih x s - (Ca (Mo x s) k:Nat)
def goF (x:Flt) (pl:List Nat) (s i:Nat):Bool:=match pl[i]? with
 | some p=>decide (nA x p=some s)
 | none=>false
def PlOk (ns gone:List BA) (k:Nat) (pl:List Nat):Prop:=pl.length=k∧∀ j g,j<k→gone[j]?=some g→∃ p,pl[j]?=some p∧Am ns g ns.length=some p
def aX (x:Flt) (pl:List Nat) (k:Nat):Prop:=(∀ j p,j<k→pl[j]?=some p→∃ c,x.copies[p]?=some c∧¬ c.at_=⟨#[]⟩)∧∀ j q p,j+1<k→pl[j]?=some q→pl[j+1]?=some p→q<p
def Fo (x:Flt) (pl:List Nat):Prop:=∀ s,s<x.services.length→0<Ca (goF x pl s) pl.length→((Ca (goF x pl s) pl.length:Nat):Int)≤Gs x s x.copies.length
def goS (x:Flt) (gone:List BA) (nm:BA) (i:Nat):Bool:=match gone[i]? with
 | some g=>match x.copies[(Eo x.copies g).toNat]? with
  | some c=>decide (c.service=nm)
  | none=>false
 | none=>false
def Mf (x:Flt) (nm:BA) (i:Nat):Bool:=match x.copies[i]? with
 | some c=>decide (c.service=nm) && decide (c.at_=⟨#[]⟩)
 | none=>false
def MayA (x:Flt) (gone:List BA) (k:Nat):Prop:=(∀ j g,j<k→gone[j]?=some g→0≤Eo x.copies g∧∃ c,x.copies[(Eo x.copies g).toNat]?=some c∧¬ c.at_=⟨#[]⟩)∧∀ j s t,j+1<k→gone[j]?=some s→gone[j+1]?=some t→Op.bytesLess s.toList t.toList=true
def MayC (x:Flt) (gone:List BA) (k:Nat):Prop:=∀ s y,s<k→x.services[s]?=some y→0<Ca (goS x gone y.name) gone.length→((Ca (goS x gone y.name) gone.length:Nat):Int)≤y.spare - (Ca (Mf x y.name) x.copies.length:Nat)
theorem Wq:∀ x,Op.bytesLess x x=false
 | []=>rfl
 | a::x=>by simp [Op.bytesLess,Wq x]
theorem tT:∀ x y z,Op.bytesLess x y=true→Op.bytesLess y z=true→Op.bytesLess x z=true
 | _,_,[],_,h=>by simp [Op.bytesLess] at h
 | [],_,_::_,_,_=>rfl
 | a::x,[],c::z,h,_=>by simp [Op.bytesLess] at h
 | a::x,b::y,c::z,h1,h2=>by
  simp only [Op.bytesLess,Bool.or_eq_true,Bool.and_eq_true,decide_eq_true_eq,beq_iff_eq] at h1 h2 ⊢;rcases h1 with h1 | ⟨rfl,h1⟩
  ·rcases h2 with h2 | ⟨rfl,h2⟩
   ·exact Or.inl (UInt8.lt_trans h1 h2)
   ·exact Or.inl h1
  ·rcases h2 with h2 | ⟨rfl,h2⟩
   ·exact Or.inl h2
   ·exact Or.inr ⟨rfl,tT x y z h1 h2⟩
def AscN (ns:List BA):Prop:=∀ k s t,ns[k]?=some s→ns[k+1]?=some t→Op.bytesLess s.toList t.toList=true
theorem jB {α:Type} (f:α→BA) (xs:List α) (h:Ct (xs.map f) xs.length=true):AscN (xs.map f):=by
 intro k s t hs ht;have hlt:=Ac ht;rw [List.length_map] at hlt;have h1:=((Tv f xs).1 h (k+1) _ (gE hlt)).2;simp only [Jc,hs,ht] at h1;exact h1
theorem AscN.lt {ns:List BA} (h:AscN ns):∀ d i s t,ns[i]?=some s→ns[i+d+1]?=some t→Op.bytesLess s.toList t.toList=true
 | 0,i,s,t,hs,ht=>h i s t hs ht
 | d+1,i,s,t,hs,ht=>by
  have hlt:=Ac ht;have hu:ns[i+d+1]?=some ns[i+d+1]:=gE (by omega);exact tT _ _ _ (AscN.lt h d i s _ hs hu) (h (i+d+1) _ t hu ht)
theorem AscN.less {ns:List BA} (h:AscN ns) {i j:Nat} {s t:BA} (hi:ns[i]?=some s) (hj:ns[j]?=some t) (hl:i<j):Op.bytesLess s.toList t.toList=true :=
 h.lt (j - i - 1) i s t hi (by rw [show i+(j - i - 1)+1=j by omega];exact hj)
theorem AscN.inj {ns:List BA} (h:AscN ns) {i j:Nat} {s:BA} (hi:ns[i]?=some s) (hj:ns[j]?=some s):i=j:=by
 rcases Nat.lt_trichotomy i j with hl | hl | hl
 ·have:=h.less hi hj hl
  rw [Wq] at this;cases this
 ·exact hl
 ·have:=h.less hj hi hl
  rw [Wq] at this;cases this
theorem AscN.less_iff {ns:List BA} (h:AscN ns) {i j:Nat} {s t:BA} (hi:ns[i]?=some s) (hj:ns[j]?=some t):i<j↔Op.bytesLess s.toList t.toList=true:=by
 constructor
 ·exact h.less hi hj
 ·intro hb
  rcases Nat.lt_trichotomy i j with hl | hl | hl
  ·exact hl
  ·subst hl
   rw [hi] at hj;cases hj
   rw [Wq] at hb;cases hb
  ·have:=tT _ _ _ hb (h.less hj hi hl)
   rw [Wq] at this;cases this
theorem AscN.last {ns:List BA} (h:AscN ns) {s:BA} {n k:Nat} (hk:ns[k]?=some s) (hn:k<n):Am ns s n=some k:=by
 cases e:Am ns s n with
 | none=>exact absurd hk ((Dq ns s n).1 e k hn)
 | some j=>rw [h.inj (Ea e).2 hk]
theorem Im {cs:List Cpy} (h:AscN (cs.map (·.name))) {s:BA} {k:Nat} (e:Am (cs.map (·.name)) s cs.length=some k):Eo cs s=k∧∃ c,cs[k]?=some c∧c.name=s:=by
 obtain ⟨hk,hs⟩:=Ea e;obtain ⟨c,hc,hn⟩:=Tt hs;refine ⟨lM hc hn fun j b hj hb he=>?_,c,hc,hn⟩;have:=h.inj (Cs (f:=(·.name)) hb) (show _=some b.name by rw [he];exact hs);omega
theorem vQ {cs:List Cpy} {s:BA} (e:Am (cs.map (·.name)) s cs.length=none):Eo cs s=-1 :=
 Ze fun j b hj hb he=>(Dq _ s _).1 e j hj (by rw [Cs hb,he])
theorem Ay {x:Flt} (h:Au x=true):x.services.length≤30∧x.copies.length≤60∧AscN (svN x)∧AscN (cpN x)∧(∀ (k:Nat) (y:Svc),x.services[k]?=some y→0≤y.spare∧y.spare≤60)∧∀ (k:Nat) (c:Cpy),x.copies[k]?=some c→∃ s,Am (svN x) c.service x.services.length=some s:=by
 unfold Au at h;simp only [Bool.and_eq_true,Dt,Fd,Fr,Bw,Ly,decide_eq_true_eq] at h;obtain ⟨⟨⟨_,h1⟩,h2⟩,⟨⟨_,h3⟩,h4⟩,_,h5,h6,_⟩:=h;refine ⟨h1,h2,jB _ _ h3,jB _ _ h4,fun k y hy=>?_,fun k c hc=>?_⟩
 ·have:=h5 k y hy
  simpa [inR] using this
 ·have:=h6 k c hc
  simp only [Hs,Bool.and_eq_true] at this;exact Option.isSome_iff_exists.1 this.1.1
theorem mP {x:Flt} (hs:AscN (svN x)) {s:Nat} {y:Svc} (hy:x.services[s]?=some y) (n:BA):Am (svN x) n x.services.length=some s↔n=y.name:=by
 constructor
 ·intro e
  have:=(Ea e).2;rw [Cs hy] at this;cases this
  rfl
 ·rintro rfl
  exact hs.last (Cs hy) (Ac hy)
theorem lV {x:Flt} (hs:AscN (svN x)) {s:Nat} {y:Svc} (hy:x.services[s]?=some y) (n:Nat):Ca (Mo x s) n=Ca (Mf x y.name) n:=by
 refine Mu n fun i _=>?_
 unfold Mo Mf
 cases x.copies[i]? with
 | none=>rfl
 | some c =>
  simp only [mP hs hy];exact Bool.and_comm _ _
theorem yB {x:Flt} (hs:AscN (svN x)) (hc:AscN (cpN x)) {gone:List BA} {pl:List Nat} (hp:PlOk (cpN x) gone gone.length pl) {s:Nat} {y:Svc} (hy:x.services[s]?=some y):Ca (goF x pl s) pl.length=Ca (goS x gone y.name) gone.length:=by
 rw [hp.1];refine Mu _ fun i hi=>?_
 obtain ⟨p,hpi,hl⟩:=hp.2 i _ hi (gE hi);rw [List.length_map] at hl;obtain ⟨hx,c,hcp,_⟩:=Im hc hl;unfold goF goS;rw [hpi,gE hi];simp only [hx,Int.toNat_natCast,hcp,nA,mP hs hy]
theorem pH {x:Flt} (hv:Au x=true) {gone:List BA} {pl:List Nat} (hp:PlOk (cpN x) gone gone.length pl):(aX x pl pl.length∧Fo x pl)↔(MayA x gone gone.length∧MayC x gone x.services.length):=by
 obtain ⟨_,_,hs,hc,_,_⟩:=Ay hv;have key:∀ j g,j<gone.length→gone[j]?=some g→∃ p c,pl[j]?=some p∧Eo x.copies g=p∧x.copies[p]?=some c∧c.name=g:=by
  intro j g hj hg;obtain ⟨p,h1,h2⟩:=hp.2 j g hj hg;rw [List.length_map] at h2;obtain ⟨h3,c,h4,h5⟩:=Im hc h2;exact ⟨p,c,h1,h3,h4,h5⟩
 have hA:aX x pl pl.length↔MayA x gone gone.length:=by
  unfold aX MayA;rw [hp.1];constructor
  ·rintro ⟨h1,h2⟩
   refine ⟨fun j g hj hg=>?_,fun j s t hj hs' ht=>?_⟩
   ·obtain ⟨p,c,e1,e2,e3,_⟩:=key j g hj hg
    refine ⟨by omega,?_⟩;rw [e2,Int.toNat_natCast];exact h1 j p hj e1
   ·obtain ⟨p,c,e1,_,e3,e4⟩:=key j s (by omega) hs'
    obtain ⟨q,d,f1,_,f3,f4⟩:=key (j+1) t hj ht;have:=(hc.less_iff (Cs (f:=(·.name)) e3) (Cs (f:=(·.name)) f3)).1 (h2 j p q hj e1 f1)
    rwa [e4,f4] at this
  ·rintro ⟨h1,h2⟩
   refine ⟨fun j p hj hpj=>?_,fun j q p hj hq hpj=>?_⟩
   ·obtain ⟨p',c,e1,e2,e3,_⟩:=key j _ hj (gE hj)
    rw [hpj] at e1;cases e1
    obtain ⟨_,h3⟩:=h1 j _ hj (gE hj);rw [e2,Int.toNat_natCast] at h3;exact h3
   ·have hj0:j<gone.length:=by omega
    obtain ⟨p',c,e1,_,e3,e4⟩:=key j _ hj0 (gE hj0);obtain ⟨q',d,f1,_,f3,f4⟩:=key (j+1) _ hj (gE hj);rw [hq] at e1;rw [hpj] at f1;cases e1
    cases f1
    refine (hc.less_iff (Cs (f:=(·.name)) e3) (Cs (f:=(·.name)) f3)).2 ?_;rw [e4,f4];exact h2 j _ _ hj (gE hj0) (gE hj)
 have hC:Fo x pl↔MayC x gone x.services.length:=by
  unfold Fo MayC Gs;constructor
  ·intro h s y hsl hy h0
   have h1:=h s hsl;rw [yB hs hc hp hy,lV hs hy] at h1;simp only [Ih,hy] at h1;exact h1 h0
  ·intro h s hsl h0
   have hy:x.services[s]?=some x.services[s]:=gE hsl;rw [yB hs hc hp hy] at h0 ⊢;rw [lV hs hy];simp only [Ih,hy];exact h s _ hsl hy h0
 rw [hA,hC]
def Dl (bs:List Brt) (s:BA):BA:=if Gt bs s<0 then ⟨#[]⟩ else ((bs[(Gt bs s).toNat]?).map (·.zone)).getD ⟨#[]⟩
theorem dQ {a b:BA} (h:a=b):Ending.returned (.string a)=.returned (.string b):=by rw [h]
theorem iG (bs:List Brt) (s:BA):-1≤Gt bs s∧Gt bs s<bs.length:=by
 unfold Gt
 split
 ·rename_i i h
  have:=(List.findIdx?_eq_some_iff_findIdx_eq.1 h).1;omega
 ·omega
theorem Pd (x:Flt) (a1:OA) (c1:Nat) (a2:OA) (c2:Nat) (a3:OA) (c3:Nat) (lo:Nat) (s:BA) (w:World) (n1:SliceC BrtC 6 lo w a1 x.berths) (hl:x.berths.length≤1048576) :
  Calls Tryz.prog 95 #[.agg (ffA x a1 c1 a2 c2 a3 c3),.string s] w (Rt (.string (Dl x.berths s)) w):=by
 have HI:=iH n1;clear n1;go_enter Tryz.func95,Tryz.ntmps95;go_wp2_with fail;have hal:=(Below.refl _ w).alloc nL (Obj.cells (ffA x a1 c1 a2 c2 a3 c3) 35);refine (Jp x a1 c1 a2 c2 a3 c3 lo s _ (HI.out.below BrtC.holds hal nL) hl).mono ?_;rintro e w1 ⟨rfl,hb1⟩;have e1:w1.cell? ⟨w.heap.size,1,none⟩=some (.slice a1 x.berths.length c1):=(hb1.cell (p:=⟨w.heap.size,1,none⟩) (by simp)).trans (by simp);have HB1:=iH (qTr hal hb1);have HZ:Hid (Dl x.berths s=if Gt x.berths s<0 then ⟨#[]⟩ else ((x.berths[(Gt x.berths s).toNat]?).map (·.zone)).getD ⟨#[]⟩):=rfl;have hbd:=iG x.berths s;clear hb1 hal;generalize Gt x.berths s=I at *;by_cases h0:I<0
 ·rw [if_pos h0] at HZ
  go_wp2_with fail;go_ret;exact ⟨dQ HZ.out.symm,HB1⟩
 ·rw [if_neg h0] at HZ
  obtain ⟨k,rfl⟩:∃ k:Nat,I=k:=⟨I.toNat,by omega⟩;have hk:k<x.berths.length:=by omega
  obtain ⟨b,hb⟩:=gXe hk;obtain ⟨bb,o,rfl,_,_,hc⟩:=(HI.out.below BrtC.holds HB1 nL).at hb;obtain ⟨a9,c9,q0,q1,_,_,_,_,_,_,_⟩:=hc;have HV:Hid (Dl x.berths s=b.zone):=by show _=_;rw [HZ.out,Int.toNat_natCast,hb];rfl
  clear hb q0 HZ;go_wp2_with fail;go_ret;exact ⟨dQ HV.out.symm,HB1⟩
abbrev brN (x:Flt):List BA:=x.berths.map (·.name)
theorem Be {x:Flt} (h:Au x=true):x.berths.length≤12∧AscN (brN x)∧(∀ (k:Nat) (b:Brt),x.berths[k]?=some b→P.nameOk b.name=true∧P.nameOk b.zone=true∧(0≤b.room∧b.room≤1000)∧Iq b.marks=true)∧∀ (k:Nat) (c:Cpy),x.copies[k]?=some c→(0≤c.room∧c.room≤1000)∧Fe c.likes=true∧(c.at_=⟨#[]⟩∨∃ s,Am (brN x) c.at_ x.berths.length=some s):=by
 unfold Au at h;simp only [Bool.and_eq_true,Dt,Fd,Ci,Bw,Ly,decide_eq_true_eq] at h;obtain ⟨⟨⟨h0,_⟩,_⟩,⟨⟨h1,_⟩,_⟩,h2,_,h3,_⟩:=h;refine ⟨h0,jB _ _ h1,fun k b hb=>?_,fun k c hc=>?_⟩
 ·have h4:=h2 k b hb
  simp only [Hj,Bool.and_eq_true,inR,decide_eq_true_eq] at h4;exact ⟨((Tv _ _).1 h1 k b hb).1,h4.1.1.1,h4.1.1.2,h4.2⟩
 ·have h4:=h3 k c hc
  simp only [Hs,Cp,Bool.and_eq_true,Bool.or_eq_true,inR,decide_eq_true_eq] at h4;obtain ⟨⟨_,h5⟩,h6⟩:=h4;refine ⟨h6.1.1.1.1.1.1.2,h6.1.1.1.2,?_⟩;rcases h5 with h5 | h5
  ·exact Or.inr (Option.isSome_iff_exists.1 h5)
  ·exact Or.inl (Sa.1 h5)
theorem mR {x:Flt} (hb:∀ (k:Nat) (b:Brt),x.berths[k]?=some b→P.nameOk b.name=true∧P.nameOk b.zone=true∧(0≤b.room∧b.room≤1000)∧Iq b.marks=true):Am (brN x) ⟨#[]⟩ x.berths.length=none:=by
 rw [Dq];intro j hj e;obtain ⟨b,h1,h2⟩:=Tt e;exact Jl (hb j b h1).1 h2
theorem bW {x:Flt} (ha:AscN (brN x)) {s:BA} {k:Nat} (h:Am (brN x) s x.berths.length=some k):∃ b,x.berths[k]?=some b∧b.name=s∧Dl x.berths s=b.zone:=by
 obtain ⟨hk,hs⟩:=Ea h;obtain ⟨b,h1,h2⟩:=Tt hs;have hi:Gt x.berths s=k:=aR h1 h2 fun j b' hj hb' he=>by
  have:=ha.inj (Cs (f:=(·.name)) hb') (show _=some b'.name by rw [he];exact hs);omega
 refine ⟨b,h1,h2,?_⟩;unfold Dl;rw [hi,if_neg (by omega),Int.toNat_natCast,h1];rfl
def znF (x:Flt) (ci:Nat) (sv z:BA) (i:Nat):Bool:=match x.copies[i]? with
 | some c=>decide (i≠ci) && decide (c.service=sv) && decide (¬ c.at_=⟨#[]⟩) && decide (Dl x.berths c.at_=z)
 | none=>false
def Bc (x:Flt) (ci:Nat) (nm:BA):Nat→Int
 | 0=>0
 | k+1=>Bc x ci nm k+(match x.copies[k]? with
  | some c=>if c.at_=nm∧k≠ci then c.room else 0
  | none=>0)
theorem nN {x:Flt} {ci k:Nat} {nm:BA} {c:Cpy} (hk:x.copies[k]?=some c) (h1:c.at_=nm) (h2:k≠ci):Bc x ci nm (k+1)=Bc x ci nm k+c.room:=by
 simp only [Bc,hk];rw [if_pos ⟨h1,h2⟩]
theorem Wk {x:Flt} {ci k:Nat} {nm:BA} {c:Cpy} (hk:x.copies[k]?=some c) (h:¬ (c.at_=nm∧k≠ci)):Bc x ci nm (k+1)=Bc x ci nm k:=by
 simp only [Bc,hk];rw [if_neg h];omega
theorem Qy {x:Flt} (ci:Nat) (nm:BA) (hc:∀ (k:Nat) (c:Cpy),x.copies[k]?=some c→0≤c.room∧c.room≤1000):∀ k,0≤Bc x ci nm k∧Bc x ci nm k≤1000*k
 | 0=>by simp [Bc]
 | k+1=>by
  have ih:=Qy ci nm hc k;simp only [Bc]
  cases h:x.copies[k]? with
  | none=>simp only;omega
  | some c =>
   have h1:=hc k c h;simp only
   split <;> omega
theorem gI {x:Flt} (ci:Nat) (nm:BA) (hc:∀ (k:Nat) (c:Cpy),x.copies[k]?=some c→0≤c.room∧c.room≤1000):∀ k,k≤60→(Ap x.copies nm ci k).2.1=Bc x ci nm k
 | 0,_=>rfl
 | k+1,hk=>by
  have ih:=gI ci nm hc k (by omega);have hb:=Qy ci nm hc k;unfold Ap Bc
  cases h:x.copies[k]? with
  | none=>simp only;omega
  | some c =>
   have h1:=hc k c h;simp only;by_cases e:c.at_=nm∧k≠ci
   ·rw [if_pos e,if_pos ⟨e.1,by omega⟩]
    simp only;rw [ih];unfold wrap64;omega
   ·rw [if_neg e,if_neg (fun h=>e ⟨h.1,by omega⟩)]
    omega
theorem Wn {x:Flt} {ci k:Nat} {sv z:BA} {c:Cpy} (hk:x.copies[k]?=some c) (h:¬ (k≠ci∧c.service=sv∧(¬ c.at_=⟨#[]⟩)∧Dl x.berths c.at_=z)):znF x ci sv z k=false:=by
 unfold znF;rw [hk];simp only [Bool.and_eq_false_iff,decide_eq_false_iff_not];by_cases h1:k≠ci
 ·by_cases h2:c.service=sv
  ·by_cases h3:¬ c.at_=⟨#[]⟩
   ·exact Or.inr (fun h4=>h ⟨h1,h2,h3,h4⟩)
   ·exact Or.inl (Or.inr h3)
  ·exact Or.inl (Or.inl (Or.inr h2))
 ·exact Or.inl (Or.inl (Or.inl h1))
theorem jK {x:Flt} {ci k:Nat} {sv z:BA} {c:Cpy} (hk:x.copies[k]?=some c) (h1:k≠ci) (h2:c.service=sv) (h3:¬ c.at_=⟨#[]⟩) (h4:Dl x.berths c.at_=z):znF x ci sv z k=true:=by
 unfold znF;rw [hk];simp only [Bool.and_eq_true,decide_eq_true_eq];exact ⟨⟨⟨h1,h2⟩,h3⟩,h4⟩
theorem Yc {bs:List Brt} (h:AscN (bs.map (·.name))) {s:BA} {k:Nat} (e:Am (bs.map (·.name)) s bs.length=some k):Gt bs s=k∧∃ c,bs[k]?=some c∧c.name=s:=by
 obtain ⟨hk,hs⟩:=Ea e;obtain ⟨c,hc,hn⟩:=Tt hs;refine ⟨aR hc hn fun j b hj hb he=>?_,c,hc,hn⟩;have:=h.inj (Cs (f:=(·.name)) hb) (show _=some b.name by rw [he];exact hs);omega
theorem xR {bs:List Brt} {s:BA} (e:Am (bs.map (·.name)) s bs.length=none):Gt bs s=-1 :=
 Yh fun j b hj hb he=>(Dq _ s _).1 e j hj (by rw [Cs hb,he])
theorem Pn {s:BA} (h:P.nameOk s=true):s.size≤1000:=by
 unfold P.nameOk at h;simp only [Bool.and_eq_true,decide_eq_true_eq] at h;omega
theorem Za {ms:List BA} (h:Iq ms=true):ms.length≤1000:=by
 unfold Iq at h;simp only [Bool.and_eq_true,decide_eq_true_eq] at h;omega
def Iz (x:Flt) (cn bn:BA):Option (Nat×Nat):=if Au x=true then (match Am (cpN x) cn x.copies.length,Am (brN x) bn x.berths.length with
 | some ci,some bi=>some (ci,bi)
 | _,_=>none) else none
theorem Wf {x:Flt} {cn bn:BA} (h:Au x=false):Iz x cn bn=none:=by
 unfold Iz;rw [if_neg (by rw [h];decide)]
theorem eW {x:Flt} {cn bn:BA} (h:Am (cpN x) cn x.copies.length=none):Iz x cn bn=none:=by
 unfold Iz;rw [h]
 split <;> rfl
theorem gV {x:Flt} {cn bn:BA} (h:Am (brN x) bn x.berths.length=none):Iz x cn bn=none:=by
 unfold Iz;rw [h]
 split
 ·split
  ·rename_i h1 h2
   cases h2
  ·rfl
 ·rfl
theorem gC {x:Flt} {cn bn:BA} {ci bi:Nat} (hv:Au x=true) (h1:Am (cpN x) cn x.copies.length=some ci) (h2:Am (brN x) bn x.berths.length=some bi):Iz x cn bn=some (ci,bi):=by
 unfold Iz;rw [if_pos hv,h1,h2]
def Pf (one:Bool) (nm vl:BA) (m:BA):Bool:=Ei m && (decide (Ar m=nm) && (one || decide (Fz m=vl)))
def Fc (ms:List BA) (one:Bool) (nm vl:BA):Nat→Bool
 | 0=>false
 | k+1=>Fc ms one nm vl k || (match ms[k]? with | some m=>Pf one nm vl m | none=>false)
def dE (ms:List BA) (one:Bool) (nm vl:BA):Bool:=Fc ms one nm vl ms.length
def Cg (ms:List BA):P.Tr→Bool
 | .nil=>true
 | .node b _ p l r =>
  if b=0 then true
  else if b=1 then dE ms true p.1 ⟨#[]⟩
  else if b=2 then dE ms false p.1 p.2
  else if b=3 then !Cg ms l
  else if b=4 then Cg ms l && Cg ms r
  else Cg ms l || Cg ms r
theorem Oz {ms:List BA} {one:Bool} {nm vl:BA} {k:Nat} (h:Fc ms one nm vl k=true):∀ n,k≤n→Fc ms one nm vl n=true
 | 0,hn=>(by have:k=0:=(by omega);subst this;exact h)
 | n+1,hn=>by
  by_cases e:k=n+1
  ·subst e;exact h
  ·rw [Fc,Oz h n (by omega)];rfl
theorem Wp {ms:List BA} {one:Bool} {nm vl:BA} {k:Nat} {m:BA} (hm:ms[k]?=some m):Fc ms one nm vl (k+1)=(Fc ms one nm vl k || Pf one nm vl m):=by
 rw [Fc,hm]
def Gl (ns:List P.Nd) (out:List (List Nat)) (n cn co go g:Nat) (ms:List BA) (am:OA) (cm:Nat) (k:Nat) (t:P.Tr):Prop :=
 ∀ (w:World),Nodes0 w g ns→KidsIn w go out→SliceC StrC 1 0 w am ms →
  Calls Tryz.prog 124 #[.agg #[.slice (some ⟨g,0,none⟩) ns.length cn],.slice (some ⟨go,0,none⟩) n co,.int .i64 (k:Int),.slice am ms.length cm] w fun e w'=>e=.returned (.bool (Cg ms t))∧Below w.heap.size w w'
theorem fH (ns:List P.Nd) (out:List (List Nat)) (n cn co go g:Nat) (ms:List BA) (am:OA) (cm:Nat) (k:Nat) (nd:P.Nd) (hnd:ns[k]?=some nd) (hk:nd.kind=0):Gl ns out n cn co go g ms am cm k P.nonT:=by
 intro w hN hK hM;have hkl:=P.getElem?_lt hnd;have hlt:=hN.1;have hml:ms.length≤maxLen:=hM.1;unfold maxLen at hml;have hNN:=iH hN;have hKK:=iH hK;have hMM:=iH hM;have q0:∀ o1,(w.alloc o1).cell? ⟨g,k*4,none⟩=some (.int .i64 0):=fun o1=>((Eu ((Below.refl w.heap.size w).alloc nL o1)).1 _ _ hlt).trans (by rw [← hk];exact (hN.2 k nd hnd).1)
 have q1:∀ o1,(w.alloc o1).cell? ⟨g,k*4+1,none⟩=some (.string nd.name):=fun o1=>((Eu ((Below.refl w.heap.size w).alloc nL o1)).1 _ _ hlt).trans (hN.2 k nd hnd).2.1
 have q2:∀ o1,(w.alloc o1).cell? ⟨g,k*4+2,none⟩=some (.string nd.value):=fun o1=>((Eu ((Below.refl w.heap.size w).alloc nL o1)).1 _ _ hlt).trans (hN.2 k nd hnd).2.2.1
 have q3:∀ o1,(w.alloc o1).cell? ⟨g,k*4+3,none⟩=some (.int .i64 nd.kids):=fun o1=>((Eu ((Below.refl w.heap.size w).alloc nL o1)).1 _ _ hlt).trans (hN.2 k nd hnd).2.2.2
 show Calls _ _ _ _ fun e w'=>e=.returned (.bool true)∧_
 clear hN hK hnd hk hM;go_enter Tryz.func124,Tryz.ntmps124;go_wp2_with fail;go_ret;exact ⟨rfl,by go_grown⟩
theorem iM (ns:List P.Nd) (out:List (List Nat)) (n cn co go g:Nat) (ms:List BA) (am:OA) (cm:Nat) (k:Nat) (nd:P.Nd) (hnd:ns[k]?=some nd) (hk:nd.kind=1):Gl ns out n cn co go g ms am cm k (P.nmT nd.name):=by
 intro w hN hK hM;have hkl:=P.getElem?_lt hnd;have hlt:=hN.1;have hml:ms.length≤maxLen:=hM.1;unfold maxLen at hml;have hNN:=iH hN;have hKK:=iH hK;have hMM:=iH hM;have q0:∀ o1,(w.alloc o1).cell? ⟨g,k*4,none⟩=some (.int .i64 1):=fun o1=>((Eu ((Below.refl w.heap.size w).alloc nL o1)).1 _ _ hlt).trans (by rw [← hk];exact (hN.2 k nd hnd).1)
 have q1:∀ o1,(w.alloc o1).cell? ⟨g,k*4+1,none⟩=some (.string nd.name):=fun o1=>((Eu ((Below.refl w.heap.size w).alloc nL o1)).1 _ _ hlt).trans (hN.2 k nd hnd).2.1
 have q2:∀ o1,(w.alloc o1).cell? ⟨g,k*4+2,none⟩=some (.string nd.value):=fun o1=>((Eu ((Below.refl w.heap.size w).alloc nL o1)).1 _ _ hlt).trans (hN.2 k nd hnd).2.2.1
 have q3:∀ o1,(w.alloc o1).cell? ⟨g,k*4+3,none⟩=some (.int .i64 nd.kids):=fun o1=>((Eu ((Below.refl w.heap.size w).alloc nL o1)).1 _ _ hlt).trans (hN.2 k nd hnd).2.2.2
 show Calls _ _ _ _ fun e w'=>e=.returned (.bool (dE ms true nd.name ⟨#[]⟩))∧_
 clear hN hK hnd hk hM;go_enter Tryz.func124,Tryz.ntmps124;go_wp2_with fail;have HB0:Hid (Below w.heap.size w ((w.alloc (Obj.cells #[.slice (some ⟨g,0,none⟩) ns.length cn] 158)).alloc (Obj.cells #[.int .i64 1,.string nd.name,.string nd.value,.int .i64 nd.kids] 184))):=((Below.refl w.heap.size w).alloc nL _).alloc (by simp) _;have HM0:=iH (hMM.out.below StrC.holds HB0 nL);have hz0:((w.alloc (Obj.cells #[.slice (some ⟨g,0,none⟩) ns.length cn] 158)).alloc (Obj.cells #[.int .i64 1,.string nd.name,.string nd.value,.int .i64 nd.kids] 184)).heap.size=w.heap.size+2:=by simp
 have c0:Hid (((w.alloc (Obj.cells #[.slice (some ⟨g,0,none⟩) ns.length cn] 158)).alloc (Obj.cells #[.int .i64 1,.string nd.name,.string nd.value,.int .i64 nd.kids] 184)).cell? ⟨w.heap.size+1,0,none⟩=some (.int .i64 1)):=by show _=_;simp
 have c1:Hid (((w.alloc (Obj.cells #[.slice (some ⟨g,0,none⟩) ns.length cn] 158)).alloc (Obj.cells #[.int .i64 1,.string nd.name,.string nd.value,.int .i64 nd.kids] 184)).cell? ⟨w.heap.size+1,1,none⟩=some (.string nd.name)):=by show _=_;simp
 have c2:Hid (((w.alloc (Obj.cells #[.slice (some ⟨g,0,none⟩) ns.length cn] 158)).alloc (Obj.cells #[.int .i64 1,.string nd.name,.string nd.value,.int .i64 nd.kids] 184)).cell? ⟨w.heap.size+1,2,none⟩=some (.string nd.value)):=by show _=_;simp
 clear q0 q1 q2 q3 hNN hKK hMM;generalize ((w.alloc (Obj.cells #[.slice (some ⟨g,0,none⟩) ns.length cn] 158)).alloc (Obj.cells #[.int .i64 1,.string nd.name,.string nd.value,.int .i64 nd.kids] 184))=w0 at *;go_loopw [10] (fun i wr=>∃ j:Nat,j≤ms.length∧i=.int .i64 j∧Hid (Fc ms true nd.name ⟨#[]⟩ j=false)∧Hid (Below w0.heap.size w0 wr)) (fun i _=>ms.length - (intOf i).toNat)
 case atStart=>exact ⟨0,zL,rfl,rfl,Below.refl _ _⟩
 case round =>
  obtain ⟨j,hj,rfl,hno,hbel⟩:=hrel;by_cases hlt2:j<ms.length
  ·obtain ⟨m,hm⟩:=gXe hlt2
   obtain ⟨b,o,rfl,_,_,hc⟩:=(HM0.out.below StrC.holds hbel.out nL).at hm;obtain ⟨q0,z0⟩:=hc;simp only [Nat.mul_one,Nat.add_zero] at q0;have HX:=iH hm;have HZ:=iH z0;clear hm z0;go_wp2_with fail;refine (Nw m _ HZ).mono ?_;rintro e w1 ⟨rfl,hb1⟩;have HB1:=qTH hbel hb1;have d0:w1.cell? ⟨w.heap.size+1,0,none⟩=some (.int .i64 1):=(HB1.out.cell (p:=⟨w.heap.size+1,0,none⟩) (by rw [hz0];exact Nat.lt_succ_self _)).trans c0.out;have d1:w1.cell? ⟨w.heap.size+1,1,none⟩=some (.string nd.name):=(HB1.out.cell (p:=⟨w.heap.size+1,1,none⟩) (by rw [hz0];exact Nat.lt_succ_self _)).trans c1.out;have d2:w1.cell? ⟨w.heap.size+1,2,none⟩=some (.string nd.value):=(HB1.out.cell (p:=⟨w.heap.size+1,2,none⟩) (by rw [hz0];exact Nat.lt_succ_self _)).trans c2.out;have HST:Hid (Fc ms true nd.name ⟨#[]⟩ (j+1)=(Fc ms true nd.name ⟨#[]⟩ j || Pf true nd.name ⟨#[]⟩ m)):=Wp HX;clear hb1 hbel q0
   cases hmk:Ei m with
   | false =>
    have HN:Hid (Fc ms true nd.name ⟨#[]⟩ (j+1)=false):=by show _=_;rw [HST.out,hno.out,Pf,hmk];rfl
    clear hmk HST hno;go_wp2_with fail;go_roundw
    case rel=>exact ⟨j+1,by omega,by go_num,HN,HB1⟩
    case measure=>simp [intOf];omega
   | true =>
    have HH:Hid (Pf true nd.name ⟨#[]⟩ m=(decide (Ar m=nd.name) && (true || decide (Fz m=⟨#[]⟩)))):=by show _=_;rw [Pf,hmk];rfl
    clear hmk;generalize Ar m=nm at *;generalize Fz m=vm at *;by_cases hne:nm=nd.name
    ·have hte:=Br hne
     have HT:Hid (true=dE ms true nd.name ⟨#[]⟩):=by
      refine Eq.symm (Oz (k:=j+1) ?_ _ (by omega));rw [HST.out,HH.out,decide_eq_true hne];cases Fc ms true nd.name ⟨#[]⟩ j <;> rfl
     clear HST hno HH hne;go_wp2_with fail;go_ret;exact ⟨Ab HT,HB0.out.trans (HB1.out.mono HB0.out.size)⟩
    ·have hte:=Bz hne
     have HN:Hid (Fc ms true nd.name ⟨#[]⟩ (j+1)=false):=by show _=_;rw [HST.out,hno.out,HH.out,decide_eq_false hne];rfl
     clear HST hno HH hne;go_wp2_with fail;go_roundw
     case rel=>exact ⟨j+1,by omega,by go_num,HN,HB1⟩
     case measure=>simp [intOf];omega
  ·have hke:j=ms.length:=by omega
   subst hke;have HF:Hid (false=dE ms true nd.name ⟨#[]⟩):=hno.out.symm;clear hno;go_wp2_with fail;go_ret;exact ⟨Ab HF,HB0.out.trans (hbel.out.mono HB0.out.size)⟩
theorem iL (ns:List P.Nd) (out:List (List Nat)) (n cn co go g:Nat) (ms:List BA) (am:OA) (cm:Nat) (k:Nat) (nd:P.Nd) (hnd:ns[k]?=some nd) (hk:nd.kind=2):Gl ns out n cn co go g ms am cm k (P.vlT nd.name nd.value):=by
 intro w hN hK hM;have hkl:=P.getElem?_lt hnd;have hlt:=hN.1;have hml:ms.length≤maxLen:=hM.1;unfold maxLen at hml;have hNN:=iH hN;have hKK:=iH hK;have hMM:=iH hM;have q0:∀ o1,(w.alloc o1).cell? ⟨g,k*4,none⟩=some (.int .i64 2):=fun o1=>((Eu ((Below.refl w.heap.size w).alloc nL o1)).1 _ _ hlt).trans (by rw [← hk];exact (hN.2 k nd hnd).1)
 have q1:∀ o1,(w.alloc o1).cell? ⟨g,k*4+1,none⟩=some (.string nd.name):=fun o1=>((Eu ((Below.refl w.heap.size w).alloc nL o1)).1 _ _ hlt).trans (hN.2 k nd hnd).2.1
 have q2:∀ o1,(w.alloc o1).cell? ⟨g,k*4+2,none⟩=some (.string nd.value):=fun o1=>((Eu ((Below.refl w.heap.size w).alloc nL o1)).1 _ _ hlt).trans (hN.2 k nd hnd).2.2.1
 have q3:∀ o1,(w.alloc o1).cell? ⟨g,k*4+3,none⟩=some (.int .i64 nd.kids):=fun o1=>((Eu ((Below.refl w.heap.size w).alloc nL o1)).1 _ _ hlt).trans (hN.2 k nd hnd).2.2.2
 show Calls _ _ _ _ fun e w'=>e=.returned (.bool (dE ms false nd.name nd.value))∧_
 clear hN hK hnd hk hM;go_enter Tryz.func124,Tryz.ntmps124;go_wp2_with fail;have HB0:Hid (Below w.heap.size w ((w.alloc (Obj.cells #[.slice (some ⟨g,0,none⟩) ns.length cn] 158)).alloc (Obj.cells #[.int .i64 2,.string nd.name,.string nd.value,.int .i64 nd.kids] 184))):=((Below.refl w.heap.size w).alloc nL _).alloc (by simp) _;have HM0:=iH (hMM.out.below StrC.holds HB0 nL);have hz0:((w.alloc (Obj.cells #[.slice (some ⟨g,0,none⟩) ns.length cn] 158)).alloc (Obj.cells #[.int .i64 2,.string nd.name,.string nd.value,.int .i64 nd.kids] 184)).heap.size=w.heap.size+2:=by simp
 have c0:Hid (((w.alloc (Obj.cells #[.slice (some ⟨g,0,none⟩) ns.length cn] 158)).alloc (Obj.cells #[.int .i64 2,.string nd.name,.string nd.value,.int .i64 nd.kids] 184)).cell? ⟨w.heap.size+1,0,none⟩=some (.int .i64 2)):=by show _=_;simp
 have c1:Hid (((w.alloc (Obj.cells #[.slice (some ⟨g,0,none⟩) ns.length cn] 158)).alloc (Obj.cells #[.int .i64 2,.string nd.name,.string nd.value,.int .i64 nd.kids] 184)).cell? ⟨w.heap.size+1,1,none⟩=some (.string nd.name)):=by show _=_;simp
 have c2:Hid (((w.alloc (Obj.cells #[.slice (some ⟨g,0,none⟩) ns.length cn] 158)).alloc (Obj.cells #[.int .i64 2,.string nd.name,.string nd.value,.int .i64 nd.kids] 184)).cell? ⟨w.heap.size+1,2,none⟩=some (.string nd.value)):=by show _=_;simp
 clear q0 q1 q2 q3 hNN hKK hMM;generalize ((w.alloc (Obj.cells #[.slice (some ⟨g,0,none⟩) ns.length cn] 158)).alloc (Obj.cells #[.int .i64 2,.string nd.name,.string nd.value,.int .i64 nd.kids] 184))=w0 at *;go_loopw [10] (fun i wr=>∃ j:Nat,j≤ms.length∧i=.int .i64 j∧Hid (Fc ms false nd.name nd.value j=false)∧Hid (Below w0.heap.size w0 wr)) (fun i _=>ms.length - (intOf i).toNat)
 case atStart=>exact ⟨0,zL,rfl,rfl,Below.refl _ _⟩
 case round =>
  obtain ⟨j,hj,rfl,hno,hbel⟩:=hrel;by_cases hlt2:j<ms.length
  ·obtain ⟨m,hm⟩:=gXe hlt2
   obtain ⟨b,o,rfl,_,_,hc⟩:=(HM0.out.below StrC.holds hbel.out nL).at hm;obtain ⟨q0,z0⟩:=hc;simp only [Nat.mul_one,Nat.add_zero] at q0;have HX:=iH hm;have HZ:=iH z0;clear hm z0;go_wp2_with fail;refine (Nw m _ HZ).mono ?_;rintro e w1 ⟨rfl,hb1⟩;have HB1:=qTH hbel hb1;have d0:w1.cell? ⟨w.heap.size+1,0,none⟩=some (.int .i64 2):=(HB1.out.cell (p:=⟨w.heap.size+1,0,none⟩) (by rw [hz0];exact Nat.lt_succ_self _)).trans c0.out;have d1:w1.cell? ⟨w.heap.size+1,1,none⟩=some (.string nd.name):=(HB1.out.cell (p:=⟨w.heap.size+1,1,none⟩) (by rw [hz0];exact Nat.lt_succ_self _)).trans c1.out;have d2:w1.cell? ⟨w.heap.size+1,2,none⟩=some (.string nd.value):=(HB1.out.cell (p:=⟨w.heap.size+1,2,none⟩) (by rw [hz0];exact Nat.lt_succ_self _)).trans c2.out;have HST:Hid (Fc ms false nd.name nd.value (j+1)=(Fc ms false nd.name nd.value j || Pf false nd.name nd.value m)):=Wp HX;clear hb1 hbel q0
   cases hmk:Ei m with
   | false =>
    have HN:Hid (Fc ms false nd.name nd.value (j+1)=false):=by show _=_;rw [HST.out,hno.out,Pf,hmk];rfl
    clear hmk HST hno;go_wp2_with fail;go_roundw
    case rel=>exact ⟨j+1,by omega,by go_num,HN,HB1⟩
    case measure=>simp [intOf];omega
   | true =>
    have HH:Hid (Pf false nd.name nd.value m=(decide (Ar m=nd.name) && (false || decide (Fz m=nd.value)))):=by show _=_;rw [Pf,hmk];rfl
    clear hmk;generalize Ar m=nm at *;generalize Fz m=vm at *;by_cases hne:nm=nd.name
    ·have hte:=Br hne
     by_cases hv:vm=nd.value
     ·have htv:=Br hv
      have HT:Hid (true=dE ms false nd.name nd.value):=by
       refine Eq.symm (Oz (k:=j+1) ?_ _ (by omega));rw [HST.out,HH.out,decide_eq_true hne,decide_eq_true hv];cases Fc ms false nd.name nd.value j <;> rfl
      clear HST hno HH hne hv;go_wp2_with fail;go_ret;exact ⟨Ab HT,HB0.out.trans (HB1.out.mono HB0.out.size)⟩
     ·have htv:=Bz hv
      have HN:Hid (Fc ms false nd.name nd.value (j+1)=false):=by show _=_;rw [HST.out,hno.out,HH.out,decide_eq_false hv,decide_eq_true hne];rfl
      clear HST hno HH hne hv;go_wp2_with fail;go_roundw
      case rel=>exact ⟨j+1,by omega,by go_num,HN,HB1⟩
      case measure=>simp [intOf];omega
    ·have hte:=Bz hne
     have HN:Hid (Fc ms false nd.name nd.value (j+1)=false):=by show _=_;rw [HST.out,hno.out,HH.out,decide_eq_false hne];rfl
     clear HST hno HH hne;go_wp2_with fail;go_roundw
     case rel=>exact ⟨j+1,by omega,by go_num,HN,HB1⟩
     case measure=>simp [intOf];omega
  ·have hke:j=ms.length:=by omega
   subst hke;have HF:Hid (false=dE ms false nd.name nd.value):=hno.out.symm;clear hno;go_wp2_with fail;go_ret;exact ⟨Ab HF,HB0.out.trans (hbel.out.mono HB0.out.size)⟩
end Go.Proofs.YtpidfnfilnkhkaaGreat
