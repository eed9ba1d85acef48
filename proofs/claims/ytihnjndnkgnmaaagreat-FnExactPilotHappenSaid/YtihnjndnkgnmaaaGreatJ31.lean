import Derived.Test.YtihnjndnkgnmaaaGreatJ30
set_option maxHeartbeats 1000000
set_option maxRecDepth 100000
namespace Go.Proofs.YtihnjndnkgnmaaaGreat
open Go.RowKit
theorem So {ns:List BA}:∀ n,Ch ns n=true↔∀ k,k<n→Fg ns k=true
 | 0=>by simp [Ch]
 | n+1=>by
  simp only [Ch,Bool.and_eq_true,So n];constructor
  ·rintro ⟨h1,h2⟩ k hk
   by_cases e:k=n
   ·subst e;exact h2
   ·exact h1 k (by omega)
  ·intro h
   exact ⟨fun k hk=>h k (by omega),h n (by omega)⟩
theorem Re {f:Nat→Bool}:∀ n,Cx f n=true↔∀ k,k<n→f k=true
 | 0=>by simp [Cx]
 | n+1=>by
  simp only [Cx,Bool.and_eq_true,Re n];constructor
  ·rintro ⟨h1,h2⟩ k hk
   by_cases e:k=n
   ·subst e;exact h2
   ·exact h1 k (by omega)
  ·intro h
   exact ⟨fun k hk=>h k (by omega),h n (by omega)⟩
theorem Ri {ns:List BA} {k:Nat} {s:BA} (hk:ns[k]?=some s):Fg ns k=true↔P.nameOk s=true∧Gs ns k=true:=by
 cases k with
 | zero=>simp only [Fg,hk,Gs,and_true]
 | succ j =>
  have hlt:j+1<ns.length:=(List.getElem?_eq_some_iff.mp hk).1;have ht:ns[j]?=some ns[j]:=gE (by omega);simp only [Fg,hk,ht,Gs,Bool.and_eq_true]
theorem Jq {α:Type} (f:α→BA) (xs:List α):Ch (xs.map f) xs.length=true↔∀ (k:Nat) (y:α),xs[k]?=some y→P.nameOk (f y)=true∧Gs (xs.map f) k=true:=by
 rw [So];constructor
 ·intro h k y hy
  exact (Ri (by rw [List.getElem?_map,hy];rfl)).1 (h k (List.getElem?_eq_some_iff.mp hy).1)
 ·intro h k hk
  have hy:xs[k]?=some xs[k]:=gE hk;exact (Ri (by rw [List.getElem?_map,hy];rfl)).2 (h k _ hy)
theorem Ns {α:Type} (f:α→Bool) (xs:List α):xs.all f=true↔∀ (k:Nat) (y:α),xs[k]?=some y→f y=true:=by
 rw [List.all_eq_true];constructor
 ·intro h k y hy
  exact h y (List.mem_of_getElem? hy)
 ·intro h y hy
  obtain ⟨j,hj,e⟩:=List.mem_iff_getElem.mp hy;exact h j y (by rw [gE hj,e])
theorem Lh (n a b:Int):inB n a b=inR n a b:=by
 unfold inB inR;rw [Bool.eq_iff_iff];simp
theorem gK:La=Fj:=by
 funext l;unfold La Fj;rw [Lh]
theorem Rz (y:Cpy):Nj y=true↔P.nameOk y.name=true∧P.nameOk y.service=true∧Cd y=true:=by
 unfold Nj Ef Cd Dk;simp only [Lh,gK,Bool.and_eq_true];constructor
 ·rintro ⟨h1,h2,h3,h4,h5,h6,⟨h7,h8,h9,h10,h11⟩,h12⟩
  exact ⟨h1,h2,⟨⟨⟨⟨⟨⟨⟨h3,h4⟩,h5⟩,h6⟩,h7⟩,h8,h12⟩,h9⟩,h10⟩,h11⟩
 ·rintro ⟨h1,h2,⟨⟨⟨⟨⟨⟨⟨h3,h4⟩,h5⟩,h6⟩,h7⟩,h8,h12⟩,h9⟩,h10⟩,h11⟩
  exact ⟨h1,h2,h3,h4,h5,h6,⟨h7,h8,h9,h10,h11⟩,h12⟩
theorem Oq (y:Brt):Iw y=true↔P.nameOk y.name=true∧Fn y=true:=by
 unfold Iw Fn;simp only [Lh,← fSq,Bool.and_eq_true];constructor
 ·rintro ⟨h1,h2,h3,h4,h5⟩
  exact ⟨h1,⟨⟨h2,h4⟩,h5⟩,h3⟩
 ·rintro ⟨h1,⟨⟨h2,h4⟩,h5⟩,h3⟩
  exact ⟨h1,h2,h3,h4,h5⟩
theorem aU (bs:List Svc) (s:BA):Mw bs s<0↔Asq (bs.map (·.name)) s bs.length=none:=by
 rw [Dh];unfold Mw
 cases h:bs.findIdx? (fun b=>decide (b.name=s)) with
 | none =>
  rw [List.findIdx?_eq_none_iff] at h;constructor
  ·intro _ j hj e
   rw [List.getElem?_map,gE hj] at e;simp at e;have:=h bs[j] (List.getElem_mem hj);simp at this;exact this e
  ·intro _;decide
 | some k =>
  rw [List.findIdx?_eq_some_iff_getElem] at h;obtain ⟨hk,h1,_⟩:=h;constructor
  ·intro e
   simp at e;omega
  ·intro e
   refine absurd ?_ (e k hk);rw [List.getElem?_map,gE hk];simpa using h1
theorem Wn {α:Type} {o:Option α}:o.isSome=true↔¬ o=none:=by cases o <;> simp
theorem dO {bs:List BA} {s:BA} {n:Nat} (h:¬ Asq bs s n=none):∃ j,j<n∧bs[j]?=some s:=by
 rw [Dh] at h;exact Classical.byContradiction fun hc=>h fun j hj e=>hc ⟨j,hj,e⟩
theorem Ub (cs:List Cpy) (s:BA):∀ k,k≤1048576→(Bo cs s (-1) k).1=(Fb cs s k:Nat)
 | 0,_=>rfl
 | k+1,hk=>by
  have ih:=Ub cs s k (by omega);have hle:=Vr cs s k;unfold Bo Fb
  cases h:cs[k]? with
  | none=>exact ih
  | some c =>
   by_cases e:c.at_=s
   ·simp only [e,if_true,true_and]
    rw [if_pos (by omega),ih];show wrap64 _=_
    rw [show wrap64 (((Fb cs s k:Nat):Int)+1)=((Fb cs s k:Nat):Int)+1 from by unfold wrap64;omega];omega
   ·simp only [e,if_false,false_and]
    exact ih
theorem Mr {s:BA}:s.size=0↔s=⟨#[]⟩ :=
 ⟨fun e=>ByteArray.ext (Array.eq_empty_of_size_eq_zero e),fun e=>by subst e;rfl⟩
theorem iT {s:BA} (h:P.nameOk s=true):¬ s=⟨#[]⟩:=by
 intro e;subst e;revert h
 decide
theorem jC {bs:List Brt} {k:Nat} {y:Brt} (h:bs[k]?=some y):¬ Ie bs y.name<0:=by
 rw [Uh,Dh];intro hc;exact hc k (List.getElem?_eq_some_iff.mp h).1 (by rw [List.getElem?_map,h];rfl)
theorem Zt {x:Flt} {k:Nat} {y:Brt} (h:x.berths[k]?=some y) (hn:P.nameOk y.name=true):Je x y.name=(Bo x.copies y.name (-1) x.copies.length).2:=by
 unfold Je Ek;rw [if_neg (jC h),if_neg (iT hn)]
theorem Vg (x:Flt) (l3:x.copies.length≤1048576):Bj x=Pn x:=by
 unfold Bj Pn
 congr 1
 rw [Bool.eq_iff_iff];simp only [Bool.and_eq_true,Ei,Jq,Bv,Eg,Br,Cs,Ns,Re];constructor
 ·rintro ⟨⟨⟨ob,os⟩,oc⟩,hb,hs,hc,hst⟩
  refine ⟨fun k hk=>?_,fun k hk=>?_,fun k hk=>?_⟩
  ·have hy:x.services[k]?=some x.services[k]:=gE hk
   simp only [Hi,hy,Bool.and_eq_true,Lh];exact ⟨(os k _ hy).1,(os k _ hy).2,hs k _ hy⟩
  ·have hy:x.copies[k]?=some x.copies[k]:=gE hk
   have h1:=hc k _ hy;simp only [Gp,Bool.and_eq_true,Bool.or_eq_true,decide_eq_true_eq,Wn] at h1;obtain ⟨⟨h2,h3⟩,h4⟩:=h1;simp only [Gd,hy,Bool.and_eq_true,Bool.or_eq_true,decide_eq_true_eq,Bool.not_eq_true',decide_eq_false_iff_not,Rz];obtain ⟨j,hj,e⟩:=dO h2;have hjs:x.services[j]?=some x.services[j]:=gE hj;have hsn:x.services[j].name=x.copies[k].service:=by
    rw [List.getElem?_map,hjs] at e;simpa using e
   refine ⟨⟨(oc k _ hy).1,by rw [← hsn];exact (os j _ hjs).1,h4⟩,(oc k _ hy).2,by rw [aU];exact h2,?_⟩;rcases h3 with h3 | h3
   ·exact Or.inr (by rw [Uh];exact h3)
   ·exact Or.inl (Mr.1 h3)
  ·have hy:x.berths[k]?=some x.berths[k]:=gE hk
   have h1:=hst k _ hy;simp only [Ik,Bool.and_eq_true,decide_eq_true_eq] at h1;obtain ⟨⟨h2,h3⟩,h4⟩:=h1;simp only [Fsq,hy,Bool.and_eq_true,Bool.not_eq_true',decide_eq_false_iff_not,Oq];rw [Zt hy (ob k _ hy).1];rw [Ub _ _ _ l3] at h2;exact ⟨⟨(ob k _ hy).1,hb k _ hy⟩,(ob k _ hy).2,by omega,by omega,by omega⟩
 ·rintro ⟨hs,hc,hb⟩
  have hs':∀ (k:Nat) (y:Svc),x.services[k]?=some y→P.nameOk y.name=true∧Gs (x.services.map (·.name)) k=true∧inR y.spare 0 60=true:=by
   intro k y hy;have:=hs k (List.getElem?_eq_some_iff.mp hy).1;simpa only [Hi,hy,Bool.and_eq_true,Lh] using this
  have hc':∀ (k:Nat) (y:Cpy),x.copies[k]?=some y→(P.nameOk y.name=true∧P.nameOk y.service=true∧Cd y=true)∧Gs (x.copies.map (·.name)) k=true∧¬ Mw x.services y.service<0∧(y.at_=⟨#[]⟩∨¬ Ie x.berths y.at_<0):=by
   intro k y hy;have:=hc k (List.getElem?_eq_some_iff.mp hy).1;simpa only [Gd,hy,Bool.and_eq_true,Bool.or_eq_true,decide_eq_true_eq,Bool.not_eq_true',decide_eq_false_iff_not,Rz] using this
  have hb':∀ (k:Nat) (y:Brt),x.berths[k]?=some y→(P.nameOk y.name=true∧Fn y=true)∧Gs (x.berths.map (·.name)) k=true∧¬ y.room<(Je x y.name).1∧¬ y.hold<(Je x y.name).2∧¬ 10<Fb x.copies y.name x.copies.length:=by
   intro k y hy;have:=hb k (List.getElem?_eq_some_iff.mp hy).1;simpa only [Fsq,hy,Bool.and_eq_true,Bool.not_eq_true',decide_eq_false_iff_not,Oq] using this
  refine ⟨⟨⟨fun k y hy=>⟨(hb' k y hy).1.1,(hb' k y hy).2.1⟩,fun k y hy=>⟨(hs' k y hy).1,(hs' k y hy).2.1⟩⟩,fun k y hy=>⟨(hc' k y hy).1.1,(hc' k y hy).2.1⟩⟩,fun k y hy=>(hb' k y hy).1.2,fun k y hy=>(hs' k y hy).2.2,fun k y hy=>?_,fun k y hy=>?_⟩
  ·obtain ⟨⟨_,_,h4⟩,_,h2,h3⟩:=hc' k y hy
   simp only [Gp,Bool.and_eq_true,Bool.or_eq_true,decide_eq_true_eq,Wn];rw [aU] at h2;refine ⟨⟨h2,?_⟩,h4⟩;rcases h3 with h3 | h3
   ·exact Or.inr (Mr.2 h3)
   ·exact Or.inl (by rw [Uh] at h3;exact h3)
  ·obtain ⟨⟨hn,_⟩,_,h1,h2,h3⟩:=hb' k y hy
   rw [Zt hy hn] at h1 h2;simp only [Ik,Bool.and_eq_true,decide_eq_true_eq];rw [Ub _ _ _ l3];exact ⟨⟨by omega,by omega⟩,by omega⟩
def Tj (bs:List Cpy) (s:BA):Int:=match bs.findIdx? (fun b=>decide (b.name=s)) with
 | some k=>k
 | none=>-1
theorem aV {bs:List Cpy} {s:BA} {k:Nat} {b:Cpy} (hk:bs[k]?=some b) (h:b.name=s) (ho:∀ j b,j<k→bs[j]?=some b→b.name≠s):Tj bs s=k:=by
 have:bs.findIdx? (fun b=>decide (b.name=s))=some k:=by
  rw [List.findIdx?_eq_some_iff_getElem];have hlt:=Ae hk;rw [gE hlt] at hk;injection hk with hk;refine ⟨hlt,by simp [hk,h],fun j hj=>?_⟩;have:=ho j bs[j] hj (gE (by omega));simpa using this
 simp [Tj,this]
theorem Rx {bs:List Cpy} {s:BA} (ho:∀ j b,j<bs.length→bs[j]?=some b→b.name≠s):Tj bs s=-1:=by
 have:bs.findIdx? (fun b=>decide (b.name=s))=none:=by
  rw [List.findIdx?_eq_none_iff];intro b hb;obtain ⟨j,hj⟩:=List.getElem?_of_mem hb;simpa using ho j b (Ae hj) hj
 simp [Tj,this]
theorem Pa (x:Flt) (a1:OA) (c1:Nat) (a2:OA) (c2:Nat) (a3:OA) (c3:Nat) (lo:Nat) (s:BA) (w:World) (n3:SliceC CpyC 12 lo w a3 x.copies) (hl:x.copies.length≤1048576) :
  Calls Tryz.prog 57 #[.agg (ffA x a1 c1 a2 c2 a3 c3),.string s] w (Rt (.int .i64 (Tj x.copies s)) w):=by
 have HI:=iH n3;clear n3;unfold ffA;generalize hbs:x.copies=bs at *;clear hbs;go_enter Tryz.func57,Tryz.ntmps57;go_wp2_with fail;go_loopw [5] (fun i wr=>∃ k:Nat,k≤bs.length∧i=.int .i64 k∧wr.cell? ⟨w.heap.size,3,none⟩=some (.slice a3 bs.length c3)∧Hid (∀ j b,j<k→bs[j]?=some b→b.name≠s)∧Below w.heap.size w wr) (fun i _=>bs.length - (intOf i).toNat)
 case atStart=>exact ⟨0,zL,rfl,by simp,fun j b h=>by omega,by go_grown⟩
 case round =>
  obtain ⟨k,hk,rfl,hcell,ho,hbel⟩:=hrel;by_cases hlt:k<bs.length
  ·obtain ⟨x,hx⟩:=gX hlt
   obtain ⟨b,o,rfl,_,_,hc⟩:=(HI.out.below CpyC.holds hbel nL).at hx;obtain ⟨a9,c9,q0,q1,q2,q3,q4,q5,q6,q7,q8,q9,q10,q11,z0,z1,z2,z3,z4,z5,n9⟩:=hc;simp only [Nat.add_zero] at q0;have HX:=iH hx;clear hx q1 q2 q3 q4 q5 q6 q7 q8 q9 q10 q11 z0 z1 z2 z3 z4 z5 n9;by_cases h:x.name=s
   ·have HZ:Hid (Tj bs s=k):=aV HX h ho.out
    have ht:=Gf h;clear h;go_wp2_with fail;go_ret;exact ⟨Atq HZ.out.symm,hbel⟩
   ·have ht:=Fd h
    go_wp2_with fail;go_roundw
    case rel =>
     refine ⟨k+1,by omega,by go_num,hcell,?_,hbel⟩;intro j y hj hy;by_cases e:j=k
     ·subst e
      rw [HX.out] at hy;cases hy
      exact h
     ·exact ho.out j y (by omega) hy
    case measure=>simp [intOf];omega
  ·have hke:k=bs.length:=by omega
   have HZ:Hid (Tj bs s=-1):=Rx (hke▸ho.out);go_wp2_with fail;go_ret;exact ⟨Atq HZ.out.symm,hbel⟩
def IntC:Db Int:=fun _ _ f x=>f 0=some (.int .i64 x)
theorem IntC.holds:Dy IntC 1:=fun _ _ _ _ f g x h _ _ c=>(h 0 (by omega)).trans c
theorem Dt {ns:List BA} {s:BA}:∀ {n k:Nat},Asq ns s n=some k→k<n∧ns[k]?=some s
 | 0,k,h=>by simp [Asq] at h
 | n+1,k,h=>by
  unfold Asq at h;by_cases e:ns[n]?=some s
  ·rw [if_pos e] at h
   cases h
   exact ⟨by omega,e⟩
  ·rw [if_neg e] at h
   have:=Dt h;exact ⟨by omega,this.2⟩
theorem Hc {α:Type} {f:α→BA} {xs:List α} {k:Nat} {y:α} (h:xs[k]?=some y):(xs.map f)[k]?=some (f y):=by
 rw [List.getElem?_map,h];rfl
theorem Toq {α:Type} {f:α→BA} {xs:List α} {k:Nat} {s:BA} (h:(xs.map f)[k]?=some s):∃ y,xs[k]?=some y∧f y=s:=by
 rw [List.getElem?_map] at h
 cases e:xs[k]? with
 | none=>rw [e] at h;cases h
 | some y=>rw [e] at h;cases h;exact ⟨y,rfl,rfl⟩
abbrev svN (x:Flt):List BA:=x.services.map (·.name)
abbrev cpN (x:Flt):List BA:=x.copies.map (·.name)
theorem Tu:∀ x,Op.bytesLess x x=false
 | []=>rfl
 | a::x=>by simp [Op.bytesLess,Tu x]
theorem dT:∀ x y z,Op.bytesLess x y=true→Op.bytesLess y z=true→Op.bytesLess x z=true
 | _,_,[],_,h=>by simp [Op.bytesLess] at h
 | [],_,_::_,_,_=>rfl
 | a::x,[],c::z,h,_=>by simp [Op.bytesLess] at h
 | a::x,b::y,c::z,h1,h2=>by
  simp only [Op.bytesLess,Bool.or_eq_true,Bool.and_eq_true,decide_eq_true_eq,beq_iff_eq] at h1 h2 ⊢;rcases h1 with h1 | ⟨rfl,h1⟩
  ·rcases h2 with h2 | ⟨rfl,h2⟩
   ·exact Or.inl (UInt8.lt_trans h1 h2)
   ·exact Or.inl h1
  ·rcases h2 with h2 | ⟨rfl,h2⟩
   ·exact Or.inl h2
   ·exact Or.inr ⟨rfl,dT x y z h1 h2⟩
def AscN (ns:List BA):Prop:=∀ k s t,ns[k]?=some s→ns[k+1]?=some t→Op.bytesLess s.toList t.toList=true
theorem Zd {α:Type} (f:α→BA) (xs:List α) (h:Ch (xs.map f) xs.length=true):AscN (xs.map f):=by
 intro k s t hs ht;have hlt:=Ae ht;rw [List.length_map] at hlt;have h1:=((Jq f xs).1 h (k+1) _ (gE hlt)).2;simp only [Gs,hs,ht] at h1;exact h1
theorem AscN.lt {ns:List BA} (h:AscN ns):∀ d i s t,ns[i]?=some s→ns[i+d+1]?=some t→Op.bytesLess s.toList t.toList=true
 | 0,i,s,t,hs,ht=>h i s t hs ht
 | d+1,i,s,t,hs,ht=>by
  have hlt:=Ae ht;have hu:ns[i+d+1]?=some ns[i+d+1]:=gE (by omega);exact dT _ _ _ (AscN.lt h d i s _ hs hu) (h (i+d+1) _ t hu ht)
theorem AscN.less {ns:List BA} (h:AscN ns) {i j:Nat} {s t:BA} (hi:ns[i]?=some s) (hj:ns[j]?=some t) (hl:i<j):Op.bytesLess s.toList t.toList=true :=
 h.lt (j - i - 1) i s t hi (by rw [show i+(j - i - 1)+1=j by omega];exact hj)
theorem AscN.inj {ns:List BA} (h:AscN ns) {i j:Nat} {s:BA} (hi:ns[i]?=some s) (hj:ns[j]?=some s):i=j:=by
 rcases Nat.lt_trichotomy i j with hl | hl | hl
 ·have:=h.less hi hj hl
  rw [Tu] at this;cases this
 ·exact hl
 ·have:=h.less hj hi hl
  rw [Tu] at this;cases this
theorem AscN.last {ns:List BA} (h:AscN ns) {s:BA} {n k:Nat} (hk:ns[k]?=some s) (hn:k<n):Asq ns s n=some k:=by
 cases e:Asq ns s n with
 | none=>exact absurd hk ((Dh ns s n).1 e k hn)
 | some j=>rw [h.inj (Dt e).2 hk]
theorem Rh {cs:List Cpy} (h:AscN (cs.map (·.name))) {s:BA} {k:Nat} (e:Asq (cs.map (·.name)) s cs.length=some k):Tj cs s=k∧∃ c,cs[k]?=some c∧c.name=s:=by
 obtain ⟨hk,hs⟩:=Dt e;obtain ⟨c,hc,hn⟩:=Toq hs;refine ⟨aV hc hn fun j b hj hb he=>?_,c,hc,hn⟩;have:=h.inj (Hc (f:=(·.name)) hb) (show _=some b.name by rw [he];exact hs);omega
theorem aQ {cs:List Cpy} {s:BA} (e:Asq (cs.map (·.name)) s cs.length=none):Tj cs s=-1 :=
 Rx fun j b hj hb he=>(Dh _ s _).1 e j hj (by rw [Hc hb,he])
theorem Bm {x:Flt} (h:Bj x=true):x.services.length≤30∧x.copies.length≤60∧AscN (svN x)∧AscN (cpN x)∧(∀ (k:Nat) (y:Svc),x.services[k]?=some y→0≤y.spare∧y.spare≤60)∧∀ (k:Nat) (c:Cpy),x.copies[k]?=some c→∃ s,Asq (svN x) c.service x.services.length=some s:=by
 unfold Bj at h;simp only [Bool.and_eq_true,Cz,Ei,Eg,Br,Ns,decide_eq_true_eq] at h;obtain ⟨⟨⟨_,h1⟩,h2⟩,⟨⟨_,h3⟩,h4⟩,_,h5,h6,_⟩:=h;refine ⟨h1,h2,Zd _ _ h3,Zd _ _ h4,fun k y hy=>?_,fun k c hc=>?_⟩
 ·have:=h5 k y hy
  simpa [inR] using this
 ·have:=h6 k c hc
  simp only [Gp,Bool.and_eq_true] at this;exact Option.isSome_iff_exists.1 this.1.1
abbrev brN (x:Flt):List BA:=x.berths.map (·.name)
theorem Bx {x:Flt} (h:Bj x=true):x.berths.length≤12∧AscN (brN x)∧(∀ (k:Nat) (b:Brt),x.berths[k]?=some b→P.nameOk b.name=true∧P.nameOk b.zone=true∧(0≤b.room∧b.room≤1000)∧Gr b.marks=true)∧∀ (k:Nat) (c:Cpy),x.copies[k]?=some c→(0≤c.room∧c.room≤1000)∧Dk c.likes=true∧(c.at_=⟨#[]⟩∨∃ s,Asq (brN x) c.at_ x.berths.length=some s):=by
 unfold Bj at h;simp only [Bool.and_eq_true,Cz,Ei,Bv,Br,Ns,decide_eq_true_eq] at h;obtain ⟨⟨⟨h0,_⟩,_⟩,⟨⟨h1,_⟩,_⟩,h2,_,h3,_⟩:=h;refine ⟨h0,Zd _ _ h1,fun k b hb=>?_,fun k c hc=>?_⟩
 ·have h4:=h2 k b hb
  simp only [Fn,Bool.and_eq_true,inR,decide_eq_true_eq] at h4;exact ⟨((Jq _ _).1 h1 k b hb).1,h4.1.1.1,h4.1.1.2,h4.2⟩
 ·have h4:=h3 k c hc
  simp only [Gp,Cd,Bool.and_eq_true,Bool.or_eq_true,inR,decide_eq_true_eq] at h4;obtain ⟨⟨_,h5⟩,h6⟩:=h4;refine ⟨h6.1.1.1.1.1.1.2,h6.1.1.1.2,?_⟩;rcases h5 with h5 | h5
  ·exact Or.inr (Option.isSome_iff_exists.1 h5)
  ·exact Or.inl (Mr.1 h5)
theorem Rr {bs:List Brt} (h:AscN (bs.map (·.name))) {s:BA} {k:Nat} (e:Asq (bs.map (·.name)) s bs.length=some k):Ie bs s=k∧∃ c,bs[k]?=some c∧c.name=s:=by
 obtain ⟨hk,hs⟩:=Dt e;obtain ⟨c,hc,hn⟩:=Toq hs;refine ⟨Zu hc hn fun j b hj hb he=>?_,c,hc,hn⟩;have:=h.inj (Hc (f:=(·.name)) hb) (show _=some b.name by rw [he];exact hs);omega
theorem aT {bs:List Brt} {s:BA} (e:Asq (bs.map (·.name)) s bs.length=none):Ie bs s=-1 :=
 Sd fun j b hj hb he=>(Dh _ s _).1 e j hj (by rw [Hc hb,he])
theorem Dl {s:BA} (h:P.nameOk s=true):s.size≤1000:=by
 unfold P.nameOk at h;simp only [Bool.and_eq_true,decide_eq_true_eq] at h;omega
end Go.Proofs.YtihnjndnkgnmaaaGreat
