import Derived.Test.YtpeajnkkdioflaaGreatJ34
import Derived.Shelf.SlIter.Nil
import Derived.Shelf.SortM.Plain
import Derived.Shelf.SortM.SortNone
set_option maxHeartbeats 1000000
set_option maxRecDepth 100000
namespace Go.Proofs.YtpeajnkkdioflaaGreat
open Go.RowKit
theorem Rm {ns:List ByteArray}:∀ n,Bt ns n=true↔∀ k,k<n→Et ns k=true
 | 0=>by simp [Bt]
 | n+1=>by
  simp only [Bt,Bool.and_eq_true,Rm n];constructor
  ·rintro ⟨h1,h2⟩ k hk
   by_cases e:k=n
   ·subst e;exact h2
   ·exact h1 k (by omega)
  ·intro h
   exact ⟨fun k hk=>h k (by omega),h n (by omega)⟩
theorem Ro {f:Nat→Bool}:∀ n,Cr f n=true↔∀ k,k<n→f k=true
 | 0=>by simp [Cr]
 | n+1=>by
  simp only [Cr,Bool.and_eq_true,Ro n];constructor
  ·rintro ⟨h1,h2⟩ k hk
   by_cases e:k=n
   ·subst e;exact h2
   ·exact h1 k (by omega)
  ·intro h
   exact ⟨fun k hk=>h k (by omega),h n (by omega)⟩
theorem Rj {ns:List ByteArray} {k:Nat} {s:ByteArray} (hk:ns[k]?=some s):Et ns k=true↔P.nameOk s=true∧Gn ns k=true:=by
 cases k with
 | zero=>simp only [Et,hk,Gn,and_true]
 | succ j =>
  have hlt:j+1<ns.length:=(List.getElem?_eq_some_iff.mp hk).1;have ht:ns[j]?=some ns[j]:=List.getElem?_eq_getElem (by omega);simp only [Et,hk,ht,Gn,Bool.and_eq_true]
theorem Nm {α:Type} (f:α→ByteArray) (xs:List α):Bt (xs.map f) xs.length=true↔∀ (k:Nat) (y:α),xs[k]?=some y→P.nameOk (f y)=true∧Gn (xs.map f) k=true:=by
 rw [Rm];constructor
 ·intro h k y hy
  exact (Rj (by rw [List.getElem?_map,hy];rfl)).1 (h k (List.getElem?_eq_some_iff.mp hy).1)
 ·intro h k hk
  have hy:xs[k]?=some xs[k]:=List.getElem?_eq_getElem hk;exact (Rj (by rw [List.getElem?_map,hy];rfl)).2 (h k _ hy)
theorem Nu {α:Type} (f:α→Bool) (xs:List α):xs.all f=true↔∀ (k:Nat) (y:α),xs[k]?=some y→f y=true:=by
 rw [List.all_eq_true];constructor
 ·intro h k y hy
  exact h y (List.mem_of_getElem? hy)
 ·intro h y hy
  obtain ⟨j,hj,e⟩:=List.mem_iff_getElem.mp hy;exact h j y (by rw [List.getElem?_eq_getElem hj,e])
theorem Lr (n a b:Int):inB n a b=inR n a b:=by
 unfold inB inR;rw [Bool.eq_iff_iff];simp
theorem eD:Lc=Fl:=by
 funext l;unfold Lc Fl;rw [Lr]
theorem Qt (y:Cpy):Mv y=true↔P.nameOk y.name=true∧P.nameOk y.service=true∧Bs y=true:=by
 unfold Mv Cz Bs Da;simp only [Lr,eD,Bool.and_eq_true];constructor
 ·rintro ⟨h1,h2,h3,h4,h5,h6,⟨h7,h8,h9,h10,h11⟩,h12⟩
  exact ⟨h1,h2,⟨⟨⟨⟨⟨⟨⟨h3,h4⟩,h5⟩,h6⟩,h7⟩,h8,h12⟩,h9⟩,h10⟩,h11⟩
 ·rintro ⟨h1,h2,⟨⟨⟨⟨⟨⟨⟨h3,h4⟩,h5⟩,h6⟩,h7⟩,h8,h12⟩,h9⟩,h10⟩,h11⟩
  exact ⟨h1,h2,h3,h4,h5,h6,⟨h7,h8,h9,h10,h11⟩,h12⟩
theorem Ot (y:Brt):Ix y=true↔P.nameOk y.name=true∧Fc y=true:=by
 unfold Ix Fc;simp only [Lr,← fT,Bool.and_eq_true];constructor
 ·rintro ⟨h1,h2,h3,h4,h5⟩
  exact ⟨h1,⟨⟨h2,h4⟩,h5⟩,h3⟩
 ·rintro ⟨h1,⟨⟨h2,h4⟩,h5⟩,h3⟩
  exact ⟨h1,h2,h3,h4,h5⟩
theorem Zo (bs:List Svc) (s:ByteArray):Mi bs s<0↔Ba (bs.map (·.name)) s bs.length=none:=by
 rw [Cv];unfold Mi
 cases h:bs.findIdx? (fun b=>decide (b.name=s)) with
 | none =>
  rw [List.findIdx?_eq_none_iff] at h;constructor
  ·intro _ j hj e
   rw [List.getElem?_map,List.getElem?_eq_getElem hj] at e;simp at e;have:=h bs[j] (List.getElem_mem hj);simp at this;exact this e
  ·intro _;decide
 | some k =>
  rw [List.findIdx?_eq_some_iff_getElem] at h;obtain ⟨hk,h1,_⟩:=h;constructor
  ·intro e
   simp at e;omega
  ·intro e
   refine absurd ?_ (e k hk);rw [List.getElem?_map,List.getElem?_eq_getElem hk];simpa using h1
theorem Vs {α:Type} {o:Option α}:o.isSome=true↔¬ o=none:=by cases o <;> simp
theorem bN {bs:List ByteArray} {s:ByteArray} {n:Nat} (h:¬ Ba bs s n=none):∃ j,j<n∧bs[j]?=some s:=by
 rw [Cv] at h;exact Classical.byContradiction fun hc=>h fun j hj e=>hc ⟨j,hj,e⟩
theorem Je (cs:List Cpy) (s:ByteArray):∀ k,k≤1048576→(Aq cs s (-1) k).1=(Dn cs s k:Nat)
 | 0,_=>rfl
 | k+1,hk=>by
  have ih:=Je cs s k (by omega);have hle:=We cs s k;unfold Aq Dn
  cases h:cs[k]? with
  | none=>exact ih
  | some c =>
   by_cases e:c.at_=s
   ·simp only [e,if_true,true_and]
    rw [if_pos (by omega),ih];show wrap64 _=_
    rw [show wrap64 (((Dn cs s k:Nat):Int)+1)=((Dn cs s k:Nat):Int)+1 from by unfold wrap64;omega];omega
   ·simp only [e,if_false,false_and]
    exact ih
theorem Jo {s:ByteArray}:s.size=0↔s=⟨#[]⟩ :=
 ⟨fun e=>ByteArray.ext (Array.eq_empty_of_size_eq_zero e),fun e=>by subst e;rfl⟩
theorem Ta {s:ByteArray} (h:P.nameOk s=true):¬ s=⟨#[]⟩:=by
 intro e;subst e;revert h
 decide
theorem iE {bs:List Brt} {k:Nat} {y:Brt} (h:bs[k]?=some y):¬ Ez bs y.name<0:=by
 rw [Nv,Cv];intro hc;exact hc k (List.getElem?_eq_some_iff.mp h).1 (by rw [List.getElem?_map,h];rfl)
theorem Ze {x:Flt} {k:Nat} {y:Brt} (h:x.berths[k]?=some y) (hn:P.nameOk y.name=true):Gl x y.name=(Aq x.copies y.name (-1) x.copies.length).2:=by
 unfold Gl De;rw [if_neg (iE h),if_neg (Ta hn)]
theorem fC (x:Flt) (l3:x.copies.length≤1048576):Ce x=Oq x:=by
 unfold Ce Oq
 congr 1
 rw [Bool.eq_iff_iff];simp only [Bool.and_eq_true,Dt,Nm,Bq,Dq,Bo,Ck,Nu,Ro];constructor
 ·rintro ⟨⟨⟨ob,os⟩,oc⟩,hb,hs,hc,hst⟩
  refine ⟨fun k hk=>?_,fun k hk=>?_,fun k hk=>?_⟩
  ·have hy:x.services[k]?=some x.services[k]:=List.getElem?_eq_getElem hk
   simp only [Ew,hy,Bool.and_eq_true,Lr];exact ⟨(os k _ hy).1,(os k _ hy).2,hs k _ hy⟩
  ·have hy:x.copies[k]?=some x.copies[k]:=List.getElem?_eq_getElem hk
   have h1:=hc k _ hy;simp only [Fn,Bool.and_eq_true,Bool.or_eq_true,decide_eq_true_eq,Vs] at h1;obtain ⟨⟨h2,h3⟩,h4⟩:=h1;simp only [Eo,hy,Bool.and_eq_true,Bool.or_eq_true,decide_eq_true_eq,Bool.not_eq_true',decide_eq_false_iff_not,Qt];obtain ⟨j,hj,e⟩:=bN h2;have hjs:x.services[j]?=some x.services[j]:=List.getElem?_eq_getElem hj;have hsn:x.services[j].name=x.copies[k].service:=by
    rw [List.getElem?_map,hjs] at e;simpa using e
   refine ⟨⟨(oc k _ hy).1,by rw [← hsn];exact (os j _ hjs).1,h4⟩,(oc k _ hy).2,by rw [Zo];exact h2,?_⟩;rcases h3 with h3 | h3
   ·exact Or.inr (by rw [Nv];exact h3)
   ·exact Or.inl (Jo.1 h3)
  ·have hy:x.berths[k]?=some x.berths[k]:=List.getElem?_eq_getElem hk
   have h1:=hst k _ hy;simp only [Hz,Bool.and_eq_true,decide_eq_true_eq] at h1;obtain ⟨⟨h2,h3⟩,h4⟩:=h1;simp only [Eb,hy,Bool.and_eq_true,Bool.not_eq_true',decide_eq_false_iff_not,Ot];rw [Ze hy (ob k _ hy).1];rw [Je _ _ _ l3] at h2;exact ⟨⟨(ob k _ hy).1,hb k _ hy⟩,(ob k _ hy).2,by omega,by omega,by omega⟩
 ·rintro ⟨hs,hc,hb⟩
  have hs':∀ (k:Nat) (y:Svc),x.services[k]?=some y→P.nameOk y.name=true∧Gn (x.services.map (·.name)) k=true∧inR y.spare 0 60=true:=by
   intro k y hy;have:=hs k (List.getElem?_eq_some_iff.mp hy).1;simpa only [Ew,hy,Bool.and_eq_true,Lr] using this
  have hc':∀ (k:Nat) (y:Cpy),x.copies[k]?=some y→(P.nameOk y.name=true∧P.nameOk y.service=true∧Bs y=true)∧Gn (x.copies.map (·.name)) k=true∧¬ Mi x.services y.service<0∧(y.at_=⟨#[]⟩∨¬ Ez x.berths y.at_<0):=by
   intro k y hy;have:=hc k (List.getElem?_eq_some_iff.mp hy).1;simpa only [Eo,hy,Bool.and_eq_true,Bool.or_eq_true,decide_eq_true_eq,Bool.not_eq_true',decide_eq_false_iff_not,Qt] using this
  have hb':∀ (k:Nat) (y:Brt),x.berths[k]?=some y→(P.nameOk y.name=true∧Fc y=true)∧Gn (x.berths.map (·.name)) k=true∧¬ y.room<(Gl x y.name).1∧¬ y.hold<(Gl x y.name).2∧¬ 10<Dn x.copies y.name x.copies.length:=by
   intro k y hy;have:=hb k (List.getElem?_eq_some_iff.mp hy).1;simpa only [Eb,hy,Bool.and_eq_true,Bool.not_eq_true',decide_eq_false_iff_not,Ot] using this
  refine ⟨⟨⟨fun k y hy=>⟨(hb' k y hy).1.1,(hb' k y hy).2.1⟩,fun k y hy=>⟨(hs' k y hy).1,(hs' k y hy).2.1⟩⟩,fun k y hy=>⟨(hc' k y hy).1.1,(hc' k y hy).2.1⟩⟩,fun k y hy=>(hb' k y hy).1.2,fun k y hy=>(hs' k y hy).2.2,fun k y hy=>?_,fun k y hy=>?_⟩
  ·obtain ⟨⟨_,_,h4⟩,_,h2,h3⟩:=hc' k y hy
   simp only [Fn,Bool.and_eq_true,Bool.or_eq_true,decide_eq_true_eq,Vs];rw [Zo] at h2;refine ⟨⟨h2,?_⟩,h4⟩;rcases h3 with h3 | h3
   ·exact Or.inr (Jo.2 h3)
   ·exact Or.inl (by rw [Nv] at h3;exact h3)
  ·obtain ⟨⟨hn,_⟩,_,h1,h2,h3⟩:=hb' k y hy
   rw [Ze hy hn] at h1 h2;simp only [Hz,Bool.and_eq_true,decide_eq_true_eq];rw [Je _ _ _ l3];exact ⟨⟨by omega,by omega⟩,by omega⟩
def IntC:Ed Int:=fun _ _ f x=>f 0=some (.int .i64 x)
theorem IntC.holds:Ep IntC 1:=fun _ _ _ _ f g x h _ _ c=>(h 0 (by omega)).trans c
theorem Dz {ns:List ByteArray} {s:ByteArray}:∀ {n k:Nat},Ba ns s n=some k→k<n∧ns[k]?=some s
 | 0,k,h=>by simp [Ba] at h
 | n+1,k,h=>by
  unfold Ba at h;by_cases e:ns[n]?=some s
  ·rw [if_pos e] at h
   cases h
   exact ⟨by omega,e⟩
  ·rw [if_neg e] at h
   have:=Dz h;exact ⟨by omega,this.2⟩
theorem Fv {α:Type} {f:α→ByteArray} {xs:List α} {k:Nat} {y:α} (h:xs[k]?=some y):(xs.map f)[k]?=some (f y):=by
 rw [List.getElem?_map,h];rfl
theorem Ln {α:Type} {f:α→ByteArray} {xs:List α} {k:Nat} {s:ByteArray} (h:(xs.map f)[k]?=some s):∃ y,xs[k]?=some y∧f y=s:=by
 rw [List.getElem?_map] at h
 cases e:xs[k]? with
 | none=>rw [e] at h;cases h
 | some y=>rw [e] at h;cases h;exact ⟨y,rfl,rfl⟩
abbrev svN (x:Flt):List ByteArray:=x.services.map (·.name)
abbrev cpN (x:Flt):List ByteArray:=x.copies.map (·.name)
theorem Xx:∀ x,Op.bytesLess x x=false
 | []=>rfl
 | a::x=>by simp [Op.bytesLess,Xx x]
theorem jQ:∀ x y z,Op.bytesLess x y=true→Op.bytesLess y z=true→Op.bytesLess x z=true
 | _,_,[],_,h=>by simp [Op.bytesLess] at h
 | [],_,_::_,_,_=>rfl
 | a::x,[],c::z,h,_=>by simp [Op.bytesLess] at h
 | a::x,b::y,c::z,h1,h2=>by
  simp only [Op.bytesLess,Bool.or_eq_true,Bool.and_eq_true,decide_eq_true_eq,beq_iff_eq] at h1 h2 ⊢;rcases h1 with h1 | ⟨rfl,h1⟩
  ·rcases h2 with h2 | ⟨rfl,h2⟩
   ·exact Or.inl (UInt8.lt_trans h1 h2)
   ·exact Or.inl h1
  ·rcases h2 with h2 | ⟨rfl,h2⟩
   ·exact Or.inl h2
   ·exact Or.inr ⟨rfl,jQ x y z h1 h2⟩
def AscN (ns:List ByteArray):Prop:=∀ k s t,ns[k]?=some s→ns[k+1]?=some t→Op.bytesLess s.toList t.toList=true
theorem Xi {α:Type} (f:α→ByteArray) (xs:List α) (h:Bt (xs.map f) xs.length=true):AscN (xs.map f):=by
 intro k s t hs ht;have hlt:=Ad ht;rw [List.length_map] at hlt;have h1:=((Nm f xs).1 h (k+1) _ (List.getElem?_eq_getElem hlt)).2;simp only [Gn,hs,ht] at h1;exact h1
theorem AscN.lt {ns:List ByteArray} (h:AscN ns):∀ d i s t,ns[i]?=some s→ns[i+d+1]?=some t→Op.bytesLess s.toList t.toList=true
 | 0,i,s,t,hs,ht=>h i s t hs ht
 | d+1,i,s,t,hs,ht=>by
  have hlt:=Ad ht;have hu:ns[i+d+1]?=some ns[i+d+1]:=List.getElem?_eq_getElem (by omega);exact jQ _ _ _ (AscN.lt h d i s _ hs hu) (h (i+d+1) _ t hu ht)
theorem AscN.less {ns:List ByteArray} (h:AscN ns) {i j:Nat} {s t:ByteArray} (hi:ns[i]?=some s) (hj:ns[j]?=some t) (hl:i<j):Op.bytesLess s.toList t.toList=true :=
 h.lt (j - i - 1) i s t hi (by rw [show i+(j - i - 1)+1=j by omega];exact hj)
theorem AscN.inj {ns:List ByteArray} (h:AscN ns) {i j:Nat} {s:ByteArray} (hi:ns[i]?=some s) (hj:ns[j]?=some s):i=j:=by
 rcases Nat.lt_trichotomy i j with hl | hl | hl
 ·have:=h.less hi hj hl
  rw [Xx] at this;cases this
 ·exact hl
 ·have:=h.less hj hi hl
  rw [Xx] at this;cases this
theorem AscN.last {ns:List ByteArray} (h:AscN ns) {s:ByteArray} {n k:Nat} (hk:ns[k]?=some s) (hn:k<n):Ba ns s n=some k:=by
 cases e:Ba ns s n with
 | none=>exact absurd hk ((Cv ns s n).1 e k hn)
 | some j=>rw [h.inj (Dz e).2 hk]
theorem Uu {x:Flt} (h:Ce x=true):x.services.length≤30∧x.copies.length≤60∧AscN (svN x)∧AscN (cpN x)∧(∀ (k:Nat) (y:Svc),x.services[k]?=some y→0≤y.spare∧y.spare≤60)∧∀ (k:Nat) (c:Cpy),x.copies[k]?=some c→∃ s,Ba (svN x) c.service x.services.length=some s:=by
 unfold Ce at h;simp only [Bool.and_eq_true,Cq,Dt,Dq,Bo,Nu,decide_eq_true_eq] at h;obtain ⟨⟨⟨_,h1⟩,h2⟩,⟨⟨_,h3⟩,h4⟩,_,h5,h6,_⟩:=h;refine ⟨h1,h2,Xi _ _ h3,Xi _ _ h4,fun k y hy=>?_,fun k c hc=>?_⟩
 ·have:=h5 k y hy
  simpa [inR] using this
 ·have:=h6 k c hc
  simp only [Fn,Bool.and_eq_true] at this;exact Option.isSome_iff_exists.1 this.1.1
abbrev brN (x:Flt):List ByteArray:=x.berths.map (·.name)
theorem Wx {x:Flt} (h:Ce x=true):x.berths.length≤12∧AscN (brN x)∧(∀ (k:Nat) (b:Brt),x.berths[k]?=some b→P.nameOk b.name=true∧P.nameOk b.zone=true∧(0≤b.room∧b.room≤1000)∧Gx b.marks=true)∧∀ (k:Nat) (c:Cpy),x.copies[k]?=some c→(0≤c.room∧c.room≤1000)∧Da c.likes=true∧(c.at_=⟨#[]⟩∨∃ s,Ba (brN x) c.at_ x.berths.length=some s):=by
 unfold Ce at h;simp only [Bool.and_eq_true,Cq,Dt,Bq,Bo,Nu,decide_eq_true_eq] at h;obtain ⟨⟨⟨h0,_⟩,_⟩,⟨⟨h1,_⟩,_⟩,h2,_,h3,_⟩:=h;refine ⟨h0,Xi _ _ h1,fun k b hb=>?_,fun k c hc=>?_⟩
 ·have h4:=h2 k b hb
  simp only [Fc,Bool.and_eq_true,inR,decide_eq_true_eq] at h4;exact ⟨((Nm _ _).1 h1 k b hb).1,h4.1.1.1,h4.1.1.2,h4.2⟩
 ·have h4:=h3 k c hc
  simp only [Fn,Bs,Bool.and_eq_true,Bool.or_eq_true,inR,decide_eq_true_eq] at h4;obtain ⟨⟨_,h5⟩,h6⟩:=h4;refine ⟨h6.1.1.1.1.1.1.2,h6.1.1.1.2,?_⟩;rcases h5 with h5 | h5
  ·exact Or.inr (Option.isSome_iff_exists.1 h5)
  ·exact Or.inl (Jo.1 h5)
theorem mD {x:Flt} (hb:∀ (k:Nat) (b:Brt),x.berths[k]?=some b→P.nameOk b.name=true∧P.nameOk b.zone=true∧(0≤b.room∧b.room≤1000)∧Gx b.marks=true):Ba (brN x) ⟨#[]⟩ x.berths.length=none:=by
 rw [Cv];intro j hj e;obtain ⟨b,h1,h2⟩:=Ln e;exact Ta (hb j b h1).1 h2
theorem iZ {x:Flt} (ha:AscN (brN x)) {s:ByteArray} {k:Nat} (h:Ba (brN x) s x.berths.length=some k):∃ b,x.berths[k]?=some b∧b.name=s∧Gz x.berths s=b.zone:=by
 obtain ⟨hk,hs⟩:=Dz h;obtain ⟨b,h1,h2⟩:=Ln hs;have hi:Ez x.berths s=k:=aC h1 h2 fun j b' hj hb' he=>by
  have:=ha.inj (Fv (f:=(·.name)) hb') (show _=some b'.name by rw [he];exact hs);omega
 refine ⟨b,h1,h2,?_⟩;unfold Gz;rw [hi,if_neg (by omega),Int.toNat_natCast,h1];rfl
structure Rwp where
 berth:Brt
 room:Int
 hold:Int
 stand:Int
 counts:List Cnt
structure Idx where
 pack:Bool
 rows:List Rwp
 zones:List Znr
 total:List Cnt
def Al (p:Cpy→Bool) (xs:List Cpy) (k:Nat):List Cnt:=Ue ((xs.take k).filter p)
def onB (s:ByteArray) (c:Cpy):Bool:=decide (c.at_=s)
def stP (c:Cpy):Bool:=!decide (c.at_=⟨#[]⟩)
def inZ (x:Flt) (z:ByteArray) (c:Cpy):Bool:=stP c && decide (Gz x.berths c.at_=z)
theorem lH (p:Cpy→Bool) (xs:List Cpy):Al p xs 0=[]:=rfl
theorem Jm {p:Cpy→Bool} {xs:List Cpy} {k:Nat} {c:Cpy} (hk:xs[k]?=some c) (hp:p c=true):Al p xs (k+1)=Bh (Al p xs k) c:=by
 unfold Al;rw [List.take_add_one,hk,List.filter_append];simp only [Option.toList,List.filter_cons,hp,if_true,List.filter_nil];exact aM _ _
theorem Er {p:Cpy→Bool} {xs:List Cpy} {k:Nat} {c:Cpy} (hk:xs[k]?=some c) (hp:p c=false):Al p xs (k+1)=Al p xs k:=by
 unfold Al;rw [List.take_add_one,hk,List.filter_append];simp [Option.toList,hp]
theorem Dx (p:Cpy→Bool) (xs:List Cpy) (k:Nat):Asc Cnt.service (Al p xs k):=eX _
theorem eB (p:Cpy→Bool) (xs:List Cpy) (k:Nat) {c:Cpy} (h:c∈(xs.take k).filter p):c∈xs:=List.mem_of_mem_take (List.mem_filter.1 h).1
theorem Fh (p:Cpy→Bool) (xs:List Cpy) (k:Nat):(Al p xs k).length≤k :=
 Nat.le_trans (dT _) (Nat.le_trans (List.length_filter_le _ _) (by rw [List.length_take];omega))
theorem Ef {p:Cpy→Bool} {xs:List Cpy} {k:Nat} (h:∀ c∈xs,c.service.size≤20) (hk:k≤60):∀ x∈Al p xs k,Jt 60 x:=by
 intro x hx;obtain ⟨h0,h1,h2,h3,h4,h5,h6⟩:=Wv _ (fun c hc=>h c (eB p xs k hc)) x hx;have hl:((xs.take k).filter p).length≤60:=Nat.le_trans (List.length_filter_le _ _) (by rw [List.length_take];omega);exact ⟨h0,h1,by omega,h3,by omega,h5,by omega⟩
theorem Jh {n:Int} (h:-1000000≤n) (h2:n≤1000000):wrap64 n=n:=by unfold wrap64;omega
theorem Ts {cs:List Cpy} {s:ByteArray} (h:∀ (k:Nat) (c:Cpy),cs[k]?=some c→(0≤c.room∧c.room≤1000)∧0≤c.hold∧c.hold≤1000):∀ k,k≤60 →
  (0≤(Aq cs s (-1) k).1∧(Aq cs s (-1) k).1≤k)∧(0≤(Aq cs s (-1) k).2.1∧(Aq cs s (-1) k).2.1≤1000*k)∧0≤(Aq cs s (-1) k).2.2∧(Aq cs s (-1) k).2.2≤1000*k
 | 0,_=>by simp [Aq]
 | k+1,hk=>by
  have ih:=Ts (s:=s) h k (by omega)
  cases e:cs[k]? with
  | none =>
   have:Aq cs s (-1) (k+1)=Aq cs s (-1) k:=by simp only [Aq,e]
   rw [this];omega
  | some c =>
   have hc:=h k c e;by_cases ha:c.at_=s
   ·rw [Kx e ha (by omega),Jh (by omega) (by omega),Jh (by omega) (by omega),Jh (by omega) (by omega)]
    simp only;omega
   ·rw [He e (fun h9=>ha h9.1)]
    omega
theorem kU {cs:List Cpy} {s:ByteArray} {k:Nat} {c:Cpy} (h:∀ (k:Nat) (c:Cpy),cs[k]?=some c→(0≤c.room∧c.room≤1000)∧0≤c.hold∧c.hold≤1000) (hk:k<60) (e:cs[k]?=some c) (ha:c.at_=s) :
  Aq cs s (-1) (k+1)=((Aq cs s (-1) k).1+1,(Aq cs s (-1) k).2.1+c.room,(Aq cs s (-1) k).2.2+c.hold):=by
 have ih:=Ts (s:=s) h k (by omega);have hc:=h k c e;rw [Kx e ha (by omega),Jh (by omega) (by omega),Jh (by omega) (by omega),Jh (by omega) (by omega)]
def Ah (bs:List Brt):Nat→List ByteArray
 | 0=>[]
 | k+1=>match bs[k]? with
  | some b=>Fy id (Ah bs k) b.zone
  | none=>Ah bs k
theorem Jp {bs:List Brt} {k:Nat} {b:Brt} (h:bs[k]?=some b):Ah bs (k+1)=Fy id (Ah bs k) b.zone:=by simp only [Ah,h]
theorem Gf (bs:List Brt):∀ k,Asc id (Ah bs k)
 | 0=>List.Pairwise.nil
 | k+1=>by
  unfold Ah
  split
  ·exact (Gf bs k).put
  ·exact Gf bs k
theorem Hi {bs:List Brt} {z:ByteArray}:∀ k,z∈Ah bs k↔∃ (j:Nat) (b:Brt),j<k∧bs[j]?=some b∧b.zone=z
 | 0=>⟨(fun h=>by cases h),(fun ⟨j,_,h,_⟩=>absurd h (Nat.not_lt_zero _))⟩
 | k+1=>by
  have ih:=Hi (bs:=bs) (z:=z) k
  cases e:bs[k]? with
  | none =>
   rw [show Ah bs (k+1)=Ah bs k by simp only [Ah,e],ih];constructor
   ·rintro ⟨j,b,h1,h2,h3⟩;exact ⟨j,b,by omega,h2,h3⟩
   ·rintro ⟨j,b,h1,h2,h3⟩
    refine ⟨j,b,?_,h2,h3⟩;by_cases hj:j=k
    ·subst hj;rw [e] at h2;cases h2
    ·omega
  | some b =>
   rw [Jp e,Gi (Gf bs k),ih];constructor
   ·rintro (rfl | ⟨⟨j,b',h1,h2,h3⟩,_⟩)
    ·exact ⟨k,b,by omega,e,rfl⟩
    ·exact ⟨j,b',by omega,h2,h3⟩
   ·rintro ⟨j,b',h1,h2,h3⟩
    by_cases hz:z=b.zone
    ·exact .inl hz
    ·refine .inr ⟨⟨j,b',?_,h2,h3⟩,hz⟩
     by_cases hj:j=k
     ·subst hj
      rw [e] at h2;cases h2
      exact absurd h3.symm hz
     ·omega
theorem Iu (bs:List Brt):∀ k,(Ah bs k).length≤k
 | 0=>Nat.le_refl _
 | k+1=>by
  have ih:=Iu bs k;unfold Ah
  split
  ·have:=Wd id (Ah bs k) (by assumption:Brt).zone
   omega
  ·omega
def Dl (x:Flt) (b:Brt):Rwp:=⟨b,b.room - (Aq x.copies b.name (-1) x.copies.length).2.1,b.hold - (Aq x.copies b.name (-1) x.copies.length).2.2,(Aq x.copies b.name (-1) x.copies.length).1,Al (onB b.name) x.copies x.copies.length⟩
def znM (x:Flt) (z:ByteArray):Znr:=⟨z,Al (inZ x z) x.copies x.copies.length⟩
def Lp (x:Flt):Idx:=⟨x.pack,x.berths.map (Dl x),(Ah x.berths x.berths.length).map (znM x),Al stP x.copies x.copies.length⟩
theorem Np {s:ByteArray} (h:P.nameOk s=true):s.size≤20:=by
 unfold P.nameOk at h;simp only [Bool.and_eq_true,decide_eq_true_eq] at h;omega
structure VOk (x:Flt):Prop where
 nb:x.berths.length≤12
 nc:x.copies.length≤60
 asc:AscN (brN x)
 bn:∀ (k:Nat) (b:Brt),x.berths[k]?=some b→(0<b.name.size∧b.name.size≤20)∧b.zone.size≤20∧(0≤b.room∧b.room≤1000)∧(0≤b.hold∧b.hold≤1000)∧b.marks.length≤1048576∧wS ByteArray.size b.marks≤1048576
 cn:∀ (k:Nat) (c:Cpy),x.copies[k]?=some c→(0≤c.room∧c.room≤1000)∧0≤c.hold∧c.hold≤1000
 cs:∀ (k:Nat) (c:Cpy),x.copies[k]?=some c→c.service.size≤20∧c.at_.size≤20∧(0≤c.apart∧c.apart≤2)
 ca:∀ (k:Nat) (c:Cpy),x.copies[k]?=some c→c.at_=⟨#[]⟩∨∃ (i:Nat) (b:Brt),x.berths[i]?=some b∧b.name=c.at_
end Go.Proofs.YtpeajnkkdioflaaGreat
namespace Go.Proofs.YtpeajnkkdioflaaGreat
open Go.RowKit Go.Maps Go.Sort Go.Shelf
def jN:Go.Shelf.Ren where
 f:=fun x=>match x with
  | 6=>59
  | 8=>86
  | 9=>87
  | 11=>111
  | 13=>113
  | 12=>112
  | 23=>137
  | 24=>138
  | 14=>128
  | 15=>129
  | 16=>130
  | 17=>131
  | 18=>132
  | 19=>133
  | 20=>134
  | 21=>135
  | 22=>136
  | 25=>153
  | 26=>154
  | 27=>155
  | 28=>156
  | 29=>157
  | 30=>158
  | 31=>163
  | n=>n
 t:=fun x=>match x with
  | 26=>9
  | 28=>116
  | 24=>68
  | 0=>0
  | 3=>3
  | 37=>174
  | 48=>204
  | 50=>206
  | 4=>4
  | 40=>197
  | 39=>196
  | 45=>191
  | 5=>5
  | 9=>9
  | 51=>216
  | 55=>220
  | 57=>230
  | 58=>87
  | 33=>79
  | n=>n
 g:=fun n=>n
theorem Xr:SlLaysZ.n6 Tryz.prog jN where
 mixed:=by kernel_rfl
 f6:=⟨Tryz.f59.name,of_decide_eq_true (by kernel_rfl),Tryz.func59.trans (congrArg some (by kernel_rfl))⟩
 f8:=⟨Tryz.f86.name,of_decide_eq_true (by kernel_rfl),Tryz.func86.trans (congrArg some (by kernel_rfl))⟩
 f11:=⟨Tryz.f111.name,of_decide_eq_true (by kernel_rfl),Tryz.func111.trans (congrArg some (by kernel_rfl))⟩
 t0:=Tryz.underlying0
 a0:=Tryz.isAgg0
 z0:=Tryz.sizeOf0
 v0:=Tryz.zeroValue0
 t24:=Tryz.underlying68
 a24:=Tryz.isAgg68
 z24:=Tryz.sizeOf68
 v24:=Tryz.zeroValue68
 t26:=Tryz.underlying9
 a26:=Tryz.isAgg9
 z26:=Tryz.sizeOf9
 v26:=Tryz.zeroValue9
 t28:=Tryz.underlying116
 a28:=Tryz.isAgg116
 z28:=Tryz.sizeOf116
 v28:=Tryz.zeroValue116
 i26:=by kernel_rfl
def mB:Go.Shelf.Ren where
 f:=fun x=>match x with
  | 6=>87
  | 8=>113
  | 9=>112
  | 19=>137
  | 20=>138
  | 21=>128
  | 22=>129
  | 23=>130
  | 24=>131
  | 25=>132
  | 26=>133
  | 27=>134
  | 28=>135
  | 29=>136
  | 36=>153
  | 31=>154
  | 32=>155
  | 37=>156
  | 38=>157
  | 39=>158
  | 41=>163
  | n=>n
 t:=fun x=>match x with
  | 27=>68
  | 29=>9
  | 3=>3
  | 32=>174
  | 26=>68
  | 0=>0
  | 44=>204
  | 46=>206
  | 4=>4
  | 36=>197
  | 35=>196
  | 41=>191
  | 5=>5
  | 9=>9
  | 53=>216
  | 57=>220
  | 63=>230
  | 64=>87
  | n=>n
 g:=fun n=>n
theorem dV:SlLaysM.n6 Tryz.prog mB where
 mixed:=by kernel_rfl
 f6:=⟨Tryz.f87.name,of_decide_eq_true (by kernel_rfl),Tryz.func87.trans (congrArg some (by kernel_rfl))⟩
 f8:=Tryz.func113.trans (congrArg some (by kernel_rfl))
 f9:=⟨Tryz.f112.name,of_decide_eq_true (by kernel_rfl),Tryz.func112.trans (congrArg some (by kernel_rfl))⟩
 f19:=Tryz.func137.trans (congrArg some (by kernel_rfl))
 f20:=Tryz.func138.trans (congrArg some (by kernel_rfl))
 f21:=⟨Tryz.f128.name,of_decide_eq_true (by kernel_rfl),Tryz.func128.trans (congrArg some (by kernel_rfl))⟩
 f22:=⟨Tryz.f129.name,of_decide_eq_true (by kernel_rfl),Tryz.func129.trans (congrArg some (by kernel_rfl))⟩
 f23:=⟨Tryz.f130.name,of_decide_eq_true (by kernel_rfl),Tryz.func130.trans (congrArg some (by kernel_rfl))⟩
 f24:=⟨Tryz.f131.name,of_decide_eq_true (by kernel_rfl),Tryz.func131.trans (congrArg some (by kernel_rfl))⟩
 f25:=⟨Tryz.f132.name,of_decide_eq_true (by kernel_rfl),Tryz.func132.trans (congrArg some (by kernel_rfl))⟩
 f26:=⟨Tryz.f133.name,of_decide_eq_true (by kernel_rfl),Tryz.func133.trans (congrArg some (by kernel_rfl))⟩
 f27:=⟨Tryz.f134.name,of_decide_eq_true (by kernel_rfl),Tryz.func134.trans (congrArg some (by kernel_rfl))⟩
 f28:=⟨Tryz.f135.name,of_decide_eq_true (by kernel_rfl),Tryz.func135.trans (congrArg some (by kernel_rfl))⟩
 f29:=⟨Tryz.f136.name,of_decide_eq_true (by kernel_rfl),Tryz.func136.trans (congrArg some (by kernel_rfl))⟩
 f31:=Tryz.func154.trans (congrArg some (by kernel_rfl))
 f32:=Tryz.func155.trans (congrArg some (by kernel_rfl))
 f36:=⟨Tryz.f153.name,of_decide_eq_true (by kernel_rfl),Tryz.func153.trans (congrArg some (by kernel_rfl))⟩
 f37:=⟨Tryz.f156.name,of_decide_eq_true (by kernel_rfl),Tryz.func156.trans (congrArg some (by kernel_rfl))⟩
 f38:=⟨Tryz.f157.name,of_decide_eq_true (by kernel_rfl),Tryz.func157.trans (congrArg some (by kernel_rfl))⟩
 f39:=⟨Tryz.f158.name,of_decide_eq_true (by kernel_rfl),Tryz.func158.trans (congrArg some (by kernel_rfl))⟩
 f41:=⟨Tryz.f163.name,of_decide_eq_true (by kernel_rfl),Tryz.func163.trans (congrArg some (by kernel_rfl))⟩
 t0:=Tryz.underlying0
 a0:=Tryz.isAgg0
 z0:=Tryz.sizeOf0
 v0:=Tryz.zeroValue0
 t3:=Tryz.underlying3
 a3:=Tryz.isAgg3
 z3:=Tryz.sizeOf3
 v3:=Tryz.zeroValue3
 t4:=Tryz.underlying4
 a4:=Tryz.isAgg4
 z4:=Tryz.sizeOf4
 v4:=Tryz.zeroValue4
 t5:=Tryz.underlying5
 a5:=Tryz.isAgg5
 z5:=Tryz.sizeOf5
 v5:=Tryz.zeroValue5
 t9:=Tryz.underlying9
 a9:=Tryz.isAgg9
 z9:=Tryz.sizeOf9
 v9:=Tryz.zeroValue9
 t26:=Tryz.underlying68
 a26:=Tryz.isAgg68
 z26:=Tryz.sizeOf68
 v26:=Tryz.zeroValue68
 t27:=Tryz.underlying68
 a27:=Tryz.isAgg68
 z27:=Tryz.sizeOf68
 v27:=Tryz.zeroValue68
 t29:=Tryz.underlying9
 a29:=Tryz.isAgg9
 z29:=Tryz.sizeOf9
 v29:=Tryz.zeroValue9
 t32:=Tryz.underlying174
 a32:=Tryz.isAgg174
 z32:=Tryz.sizeOf174
 v32:=Tryz.zeroValue174
 t35:=Tryz.underlying196
 a35:=Tryz.isAgg196
 z35:=Tryz.sizeOf196
 v35:=Tryz.zeroValue196
 t36:=Tryz.underlying197
 a36:=Tryz.isAgg197
 z36:=Tryz.sizeOf197
 v36:=Tryz.zeroValue197
 t41:=Tryz.underlying191
 a41:=Tryz.isAgg191
 z41:=Tryz.sizeOf191
 v41:=Tryz.zeroValue191
 t44:=Tryz.underlying204
 a44:=Tryz.isAgg204
 z44:=Tryz.sizeOf204
 v44:=Tryz.zeroValue204
 t46:=Tryz.underlying206
 a46:=Tryz.isAgg206
 z46:=Tryz.sizeOf206
 v46:=Tryz.zeroValue206
 t53:=Tryz.underlying216
 a53:=Tryz.isAgg216
 z53:=Tryz.sizeOf216
 v53:=Tryz.zeroValue216
 t57:=Tryz.underlying220
 a57:=Tryz.isAgg220
 z57:=Tryz.sizeOf220
 v57:=Tryz.zeroValue220
 t63:=Tryz.underlying230
 a63:=Tryz.isAgg230
 z63:=Tryz.sizeOf230
 v63:=Tryz.zeroValue230
 t64:=Tryz.underlying87
 a64:=Tryz.isAgg87
 z64:=Tryz.sizeOf87
 v64:=Tryz.zeroValue87
def Zp:Go.Shelf.Ren where
 f:=fun x=>match x with
  | 7=>84
  | 10=>110
  | n=>n
 t:=fun x=>match x with
  | 23=>106
  | 26=>9
  | 3=>125
  | 28=>116
  | 0=>0
  | 27=>115
  | 33=>79
  | 4=>4
  | n=>n
 g:=fun n=>n
theorem Vu:SlLaysZ.n7 Tryz.prog Zp where
 mixed:=by kernel_rfl
 f7:=⟨Tryz.f84.name,of_decide_eq_true (by kernel_rfl),Tryz.func84.trans (congrArg some (by kernel_rfl))⟩
 f10:=⟨Tryz.f110.name,of_decide_eq_true (by kernel_rfl),Tryz.func110.trans (congrArg some (by kernel_rfl))⟩
 t0:=Tryz.underlying0
 a0:=Tryz.isAgg0
 z0:=Tryz.sizeOf0
 v0:=Tryz.zeroValue0
 t4:=Tryz.underlying4
 a4:=Tryz.isAgg4
 z4:=Tryz.sizeOf4
 v4:=Tryz.zeroValue4
 t23:=Tryz.underlying106
 a23:=Tryz.isAgg106
 z23:=Tryz.sizeOf106
 v23:=Tryz.zeroValue106
 t26:=Tryz.underlying9
 a26:=Tryz.isAgg9
 z26:=Tryz.sizeOf9
 v26:=Tryz.zeroValue9
 t27:=Tryz.underlying115
 a27:=Tryz.isAgg115
 z27:=Tryz.sizeOf115
 v27:=Tryz.zeroValue115
 t28:=Tryz.underlying116
 a28:=Tryz.isAgg116
 z28:=Tryz.sizeOf116
 v28:=Tryz.zeroValue116
 t33:=Tryz.underlying79
 a33:=Tryz.isAgg79
 z33:=Tryz.sizeOf79
 v33:=Tryz.zeroValue79
def aA:Go.Shelf.Ren where
 f:=fun x=>match x with
  | 7=>60
  | 10=>88
  | n=>n
 t:=fun x=>match x with
  | 23=>103
  | 26=>9
  | 3=>109
  | 28=>116
  | 0=>0
  | 27=>115
  | 33=>79
  | 4=>4
  | n=>n
 g:=fun n=>n
theorem Vw:SlLaysZ.n7 Tryz.prog aA where
 mixed:=by kernel_rfl
 f7:=⟨Tryz.f60.name,of_decide_eq_true (by kernel_rfl),Tryz.func60.trans (congrArg some (by kernel_rfl))⟩
 f10:=⟨Tryz.f88.name,of_decide_eq_true (by kernel_rfl),Tryz.func88.trans (congrArg some (by kernel_rfl))⟩
 t0:=Tryz.underlying0
 a0:=Tryz.isAgg0
 z0:=Tryz.sizeOf0
 v0:=Tryz.zeroValue0
 t4:=Tryz.underlying4
 a4:=Tryz.isAgg4
 z4:=Tryz.sizeOf4
 v4:=Tryz.zeroValue4
 t23:=Tryz.underlying103
 a23:=Tryz.isAgg103
 z23:=Tryz.sizeOf103
 v23:=Tryz.zeroValue103
 t26:=Tryz.underlying9
 a26:=Tryz.isAgg9
 z26:=Tryz.sizeOf9
 v26:=Tryz.zeroValue9
 t27:=Tryz.underlying115
 a27:=Tryz.isAgg115
 z27:=Tryz.sizeOf115
 v27:=Tryz.zeroValue115
 t28:=Tryz.underlying116
 a28:=Tryz.isAgg116
 z28:=Tryz.sizeOf116
 v28:=Tryz.zeroValue116
 t33:=Tryz.underlying79
 a33:=Tryz.isAgg79
 z33:=Tryz.sizeOf79
 v33:=Tryz.zeroValue79
def fB:Go.Shelf.Ren where
 f:=fun x=>match x with
  | 7=>62
  | 10=>90
  | n=>n
 t:=fun x=>match x with
  | 23=>104
  | 26=>9
  | 3=>106
  | 28=>116
  | 0=>0
  | 27=>115
  | 33=>79
  | 4=>4
  | n=>n
 g:=fun n=>n
theorem aF:SlLaysZ.n7 Tryz.prog fB where
 mixed:=by kernel_rfl
 f7:=⟨Tryz.f62.name,of_decide_eq_true (by kernel_rfl),Tryz.func62.trans (congrArg some (by kernel_rfl))⟩
 f10:=⟨Tryz.f90.name,of_decide_eq_true (by kernel_rfl),Tryz.func90.trans (congrArg some (by kernel_rfl))⟩
 t0:=Tryz.underlying0
 a0:=Tryz.isAgg0
 z0:=Tryz.sizeOf0
 v0:=Tryz.zeroValue0
 t4:=Tryz.underlying4
 a4:=Tryz.isAgg4
 z4:=Tryz.sizeOf4
 v4:=Tryz.zeroValue4
 t23:=Tryz.underlying104
 a23:=Tryz.isAgg104
 z23:=Tryz.sizeOf104
 v23:=Tryz.zeroValue104
 t26:=Tryz.underlying9
 a26:=Tryz.isAgg9
 z26:=Tryz.sizeOf9
 v26:=Tryz.zeroValue9
 t27:=Tryz.underlying115
 a27:=Tryz.isAgg115
 z27:=Tryz.sizeOf115
 v27:=Tryz.zeroValue115
 t28:=Tryz.underlying116
 a28:=Tryz.isAgg116
 z28:=Tryz.sizeOf116
 v28:=Tryz.zeroValue116
 t33:=Tryz.underlying79
 a33:=Tryz.isAgg79
 z33:=Tryz.sizeOf79
 v33:=Tryz.zeroValue79
theorem Td (m:Nat):AnyZ.SortsIn Tryz.prog jN Fence.wide m :=
 ⟨fun blk off cap ss W hH hblk hsz=>callsIn_wide.2 (AnyM.slices_Sort_string dV blk off cap ss W hH hblk hsz),
  fun p cap W=>callsIn_wide.2 (AnyM.slices_Sort_string_none dV p cap W)⟩
theorem Us (mb:Option Nat) (W:World):CallsIn Fence.wide 5 Tryz.prog 84 #[.map mb] W fun e w'=>e=.returned (.func (.func 110) #[] #[.pointer (some ⟨W.heap.size,0,none⟩)])∧w'=W.alloc (.cells #[.map mb] 106) :=
 AnyZ.keys_in Vu Fence.wide 5 trivial rfl mb W
theorem Qe {H:Type} (b nn:Nat) (D0:DataW H) (R:Value→Option (DataW H×List MemPlace)) (w:World) (hown:w.ownsMap Tryz.prog 9 R b nn D0) (hmax:Maps.size D0≤maxLen) (hbytes:Maps.size D0*16≤140737488355328) :
  CallsIn Fence.wide 5 Tryz.prog 59 #[.func (.func 110) #[] #[.pointer (some ⟨w.heap.size,0,none⟩)]] (w.alloc (.cells #[.map (some b)] 106)) fun e w'=>∃ (v:Value) (ss:List (List UInt8)),e=.returned v∧ss.Perm (strKeys D0) ∧
   w'.ownsRow (w.alloc (.cells #[.map (some b)] 106)).heap.size 9 1 v ss.length ((ss.mergeSort (fun x y=>decide (x≤y))).map encStr)∧(v=.slice none 0 0↔ss=[])∧Below (w.alloc (.cells #[.map (some b)] 106)).heap.size (w.alloc (.cells #[.map (some b)] 106)) w':=by
 have hbl:=hown.lt;have hseq:SeqGives Fence.wide 2 Tryz.prog 110 #[.pointer (some ⟨w.heap.size,0,none⟩)] encStr (fun ss=>ss.Perm (strKeys D0)) (Maps.size D0) (w.alloc (.cells #[.map (some b)] 106)) :=
  AnyZ.keys_gives (ρ:=Zp) { Vu with } Fence.wide _ trivial rfl (by omega) w.heap.size b nn D0 _ (by simp) (by simp) (by
   obtain ⟨es,clock,hb,Ft,hs,hD⟩:=hown
   exact ⟨es,clock,(Below.heap_alloc _ _ b hbl).trans hb,Ft,hs,hD⟩)
 exact AnyZ.sorted_in Xr Fence.wide 5 trivial trivial trivial trivial rfl (by omega) (Td _) (enters_of Tryz.func87 (by kernel_rfl) rfl) 110 #[.pointer (some ⟨w.heap.size,0,none⟩)] trivial (enters_of Tryz.func110 (by kernel_rfl) rfl) _ _ hmax hbytes _ hseq
theorem Um (mb:Option Nat) (W:World):CallsIn Fence.wide 5 Tryz.prog 60 #[.map mb] W fun e w'=>e=.returned (.func (.func 88) #[] #[.pointer (some ⟨W.heap.size,0,none⟩)])∧w'=W.alloc (.cells #[.map mb] 103) :=
 AnyZ.keys_in Vw Fence.wide 5 trivial rfl mb W
theorem Qa {H:Type} (b nn:Nat) (D0:DataW H) (R:Value→Option (DataW H×List MemPlace)) (w:World) (hown:w.ownsMap Tryz.prog 9 R b nn D0) (hmax:Maps.size D0≤maxLen) (hbytes:Maps.size D0*16≤140737488355328) :
  CallsIn Fence.wide 5 Tryz.prog 59 #[.func (.func 88) #[] #[.pointer (some ⟨w.heap.size,0,none⟩)]] (w.alloc (.cells #[.map (some b)] 103)) fun e w'=>∃ (v:Value) (ss:List (List UInt8)),e=.returned v∧ss.Perm (strKeys D0) ∧
   w'.ownsRow (w.alloc (.cells #[.map (some b)] 103)).heap.size 9 1 v ss.length ((ss.mergeSort (fun x y=>decide (x≤y))).map encStr)∧(v=.slice none 0 0↔ss=[])∧Below (w.alloc (.cells #[.map (some b)] 103)).heap.size (w.alloc (.cells #[.map (some b)] 103)) w':=by
 have hbl:=hown.lt;have hseq:SeqGives Fence.wide 2 Tryz.prog 88 #[.pointer (some ⟨w.heap.size,0,none⟩)] encStr (fun ss=>ss.Perm (strKeys D0)) (Maps.size D0) (w.alloc (.cells #[.map (some b)] 103)) :=
  AnyZ.keys_gives (ρ:=aA) { Vw with } Fence.wide _ trivial rfl (by omega) w.heap.size b nn D0 _ (by simp) (by simp) (by
   obtain ⟨es,clock,hb,Ft,hs,hD⟩:=hown
   exact ⟨es,clock,(Below.heap_alloc _ _ b hbl).trans hb,Ft,hs,hD⟩)
 exact AnyZ.sorted_in Xr Fence.wide 5 trivial trivial trivial trivial rfl (by omega) (Td _) (enters_of Tryz.func87 (by kernel_rfl) rfl) 88 #[.pointer (some ⟨w.heap.size,0,none⟩)] trivial (enters_of Tryz.func88 (by kernel_rfl) rfl) _ _ hmax hbytes _ hseq
theorem Yt (mb:Option Nat) (W:World):CallsIn Fence.wide 5 Tryz.prog 62 #[.map mb] W fun e w'=>e=.returned (.func (.func 90) #[] #[.pointer (some ⟨W.heap.size,0,none⟩)])∧w'=W.alloc (.cells #[.map mb] 104) :=
 AnyZ.keys_in aF Fence.wide 5 trivial rfl mb W
theorem Tf {H:Type} (b nn:Nat) (D0:DataW H) (R:Value→Option (DataW H×List MemPlace)) (w:World) (hown:w.ownsMap Tryz.prog 9 R b nn D0) (hmax:Maps.size D0≤maxLen) (hbytes:Maps.size D0*16≤140737488355328) :
  CallsIn Fence.wide 5 Tryz.prog 59 #[.func (.func 90) #[] #[.pointer (some ⟨w.heap.size,0,none⟩)]] (w.alloc (.cells #[.map (some b)] 104)) fun e w'=>∃ (v:Value) (ss:List (List UInt8)),e=.returned v∧ss.Perm (strKeys D0) ∧
   w'.ownsRow (w.alloc (.cells #[.map (some b)] 104)).heap.size 9 1 v ss.length ((ss.mergeSort (fun x y=>decide (x≤y))).map encStr)∧(v=.slice none 0 0↔ss=[])∧Below (w.alloc (.cells #[.map (some b)] 104)).heap.size (w.alloc (.cells #[.map (some b)] 104)) w':=by
 have hbl:=hown.lt;have hseq:SeqGives Fence.wide 2 Tryz.prog 90 #[.pointer (some ⟨w.heap.size,0,none⟩)] encStr (fun ss=>ss.Perm (strKeys D0)) (Maps.size D0) (w.alloc (.cells #[.map (some b)] 104)) :=
  AnyZ.keys_gives (ρ:=fB) { aF with } Fence.wide _ trivial rfl (by omega) w.heap.size b nn D0 _ (by simp) (by simp) (by
   obtain ⟨es,clock,hb,Ft,hs,hD⟩:=hown
   exact ⟨es,clock,(Below.heap_alloc _ _ b hbl).trans hb,Ft,hs,hD⟩)
 exact AnyZ.sorted_in Xr Fence.wide 5 trivial trivial trivial trivial rfl (by omega) (Td _) (enters_of Tryz.func87 (by kernel_rfl) rfl) 90 #[.pointer (some ⟨w.heap.size,0,none⟩)] trivial (enters_of Tryz.func90 (by kernel_rfl) rfl) _ _ hmax hbytes _ hseq
end Go.Proofs.YtpeajnkkdioflaaGreat
