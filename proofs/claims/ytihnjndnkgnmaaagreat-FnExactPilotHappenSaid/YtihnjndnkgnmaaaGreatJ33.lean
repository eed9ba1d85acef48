import Derived.Test.YtihnjndnkgnmaaaGreatJ31
import Derived.Test.YtihnjndnkgnmaaaGreatEvt
set_option maxHeartbeats 2000000
set_option maxRecDepth 100000
namespace Go.Proofs.YtihnjndnkgnmaaaGreat
open Go.RowKit
def Gn:BA:=⟨#[]⟩
def Cf (s:BA) (c:Cpy):Cpy:=if c.at_=s then { c with at_:=Gn } else c
def Ce {α:Type} (l:List α) (k:Nat):List α:=l.take k++l.drop (k+1)
def Du (l:List Cpy) (k:Nat) (s:BA):List Cpy:=match l[k]? with
 | some c=>l.take k++{ c with at_:=s }::l.drop (k+1)
 | none=>l
def evF (x:Flt) (e:Evt):Option Flt :=
 if e.kind=1 then some { x with berths:=Aq Brt.name x.berths e.berth }
 else if e.kind=2 then (Asq (brN x) e.name x.berths.length).map fun k=>{ x with berths:=Ce x.berths k,copies:=x.copies.map (Cf e.name) }
 else if e.kind=3 then some { x with copies:=Aq Cpy.name x.copies e.copy }
 else if e.kind=4 then (Asq (cpN x) e.name x.copies.length).map fun k=>{ x with copies:=Ce x.copies k }
 else if e.kind=5 then (if e.at_=Gn∨(Asq (brN x) e.at_ x.berths.length).isSome=true then (Asq (cpN x) e.name x.copies.length).map fun k=>{ x with copies:=Du x.copies k e.at_ } else none)
 else some x
def Inq:Flt:=⟨false,[],[],[]⟩
def Hj (x:Flt) (e:Evt):Flt×Int :=
 if Bj x=true then
  if 1≤e.kind∧e.kind≤5 then
   match evF x e with
   | none=>(Inq,3)
   | some y=>if Bj y=true then (y,0) else (Inq,2)
  else (Inq,4)
 else (Inq,1)
theorem fV {x:Flt} {e:Evt} (h:Bj x=false):Hj x e=(Inq,1):=by simp [Hj,h]
theorem gG {x:Flt} {e:Evt} (h:Bj x=true) (hk:¬ (1≤e.kind∧e.kind≤5)):Hj x e=(Inq,4):=by
 unfold Hj;rw [if_pos h,if_neg hk]
theorem Md {x:Flt} {e:Evt} (h:Bj x=true) (hk:1≤e.kind∧e.kind≤5) (hn:evF x e=none):Hj x e=(Inq,3):=by
 unfold Hj;rw [if_pos h,if_pos hk,hn]
theorem Mg {x y:Flt} {e:Evt} (h:Bj x=true) (hk:1≤e.kind∧e.kind≤5) (hn:evF x e=some y) (hv:Bj y=false):Hj x e=(Inq,2):=by
 unfold Hj;rw [if_pos h,if_pos hk,hn];show (if Bj y=true then _ else _)=_
 rw [if_neg (by rw [hv];simp)]
theorem Ms {x y:Flt} {e:Evt} (h:Bj x=true) (hk:1≤e.kind∧e.kind≤5) (hn:evF x e=some y) (hv:Bj y=true):Hj x e=(y,0):=by
 unfold Hj;rw [if_pos h,if_pos hk,hn];show (if Bj y=true then _ else _)=_
 rw [if_pos hv]
theorem eU {α:Type} (f:α→Nat) (B:Nat):∀ (l:List α),(∀ x∈l,f x≤B)→(l.map f).sum≤l.length*B
 | [],_=>by simp
 | a::l,h=>by
  have h1:=h a (by simp);have h2:=eU f B l (fun x hx=>h x (by simp [hx]));simp only [List.map_cons,List.sum_cons,List.length_cons,Nat.add_mul];omega
theorem Wp {α:Type} {f:α→Nat} {B:Nat} {l:List α} (h:∀ x∈l,f x≤B):wS f l≤l.length*(B+1):=by
 have:=eU f B l h;unfold wS;rw [Nat.mul_add];omega
theorem Ow {s:BA} (h:Dp s=true):s.size≤2001:=by
 unfold Dp Az Gt at h;by_cases c:Cg s<0
 ·simp only [c,if_true,Bool.and_eq_true] at h
  have:=Dl h.1;omega
 ·simp only [c,if_false,Bool.and_eq_true,decide_false,Bool.false_or] at h
  have h1:=Dl h.1;have h2:=Dl h.2;rw [ByteArray.size_extract] at h1 h2;omega
theorem Vb {ms:List BA} (h:Gr ms=true):wS ByteArray.size ms≤20020:=by
 unfold Gr at h;simp only [Bool.and_eq_true,decide_eq_true_eq,Qd] at h;have hs:∀ s∈ms,s.size≤2001:=by
  intro s hs;obtain ⟨j,hj⟩:=List.getElem?_of_mem hs;have h1:=h.2 j (Ae hj)
  cases j with
  | zero =>
   simp only [Ix,hj,Bool.and_eq_true] at h1;exact Ow h1.1
  | succ j =>
   have h2:ms[j]?=some (ms[j]'(by have:=Ae hj;omega)):=gE (by have:=Ae hj;omega);simp only [Ix,hj,h2,Bool.and_eq_true] at h1;exact Ow h1.1.1
 have:=Wp hs;have:=h.1;have:ms.length*2002≤10*2002:=Nat.mul_le_mul_right _ h.1;omega
theorem Qv {t:BA} (h:Bc t=0):t.size≤200:=by
 unfold Bc at h;by_cases c:200<t.size
 ·rw [if_pos c] at h
  cases h
 ·omega
theorem Ww {l:List Lik} (h:Dk l=true):wS Cn l≤1005:=by
 unfold Dk at h;simp only [Bool.and_eq_true,decide_eq_true_eq,List.all_eq_true] at h;have hs:∀ x∈l,Cn x≤200:=by
  intro x hx;have h1:=h.2 x hx;simp only [Fj,Bool.and_eq_true,decide_eq_true_eq] at h1;exact Qv h1.1
 have:=Wp hs;have:l.length*201≤5*201:=Nat.mul_le_mul_right _ h.1;omega
theorem Oh {s:BA} (h:Bq s=true):s.size≤1000:=by
 unfold Bq at h;simp only [Bool.or_eq_true,decide_eq_true_eq] at h;rcases h with h | h
 ·omega
 ·exact Dl h
theorem Qb {α:Type} {f:α→BA} {l:List α} {s:BA} {k n:Nat} (hn:∀ x∈l,P.nameOk (f x)=true) (h:Asq (l.map f) s n=some k):s.size≤1000:=by
 obtain ⟨_,hs⟩:=Dt h;obtain ⟨b,h1,h2⟩:=Toq hs;rw [← h2];exact Dl (hn b (List.mem_of_getElem? h1))
theorem It {x:Flt} (h:Bj x=true):Dx x≤1048576:=by
 unfold Bj at h;simp only [Bool.and_eq_true,Cz,Ei,Bv,Br,Ns,decide_eq_true_eq] at h;obtain ⟨⟨⟨h0,h01⟩,h02⟩,⟨⟨h1,h11⟩,h12⟩,h2,_,h3,_⟩:=h;have nb:∀ b∈x.berths,P.nameOk b.name=true:=fun b hb=>by
  obtain ⟨j,hj⟩:=List.getElem?_of_mem hb;exact ((Jq _ _).1 h1 j b hj).1
 have ns:∀ b∈x.services,P.nameOk b.name=true:=fun b hb=>by
  obtain ⟨j,hj⟩:=List.getElem?_of_mem hb;exact ((Jq _ _).1 h11 j b hj).1
 have wb:∀ b∈x.berths,Bs b≤22020:=fun b hb=>by
  obtain ⟨j,hj⟩:=List.getElem?_of_mem hb;have h4:=h2 j b hj;simp only [Fn,Bool.and_eq_true,inR,decide_eq_true_eq] at h4;have q1:=Dl (nb b hb);have q2:=Dl h4.1.1.1;have q3:=Vb h4.2;unfold Bs;omega
 have ws:∀ b∈x.services,Cq b≤1000:=fun b hb=>Dl (ns b hb)
 have wc:∀ c∈x.copies,Bt c≤6205:=fun c hc=>by
  obtain ⟨j,hj⟩:=List.getElem?_of_mem hc;have q0:=Dl ((Jq _ _).1 h12 j c hj).1;have h4:=h3 j c hj;simp only [Gp,Cd,Bool.and_eq_true,Bool.or_eq_true,decide_eq_true_eq] at h4;obtain ⟨⟨h7,h5⟩,h6⟩:=h4;obtain ⟨s,hs⟩:=Option.isSome_iff_exists.1 h7;have q1:=Qb ns hs;have q2:c.at_.size≤1000:=by
   rcases h5 with h5 | h5
   ·obtain ⟨s,hs⟩:=Option.isSome_iff_exists.1 h5
    exact Qb nb hs
   ·omega
  have q3:=Qv h6.1.1.1.1.2;have q4:=Ww h6.1.1.1.2;have q5:=Oh h6.1.2;have q6:=Oh h6.2;unfold Bt;omega
 have s1:=Wp wb;have s2:=Wp ws;have s3:=Wp wc;have m1:x.berths.length*22021≤12*22021:=Nat.mul_le_mul_right _ h0;have m2:x.services.length*1001≤30*1001:=Nat.mul_le_mul_right _ h01;have m3:x.copies.length*6206≤60*6206:=Nat.mul_le_mul_right _ h02;unfold Dx;omega
theorem Qe (x:Flt) (e:Evt):Dx (Hj x e).1≤1048576:=by
 have h0:Dx Inq≤1048576:=by simp [Dx,Inq,wS]
 unfold Hj
 split
 ·split
  ·split
   ·exact h0
   ·split
    ·rename_i h
     exact It h
    ·exact h0
  ·exact h0
 ·exact h0
end Go.Proofs.YtihnjndnkgnmaaaGreat
namespace Go.Proofs.YtihnjndnkgnmaaaGreat
open Go.RowKit Go.WideMaps Go.Maps
def Found (p m1 m2 m3 m4:Nat) (x:Flt) (a1:OA) (c1:Nat) (a2:OA) (c2:Nat) (a3:OA) (c3:Nat) (w:World):Prop :=
 w.rangeAt p 0 (cF x a1 c1 a2 c2 a3 c3 m1 m2 m3 m4)∧p<w.heap.size∧w.ownsMap Tryz.prog 9 (plainElem Tryz.prog 3) m1 x.berths.length (Aj (x.berths.map (·.name)) x.berths.length)∧w.ownsMap Tryz.prog 9 (plainElem Tryz.prog 3) m2 x.services.length (Aj (x.services.map (·.name)) x.services.length)∧w.ownsMap Tryz.prog 9 (plainElem Tryz.prog 3) m3 x.copies.length (Aj (x.copies.map (·.name)) x.copies.length)∧w.heap[m4]?=some (Obj.map #[] 0)
theorem Found.below {p m1 m2 m3 m4:Nat} {x:Flt} {a1:OA} {c1:Nat} {a2:OA} {c2:Nat} {a3:OA} {c3:Nat} {w w':World} (h:Found p m1 m2 m3 m4 x a1 c1 a2 c2 a3 c3 w) (hb:Below w.heap.size w w'):Found p m1 m2 m3 m4 x a1 c1 a2 c2 a3 c3 w' :=
 ⟨Ab h.1 hb h.2.1,lL h.2.1 hb.size,Am h.2.2.1 hb h.2.2.1.lt,Am h.2.2.2.1 hb h.2.2.2.1.lt,Am h.2.2.2.2.1 hb h.2.2.2.2.1.lt,(hb.block m4 (Array.getElem?_eq_some_iff.1 h.2.2.2.2.2).1).trans h.2.2.2.2.2⟩
theorem Found.ins {p m1 m2 m3 m4:Nat} {x:Flt} {a1:OA} {c1:Nat} {a2:OA} {c2:Nat} {a3:OA} {c3:Nat} {w:World} (h:Found p m1 m2 m3 m4 x a1 c1 a2 c2 a3 c3 w):FndIn p x a1 c1 a2 c2 a3 c3 w :=
 ⟨h.1 1 _ rfl,h.1 2 _ rfl,h.1 3 _ rfl⟩
theorem Ke (x:Flt) (a1:OA) (c1:Nat) (a2:OA) (c2:Nat) (a3:OA) (c3:Nat) (lo:Nat) (w:World) (n1:SliceC BrtC 6 lo w a1 x.berths) (n2:SliceC SvcC 2 lo w a2 x.services) (n3:SliceC CpyC 12 lo w a3 x.copies)
  (l1:x.berths.length≤1048576) (l2:x.services.length≤1048576) (l3:x.copies.length≤1048576) :
  Calls Tryz.prog 28 #[.agg (ffA x a1 c1 a2 c2 a3 c3)] w fun e w'=>∃ v,e=.returned (.tuple #[v,.bool (Bj x)])∧Below w.heap.size w w' ∧
   (Bj x=true→∃ p m1 m2 m3 m4,v=.pointer (some ⟨p,0,none⟩)∧w.heap.size≤p∧w.heap.size≤m4∧Found p m1 m2 m3 m4 x a1 c1 a2 c2 a3 c3 w'):=by
 have N1:=iH n1;have N2:=iH n2;have N3:=iH n3;have HV:Hid (Bj x=(Cz x && (Ei x && (Bv x.berths && (Eg x.services && (Br x && Cs x.berths x.copies)))))):=rfl;clear n1 n2 n3;generalize Bj x=V at *;go_enter Tryz.func28,Tryz.ntmps28;go_wp2_with fail;refine (eG x a1 c1 a2 c2 a3 c3 lo _ (N1.out.below BrtC.holds (B:=w.heap.size) (by go_grown) nL) (N2.out.below SvcC.holds (B:=w.heap.size) (by go_grown) nL) (N3.out.below CpyC.holds (B:=w.heap.size) (by go_grown) nL) l1 l2 l3).mono ?_;rintro e w1 ⟨p,m1,m2,m3,m4,rfl,hp,hrg,ho1,ho2,ho3,hg4,hm4,hb1⟩;have HB1:Hid (Below w.heap.size w w1):=(show Below w.heap.size w _ by go_grown).trans (hb1.mono (by simp));have HP:Hid (w.heap.size≤p):=lT (show w.heap.size≤_ by simp) hp;have HG4:Hid (w.heap.size≤m4):=lT (show w.heap.size≤_ by simp) hg4;have HF1:Hid (Found p m1 m2 m3 m4 x a1 c1 a2 c2 a3 c3 w1):=⟨hrg,block_lt_of_cell (hrg 1 _ rfl),ho1,ho2,ho3,hm4⟩;clear hrg ho1 ho2 ho3 hb1 hp hg4 hm4;go_wp2_with fail;refine (Zk _).mono ?_;rintro e w2 ⟨g,rfl,hg,hgl,hb2⟩;have HB2:=qT HB1 hb2;have HF2:Hid (Found p m1 m2 m3 m4 x a1 c1 a2 c2 a3 c3 w2):=HF1.out.below hb2;have HG2:=iH hg;have HGL:=iH hgl;clear hg hgl hb2 HB1 HF1;go_wp2_with fail;go_loopw [11] (fun i wr=>∃ k:Nat,k≤6∧i=.int .i64 k∧Hid ((0<k→(Cz x)=true)∧(1<k→(Ei x)=true)∧(2<k→(Bv x.berths)=true)∧(3<k→(Eg x.services)=true)∧(4<k→(Br x)=true)∧(5<k→(Cs x.berths x.copies)=true))∧Hid (Found p m1 m2 m3 m4 x a1 c1 a2 c2 a3 c3 wr)∧Hid (wr.rangeAt g 0 [.func (.func 91) #[] #[],.func (.func 92) #[] #[],.func (.func 93) #[] #[],.func (.func 94) #[] #[],.func (.func 95) #[] #[],.func (.func 96) #[] #[]])∧Hid (g<wr.heap.size)∧Hid (Below w.heap.size w wr)) (fun i _=>6 - (intOf i).toNat)
 case atStart=>exact ⟨0,by omega,rfl,⟨fun h=>absurd h (by omega),fun h=>absurd h (by omega),fun h=>absurd h (by omega),fun h=>absurd h (by omega),fun h=>absurd h (by omega),fun h=>absurd h (by omega)⟩,HF2,HG2,HGL,HB2⟩
 case round =>
  clear HF2 HG2 HGL HB2;obtain ⟨k,hk,rfl,he,hF,hG,hgl,hb⟩:=hrel;have hk':k=0∨k=1∨k=2∨k=3∨k=4∨k=5∨k=6:=by omega
  rcases hk' with rfl | rfl | rfl | rfl | rfl | rfl | rfl
  ·have c0:wr.cell? ⟨g,0,none⟩=some (.func (.func 91) #[] #[]):=hG.out 0 _ rfl
   go_wp2_with fail;refine (gY p x a1 c1 a2 c2 a3 c3 _ hF.out.ins).mono ?_;rintro e w3 ⟨rfl,hb3⟩;have HF3:Hid (Found p m1 m2 m3 m4 x a1 c1 a2 c2 a3 c3 w3):=hF.out.below hb3;have HG3:=iH (Ab hG.out hb3 hgl.out);have HL3:Hid (g<w3.heap.size):=lL hgl.out hb3.size;have HB3:=qT hb hb3;clear hb3 hF hG hgl hb c0
   cases hh:Cz x with
   | false =>
    have HC:Hid (V=false):=by show _=_;rw [HV.out,hh];rfl
    clear hh he HV;go_wp2_with fail
    go_ret2
    exact ⟨.pointer none,by rw [HC.out];rfl,HB3,fun h=>absurd (HC.out.symm.trans h) (by decide)⟩
   | true =>
    have HE:Hid ((0<0+1→(Cz x)=true)∧(1<0+1→(Ei x)=true)∧(2<0+1→(Bv x.berths)=true)∧(3<0+1→(Eg x.services)=true)∧(4<0+1→(Br x)=true)∧(5<0+1→(Cs x.berths x.copies)=true)):=⟨fun _=>hh,fun h=>absurd h (by omega),fun h=>absurd h (by omega),fun h=>absurd h (by omega),fun h=>absurd h (by omega),fun h=>absurd h (by omega)⟩;clear hh he;go_wp2_with fail;go_roundw
    case rel=>exact ⟨0+1,by omega,by go_num,HE,HF3,HG3,HL3,HB3⟩
    case measure=>simp [intOf]
  ·have c0:wr.cell? ⟨g,1,none⟩=some (.func (.func 92) #[] #[]):=hG.out 1 _ rfl
   go_wp2_with fail;refine (jJ p x a1 c1 a2 c2 a3 c3 lo _ hF.out.ins (N1.out.below BrtC.holds hb.out nL) (N2.out.below SvcC.holds hb.out nL) (N3.out.below CpyC.holds hb.out nL) l1 l2 l3).mono ?_;rintro e w3 ⟨rfl,hb3⟩;have HF3:Hid (Found p m1 m2 m3 m4 x a1 c1 a2 c2 a3 c3 w3):=hF.out.below hb3;have HG3:=iH (Ab hG.out hb3 hgl.out);have HL3:Hid (g<w3.heap.size):=lL hgl.out hb3.size;have HB3:=qT hb hb3;clear hb3 hF hG hgl hb c0
   cases hh:Ei x with
   | false =>
    have HC:Hid (V=false):=by show _=_;rw [HV.out,he.out.1 (by omega),Bool.true_and,hh];rfl
    clear hh he HV;go_wp2_with fail
    go_ret2
    exact ⟨.pointer none,by rw [HC.out];rfl,HB3,fun h=>absurd (HC.out.symm.trans h) (by decide)⟩
   | true =>
    have HE:Hid ((0<1+1→(Cz x)=true)∧(1<1+1→(Ei x)=true)∧(2<1+1→(Bv x.berths)=true)∧(3<1+1→(Eg x.services)=true)∧(4<1+1→(Br x)=true)∧(5<1+1→(Cs x.berths x.copies)=true)):=⟨fun _=>he.out.1 (by omega),fun _=>hh,fun h=>absurd h (by omega),fun h=>absurd h (by omega),fun h=>absurd h (by omega),fun h=>absurd h (by omega)⟩;clear hh he;go_wp2_with fail;go_roundw
    case rel=>exact ⟨1+1,by omega,by go_num,HE,HF3,HG3,HL3,HB3⟩
    case measure=>simp [intOf]
  ·have c0:wr.cell? ⟨g,2,none⟩=some (.func (.func 93) #[] #[]):=hG.out 2 _ rfl
   go_wp2_with fail;refine (Xp p x.berths a1 c1 lo _ hF.out.ins.1 (N1.out.below BrtC.holds hb.out nL)).mono ?_;rintro e w3 ⟨rfl,hb3⟩;have HF3:Hid (Found p m1 m2 m3 m4 x a1 c1 a2 c2 a3 c3 w3):=hF.out.below hb3;have HG3:=iH (Ab hG.out hb3 hgl.out);have HL3:Hid (g<w3.heap.size):=lL hgl.out hb3.size;have HB3:=qT hb hb3;clear hb3 hF hG hgl hb c0
   cases hh:Bv x.berths with
   | false =>
    have HC:Hid (V=false):=by show _=_;rw [HV.out,he.out.1 (by omega),Bool.true_and,he.out.2.1 (by omega),Bool.true_and,hh];rfl
    clear hh he HV;go_wp2_with fail
    go_ret2
    exact ⟨.pointer none,by rw [HC.out];rfl,HB3,fun h=>absurd (HC.out.symm.trans h) (by decide)⟩
   | true =>
    have HE:Hid ((0<2+1→(Cz x)=true)∧(1<2+1→(Ei x)=true)∧(2<2+1→(Bv x.berths)=true)∧(3<2+1→(Eg x.services)=true)∧(4<2+1→(Br x)=true)∧(5<2+1→(Cs x.berths x.copies)=true)):=⟨fun _=>he.out.1 (by omega),fun _=>he.out.2.1 (by omega),fun _=>hh,fun h=>absurd h (by omega),fun h=>absurd h (by omega),fun h=>absurd h (by omega)⟩;clear hh he;go_wp2_with fail;go_roundw
    case rel=>exact ⟨2+1,by omega,by go_num,HE,HF3,HG3,HL3,HB3⟩
    case measure=>simp [intOf]
  ·have c0:wr.cell? ⟨g,3,none⟩=some (.func (.func 94) #[] #[]):=hG.out 3 _ rfl
   go_wp2_with fail;refine (eJ p x.services a2 c2 lo _ hF.out.ins.2.1 (N2.out.below SvcC.holds hb.out nL)).mono ?_;rintro e w3 ⟨rfl,hb3⟩;have HF3:Hid (Found p m1 m2 m3 m4 x a1 c1 a2 c2 a3 c3 w3):=hF.out.below hb3;have HG3:=iH (Ab hG.out hb3 hgl.out);have HL3:Hid (g<w3.heap.size):=lL hgl.out hb3.size;have HB3:=qT hb hb3;clear hb3 hF hG hgl hb c0
   cases hh:Eg x.services with
   | false =>
    have HC:Hid (V=false):=by show _=_;rw [HV.out,he.out.1 (by omega),Bool.true_and,he.out.2.1 (by omega),Bool.true_and,he.out.2.2.1 (by omega),Bool.true_and,hh];rfl
    clear hh he HV;go_wp2_with fail
    go_ret2
    exact ⟨.pointer none,by rw [HC.out];rfl,HB3,fun h=>absurd (HC.out.symm.trans h) (by decide)⟩
   | true =>
    have HE:Hid ((0<3+1→(Cz x)=true)∧(1<3+1→(Ei x)=true)∧(2<3+1→(Bv x.berths)=true)∧(3<3+1→(Eg x.services)=true)∧(4<3+1→(Br x)=true)∧(5<3+1→(Cs x.berths x.copies)=true)):=⟨fun _=>he.out.1 (by omega),fun _=>he.out.2.1 (by omega),fun _=>he.out.2.2.1 (by omega),fun _=>hh,fun h=>absurd h (by omega),fun h=>absurd h (by omega)⟩;clear hh he;go_wp2_with fail;go_roundw
    case rel=>exact ⟨3+1,by omega,by go_num,HE,HF3,HG3,HL3,HB3⟩
    case measure=>simp [intOf]
  ·have c0:wr.cell? ⟨g,4,none⟩=some (.func (.func 95) #[] #[]):=hG.out 4 _ rfl
   go_wp2_with fail;refine (Zp p x a3 c3 m1 m2 lo _ hF.out.ins.2.2 (hF.out.1 4 _ rfl) (hF.out.1 5 _ rfl) hF.out.2.2.1 hF.out.2.2.2.1 (N3.out.below CpyC.holds hb.out nL) l3).mono ?_;rintro e w3 ⟨rfl,hb3⟩;have HF3:Hid (Found p m1 m2 m3 m4 x a1 c1 a2 c2 a3 c3 w3):=hF.out.below hb3;have HG3:=iH (Ab hG.out hb3 hgl.out);have HL3:Hid (g<w3.heap.size):=lL hgl.out hb3.size;have HB3:=qT hb hb3;clear hb3 hF hG hgl hb c0
   cases hh:Br x with
   | false =>
    have HC:Hid (V=false):=by show _=_;rw [HV.out,he.out.1 (by omega),Bool.true_and,he.out.2.1 (by omega),Bool.true_and,he.out.2.2.1 (by omega),Bool.true_and,he.out.2.2.2.1 (by omega),Bool.true_and,hh];rfl
    clear hh he HV;go_wp2_with fail
    go_ret2
    exact ⟨.pointer none,by rw [HC.out];rfl,HB3,fun h=>absurd (HC.out.symm.trans h) (by decide)⟩
   | true =>
    have HE:Hid ((0<4+1→(Cz x)=true)∧(1<4+1→(Ei x)=true)∧(2<4+1→(Bv x.berths)=true)∧(3<4+1→(Eg x.services)=true)∧(4<4+1→(Br x)=true)∧(5<4+1→(Cs x.berths x.copies)=true)):=⟨fun _=>he.out.1 (by omega),fun _=>he.out.2.1 (by omega),fun _=>he.out.2.2.1 (by omega),fun _=>he.out.2.2.2.1 (by omega),fun _=>hh,fun h=>absurd h (by omega)⟩;clear hh he;go_wp2_with fail;go_roundw
    case rel=>exact ⟨4+1,by omega,by go_num,HE,HF3,HG3,HL3,HB3⟩
    case measure=>simp [intOf]
  ·have c0:wr.cell? ⟨g,5,none⟩=some (.func (.func 96) #[] #[]):=hG.out 5 _ rfl
   go_wp2_with fail;refine (bI p x a1 c1 a2 c2 a3 c3 lo _ hF.out.ins (N1.out.below BrtC.holds hb.out nL) (N3.out.below CpyC.holds hb.out nL) l1 l3).mono ?_;rintro e w3 ⟨rfl,hb3⟩;have HF3:Hid (Found p m1 m2 m3 m4 x a1 c1 a2 c2 a3 c3 w3):=hF.out.below hb3;have HG3:=iH (Ab hG.out hb3 hgl.out);have HL3:Hid (g<w3.heap.size):=lL hgl.out hb3.size;have HB3:=qT hb hb3;clear hb3 hF hG hgl hb c0
   cases hh:Cs x.berths x.copies with
   | false =>
    have HC:Hid (V=false):=by show _=_;rw [HV.out,he.out.1 (by omega),Bool.true_and,he.out.2.1 (by omega),Bool.true_and,he.out.2.2.1 (by omega),Bool.true_and,he.out.2.2.2.1 (by omega),Bool.true_and,he.out.2.2.2.2.1 (by omega),Bool.true_and,hh];skip
    clear hh he HV;go_wp2_with fail
    go_ret2
    exact ⟨.pointer none,by rw [HC.out];rfl,HB3,fun h=>absurd (HC.out.symm.trans h) (by decide)⟩
   | true =>
    have HE:Hid ((0<5+1→(Cz x)=true)∧(1<5+1→(Ei x)=true)∧(2<5+1→(Bv x.berths)=true)∧(3<5+1→(Eg x.services)=true)∧(4<5+1→(Br x)=true)∧(5<5+1→(Cs x.berths x.copies)=true)):=⟨fun _=>he.out.1 (by omega),fun _=>he.out.2.1 (by omega),fun _=>he.out.2.2.1 (by omega),fun _=>he.out.2.2.2.1 (by omega),fun _=>he.out.2.2.2.2.1 (by omega),fun _=>hh⟩;clear hh he;go_wp2_with fail;go_roundw
    case rel=>exact ⟨5+1,by omega,by go_num,HE,HF3,HG3,HL3,HB3⟩
    case measure=>simp [intOf]
  ·have HC:Hid (V=true):=by show _=_;rw [HV.out,he.out.1 (by omega),he.out.2.1 (by omega),he.out.2.2.1 (by omega),he.out.2.2.2.1 (by omega),he.out.2.2.2.2.1 (by omega),he.out.2.2.2.2.2 (by omega)];rfl
   clear he HV;go_wp2_with fail
   go_ret2
   exact ⟨.pointer (some ⟨p,0,none⟩),by rw [HC.out];rfl,hb.out,fun _=>⟨p,m1,m2,m3,m4,rfl,HP,HG4,hF.out⟩⟩
theorem El (x:Flt) (a1:OA) (c1:Nat) (a2:OA) (c2:Nat) (a3:OA) (c3:Nat) (lo:Nat) (w:World) (n1:SliceC BrtC 6 lo w a1 x.berths) (n2:SliceC SvcC 2 lo w a2 x.services) (n3:SliceC CpyC 12 lo w a3 x.copies)
  (l1:x.berths.length≤1048576) (l2:x.services.length≤1048576) (l3:x.copies.length≤1048576) :
  Calls Tryz.prog 65 #[.agg (ffA x a1 c1 a2 c2 a3 c3)] w (Rt (.bool (Bj x)) w):=by
 have N1:=iH n1;have N2:=iH n2;have N3:=iH n3;clear n1 n2 n3;go_enter Tryz.func65,Tryz.ntmps65;go_wp2_with fail;refine (Ke x a1 c1 a2 c2 a3 c3 lo _ (N1.out.below BrtC.holds (B:=w.heap.size) (by go_grown) nL) (N2.out.below SvcC.holds (B:=w.heap.size) (by go_grown) nL) (N3.out.below CpyC.holds (B:=w.heap.size) (by go_grown) nL) l1 l2 l3).mono ?_;rintro e w1 ⟨v,rfl,hb1,_⟩;have HB1:Hid (Below w.heap.size w w1):=(show Below w.heap.size w _ by go_grown).trans (hb1.mono (by simp));clear hb1;go_wp2_with fail;go_ret;exact ⟨rfl,HB1⟩
end Go.Proofs.YtihnjndnkgnmaaaGreat
