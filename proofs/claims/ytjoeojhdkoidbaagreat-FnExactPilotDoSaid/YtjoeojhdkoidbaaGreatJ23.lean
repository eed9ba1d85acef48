import Derived.Test.YtjoeojhdkoidbaaGreatJ22
set_option maxHeartbeats 4000000
namespace Go.Proofs.YtjoeojhdkoidbaaGreat
open Tryz
set_option maxRecDepth 100000
open Go.RowKit Tryz
def Dn (bs:List Brt) (s:BA):BA:=if Gh bs s<0 then ⟨#[]⟩ else ((bs[(Gh bs s).toNat]?).map (·.zone)).getD ⟨#[]⟩
theorem aK {a b:BA} (h:a=b):Ending.returned (.string a)=.returned (.string b):=by rw [h]
theorem dW (bs:List Brt) (s:BA):-1≤Gh bs s∧Gh bs s<bs.length:=by
 unfold Gh
 split
 ·rename_i i h
  have:=(List.findIdx?_eq_some_iff_findIdx_eq.1 h).1;omega
 ·omega
theorem Nf (x:Flt) (a1:OA) (c1:Nat) (a2:OA) (c2:Nat) (a3:OA) (c3:Nat) (lo:Nat) (s:BA) (w:World) (n1:SliceC BrtC 6 lo w a1 x.berths) (hl:x.berths.length≤1048576) :
  Calls prog 98 #[.agg (ffA x a1 c1 a2 c2 a3 c3),.string s] w (Rt (.string (Dn x.berths s)) w):=by
 have HI:=iH n1;clear n1;go_enter func98,ntmps98;go_wp2_with fail;have hal:=(Below.refl _ w).alloc nL (Obj.cells (ffA x a1 c1 a2 c2 a3 c3) 36);refine (Ik x a1 c1 a2 c2 a3 c3 lo s _ (HI.out.below BrtC.holds hal nL) hl).mono ?_;rintro e w1 ⟨rfl,hb1⟩;have e1:w1.cell? ⟨w.heap.size,1,none⟩=some (.slice a1 x.berths.length c1):=(hb1.cell (p:=⟨w.heap.size,1,none⟩) (by simp)).trans (by simp);have HB1:=iH (qTr hal hb1);have HZ:Hid (Dn x.berths s=if Gh x.berths s<0 then ⟨#[]⟩ else ((x.berths[(Gh x.berths s).toNat]?).map (·.zone)).getD ⟨#[]⟩):=rfl;have hbd:=dW x.berths s;clear hb1 hal;generalize Gh x.berths s=I at *;by_cases h0:I<0
 ·rw [if_pos h0] at HZ
  go_wp2_with fail;go_ret;exact ⟨aK HZ.out.symm,HB1⟩
 ·rw [if_neg h0] at HZ
  obtain ⟨k,rfl⟩:∃ k:Nat,I=k:=⟨I.toNat,by omega⟩;have hk:k<x.berths.length:=by omega
  obtain ⟨b,hb⟩:=gXe hk;obtain ⟨bb,o,rfl,_,_,hc⟩:=(HI.out.below BrtC.holds HB1 nL).at hb;obtain ⟨a9,c9,q0,q1,_,_,_,_,_,_,_⟩:=hc;have HV:Hid (Dn x.berths s=b.zone):=by show _=_;rw [HZ.out,Int.toNat_natCast,hb];rfl
  clear hb q0 HZ;go_wp2_with fail;go_ret;exact ⟨aK HV.out.symm,HB1⟩
abbrev brN (x:Flt):List BA:=x.berths.map (·.name)
theorem Br {x:Flt} (h:Cf x=true):x.berths.length≤12∧AscN (brN x)∧(∀ (k:Nat) (b:Brt),x.berths[k]?=some b→P.nameOk b.name=true∧P.nameOk b.zone=true∧(0≤b.room∧b.room≤1000)∧Hw b.marks=true)∧∀ (k:Nat) (c:Cpy),x.copies[k]?=some c→(0≤c.room∧c.room≤1000)∧Ew c.likes=true∧(c.at_=⟨#[]⟩∨∃ s,An (brN x) c.at_ x.berths.length=some s):=by
 unfold Cf at h;simp only [Bool.and_eq_true,Dt,Fb,Ch,Bw,Mh,decide_eq_true_eq] at h;obtain ⟨⟨⟨h0,_⟩,_⟩,⟨⟨h1,_⟩,_⟩,h2,_,h3,_⟩:=h;refine ⟨h0,gF _ _ h1,fun k b hb=>?_,fun k c hc=>?_⟩
 ·have h4:=h2 k b hb
  simp only [Gw,Bool.and_eq_true,inR,decide_eq_true_eq] at h4;exact ⟨((Xt _ _).1 h1 k b hb).1,h4.1.1.1,h4.1.1.2,h4.2⟩
 ·have h4:=h3 k c hc
  simp only [Hc,Cm,Bool.and_eq_true,Bool.or_eq_true,inR,decide_eq_true_eq] at h4;obtain ⟨⟨_,h5⟩,h6⟩:=h4;refine ⟨h6.1.1.1.1.1.1.2,h6.1.1.1.2,?_⟩;rcases h5 with h5 | h5
  ·exact Or.inr (Option.isSome_iff_exists.1 h5)
  ·exact Or.inl (Qm.1 h5)
theorem gZ {x:Flt} (hb:∀ (k:Nat) (b:Brt),x.berths[k]?=some b→P.nameOk b.name=true∧P.nameOk b.zone=true∧(0≤b.room∧b.room≤1000)∧Hw b.marks=true):An (brN x) ⟨#[]⟩ x.berths.length=none:=by
 rw [Dh];intro j hj e;obtain ⟨b,h1,h2⟩:=Rp e;exact Kk (hb j b h1).1 h2
theorem iF {x:Flt} (ha:AscN (brN x)) {s:BA} {k:Nat} (h:An (brN x) s x.berths.length=some k):∃ b,x.berths[k]?=some b∧b.name=s∧Dn x.berths s=b.zone:=by
 obtain ⟨hk,hs⟩:=Dk h;obtain ⟨b,h1,h2⟩:=Rp hs;have hi:Gh x.berths s=k:=Yk h1 h2 fun j b' hj hb' he=>by
  have:=ha.inj (Dm (f:=(·.name)) hb') (show _=some b'.name by rw [he];exact hs);omega
 refine ⟨b,h1,h2,?_⟩;unfold Dn;rw [hi,if_neg (by omega),Int.toNat_natCast,h1];rfl
def znF (x:Flt) (ci:Nat) (sv z:BA) (i:Nat):Bool:=match x.copies[i]? with
 | some c=>decide (i≠ci) && decide (c.service=sv) && decide (¬ c.at_=⟨#[]⟩) && decide (Dn x.berths c.at_=z)
 | none=>false
def Bz (x:Flt) (ci:Nat) (nm:BA):Nat→Int
 | 0=>0
 | k+1=>Bz x ci nm k+(match x.copies[k]? with
  | some c=>if c.at_=nm∧k≠ci then c.room else 0
  | none=>0)
theorem mB {x:Flt} {ci k:Nat} {nm:BA} {c:Cpy} (hk:x.copies[k]?=some c) (h1:c.at_=nm) (h2:k≠ci):Bz x ci nm (k+1)=Bz x ci nm k+c.room:=by
 simp only [Bz,hk];rw [if_pos ⟨h1,h2⟩]
theorem Uk {x:Flt} {ci k:Nat} {nm:BA} {c:Cpy} (hk:x.copies[k]?=some c) (h:¬ (c.at_=nm∧k≠ci)):Bz x ci nm (k+1)=Bz x ci nm k:=by
 simp only [Bz,hk];rw [if_neg h];omega
theorem Py {x:Flt} (ci:Nat) (nm:BA) (hc:∀ (k:Nat) (c:Cpy),x.copies[k]?=some c→0≤c.room∧c.room≤1000):∀ k,0≤Bz x ci nm k∧Bz x ci nm k≤1000*k
 | 0=>by simp [Bz]
 | k+1=>by
  have ih:=Py ci nm hc k;simp only [Bz]
  cases h:x.copies[k]? with
  | none=>simp only;omega
  | some c =>
   have h1:=hc k c h;simp only
   split <;> omega
theorem bN {x:Flt} (ci:Nat) (nm:BA) (hc:∀ (k:Nat) (c:Cpy),x.copies[k]?=some c→0≤c.room∧c.room≤1000):∀ k,k≤60→(Ar x.copies nm ci k).2.1=Bz x ci nm k
 | 0,_=>rfl
 | k+1,hk=>by
  have ih:=bN ci nm hc k (by omega);have hb:=Py ci nm hc k;unfold Ar Bz
  cases h:x.copies[k]? with
  | none=>simp only;omega
  | some c =>
   have h1:=hc k c h;simp only;by_cases e:c.at_=nm∧k≠ci
   ·rw [if_pos e,if_pos ⟨e.1,by omega⟩]
    simp only;rw [ih];unfold wrap64;omega
   ·rw [if_neg e,if_neg (fun h=>e ⟨h.1,by omega⟩)]
    omega
theorem Uz {x:Flt} {ci k:Nat} {sv z:BA} {c:Cpy} (hk:x.copies[k]?=some c) (h:¬ (k≠ci∧c.service=sv∧(¬ c.at_=⟨#[]⟩)∧Dn x.berths c.at_=z)):znF x ci sv z k=false:=by
 unfold znF;rw [hk];simp only [Bool.and_eq_false_iff,decide_eq_false_iff_not];by_cases h1:k≠ci
 ·by_cases h2:c.service=sv
  ·by_cases h3:¬ c.at_=⟨#[]⟩
   ·exact Or.inr (fun h4=>h ⟨h1,h2,h3,h4⟩)
   ·exact Or.inl (Or.inr h3)
  ·exact Or.inl (Or.inl (Or.inr h2))
 ·exact Or.inl (Or.inl (Or.inl h1))
theorem qF {x:Flt} {ci k:Nat} {sv z:BA} {c:Cpy} (hk:x.copies[k]?=some c) (h1:k≠ci) (h2:c.service=sv) (h3:¬ c.at_=⟨#[]⟩) (h4:Dn x.berths c.at_=z):znF x ci sv z k=true:=by
 unfold znF;rw [hk];simp only [Bool.and_eq_true,decide_eq_true_eq];exact ⟨⟨⟨h1,h2⟩,h3⟩,h4⟩
theorem Vv {bs:List Brt} (h:AscN (bs.map (·.name))) {s:BA} {k:Nat} (e:An (bs.map (·.name)) s bs.length=some k):Gh bs s=k∧∃ c,bs[k]?=some c∧c.name=s:=by
 obtain ⟨hk,hs⟩:=Dk e;obtain ⟨c,hc,hn⟩:=Rp hs;refine ⟨Yk hc hn fun j b hj hb he=>?_,c,hc,hn⟩;have:=h.inj (Dm (f:=(·.name)) hb) (show _=some b.name by rw [he];exact hs);omega
theorem rF {bs:List Brt} {s:BA} (e:An (bs.map (·.name)) s bs.length=none):Gh bs s=-1 :=
 Vu fun j b hj hb he=>(Dh _ s _).1 e j hj (by rw [Dm hb,he])
theorem Tm {s:BA} (h:P.nameOk s=true):s.size≤1000:=by
 unfold P.nameOk at h;simp only [Bool.and_eq_true,decide_eq_true_eq] at h;omega
theorem Vy {ms:List BA} (h:Hw ms=true):ms.length≤1000:=by
 unfold Hw at h;simp only [Bool.and_eq_true,decide_eq_true_eq] at h;omega
def Ig (x:Flt) (cn bn:BA):Option (Nat×Nat):=if Cf x=true then (match An (cpN x) cn x.copies.length,An (brN x) bn x.berths.length with
 | some ci,some bi=>some (ci,bi)
 | _,_=>none) else none
theorem aS {x:Flt} {cn bn:BA} (h:Cf x=false):Ig x cn bn=none:=by
 unfold Ig;rw [if_neg (by rw [h];decide)]
theorem aY {x:Flt} {cn bn:BA} (h:An (cpN x) cn x.copies.length=none):Ig x cn bn=none:=by
 unfold Ig;rw [h]
 split <;> rfl
theorem cD {x:Flt} {cn bn:BA} (h:An (brN x) bn x.berths.length=none):Ig x cn bn=none:=by
 unfold Ig;rw [h]
 split
 ·split
  ·rename_i h1 h2
   cases h2
  ·rfl
 ·rfl
theorem aP {x:Flt} {cn bn:BA} {ci bi:Nat} (hv:Cf x=true) (h1:An (cpN x) cn x.copies.length=some ci) (h2:An (brN x) bn x.berths.length=some bi):Ig x cn bn=some (ci,bi):=by
 unfold Ig;rw [if_pos hv,h1,h2]
def Mw (one:Bool) (nm vl:BA) (m:BA):Bool:=Eg m && (decide (Ax m=nm) && (one || decide (Fj m=vl)))
def Ep (ms:List BA) (one:Bool) (nm vl:BA):Nat→Bool
 | 0=>false
 | k+1=>Ep ms one nm vl k || (match ms[k]? with | some m=>Mw one nm vl m | none=>false)
def aC (ms:List BA) (one:Bool) (nm vl:BA):Bool:=Ep ms one nm vl ms.length
def Cd (ms:List BA):P.Tr→Bool
 | .nil=>true
 | .node b _ p l r =>
  if b=0 then true
  else if b=1 then aC ms true p.1 ⟨#[]⟩
  else if b=2 then aC ms false p.1 p.2
  else if b=3 then !Cd ms l
  else if b=4 then Cd ms l && Cd ms r
  else Cd ms l || Cd ms r
theorem Nc {ms:List BA} {one:Bool} {nm vl:BA} {k:Nat} (h:Ep ms one nm vl k=true):∀ n,k≤n→Ep ms one nm vl n=true
 | 0,hn=>(by have:k=0:=(by omega);subst this;exact h)
 | n+1,hn=>by
  by_cases e:k=n+1
  ·subst e;exact h
  ·rw [Ep,Nc h n (by omega)];rfl
theorem Tb {ms:List BA} {one:Bool} {nm vl:BA} {k:Nat} {m:BA} (hm:ms[k]?=some m):Ep ms one nm vl (k+1)=(Ep ms one nm vl k || Mw one nm vl m):=by
 rw [Ep,hm]
def Fz (ns:List P.Nd) (out:List (List Nat)) (n cn co go g:Nat) (ms:List BA) (am:OA) (cm:Nat) (k:Nat) (t:P.Tr):Prop :=
 ∀ (w:World),Nodes0 w g ns→KidsIn w go out→SliceC StrC 1 0 w am ms →
  Calls prog 122 #[.agg #[.slice (some ⟨g,0,none⟩) ns.length cn],.slice (some ⟨go,0,none⟩) n co,.int .i64 (k:Int),.slice am ms.length cm] w fun e w'=>e=.returned (.bool (Cd ms t))∧Below w.heap.size w w'
theorem Zx (ns:List P.Nd) (out:List (List Nat)) (n cn co go g:Nat) (ms:List BA) (am:OA) (cm:Nat) (k:Nat) (nd:P.Nd) (hnd:ns[k]?=some nd) (hk:nd.kind=0):Fz ns out n cn co go g ms am cm k P.nonT:=by
 intro w hN hK hM;have hkl:=P.getElem?_lt hnd;have hlt:=hN.1;have hml:ms.length≤maxLen:=hM.1;unfold maxLen at hml;have hNN:=iH hN;have hKK:=iH hK;have hMM:=iH hM;have q0:∀ o1,(w.alloc o1).cell? ⟨g,k*4,none⟩=some (.int .i64 0):=fun o1=>((En ((Below.refl w.heap.size w).alloc nL o1)).1 _ _ hlt).trans (by rw [← hk];exact (hN.2 k nd hnd).1)
 have q1:∀ o1,(w.alloc o1).cell? ⟨g,k*4+1,none⟩=some (.string nd.name):=fun o1=>((En ((Below.refl w.heap.size w).alloc nL o1)).1 _ _ hlt).trans (hN.2 k nd hnd).2.1
 have q2:∀ o1,(w.alloc o1).cell? ⟨g,k*4+2,none⟩=some (.string nd.value):=fun o1=>((En ((Below.refl w.heap.size w).alloc nL o1)).1 _ _ hlt).trans (hN.2 k nd hnd).2.2.1
 have q3:∀ o1,(w.alloc o1).cell? ⟨g,k*4+3,none⟩=some (.int .i64 nd.kids):=fun o1=>((En ((Below.refl w.heap.size w).alloc nL o1)).1 _ _ hlt).trans (hN.2 k nd hnd).2.2.2
 show Calls _ _ _ _ fun e w'=>e=.returned (.bool true)∧_
 clear hN hK hnd hk hM;go_enter func122,ntmps122;go_wp2_with fail;go_ret;exact ⟨rfl,by go_grown⟩
theorem eA (ns:List P.Nd) (out:List (List Nat)) (n cn co go g:Nat) (ms:List BA) (am:OA) (cm:Nat) (k:Nat) (nd:P.Nd) (hnd:ns[k]?=some nd) (hk:nd.kind=1):Fz ns out n cn co go g ms am cm k (P.nmT nd.name):=by
 intro w hN hK hM;have hkl:=P.getElem?_lt hnd;have hlt:=hN.1;have hml:ms.length≤maxLen:=hM.1;unfold maxLen at hml;have hNN:=iH hN;have hKK:=iH hK;have hMM:=iH hM;have q0:∀ o1,(w.alloc o1).cell? ⟨g,k*4,none⟩=some (.int .i64 1):=fun o1=>((En ((Below.refl w.heap.size w).alloc nL o1)).1 _ _ hlt).trans (by rw [← hk];exact (hN.2 k nd hnd).1)
 have q1:∀ o1,(w.alloc o1).cell? ⟨g,k*4+1,none⟩=some (.string nd.name):=fun o1=>((En ((Below.refl w.heap.size w).alloc nL o1)).1 _ _ hlt).trans (hN.2 k nd hnd).2.1
 have q2:∀ o1,(w.alloc o1).cell? ⟨g,k*4+2,none⟩=some (.string nd.value):=fun o1=>((En ((Below.refl w.heap.size w).alloc nL o1)).1 _ _ hlt).trans (hN.2 k nd hnd).2.2.1
 have q3:∀ o1,(w.alloc o1).cell? ⟨g,k*4+3,none⟩=some (.int .i64 nd.kids):=fun o1=>((En ((Below.refl w.heap.size w).alloc nL o1)).1 _ _ hlt).trans (hN.2 k nd hnd).2.2.2
 show Calls _ _ _ _ fun e w'=>e=.returned (.bool (aC ms true nd.name ⟨#[]⟩))∧_
 clear hN hK hnd hk hM;go_enter func122,ntmps122;go_wp2_with fail;have HB0:Hid (Below w.heap.size w ((w.alloc (Obj.cells #[.slice (some ⟨g,0,none⟩) ns.length cn] 147)).alloc (Obj.cells #[.int .i64 1,.string nd.name,.string nd.value,.int .i64 nd.kids] 183))):=((Below.refl w.heap.size w).alloc nL _).alloc (by simp) _;have HM0:=iH (hMM.out.below StrC.holds HB0 nL);have hz0:((w.alloc (Obj.cells #[.slice (some ⟨g,0,none⟩) ns.length cn] 147)).alloc (Obj.cells #[.int .i64 1,.string nd.name,.string nd.value,.int .i64 nd.kids] 183)).heap.size=w.heap.size+2:=by simp
 have c0:Hid (((w.alloc (Obj.cells #[.slice (some ⟨g,0,none⟩) ns.length cn] 147)).alloc (Obj.cells #[.int .i64 1,.string nd.name,.string nd.value,.int .i64 nd.kids] 183)).cell? ⟨w.heap.size+1,0,none⟩=some (.int .i64 1)):=by show _=_;simp
 have c1:Hid (((w.alloc (Obj.cells #[.slice (some ⟨g,0,none⟩) ns.length cn] 147)).alloc (Obj.cells #[.int .i64 1,.string nd.name,.string nd.value,.int .i64 nd.kids] 183)).cell? ⟨w.heap.size+1,1,none⟩=some (.string nd.name)):=by show _=_;simp
 have c2:Hid (((w.alloc (Obj.cells #[.slice (some ⟨g,0,none⟩) ns.length cn] 147)).alloc (Obj.cells #[.int .i64 1,.string nd.name,.string nd.value,.int .i64 nd.kids] 183)).cell? ⟨w.heap.size+1,2,none⟩=some (.string nd.value)):=by show _=_;simp
 clear q0 q1 q2 q3 hNN hKK hMM;generalize ((w.alloc (Obj.cells #[.slice (some ⟨g,0,none⟩) ns.length cn] 147)).alloc (Obj.cells #[.int .i64 1,.string nd.name,.string nd.value,.int .i64 nd.kids] 183))=w0 at *;go_loopw [10] (fun i wr=>∃ j:Nat,j≤ms.length∧i=.int .i64 j∧Hid (Ep ms true nd.name ⟨#[]⟩ j=false)∧Hid (Below w0.heap.size w0 wr)) (fun i _=>ms.length - (intOf i).toNat)
 case atStart=>exact ⟨0,zL,rfl,rfl,Below.refl _ _⟩
 case round =>
  obtain ⟨j,hj,rfl,hno,hbel⟩:=hrel;by_cases hlt2:j<ms.length
  ·obtain ⟨m,hm⟩:=gXe hlt2
   obtain ⟨b,o,rfl,_,_,hc⟩:=(HM0.out.below StrC.holds hbel.out nL).at hm;obtain ⟨q0,z0⟩:=hc;simp only [Nat.mul_one,Nat.add_zero] at q0;have HX:=iH hm;have HZ:=iH z0;clear hm z0;go_wp2_with fail;refine (Mi m _ HZ).mono ?_;rintro e w1 ⟨rfl,hb1⟩;have HB1:=qTH hbel hb1;have d0:w1.cell? ⟨w.heap.size+1,0,none⟩=some (.int .i64 1):=(HB1.out.cell (p:=⟨w.heap.size+1,0,none⟩) (by rw [hz0];exact Nat.lt_succ_self _)).trans c0.out;have d1:w1.cell? ⟨w.heap.size+1,1,none⟩=some (.string nd.name):=(HB1.out.cell (p:=⟨w.heap.size+1,1,none⟩) (by rw [hz0];exact Nat.lt_succ_self _)).trans c1.out;have d2:w1.cell? ⟨w.heap.size+1,2,none⟩=some (.string nd.value):=(HB1.out.cell (p:=⟨w.heap.size+1,2,none⟩) (by rw [hz0];exact Nat.lt_succ_self _)).trans c2.out;have HST:Hid (Ep ms true nd.name ⟨#[]⟩ (j+1)=(Ep ms true nd.name ⟨#[]⟩ j || Mw true nd.name ⟨#[]⟩ m)):=Tb HX;clear hb1 hbel q0
   cases hmk:Eg m with
   | false =>
    have HN:Hid (Ep ms true nd.name ⟨#[]⟩ (j+1)=false):=by show _=_;rw [HST.out,hno.out,Mw,hmk];rfl
    clear hmk HST hno;go_wp2_with fail;go_roundw
    case rel=>exact ⟨j+1,by omega,by go_num,HN,HB1⟩
    case measure=>simp [intOf];omega
   | true =>
    have HH:Hid (Mw true nd.name ⟨#[]⟩ m=(decide (Ax m=nd.name) && (true || decide (Fj m=⟨#[]⟩)))):=by show _=_;rw [Mw,hmk];rfl
    clear hmk;generalize Ax m=nm at *;generalize Fj m=vm at *;by_cases hne:nm=nd.name
    ·have hte:=Bo hne
     have HT:Hid (true=aC ms true nd.name ⟨#[]⟩):=by
      refine Eq.symm (Nc (k:=j+1) ?_ _ (by omega));rw [HST.out,HH.out,decide_eq_true hne];cases Ep ms true nd.name ⟨#[]⟩ j <;> rfl
     clear HST hno HH hne;go_wp2_with fail;go_ret;exact ⟨Ac HT,HB0.out.trans (HB1.out.mono HB0.out.size)⟩
    ·have hte:=Bt hne
     have HN:Hid (Ep ms true nd.name ⟨#[]⟩ (j+1)=false):=by show _=_;rw [HST.out,hno.out,HH.out,decide_eq_false hne];rfl
     clear HST hno HH hne;go_wp2_with fail;go_roundw
     case rel=>exact ⟨j+1,by omega,by go_num,HN,HB1⟩
     case measure=>simp [intOf];omega
  ·have hke:j=ms.length:=by omega
   subst hke;have HF:Hid (false=aC ms true nd.name ⟨#[]⟩):=hno.out.symm;clear hno;go_wp2_with fail;go_ret;exact ⟨Ac HF,HB0.out.trans (hbel.out.mono HB0.out.size)⟩
theorem eF (ns:List P.Nd) (out:List (List Nat)) (n cn co go g:Nat) (ms:List BA) (am:OA) (cm:Nat) (k:Nat) (nd:P.Nd) (hnd:ns[k]?=some nd) (hk:nd.kind=2):Fz ns out n cn co go g ms am cm k (P.vlT nd.name nd.value):=by
 intro w hN hK hM;have hkl:=P.getElem?_lt hnd;have hlt:=hN.1;have hml:ms.length≤maxLen:=hM.1;unfold maxLen at hml;have hNN:=iH hN;have hKK:=iH hK;have hMM:=iH hM;have q0:∀ o1,(w.alloc o1).cell? ⟨g,k*4,none⟩=some (.int .i64 2):=fun o1=>((En ((Below.refl w.heap.size w).alloc nL o1)).1 _ _ hlt).trans (by rw [← hk];exact (hN.2 k nd hnd).1)
 have q1:∀ o1,(w.alloc o1).cell? ⟨g,k*4+1,none⟩=some (.string nd.name):=fun o1=>((En ((Below.refl w.heap.size w).alloc nL o1)).1 _ _ hlt).trans (hN.2 k nd hnd).2.1
 have q2:∀ o1,(w.alloc o1).cell? ⟨g,k*4+2,none⟩=some (.string nd.value):=fun o1=>((En ((Below.refl w.heap.size w).alloc nL o1)).1 _ _ hlt).trans (hN.2 k nd hnd).2.2.1
 have q3:∀ o1,(w.alloc o1).cell? ⟨g,k*4+3,none⟩=some (.int .i64 nd.kids):=fun o1=>((En ((Below.refl w.heap.size w).alloc nL o1)).1 _ _ hlt).trans (hN.2 k nd hnd).2.2.2
 show Calls _ _ _ _ fun e w'=>e=.returned (.bool (aC ms false nd.name nd.value))∧_
 clear hN hK hnd hk hM;go_enter func122,ntmps122;go_wp2_with fail;have HB0:Hid (Below w.heap.size w ((w.alloc (Obj.cells #[.slice (some ⟨g,0,none⟩) ns.length cn] 147)).alloc (Obj.cells #[.int .i64 2,.string nd.name,.string nd.value,.int .i64 nd.kids] 183))):=((Below.refl w.heap.size w).alloc nL _).alloc (by simp) _;have HM0:=iH (hMM.out.below StrC.holds HB0 nL);have hz0:((w.alloc (Obj.cells #[.slice (some ⟨g,0,none⟩) ns.length cn] 147)).alloc (Obj.cells #[.int .i64 2,.string nd.name,.string nd.value,.int .i64 nd.kids] 183)).heap.size=w.heap.size+2:=by simp
 have c0:Hid (((w.alloc (Obj.cells #[.slice (some ⟨g,0,none⟩) ns.length cn] 147)).alloc (Obj.cells #[.int .i64 2,.string nd.name,.string nd.value,.int .i64 nd.kids] 183)).cell? ⟨w.heap.size+1,0,none⟩=some (.int .i64 2)):=by show _=_;simp
 have c1:Hid (((w.alloc (Obj.cells #[.slice (some ⟨g,0,none⟩) ns.length cn] 147)).alloc (Obj.cells #[.int .i64 2,.string nd.name,.string nd.value,.int .i64 nd.kids] 183)).cell? ⟨w.heap.size+1,1,none⟩=some (.string nd.name)):=by show _=_;simp
 have c2:Hid (((w.alloc (Obj.cells #[.slice (some ⟨g,0,none⟩) ns.length cn] 147)).alloc (Obj.cells #[.int .i64 2,.string nd.name,.string nd.value,.int .i64 nd.kids] 183)).cell? ⟨w.heap.size+1,2,none⟩=some (.string nd.value)):=by show _=_;simp
 clear q0 q1 q2 q3 hNN hKK hMM;generalize ((w.alloc (Obj.cells #[.slice (some ⟨g,0,none⟩) ns.length cn] 147)).alloc (Obj.cells #[.int .i64 2,.string nd.name,.string nd.value,.int .i64 nd.kids] 183))=w0 at *;go_loopw [10] (fun i wr=>∃ j:Nat,j≤ms.length∧i=.int .i64 j∧Hid (Ep ms false nd.name nd.value j=false)∧Hid (Below w0.heap.size w0 wr)) (fun i _=>ms.length - (intOf i).toNat)
 case atStart=>exact ⟨0,zL,rfl,rfl,Below.refl _ _⟩
 case round =>
  obtain ⟨j,hj,rfl,hno,hbel⟩:=hrel;by_cases hlt2:j<ms.length
  ·obtain ⟨m,hm⟩:=gXe hlt2
   obtain ⟨b,o,rfl,_,_,hc⟩:=(HM0.out.below StrC.holds hbel.out nL).at hm;obtain ⟨q0,z0⟩:=hc;simp only [Nat.mul_one,Nat.add_zero] at q0;have HX:=iH hm;have HZ:=iH z0;clear hm z0;go_wp2_with fail;refine (Mi m _ HZ).mono ?_;rintro e w1 ⟨rfl,hb1⟩;have HB1:=qTH hbel hb1;have d0:w1.cell? ⟨w.heap.size+1,0,none⟩=some (.int .i64 2):=(HB1.out.cell (p:=⟨w.heap.size+1,0,none⟩) (by rw [hz0];exact Nat.lt_succ_self _)).trans c0.out;have d1:w1.cell? ⟨w.heap.size+1,1,none⟩=some (.string nd.name):=(HB1.out.cell (p:=⟨w.heap.size+1,1,none⟩) (by rw [hz0];exact Nat.lt_succ_self _)).trans c1.out;have d2:w1.cell? ⟨w.heap.size+1,2,none⟩=some (.string nd.value):=(HB1.out.cell (p:=⟨w.heap.size+1,2,none⟩) (by rw [hz0];exact Nat.lt_succ_self _)).trans c2.out;have HST:Hid (Ep ms false nd.name nd.value (j+1)=(Ep ms false nd.name nd.value j || Mw false nd.name nd.value m)):=Tb HX;clear hb1 hbel q0
   cases hmk:Eg m with
   | false =>
    have HN:Hid (Ep ms false nd.name nd.value (j+1)=false):=by show _=_;rw [HST.out,hno.out,Mw,hmk];rfl
    clear hmk HST hno;go_wp2_with fail;go_roundw
    case rel=>exact ⟨j+1,by omega,by go_num,HN,HB1⟩
    case measure=>simp [intOf];omega
   | true =>
    have HH:Hid (Mw false nd.name nd.value m=(decide (Ax m=nd.name) && (false || decide (Fj m=nd.value)))):=by show _=_;rw [Mw,hmk];rfl
    clear hmk;generalize Ax m=nm at *;generalize Fj m=vm at *;by_cases hne:nm=nd.name
    ·have hte:=Bo hne
     by_cases hv:vm=nd.value
     ·have htv:=Bo hv
      have HT:Hid (true=aC ms false nd.name nd.value):=by
       refine Eq.symm (Nc (k:=j+1) ?_ _ (by omega));rw [HST.out,HH.out,decide_eq_true hne,decide_eq_true hv];cases Ep ms false nd.name nd.value j <;> rfl
      clear HST hno HH hne hv;go_wp2_with fail;go_ret;exact ⟨Ac HT,HB0.out.trans (HB1.out.mono HB0.out.size)⟩
     ·have htv:=Bt hv
      have HN:Hid (Ep ms false nd.name nd.value (j+1)=false):=by show _=_;rw [HST.out,hno.out,HH.out,decide_eq_false hv,decide_eq_true hne];rfl
      clear HST hno HH hne hv;go_wp2_with fail;go_roundw
      case rel=>exact ⟨j+1,by omega,by go_num,HN,HB1⟩
      case measure=>simp [intOf];omega
    ·have hte:=Bt hne
     have HN:Hid (Ep ms false nd.name nd.value (j+1)=false):=by show _=_;rw [HST.out,hno.out,HH.out,decide_eq_false hne];rfl
     clear HST hno HH hne;go_wp2_with fail;go_roundw
     case rel=>exact ⟨j+1,by omega,by go_num,HN,HB1⟩
     case measure=>simp [intOf];omega
  ·have hke:j=ms.length:=by omega
   subst hke;have HF:Hid (false=aC ms false nd.name nd.value):=hno.out.symm;clear hno;go_wp2_with fail;go_ret;exact ⟨Ac HF,HB0.out.trans (hbel.out.mono HB0.out.size)⟩
end Go.Proofs.YtjoeojhdkoidbaaGreat
