import Derived.Test.YtpeajnkkdioflaaGreatVa3
import Derived.Test.YtpeajnkkdioflaaGreatJ15
set_option maxHeartbeats 2000000
set_option maxRecDepth 100000
namespace Go.Proofs.YtpeajnkkdioflaaGreat
open Go.RowKit
def FndIn (p:Nat) (x:Flt) (a1:Option Addr) (c1:Nat) (a2:Option Addr) (c2:Nat) (a3:Option Addr) (c3:Nat) (w:World):Prop :=
 w.cell? ⟨p,1,none⟩=some (.slice a1 x.berths.length c1)∧w.cell? ⟨p,2,none⟩=some (.slice a2 x.services.length c2)∧w.cell? ⟨p,3,none⟩=some (.slice a3 x.copies.length c3)
theorem FndIn.below {p:Nat} {x:Flt} {a1:Option Addr} {c1:Nat} {a2:Option Addr} {c2:Nat} {a3:Option Addr} {c3:Nat} {w w':World} {B:Nat} (h:FndIn p x a1 c1 a2 c2 a3 c3 w) (hb:Below B w w') (hB:p<B):FndIn p x a1 c1 a2 c2 a3 c3 w' :=
 ⟨(hb.cell (p:=⟨p,1,none⟩) hB).trans h.1,(hb.cell (p:=⟨p,2,none⟩) hB).trans h.2.1,(hb.cell (p:=⟨p,3,none⟩) hB).trans h.2.2⟩
def Cq (x:Flt):Bool:=decide (x.berths.length≤12) && decide (x.services.length≤30) && decide (x.copies.length≤60)
theorem jG (p:Nat) (x:Flt) (a1:Option Addr) (c1:Nat) (a2:Option Addr) (c2:Nat) (a3:Option Addr) (c3:Nat) (w:World) (hp:FndIn p x a1 c1 a2 c2 a3 c3 w) :
  Calls Tryz.prog 104 #[.pointer (some ⟨p,0,none⟩)] w fun e w'=>e=.returned (.bool (Cq x))∧Below w.heap.size w w':=by
 obtain ⟨p1,p2,p3⟩:=hp;by_cases h1:x.berths.length≤12
 ·by_cases h2:x.services.length≤30
  ·by_cases h3:x.copies.length≤60
   ·have HC:Hid (Cq x=true):=by show _=_;simp [Cq,h1,h2,h3]
    go_enter Tryz.func104,Tryz.ntmps104;go_wp2_with fail;go_ret;exact ⟨Ae (by rw [HC.out];exact decide_eq_true (by omega)),by go_grown⟩
   ·have HC:Hid (Cq x=false):=by show _=_;simp [Cq,h3]
    go_enter Tryz.func104,Tryz.ntmps104;go_wp2_with fail;go_ret;exact ⟨Ae (by rw [HC.out];exact decide_eq_false (by omega)),by go_grown⟩
  ·have HC:Hid (Cq x=false):=by show _=_;simp [Cq,h2]
   go_enter Tryz.func104,Tryz.ntmps104;go_wp2_with fail;go_ret;exact ⟨Ae HC.out.symm,by go_grown⟩
 ·have HC:Hid (Cq x=false):=by show _=_;simp [Cq,h1]
  go_enter Tryz.func104,Tryz.ntmps104;go_wp2_with fail;go_ret;exact ⟨Ae HC.out.symm,by go_grown⟩
def Dt (x:Flt):Bool:=Bt (x.berths.map (·.name)) x.berths.length && Bt (x.services.map (·.name)) x.services.length && Bt (x.copies.map (·.name)) x.copies.length
theorem iG (p:Nat) (x:Flt) (a1:Option Addr) (c1:Nat) (a2:Option Addr) (c2:Nat) (a3:Option Addr) (c3:Nat) (lo:Nat) (w:World) (hp:FndIn p x a1 c1 a2 c2 a3 c3 w) (n1:SliceC BrtC 6 lo w a1 x.berths) (n2:SliceC SvcC 2 lo w a2 x.services) (n3:SliceC CpyC 12 lo w a3 x.copies)
  (l1:x.berths.length≤1048576) (l2:x.services.length≤1048576) (l3:x.copies.length≤1048576) :
  Calls Tryz.prog 105 #[.pointer (some ⟨p,0,none⟩)] w fun e w'=>e=.returned (.bool (Dt x))∧Below w.heap.size w w':=by
 have N1:Hid (SliceC BrtC 6 lo w a1 x.berths):=n1;have N2:Hid (SliceC SvcC 2 lo w a2 x.services):=n2;have N3:Hid (SliceC CpyC 12 lo w a3 x.copies):=n3;have HP:Hid (FndIn p x a1 c1 a2 c2 a3 c3 w):=hp;have hpl:p<w.heap.size:=block_lt_of_cell hp.1;obtain ⟨p1,_,_⟩:=hp;clear n1 n2 n3;go_enter Tryz.func105,Tryz.ntmps105;go_wp2_with fail;refine (Yx x.berths a1 c1 lo _ N1.out l1).mono ?_;rintro e w1 ⟨rfl,hb1⟩;have HP1:Hid (FndIn p x a1 c1 a2 c2 a3 c3 w1):=HP.out.below hb1 hpl;have HB1:Hid (Below w.heap.size w w1):=hb1;clear hb1 p1;cases h1:Bt (x.berths.map (·.name)) x.berths.length
 ·have HC:Hid (Dt x=false):=by show _=_;simp only [Dt,h1,Bool.false_and]
  clear h1;go_wp2_with fail;go_ret;exact ⟨Ae HC.out.symm,HB1.out⟩
 have H1:Hid (Bt (x.berths.map (·.name)) x.berths.length=true):=h1;clear h1;obtain ⟨_,p2,_⟩:=HP1.out;go_wp2_with fail;refine (Yh x.services a2 c2 lo _ (N2.out.below SvcC.holds HB1.out nL) l2).mono ?_;rintro e w2 ⟨rfl,hb2⟩;have HP2:Hid (FndIn p x a1 c1 a2 c2 a3 c3 w2):=HP1.out.below hb2 (Nat.lt_of_lt_of_le hpl HB1.out.size);have HB2:Hid (Below w.heap.size w w2):=HB1.out.trans (hb2.mono HB1.out.size);clear hb2 p2;cases h2:Bt (x.services.map (·.name)) x.services.length
 ·have HC:Hid (Dt x=false):=by show _=_;simp only [Dt,h2,Bool.false_and,Bool.and_false]
  clear h2;go_wp2_with fail;go_ret;exact ⟨Ae HC.out.symm,HB2.out⟩
 have H2:Hid (Bt (x.services.map (·.name)) x.services.length=true):=h2;clear h2;obtain ⟨_,_,p3⟩:=HP2.out;go_wp2_with fail;refine (Xb x.copies a3 c3 lo _ (N3.out.below CpyC.holds HB2.out nL) l3).mono ?_;rintro e w3 ⟨rfl,hb3⟩;have HB3:Hid (Below w.heap.size w w3):=HB2.out.trans (hb3.mono HB2.out.size);have HC:Hid (Dt x=Bt (x.copies.map (·.name)) x.copies.length):=by show _=_;simp only [Dt,H1.out,H2.out,Bool.true_and]
 clear hb3 p3;go_wp2_with fail;go_ret;exact ⟨Ae HC.out.symm,HB3.out⟩
def Dq (xs:List Svc):Bool:=xs.all fun s=>inR s.spare 0 60
theorem eS (p:Nat) (xs:List Svc) (a:Option Addr) (cap lo:Nat) (w:World) (hp:w.cell? ⟨p,2,none⟩=some (.slice a xs.length cap)) (hin:SliceC SvcC 2 lo w a xs) :
  Calls Tryz.prog 107 #[.pointer (some ⟨p,0,none⟩)] w fun e w'=>e=.returned (.bool (Dq xs))∧Below w.heap.size w w':=by
 have hlen:=hin.1;unfold maxLen at hlen;have HI:Hid (SliceC SvcC 2 lo w a xs):=hin;clear hin;go_enter Tryz.func107,Tryz.ntmps107;go_wp2_with fail;go_loopw [11] (fun i wr=>∃ k:Nat,k≤xs.length∧i=.int .i64 k∧Hid (∀ j x,j<k→xs[j]?=some x→inR x.spare 0 60=true)∧Below w.heap.size w wr) (fun i _=>xs.length - (intOf i).toNat)
 case atStart=>exact ⟨0,Nat.zero_le _,rfl,fun j x h=>absurd h (Nat.not_lt_zero _),by go_grown⟩
 case round =>
  obtain ⟨k,hk,rfl,ho,hbel⟩:=hrel;by_cases hlt:k<xs.length
  ·obtain ⟨x,hx⟩:∃ x,xs[k]?=some x:=⟨xs[k],List.getElem?_eq_getElem hlt⟩
   obtain ⟨b,o,rfl,_,_,hc⟩:=(HI.out.below SvcC.holds hbel nL).at hx;obtain ⟨q0,q1,_⟩:=hc;simp only [Nat.add_zero] at q0 q1;have HX:Hid (xs[k]?=some x):=hx;have HB:Hid (Below w.heap.size w wr):=hbel;have HSZ:Hid (w.heap.size≤wr.heap.size):=hbel.size;clear hx hbel;go_wp2_with fail;refine (Ha _ _ _ _).mono ?_;rintro e w6 ⟨rfl,hb6⟩;have HB6:Hid (Below w.heap.size w w6):=(HB.out.alloc HSZ.out _).trans (hb6.mono (HB.out.alloc HSZ.out _).size);clear hb6 HB HSZ q0 q1;cases hi:inR x.spare 0 60
   ·have HC:Hid (Dq xs=false):=by
     show _=_
     exact List.all_eq_false.mpr ⟨x,List.mem_of_getElem? HX.out,by simp [hi]⟩
    clear hi;go_wp2_with fail;go_ret;exact ⟨Ae HC.out.symm,HB6.out⟩
   ·have HO:Hid (∀ j y,j<k+1→xs[j]?=some y→inR y.spare 0 60=true):=by
     intro j y hj hy;by_cases e:j=k
     ·subst e
      rw [HX.out] at hy;cases hy
      exact hi
     ·exact ho.out j y (by omega) hy
    clear hi ho;go_wp2_with fail;go_roundw
    case rel=>exact ⟨k+1,by omega,by go_num,HO,HB6.out⟩
    case measure=>simp [intOf];omega
  ·have hke:k=xs.length:=by omega
   subst hke;have HC:Hid (Dq xs=true):=by
    show _=_
    simp only [Dq,List.all_eq_true];intro x hx;obtain ⟨j,hj,e⟩:=List.mem_iff_getElem.mp hx;exact ho.out j x hj (by rw [List.getElem?_eq_getElem hj,e])
   clear ho;go_wp2_with fail;go_ret;exact ⟨Ae HC.out.symm,hbel⟩
end Go.Proofs.YtpeajnkkdioflaaGreat
namespace Go.Proofs.YtpeajnkkdioflaaGreat
open Go.RowKit Go.WideMaps Go.Maps
def Kd (ms:List ByteArray):Nat→Bool
 | 0=>match ms[0]? with
  | none=>true
  | some m=>Db m && decide (Ct (Ax m) (Cg ms ms.length)≤1)
 | j+1=>match ms[j+1]?,ms[j]? with
  | some m,some t=>Db m && Op.bytesLess t.toList m.toList && decide (Ct (Ax m) (Cg ms ms.length)≤1)
  | _,_=>true
def Kb (ms:List ByteArray):Nat→Bool
 | 0=>true
 | k+1=>Kb ms k && Kd ms k
def Gx (ms:List ByteArray):Bool:=decide (ms.length≤10) && Kb ms ms.length
theorem Pb {ms:List ByteArray} {k:Nat} (h:Kd ms k=false):∀ n,k<n→Kb ms n=false
 | 0,hn=>absurd hn (Nat.not_lt_zero _)
 | n+1,hn=>by
  by_cases e:k=n
  ·subst e;simp only [Kb,h,Bool.and_false]
  ·simp only [Kb,Pb h n (by omega),Bool.false_and]
theorem Qz {ms:List ByteArray} {k:Nat} (h:Kb ms k=true) (h':Kd ms k=true):Kb ms (k+1)=true:=by
 simp only [Kb,h,h',Bool.and_self]
theorem Wt {ms:List ByteArray} {k:Nat} (h:Kd ms k=false) (hk:k<ms.length):Gx ms=false:=by
 simp only [Gx,Pb h _ hk,Bool.and_false]
theorem Wc (ms:List ByteArray) (a:Option Addr) (cap lo:Nat) (w:World) (hin:SliceC StrC 1 lo w a ms) :
  Calls Tryz.prog 124 #[.slice a ms.length cap] w fun e w'=>e=.returned (.bool (Gx ms))∧Below w.heap.size w w':=by
 have hlen:=hin.1;unfold maxLen at hlen;have HI:Hid (SliceC StrC 1 lo w a ms):=hin;clear hin;by_cases h10:ms.length≤10
 ·have HM:Hid (Gx ms=Kb ms ms.length):=by show _=_;simp [Gx,h10]
  have HF:Hid (∀ k,Kd ms k=false→k<ms.length→Gx ms=false):=fun k h hk=>Wt h hk
  go_enter Tryz.func124,Tryz.ntmps124;go_wp2_with fail;refine (Vp ms a cap lo _ HI.out (by omega)).mono ?_;rintro e w1 ⟨mb,n,rfl,ho1,hb1⟩;have HO1:Hid (w1.ownsMap Tryz.prog 9 (plainElem Tryz.prog 3) mb n (Fj (Cg ms ms.length))):=ho1;have HB1:Hid (Below w.heap.size w w1):=hb1;clear ho1 hb1;have HCN:Hid (∀ t,(Fj (Cg ms ms.length)).atKey (kOf t) (.lit (.int .i64 0))=.lit (.int .i64 ((Ct t (Cg ms ms.length):Nat):Int))):=fun t=>Ns t _
  have HA0:Hid (∀ m,ms[0]?=some m→Kd ms 0=(Db m && decide (Ct (Ax m) (Cg ms ms.length)≤1))):=fun m h=>by simp only [Kd,h]
  have HAJ:Hid (∀ j m t,ms[j+1]?=some m→ms[j]?=some t→Kd ms (j+1)=(Db m && Op.bytesLess t.toList m.toList && decide (Ct (Ax m) (Cg ms ms.length)≤1))):=fun j m t h h'=>by simp only [Kd,h,h']
  have HKL:Hid ((Cg ms ms.length).length≤2*ms.length):=Mb ms _;generalize Cg ms ms.length=R at *;go_wp2_with fail;go_loopw [16] (fun i wr=>∃ k:Nat,k≤ms.length∧i=.int .i64 k∧Hid (Kb ms k=true)∧Hid (wr.ownsMap Tryz.prog 9 (plainElem Tryz.prog 3) mb n (Fj R))∧Hid (Below w.heap.size w wr)) (fun i _=>ms.length - (intOf i).toNat)
  case atStart=>exact ⟨0,Nat.zero_le _,rfl,rfl,HO1,HB1⟩
  case round =>
   clear HO1 HB1;obtain ⟨k,hk,rfl,ht,ho,hb⟩:=hrel;by_cases hlt:k<ms.length
   ·obtain ⟨m,hm⟩:∃ m,ms[k]?=some m:=⟨ms[k],List.getElem?_eq_getElem hlt⟩
    obtain ⟨b,o,rfl,_,_,hc⟩:=(HI.out.below StrC.holds hb.out nL).at hm;obtain ⟨q0,z0⟩:=hc;simp only [Nat.mul_one,Nat.add_zero] at q0;have HX:Hid (ms[k]?=some m):=hm;have HZ:Hid (m.size≤maxLen):=z0;clear hm z0;go_wp2_with fail;refine (Ow m _ HZ.out).mono ?_;rintro e w2 ⟨rfl,hb2⟩;have HB2:Hid (Below w.heap.size w w2):=hb.out.trans (hb2.mono hb.out.size);have HO2:Hid (w2.ownsMap Tryz.prog 9 (plainElem Tryz.prog 3) mb n (Fj R)):=Ak ho.out hb2 ho.out.lt;have HI2:Hid (SliceC StrC 1 lo w2 (some ⟨b,o,none⟩) ms):=HI.out.below StrC.holds HB2.out nL;clear hb2 hb ho q0;have hkn:keyOf Tryz.prog 9 (.string (Ax m))=some (kOf (Ax m)):=keyOf_string_mk Tryz.underlying9 (Hw HZ.out)
    cases k with
    | zero =>
     have HAT:Hid (Kd ms 0=(Db m && decide (Ct (Ax m) R≤1))):=HA0.out m HX.out
     cases hmk:Db m with
     | false =>
      have HC:Hid (Gx ms=false):=HF.out 0 (by rw [HAT.out,hmk];rfl) hlt;clear hmk;go_wp2_with fail;go_ret;exact ⟨Ae HC.out.symm,HB2.out⟩
     | true =>
      rw [hmk,Bool.true_and] at HAT;clear hmk;go_wp2_with fail;refine (Nr m _ HZ.out).mono ?_;rintro e w3 ⟨rfl,hb3⟩;have HB3:Hid (Below w.heap.size w w3):=HB2.out.trans (hb3.mono HB2.out.size);have HO3:Hid (w3.ownsMap Tryz.prog 9 (plainElem Tryz.prog 3) mb n (Fj R)):=Ak HO2.out hb3 HO2.out.lt;have HAC:Hid ((Fj R).atKey (kOf (Ax m)) (.lit (.int .i64 0))=.lit (.int .i64 ((Ct (Ax m) R:Nat):Int))):=HCN.out _;clear hb3 HB2 HO2 HI2;generalize Ax m=nm at *;generalize Gw m=vl at *;generalize decide (Bu m<0)=bb at *;generalize Ct nm R=c0 at *;by_cases hc:c0≤1
      ·have HN:Hid (Kb ms (0+1)=true):=Qz ht.out (by rw [HAT.out];exact decide_eq_true hc)
       clear HAT ht;go_wp2_with (at_lookup;refine wpList_lookup_own_int _ rfl _ _ 212 rfl 9 3 .i64 Cx Tryz.underlying212 Tryz.underlying3 (Gk _) mb _ _ rfl HO3.out _ _ rfl hkn ?_;intro c hcc _;obtain rfl:=El (hcc.symm.trans HAC.out));go_roundw
       case rel=>exact ⟨0+1,by omega,by go_num,HN,HO3,HB3⟩
       case measure=>simp [intOf];omega
      ·have HC:Hid (Gx ms=false):=HF.out 0 (by rw [HAT.out];simp [hc]) hlt
       clear HAT ht;go_wp2_with (at_lookup;refine wpList_lookup_own_int _ rfl _ _ 212 rfl 9 3 .i64 Cx Tryz.underlying212 Tryz.underlying3 (Gk _) mb _ _ rfl HO3.out _ _ rfl hkn ?_;intro c hcc _;obtain rfl:=El (hcc.symm.trans HAC.out));go_ret;exact ⟨Ae HC.out.symm,HB3.out⟩
    | succ j =>
     obtain ⟨t,htt⟩:∃ t,ms[j]?=some t:=⟨ms[j],List.getElem?_eq_getElem (by omega)⟩;have HAT:Hid (Kd ms (j+1)=(Db m && Op.bytesLess t.toList m.toList && decide (Ct (Ax m) R≤1))):=HAJ.out j m t HX.out htt;obtain ⟨b',o',hbo,_,_,hc'⟩:=HI2.out.at htt;cases hbo
     obtain ⟨q1,z1⟩:=hc';simp only [Nat.mul_one,Nat.add_zero] at q1;have hjl:j<ms.length:=by omega
     clear htt z1
     cases hmk:Db m with
     | false =>
      have HC:Hid (Gx ms=false):=HF.out (j+1) (by rw [HAT.out,hmk];rfl) hlt;clear hmk;go_wp2_with fail;go_ret;exact ⟨Ae HC.out.symm,HB2.out⟩
     | true =>
      rw [hmk,Bool.true_and] at HAT;clear hmk
      cases hless:Op.bytesLess t.toList m.toList with
      | false =>
       have HC:Hid (Gx ms=false):=HF.out (j+1) (by rw [HAT.out,hless];rfl) hlt;go_wp2_with fail;go_ret;exact ⟨Ae HC.out.symm,HB2.out⟩
      | true =>
       rw [hless,Bool.true_and] at HAT;go_wp2_with fail;refine (Nr m _ HZ.out).mono ?_;rintro e w3 ⟨rfl,hb3⟩;have HB3:Hid (Below w.heap.size w w3):=HB2.out.trans (hb3.mono HB2.out.size);have HO3:Hid (w3.ownsMap Tryz.prog 9 (plainElem Tryz.prog 3) mb n (Fj R)):=Ak HO2.out hb3 HO2.out.lt;have HAC:Hid ((Fj R).atKey (kOf (Ax m)) (.lit (.int .i64 0))=.lit (.int .i64 ((Ct (Ax m) R:Nat):Int))):=HCN.out _;clear hb3 HB2 HO2 HI2;generalize Ax m=nm at *;generalize Gw m=vl at *;generalize decide (Bu m<0)=bb at *;generalize Ct nm R=c0 at *;by_cases hc:c0≤1
       ·have HN:Hid (Kb ms ((j+1)+1)=true):=Qz ht.out (by rw [HAT.out];exact decide_eq_true hc)
        clear HAT ht;go_wp2_with (at_lookup;refine wpList_lookup_own_int _ rfl _ _ 212 rfl 9 3 .i64 Cx Tryz.underlying212 Tryz.underlying3 (Gk _) mb _ _ rfl HO3.out _ _ rfl hkn ?_;intro c hcc _;obtain rfl:=El (hcc.symm.trans HAC.out));go_roundw
        case rel=>exact ⟨(j+1)+1,by omega,by go_num,HN,HO3,HB3⟩
        case measure=>simp [intOf];omega
       ·have HC:Hid (Gx ms=false):=HF.out (j+1) (by rw [HAT.out];simp [hc]) hlt
        clear HAT ht;go_wp2_with (at_lookup;refine wpList_lookup_own_int _ rfl _ _ 212 rfl 9 3 .i64 Cx Tryz.underlying212 Tryz.underlying3 (Gk _) mb _ _ rfl HO3.out _ _ rfl hkn ?_;intro c hcc _;obtain rfl:=El (hcc.symm.trans HAC.out));go_ret;exact ⟨Ae HC.out.symm,HB3.out⟩
   ·have hke:k=ms.length:=by omega
    subst hke;have HC:Hid (Gx ms=true):=by show _=_;rw [HM.out];exact ht.out
    clear ht;go_wp2_with fail;go_ret;exact ⟨Ae HC.out.symm,hb.out⟩
 ·have HM:Hid (Gx ms=false):=by show _=_;simp [Gx,h10]
  go_enter Tryz.func124,Tryz.ntmps124;go_wp2_with fail;go_ret;exact ⟨Ae HM.out.symm,by go_grown⟩
end Go.Proofs.YtpeajnkkdioflaaGreat
namespace Go.Proofs.YtpeajnkkdioflaaGreat
open Go.RowKit
def Hz (cs:List Cpy) (b:Brt):Bool :=
 decide ((Aq cs b.name (-1) cs.length).1≤10) && decide ((Aq cs b.name (-1) cs.length).2.1≤b.room) && decide ((Aq cs b.name (-1) cs.length).2.2≤b.hold)
def Ck (bs:List Brt) (cs:List Cpy):Bool:=bs.all (Hz cs)
theorem bJ (p:Nat) (x:Flt) (a1:Option Addr) (c1:Nat) (a2:Option Addr) (c2:Nat) (a3:Option Addr) (c3:Nat) (lo:Nat) (w:World) (hp:FndIn p x a1 c1 a2 c2 a3 c3 w) (n1:SliceC BrtC 6 lo w a1 x.berths) (n3:SliceC CpyC 12 lo w a3 x.copies)
  (l1:x.berths.length≤1048576) (l3:x.copies.length≤1048576) :
  Calls Tryz.prog 109 #[.pointer (some ⟨p,0,none⟩)] w fun e w'=>e=.returned (.bool (Ck x.berths x.copies))∧Below w.heap.size w w':=by
 have N1:Hid (SliceC BrtC 6 lo w a1 x.berths):=n1;have N3:Hid (SliceC CpyC 12 lo w a3 x.copies):=n3;have HP:Hid (FndIn p x a1 c1 a2 c2 a3 c3 w):=hp;have hpl:p<w.heap.size:=block_lt_of_cell hp.1;obtain ⟨p1,_,_⟩:=hp;clear n1 n3;go_enter Tryz.func109,Tryz.ntmps109;go_wp2_with fail;clear p1;go_loopw [12] (fun i wr=>∃ k:Nat,k≤x.berths.length∧i=.int .i64 k∧Hid (∀ j y,j<k→x.berths[j]?=some y→Hz x.copies y=true)∧Below w.heap.size w wr) (fun i _=>x.berths.length - (intOf i).toNat)
 case atStart=>exact ⟨0,Nat.zero_le _,rfl,fun j y h=>absurd h (Nat.not_lt_zero _),by go_grown⟩
 case round =>
  obtain ⟨k,hk,rfl,ho,hbel⟩:=hrel;by_cases hlt:k<x.berths.length
  ·obtain ⟨y,hy⟩:∃ y,x.berths[k]?=some y:=⟨x.berths[k],List.getElem?_eq_getElem hlt⟩
   obtain ⟨b,o,rfl,_,_,hc⟩:=(N1.out.below BrtC.holds hbel nL).at hy;obtain ⟨m2,d2,q0,q1,q2,q3,q4,q5,_,_,_⟩:=hc;simp only [Nat.add_zero] at q0 q1 q2 q3 q4 q5;have HRA:Hid (wr.rangeAt b (o+k*6) [.string y.name,.string y.zone,.slice m2 y.marks.length d2,.int .i64 y.room,.int .i64 y.hold,.bool y.closed]):=Aa q0 (Aa q1 (Aa q2 (Aa q3 (Aa q4 (Aa q5 (Aj _ _ _))))));have HX:Hid (x.berths[k]?=some y):=hy;have HB:Hid (Below w.heap.size w wr):=hbel;clear hy hbel q0 q1 q2 q3 q4 q5;go_upto_region 4 with (first | (refine wpList_load_mid rfl 86 _ rfl b (o+k*6) (by first | rfl | (simp [go_sem];done)) [.string y.name,.string y.zone,.slice m2 y.marks.length d2,.int .i64 y.room,.int .i64 y.hold,.bool y.closed] _ HRA.out Tryz.underlying86 rfl Bn ?_));have HG:Hid ((wr.alloc (Obj.cells #[.string y.name,.string y.zone,.slice m2 y.marks.length d2,.int .i64 y.room,.int .i64 y.hold,.bool y.closed] 86)).rangeAt wr.heap.size 0 [.string y.name,.string y.zone,.slice m2 y.marks.length d2,.int .i64 y.room,.int .i64 y.hold,.bool y.closed]):=Aa (by simp) (Aa (by simp) (Aa (by simp) (Aa (by simp) (Aa (by simp) (Aa (by simp) (Aj _ _ _))))));have HB4:Hid (Below w.heap.size w (wr.alloc (Obj.cells #[.string y.name,.string y.zone,.slice m2 y.marks.length d2,.int .i64 y.room,.int .i64 y.hold,.bool y.closed] 86))):=HB.out.alloc HB.out.size _;have HS4:Hid (wr.heap.size<(wr.alloc (Obj.cells #[.string y.name,.string y.zone,.slice m2 y.marks.length d2,.int .i64 y.room,.int .i64 y.hold,.bool y.closed] 86)).heap.size):=by show _<_;simp
   clear HB HRA;generalize wr.alloc (Obj.cells #[.string y.name,.string y.zone,.slice m2 y.marks.length d2,.int .i64 y.room,.int .i64 y.hold,.bool y.closed] 86)=w4 at *;have e0:w4.cell? ⟨wr.heap.size,0,none⟩=some (.string y.name):=HG.out 0 _ rfl;have HP4:Hid (FndIn p x (some ⟨b,o,none⟩) c1 a2 c2 a3 c3 w4):=HP.out.below HB4.out hpl;go_wp2_with fail;refine (dA p x.copies a3 c3 lo _ _ _ HP4.out.2.2 (N3.out.below CpyC.holds HB4.out nL) l3).mono ?_;rintro e w5 ⟨rfl,hb5⟩;have HB5:Hid (Below w.heap.size w w5):=HB4.out.trans (hb5.mono HB4.out.size);have HG5:Hid (w5.rangeAt wr.heap.size 0 [.string y.name,.string y.zone,.slice m2 y.marks.length d2,.int .i64 y.room,.int .i64 y.hold,.bool y.closed]):=Ac HG.out hb5 HS4.out;have HS5:Hid (wr.heap.size<w5.heap.size):=Nat.lt_of_lt_of_le HS4.out hb5.size;clear hb5 e0 HB4 HG HS4 HP4;have HSA:Hid (Hz x.copies y=(decide ((Aq x.copies y.name (-1) x.copies.length).1≤10) && decide ((Aq x.copies y.name (-1) x.copies.length).2.1≤y.room) && decide ((Aq x.copies y.name (-1) x.copies.length).2.2≤y.hold))):=rfl;generalize Aq x.copies y.name (-1) x.copies.length=U at *;go_upto_region 5 with fail;have f0:(w5.alloc (Obj.cells #[.int .i64 U.1,.int .i64 U.2.1,.int .i64 U.2.2] 193)).cell? ⟨w5.heap.size,0,none⟩=some (.int .i64 U.1):=by simp
   have f1:(w5.alloc (Obj.cells #[.int .i64 U.1,.int .i64 U.2.1,.int .i64 U.2.2] 193)).cell? ⟨w5.heap.size,1,none⟩=some (.int .i64 U.2.1):=by simp
   have f2:(w5.alloc (Obj.cells #[.int .i64 U.1,.int .i64 U.2.1,.int .i64 U.2.2] 193)).cell? ⟨w5.heap.size,2,none⟩=some (.int .i64 U.2.2):=by simp
   have hal:Below w5.heap.size w5 (w5.alloc (Obj.cells #[.int .i64 U.1,.int .i64 U.2.1,.int .i64 U.2.2] 193)):=(Below.refl _ _).alloc nL _;have e3:(w5.alloc (Obj.cells #[.int .i64 U.1,.int .i64 U.2.1,.int .i64 U.2.2] 193)).cell? ⟨wr.heap.size,3,none⟩=some (.int .i64 y.room):=Ac HG5.out hal HS5.out 3 _ rfl;have e4:(w5.alloc (Obj.cells #[.int .i64 U.1,.int .i64 U.2.1,.int .i64 U.2.2] 193)).cell? ⟨wr.heap.size,4,none⟩=some (.int .i64 y.hold):=Ac HG5.out hal HS5.out 4 _ rfl;have HB6:Hid (Below w.heap.size w (w5.alloc (Obj.cells #[.int .i64 U.1,.int .i64 U.2.1,.int .i64 U.2.2] 193))):=HB5.out.trans (hal.mono HB5.out.size);clear hal HB5 HG5 HS5;generalize w5.alloc (Obj.cells #[.int .i64 U.1,.int .i64 U.2.1,.int .i64 U.2.2] 193)=w6 at *;have bad:Hid (Hz x.copies y=false→Ck x.berths x.copies=false):=fun h=>List.all_eq_false.mpr ⟨y,List.mem_of_getElem? HX.out,by simp [h]⟩
   by_cases h1:U.1≤10
   ·by_cases h2:U.2.1≤y.room
    ·by_cases h3:U.2.2≤y.hold
     ·have HO:Hid (∀ j z,j<k+1→x.berths[j]?=some z→Hz x.copies z=true):=by
       intro j z hj hz;by_cases e:j=k
       ·subst e
        rw [HX.out] at hz;cases hz
        rw [HSA.out];simp [h1,h2,h3]
       ·exact ho.out j z (by omega) hz
      clear ho bad HSA;go_wp2_with fail;go_roundw
      case rel=>exact ⟨k+1,by omega,by go_num,HO,HB6.out⟩
      case measure=>simp [intOf];omega
     ·have HC:Hid (Ck x.berths x.copies=false):=bad.out (by rw [HSA.out];simp [h3])
      clear ho bad HSA;go_wp2_with fail;go_ret;exact ⟨Ae HC.out.symm,HB6.out⟩
    ·have HC:Hid (Ck x.berths x.copies=false):=bad.out (by rw [HSA.out];simp [h2])
     clear ho bad HSA;go_wp2_with fail;go_ret;exact ⟨Ae HC.out.symm,HB6.out⟩
   ·have HC:Hid (Ck x.berths x.copies=false):=bad.out (by rw [HSA.out];simp [h1])
    clear ho bad HSA;go_wp2_with fail;go_ret;exact ⟨Ae HC.out.symm,HB6.out⟩
  ·have hke:k=x.berths.length:=by omega
   subst hke;have HC:Hid (Ck x.berths x.copies=true):=by
    show _=_
    simp only [Ck,List.all_eq_true];intro y hy;obtain ⟨j,hj,e⟩:=List.mem_iff_getElem.mp hy;exact ho.out j y hj (by rw [List.getElem?_eq_getElem hj,e])
   clear ho;go_wp2_with fail;go_ret;exact ⟨Ae HC.out.symm,hbel⟩
def Fc (b:Brt):Bool:=P.nameOk b.zone && inR b.room 0 1000 && inR b.hold 0 1000 && Gx b.marks
def Bq (bs:List Brt):Bool:=bs.all Fc
theorem Xz (p:Nat) (xs:List Brt) (a:Option Addr) (cap lo:Nat) (w:World) (hp:w.cell? ⟨p,1,none⟩=some (.slice a xs.length cap)) (n1:SliceC BrtC 6 lo w a xs) :
  Calls Tryz.prog 106 #[.pointer (some ⟨p,0,none⟩)] w fun e w'=>e=.returned (.bool (Bq xs))∧Below w.heap.size w w':=by
 have hlen:=n1.1;unfold maxLen at hlen;have N1:Hid (SliceC BrtC 6 lo w a xs):=n1;clear n1;go_enter Tryz.func106,Tryz.ntmps106;go_wp2_with fail;clear hp;go_loopw [11] (fun i wr=>∃ k:Nat,k≤xs.length∧i=.int .i64 k∧Hid (∀ j y,j<k→xs[j]?=some y→Fc y=true)∧Below w.heap.size w wr) (fun i _=>xs.length - (intOf i).toNat)
 case atStart=>exact ⟨0,Nat.zero_le _,rfl,fun j y h=>absurd h (Nat.not_lt_zero _),by go_grown⟩
 case round =>
  obtain ⟨k,hk,rfl,ho,hbel⟩:=hrel;by_cases hlt:k<xs.length
  ·obtain ⟨y,hy⟩:∃ y,xs[k]?=some y:=⟨xs[k],List.getElem?_eq_getElem hlt⟩
   obtain ⟨b,o,rfl,_,_,hc⟩:=(N1.out.below BrtC.holds hbel nL).at hy;obtain ⟨m2,d2,q0,q1,q2,q3,q4,q5,_,z1,nm⟩:=hc;simp only [Nat.add_zero] at q0 q1 q2 q3 q4 q5;have HRA:Hid (wr.rangeAt b (o+k*6) [.string y.name,.string y.zone,.slice m2 y.marks.length d2,.int .i64 y.room,.int .i64 y.hold,.bool y.closed]):=Aa q0 (Aa q1 (Aa q2 (Aa q3 (Aa q4 (Aa q5 (Aj _ _ _))))));have HX:Hid (xs[k]?=some y):=hy;have HB:Hid (Below w.heap.size w wr):=hbel;have HZ:Hid (y.zone.size≤maxLen):=z1;have HM:Hid (SliceC StrC 1 lo wr m2 y.marks):=nm;clear hy hbel q0 q1 q2 q3 q4 q5 z1 nm;go_upto_region 4 with (first | (refine wpList_load_mid rfl 86 _ rfl b (o+k*6) (by first | rfl | (simp [go_sem];done)) [.string y.name,.string y.zone,.slice m2 y.marks.length d2,.int .i64 y.room,.int .i64 y.hold,.bool y.closed] _ HRA.out Tryz.underlying86 rfl Bn ?_));have HG:Hid ((wr.alloc (Obj.cells #[.string y.name,.string y.zone,.slice m2 y.marks.length d2,.int .i64 y.room,.int .i64 y.hold,.bool y.closed] 86)).rangeAt wr.heap.size 0 [.string y.name,.string y.zone,.slice m2 y.marks.length d2,.int .i64 y.room,.int .i64 y.hold,.bool y.closed]):=Aa (by simp) (Aa (by simp) (Aa (by simp) (Aa (by simp) (Aa (by simp) (Aa (by simp) (Aj _ _ _))))));have hal:Below wr.heap.size wr (wr.alloc (Obj.cells #[.string y.name,.string y.zone,.slice m2 y.marks.length d2,.int .i64 y.room,.int .i64 y.hold,.bool y.closed] 86)):=(Below.refl _ _).alloc nL _;have HB4:Hid (Below w.heap.size w (wr.alloc (Obj.cells #[.string y.name,.string y.zone,.slice m2 y.marks.length d2,.int .i64 y.room,.int .i64 y.hold,.bool y.closed] 86))):=HB.out.alloc HB.out.size _;have HM4:Hid (SliceC StrC 1 lo (wr.alloc (Obj.cells #[.string y.name,.string y.zone,.slice m2 y.marks.length d2,.int .i64 y.room,.int .i64 y.hold,.bool y.closed] 86)) m2 y.marks):=HM.out.below StrC.holds hal nL;have HS4:Hid (wr.heap.size<(wr.alloc (Obj.cells #[.string y.name,.string y.zone,.slice m2 y.marks.length d2,.int .i64 y.room,.int .i64 y.hold,.bool y.closed] 86)).heap.size):=by show _<_;simp
   clear HB HRA hal HM;generalize wr.alloc (Obj.cells #[.string y.name,.string y.zone,.slice m2 y.marks.length d2,.int .i64 y.room,.int .i64 y.hold,.bool y.closed] 86)=w4 at *;have e1:w4.cell? ⟨wr.heap.size,1,none⟩=some (.string y.zone):=HG.out 1 _ rfl;have HBA:Hid (Fc y=(P.nameOk y.zone && inR y.room 0 1000 && inR y.hold 0 1000 && Gx y.marks)):=rfl;have bad:Hid (Fc y=false→Bq xs=false):=fun h=>List.all_eq_false.mpr ⟨y,List.mem_of_getElem? HX.out,by simp [h]⟩
   go_wp2_with fail;refine (Br y.zone _ HZ.out).mono ?_;rintro e w' ⟨rfl,rfl⟩;clear e1
   cases hz:P.nameOk y.zone with
   | false =>
    have HC:Hid (Bq xs=false):=bad.out (by rw [HBA.out,hz];rfl);clear ho bad HBA hz;go_wp2_with fail;go_ret;exact ⟨Ae HC.out.symm,HB4.out⟩
   | true =>
   rw [hz,Bool.true_and] at HBA;clear hz;have e3:w'.cell? ⟨wr.heap.size,3,none⟩=some (.int .i64 y.room):=HG.out 3 _ rfl;go_wp2_with fail;refine (Hu y.room _).mono ?_;rintro e w5 ⟨rfl,hb5⟩;have HB5:Hid (Below w.heap.size w w5):=HB4.out.trans (hb5.mono HB4.out.size);have HG5:Hid (w5.rangeAt wr.heap.size 0 [.string y.name,.string y.zone,.slice m2 y.marks.length d2,.int .i64 y.room,.int .i64 y.hold,.bool y.closed]):=Ac HG.out hb5 HS4.out;have HS5:Hid (wr.heap.size<w5.heap.size):=Nat.lt_of_lt_of_le HS4.out hb5.size;have HM5:Hid (SliceC StrC 1 lo w5 m2 y.marks):=HM4.out.below StrC.holds hb5 nL;clear hb5 e3 HB4 HG HS4 HM4
   cases hr:inR y.room 0 1000 with
   | false =>
    have HC:Hid (Bq xs=false):=bad.out (by rw [HBA.out,hr];rfl);clear ho bad HBA hr;go_wp2_with fail;go_ret;exact ⟨Ae HC.out.symm,HB5.out⟩
   | true =>
   rw [hr,Bool.true_and] at HBA;clear hr;have e4:w5.cell? ⟨wr.heap.size,4,none⟩=some (.int .i64 y.hold):=HG5.out 4 _ rfl;go_wp2_with fail;refine (Hu y.hold _).mono ?_;rintro e w6 ⟨rfl,hb6⟩;have HB6:Hid (Below w.heap.size w w6):=HB5.out.trans (hb6.mono HB5.out.size);have HG6:Hid (w6.rangeAt wr.heap.size 0 [.string y.name,.string y.zone,.slice m2 y.marks.length d2,.int .i64 y.room,.int .i64 y.hold,.bool y.closed]):=Ac HG5.out hb6 HS5.out;have HM6:Hid (SliceC StrC 1 lo w6 m2 y.marks):=HM5.out.below StrC.holds hb6 nL;clear hb6 e4 HB5 HG5 HS5 HM5
   cases hh:inR y.hold 0 1000 with
   | false =>
    have HC:Hid (Bq xs=false):=bad.out (by rw [HBA.out,hh];rfl);clear ho bad HBA hh;go_wp2_with fail;go_ret;exact ⟨Ae HC.out.symm,HB6.out⟩
   | true =>
   rw [hh,Bool.true_and] at HBA;clear hh;have e2:w6.cell? ⟨wr.heap.size,2,none⟩=some (.slice m2 y.marks.length d2):=HG6.out 2 _ rfl;go_wp2_with fail;refine (Wc y.marks m2 d2 lo _ HM6.out).mono ?_;rintro e w7 ⟨rfl,hb7⟩;have HB7:Hid (Below w.heap.size w w7):=HB6.out.trans (hb7.mono HB6.out.size);clear hb7 e2 HB6 HG6 HM6
   cases hm:Gx y.marks with
   | false =>
    have HC:Hid (Bq xs=false):=bad.out (by rw [HBA.out,hm]);clear ho bad HBA hm;go_wp2_with fail;go_ret;exact ⟨Ae HC.out.symm,HB7.out⟩
   | true =>
    have HO:Hid (∀ j z,j<k+1→xs[j]?=some z→Fc z=true):=by
     intro j z hj hz;by_cases e:j=k
     ·subst e
      rw [HX.out] at hz;cases hz
      rw [HBA.out,hm]
     ·exact ho.out j z (by omega) hz
    clear ho bad HBA hm;go_wp2_with fail;go_roundw
    case rel=>exact ⟨k+1,by omega,by go_num,HO,HB7.out⟩
    case measure=>simp [intOf];omega
  ·have hke:k=xs.length:=by omega
   subst hke;have HC:Hid (Bq xs=true):=by
    show _=_
    simp only [Bq,List.all_eq_true];intro y hy;obtain ⟨j,hj,e⟩:=List.mem_iff_getElem.mp hy;exact ho.out j y hj (by rw [List.getElem?_eq_getElem hj,e])
   clear ho;go_wp2_with fail;go_ret;exact ⟨Ae HC.out.symm,hbel⟩
end Go.Proofs.YtpeajnkkdioflaaGreat
