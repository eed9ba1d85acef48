import Derived.Test.YtpeajnkkdioflaaGreatVa6
import Derived.Test.YtpeajnkkdioflaaGreatFnd
import Derived.Sort.AtCall
set_option maxHeartbeats 4000000
set_option maxRecDepth 100000
namespace Go.Proofs.YtpeajnkkdioflaaGreat
open Go.RowKit Go.WideMaps Go.Maps
def Ce (x:Flt):Bool:=Cq x && (Dt x && (Bq x.berths && (Dq x.services && (Bo x && Ck x.berths x.copies))))
theorem Yu (w:World) :
  Calls Tryz.prog 82 #[] w fun e w'=>∃ g,e=.returned (.slice (some ⟨g,0,none⟩) 6 6) ∧
   w'.rangeAt g 0 [.func (.func 104) #[] #[],.func (.func 105) #[] #[],.func (.func 106) #[] #[],.func (.func 107) #[] #[],.func (.func 108) #[] #[],.func (.func 109) #[] #[]]∧g<w'.heap.size∧Below w.heap.size w w':=by
 go_enter Tryz.func82,Tryz.ntmps82;go_wp2_with fail;go_ret;refine ⟨_,rfl,?_,?_,?_⟩
 ·exact Aa (by simp) (Aa (by simp) (Aa (by simp) (Aa (by simp) (Aa (by simp) (Aa (by simp) (Aj _ _ _))))))
 ·simp
 ·go_grown
end Go.Proofs.YtpeajnkkdioflaaGreat
namespace Go.Proofs.YtpeajnkkdioflaaGreat
open Go.RowKit
theorem gG {s:ByteArray} {k:Nat} (hlt:k<s.size) (h:s[k].toNat=61) (hn:∀ j,j<k→s.data.toList[j]?≠some 61):Bu s=k:=by
 have hk:s.data.toList[k]?=some 61:=by
  rw [List.getElem?_eq_getElem (by simpa using hlt)]
  congr 1
  exact UInt8.toNat_inj.1 h
 by_cases hz:Bu s=-1
 ·exact absurd hk (Lib.indexByte_none hz k)
 ·obtain ⟨o,ho⟩:∃ o:Nat,Bu s=o:=⟨(Bu s).toNat,by have:=Om s;omega⟩
  have h2:=Lib.indexByte_some ho;rcases Nat.lt_trichotomy o k with h3 | h3 | h3
  ·exact absurd h2.1 (hn o h3)
  ·rw [ho,h3]
  ·exact absurd hk (h2.2 k h3)
theorem Wk {s:ByteArray} (hn:∀ j,j<s.size→s.data.toList[j]?≠some 61):Bu s=-1:=by
 by_cases hz:Bu s=-1
 ·exact hz
 ·obtain ⟨o,ho⟩:∃ o:Nat,Bu s=o:=⟨(Bu s).toNat,by have:=Om s;omega⟩
  exact absurd (Lib.indexByte_some ho).1 (hn o (Vh ho))
theorem Rc (s:ByteArray) (w:World) (hs:s.size≤maxLen) :
  Calls Tryz.prog 96 #[.string s] w fun e w'=>e=.returned (.tuple #[.string (Ax s),.string (Gw s),.bool (Db s)])∧Below w.heap.size w w':=by
 have HS:Hid (s.size≤maxLen):=hs;unfold maxLen at hs;go_enter Tryz.func96,Tryz.ntmps96;go_wp2_with fail;go_loopw [5] (fun i wr=>∃ k:Nat,k≤s.size∧i=.int .i64 k∧Hid (∀ j,j<k→s.data.toList[j]?≠some 61)∧Below w.heap.size w wr) (fun i _=>s.size - (intOf i).toNat)
 case atStart=>exact ⟨0,Nat.zero_le _,rfl,fun j h=>absurd h (Nat.not_lt_zero _),Below.refl _ _⟩
 case round =>
  obtain ⟨k,hk,rfl,hn,hbel⟩:=hrel;by_cases hlt:k<s.size
  ·by_cases hb:s[k].toNat=61
   ·have HE:Hid (Bu s=k):=gG hlt hb hn.out
    have HN:Hid (¬ Bu s<0):=by have:=HE.out;show ¬ _;omega
    have hbq:((s[k].toNat:Int) == 61)=true:=by simp;omega
    have HB:Hid (Below w.heap.size w wr):=hbel;have HNm:Hid (Ax s=s.extract 0 k):=by show _=_;unfold Ax;rw [if_neg HN.out,HE.out];rfl
    obtain ⟨n1,hn1⟩:∃ n1:Nat,n1=k+1:=⟨_,rfl⟩;have HVl:Hid (Gw s=s.extract n1 s.size):=by show _=_;unfold Gw;rw [if_neg HN.out,HE.out,hn1];rfl
    have HMk:Hid (Db s=(P.nameOk (s.extract 0 k) && P.nameOk (s.extract n1 s.size))):=by show _=_;unfold Db;rw [decide_eq_false HN.out,Bool.false_or,HNm.out,HVl.out]
    have i0:(0:Int)≤(k:Int):=by omega
    have i1:(k:Int)≤(s.size:Int):=by omega
    have i2:(n1:Int)≤(s.size:Int):=by omega
    have i3:(0:Int)≤(n1:Int):=by omega
    have HW:Hid (IntKind.i64.wrap ((k:Int)+1)=(n1:Int)):=by show _=_;rw [IntKind.wrap_i64];omega
    have Z1:Hid ((s.extract 0 k).size≤maxLen):=by have:=Hw HS.out;rw [HNm.out] at this;exact this
    have Z2:Hid ((s.extract n1 s.size).size≤maxLen):=by have:=Qs HS.out;rw [HVl.out] at this;exact this
    clear hn hbel hn1;go_upto_region 5 with fail;generalize hX:P.nameOk (s.extract 0 k)=X at *;generalize hY:P.nameOk (s.extract n1 s.size)=Y at *;have cN:∀ d os,Calls Tryz.prog 42 #[.string (s.extract 0 k)] (Sort.grow (redrawn wr d) os) fun e w''=>e=.returned (.bool X)∧∃ p:Regrown,w''=Sort.grow (redrawn wr p.d) p.os:=fun d os=>by
     refine (Be _ _ Z1.out).mono ?_;rintro e w' ⟨rfl,rfl⟩;exact ⟨by rw [hX],⟨d,os⟩,rfl⟩
    have cV:∀ d os,Calls Tryz.prog 42 #[.string (s.extract n1 s.size)] (Sort.grow (redrawn wr d) os) fun e w''=>e=.returned (.bool Y)∧∃ p:Regrown,w''=Sort.grow (redrawn wr p.d) p.os:=fun d os=>by
     refine (Be _ _ Z2.out).mono ?_;rintro e w' ⟨rfl,rfl⟩;exact ⟨by rw [hY],⟨d,os⟩,rfl⟩
    clear hX hY
    cases X with
    | false =>
     refine wp_region_quiet_below (by kernel_rfl) (by kernel_rfl) ?_
     repeat (quiet_step (first | (go_at_call_has 42 (s.extract 0 k);exact cN _ _) | (go_at_call_has 42 (s.extract n1 s.size);exact cV _ _)))
     rw [HW.out]
     repeat (quiet_step (first | (go_at_call_has 42 (s.extract 0 k);exact cN _ _) | (go_at_call_has 42 (s.extract n1 s.size);exact cV _ _)))
     refine wpQuiet_nil ?_;intro w5 hw';obtain ⟨⟨dq,osq⟩,hw''⟩:=hw';have hB:=below_regrown wr dq osq;simp only [] at hw'';rw [← hw''] at hB;clear hw'' cN cV;have HB5:Hid (Below w.heap.size w w5):=HB.out.trans (hB.mono HB.out.size);clear hB;go_wp2_with fail
     go_ret3
     exact ⟨by rw [HNm.out,HVl.out,HMk.out];rfl,HB5.out⟩
    | true =>
     refine wp_region_quiet_below (by kernel_rfl) (by kernel_rfl) ?_
     repeat (quiet_step (first | (go_at_call_has 42 (s.extract 0 k);exact cN _ _) | (go_at_call_has 42 (s.extract n1 s.size);exact cV _ _)))
     rw [HW.out]
     repeat (quiet_step (first | (go_at_call_has 42 (s.extract 0 k);exact cN _ _) | (go_at_call_has 42 (s.extract n1 s.size);exact cV _ _)))
     rw [HW.out]
     repeat (quiet_step (first | (go_at_call_has 42 (s.extract 0 k);exact cN _ _) | (go_at_call_has 42 (s.extract n1 s.size);exact cV _ _)))
     refine wpQuiet_nil ?_;intro w5 hw';obtain ⟨⟨dq,osq⟩,hw''⟩:=hw';have hB:=below_regrown wr dq osq;simp only [] at hw'';rw [← hw''] at hB;clear hw'' cN cV;have HB5:Hid (Below w.heap.size w w5):=HB.out.trans (hB.mono HB.out.size);clear hB;go_wp2_with fail
     go_ret3
     exact ⟨by rw [HNm.out,HVl.out,HMk.out];rfl,HB5.out⟩
   ·have hbq:((s[k].toNat:Int) == 61)=false:=by simp;omega
    have HN:Hid (∀ j,j<k+1→s.data.toList[j]?≠some 61):=by
     intro j hj e;by_cases hjk:j=k
     ·subst hjk
      rw [List.getElem?_eq_getElem (by simpa using hlt)] at e;injection e with e;exact hb (by rw [show s[j]=(61:UInt8) from e];rfl)
     ·exact hn.out j (by omega) e
    clear hn hb;go_wp2_with fail;go_roundw
    case rel=>exact ⟨k+1,by omega,by go_num,HN,hbel⟩
    case measure=>simp [intOf];omega
  ·have hke:k=s.size:=by omega
   have HE:Hid (Bu s<0):=by have:=Wk (s:=s) (fun j hj=>hn.out j (by omega));show _<_;omega
   have HNm:Hid (Ax s=s):=by show _=_;unfold Ax;rw [if_pos HE.out]
   have HVl:Hid (Gw s=⟨#[]⟩):=by show _=_;unfold Gw;rw [if_pos HE.out]
   have HMk:Hid (Db s=P.nameOk s):=by show _=_;unfold Db;rw [decide_eq_true HE.out,Bool.true_or,Bool.and_true,HNm.out]
   have HB:Hid (Below w.heap.size w wr):=hbel;clear hn hbel;subst hke;go_wp2_with fail;refine (Be s _ HS.out).mono ?_;rintro e w' ⟨rfl,rfl⟩;generalize P.nameOk s=X at *;go_wp2_with fail
   go_ret3
   exact ⟨by rw [HNm.out,HVl.out,HMk.out];rfl,HB.out⟩
def Cd (ms:List ByteArray) (nm:ByteArray):Nat→Bool
 | 0=>true
 | j+1=>Cd ms nm j && (match ms[j]? with
  | some t=>!decide (Ax t=nm)
  | none=>true)
def Ig (ms:List ByteArray):Nat→Bool
 | 0=>match ms[0]? with
  | none=>true
  | some m=>Db m
 | j+1=>match ms[j+1]?,ms[j]? with
  | some m,some t=>Db m && Op.bytesLess t.toList m.toList && !decide (Ax m=Ax t) && Cd ms (Ax m) (j+1)
  | _,_=>true
def Kq (ms:List ByteArray):Nat→Bool
 | 0=>true
 | k+1=>Kq ms k && Ig ms k
def Jy (ms:List ByteArray):Bool:=decide (ms.length≤10) && Kq ms ms.length
theorem Oa {ms:List ByteArray} {k:Nat} (h:Ig ms k=false):∀ n,k<n→Kq ms n=false
 | 0,hn=>absurd hn (Nat.not_lt_zero _)
 | n+1,hn=>by
  by_cases e:k=n
  ·subst e;simp only [Kq,h,Bool.and_false]
  ·simp only [Kq,Oa h n (by omega),Bool.false_and]
theorem Pd {ms:List ByteArray} {k:Nat} (h:Ig ms k=false) (hk:k<ms.length):Jy ms=false:=by
 simp only [Jy,Oa h _ hk,Bool.and_false]
theorem aQ {ms:List ByteArray} {k:Nat} (h:Kq ms k=true) (h':Ig ms k=true):Kq ms (k+1)=true:=by
 simp only [Kq,h,h',Bool.and_self]
theorem Nf {ms:List ByteArray} {nm:ByteArray} {q:Nat} {t:ByteArray} (h:ms[q]?=some t) (h':Ax t=nm):∀ n,q<n→Cd ms nm n=false
 | 0,hn=>absurd hn (Nat.not_lt_zero _)
 | n+1,hn=>by
  by_cases e:q=n
  ·subst e;simp only [Cd,h,h',decide_true,Bool.not_true,Bool.and_false]
  ·simp only [Cd,Nf h h' n (by omega),Bool.false_and]
theorem Xf {ms:List ByteArray} {nm:ByteArray} {q:Nat} {t:ByteArray} (h:Cd ms nm q=true) (ht:ms[q]?=some t) (h':¬ Ax t=nm):Cd ms nm (q+1)=true:=by
 simp only [Cd,h,ht,h',decide_false,Bool.not_false,Bool.and_self]
def Fp (ms:List ByteArray) (k:Nat) (m L:ByteArray):Bool :=
 !Db m || (match k with
  | 0=>false
  | j+1=>match ms[j]? with
   | some t=>!Op.bytesLess t.toList m.toList || decide (Ax m=L)
   | none=>false)
theorem Vb {ms:List ByteArray} {k:Nat} {m L:ByteArray} (h:Db m=false):Fp ms k m L=true:=by simp [Fp,h]
theorem Oy {ms:List ByteArray} {m L:ByteArray} (h:Db m=true):Fp ms 0 m L=false:=by simp [Fp,h]
theorem Km {ms:List ByteArray} {j k:Nat} {m L t:ByteArray} (h:Db m=true) (hk:k=j+1) (ht:ms[j]?=some t):Fp ms k m L=(!Op.bytesLess t.toList m.toList || decide (Ax m=L)):=by
 subst hk;simp only [Fp,h,ht,Bool.not_true,Bool.false_or]
theorem Pt {ms:List ByteArray} {k:Nat} {m L:ByteArray} (hx:ms[k]?=some m) (hl:∀ j t,k=j+1→ms[j]?=some t→L=Ax t) (hlt:k<ms.length) (h1:Fp ms k m L=true):Ig ms k=false:=by
 cases k with
 | zero=>cases hi:Db m with
  | false=>simp only [Ig,hx,hi]
  | true=>rw [Oy hi] at h1;cases h1
 | succ j =>
  obtain ⟨t,htt⟩:∃ t,ms[j]?=some t:=⟨ms[j],List.getElem?_eq_getElem (by omega)⟩;have hlt':=hl j t rfl htt;subst hlt';simp only [Ig,hx,htt]
  cases hi:Db m with
  | false=>simp
  | true =>
   rw [Km hi rfl htt] at h1
   cases hbl:Op.bytesLess t.toList m.toList with
   | false=>simp
   | true =>
    rw [hbl] at h1;simp at h1;simp [h1]
theorem Oi {ms:List ByteArray} {k:Nat} {m L:ByteArray} (hx:ms[k]?=some m) (hl:∀ j t,k=j+1→ms[j]?=some t→L=Ax t) (hlt:k<ms.length) (h1:Fp ms k m L=false) (hf:Cd ms (Ax m) k=true):Ig ms k=true:=by
 cases hi:Db m with
 | false=>rw [Vb hi] at h1;cases h1
 | true =>
 cases k with
 | zero=>simp only [Ig,hx,hi]
 | succ j =>
  obtain ⟨t,htt⟩:∃ t,ms[j]?=some t:=⟨ms[j],List.getElem?_eq_getElem (by omega)⟩;have hlt':=hl j t rfl htt;subst hlt';rw [Km hi rfl htt] at h1;simp only [Ig,hx,htt,hi,hf];simp at h1;simp [h1]
theorem Oh {ms:List ByteArray} {k:Nat} {m:ByteArray} (hx:ms[k]?=some m) (hlt:k<ms.length) (hf:Cd ms (Ax m) k=false):Ig ms k=false:=by
 cases k with
 | zero=>simp [Cd] at hf
 | succ j =>
  obtain ⟨t,htt⟩:∃ t,ms[j]?=some t:=⟨ms[j],List.getElem?_eq_getElem (by omega)⟩;simp only [Ig,hx,htt,hf,Bool.and_false]
theorem So (ms:List ByteArray) (a:Option Addr) (cap lo:Nat) (w:World) (hin:SliceC StrC 1 lo w a ms) :
  Calls Tryz.prog 78 #[.slice a ms.length cap] w fun e w'=>e=.returned (.bool (Jy ms))∧Below w.heap.size w w':=by
 have hlen:=hin.1;unfold maxLen at hlen;have HI:Hid (SliceC StrC 1 lo w a ms):=hin;clear hin;by_cases h10:ms.length≤10
 ·have HM:Hid (Jy ms=Kq ms ms.length):=by show _=_;simp [Jy,h10]
  go_enter Tryz.func78,Tryz.ntmps78;go_wp2_with fail;go_loopw [3,4] (fun v i wr=>∃ (k:Nat) (L:ByteArray),k≤ms.length∧i=.int .i64 k∧v=.string L∧Hid (Kq ms k=true)∧Hid (∀ j t,k=j+1→ms[j]?=some t→L=Ax t)∧Hid (Below w.heap.size w wr)) (fun _ i _=>ms.length - (intOf i).toNat)
  case atStart=>exact ⟨0,_,Nat.zero_le _,rfl,rfl,rfl,fun j t h=>by omega,Below.refl _ _⟩
  case round =>
   obtain ⟨k,L,hk,rfl,rfl,ht,hL,hb⟩:=hrel;by_cases hlt:k<ms.length
   ·obtain ⟨m,hm⟩:∃ m,ms[k]?=some m:=⟨ms[k],List.getElem?_eq_getElem hlt⟩
    obtain ⟨b,o,rfl,_,_,hc⟩:=(HI.out.below StrC.holds hb.out nL).at hm;obtain ⟨q0,z0⟩:=hc;simp only [Nat.mul_one,Nat.add_zero] at q0;have HX:Hid (ms[k]?=some m):=hm;have HZ:Hid (m.size≤maxLen):=z0;clear hm z0;go_wp2_with fail;refine (Rc m _ HZ.out).mono ?_;rintro e w2 ⟨rfl,hb2⟩;have HB2:Hid (Below w.heap.size w w2):=hb.out.trans (hb2.mono hb.out.size);have HI2:Hid (SliceC StrC 1 lo w2 (some ⟨b,o,none⟩) ms):=HI.out.below StrC.holds HB2.out nL;clear hb2 hb q0;generalize hnm:Ax m=nm at *;have HNM:Hid (Ax m=nm):=hnm;clear hnm;generalize Gw m=vl at *;go_upto_region 8 with fail
    go_cut [52] (fun c wx=>c=.bool (Fp ms k m L)∧Hid (Below w2.heap.size w2 wx))
    case first =>
     rcases Bool.eq_false_or_eq_true (Db m) with hmk | hmk
     rotate_left
     ·have HR:Hid (Fp ms k m L=true):=by show _=_;exact Vb hmk
      clear hL ht HI2 HM;refine wp_region_quiet_below (by kernel_rfl) (by kernel_rfl) ?_
      repeat (go_big_quiet_step (fail))
      refine wpQuiet_nil ?_;intro w5 hw';obtain ⟨⟨dq,osq⟩,hw''⟩:=hw';have hB:=below_regrown w2 dq osq;simp only [] at hw'';rw [← hw''] at hB;clear hw'';go_wp2_with fail;go_meet;exact ⟨by rw [HR.out],hB⟩
     ·rcases Nat.eq_zero_or_pos k with hk0 | hk0
      ·subst hk0
       have HR:Hid (Fp ms 0 m L=false):=by show _=_;exact Oy hmk
       clear hL ht HI2 HM;refine wp_region_quiet_below (by kernel_rfl) (by kernel_rfl) ?_
       repeat (go_big_quiet_step (fail))
       refine wpQuiet_nil ?_;intro w5 hw';obtain ⟨⟨dq,osq⟩,hw''⟩:=hw';have hB:=below_regrown w2 dq osq;simp only [] at hw'';rw [← hw''] at hB;clear hw'';go_wp2_with fail;go_meet;exact ⟨by rw [HR.out],hB⟩
      ·obtain ⟨j,hj⟩:∃ j,k=j+1:=⟨k - 1,by omega⟩
       obtain ⟨t,htt⟩:∃ t,ms[j]?=some t:=⟨ms[j],List.getElem?_eq_getElem (by omega)⟩;obtain ⟨b',o',hbo,_,_,hc'⟩:=HI2.out.at htt;cases hbo
       obtain ⟨q1,z1⟩:=hc';obtain ⟨b2,o2,hbo2,_,_,hc2⟩:=HI2.out.at HX.out;cases hbo2
       obtain ⟨q2,_⟩:=hc2;simp only [Nat.mul_one,Nat.add_zero] at q1 q2;have q1':w2.cell? ⟨b,o+(k - 1),none⟩=some (.string t):=by rw [show k - 1=j from by omega];exact q1
       have r1:=cell_regrown q1';have r2:=cell_regrown q2;have hjl:j<ms.length:=by omega
       have i0:(0:Int)≤(j:Int):=by omega
       have i1:(j:Int)<(ms.length:Int):=by omega
       have i2:(0:Int)<(k:Int):=by omega
       have i3:(0:Int)≤(k:Int):=by omega
       have i4:(k:Int)<(ms.length:Int):=by omega
       have HWJ:Hid (IntKind.i64.wrap ((k:Int) - 1)=(j:Int)):=by show _=_;rw [IntKind.wrap_i64];omega
       have HS:Hid (Fp ms k m L=(!Op.bytesLess t.toList m.toList || decide (nm=L))):=by show _=_;rw [Km hmk hj htt,HNM.out]
       clear z1 q1 q2 hj q1' HWJ;rcases Bool.eq_false_or_eq_true (Op.bytesLess t.toList m.toList) with hless | hless
       rotate_left
       ·have HR:Hid (Fp ms k m L=true):=by show _=_;rw [HS.out,hless];rfl
        clear hL ht HI2 HM;refine wp_region_quiet_below (by kernel_rfl) (by kernel_rfl) ?_
        repeat (go_big_quiet_step (fail))
        refine wpQuiet_nil ?_;intro w5 hw';obtain ⟨⟨dq,osq⟩,hw''⟩:=hw';have hB:=below_regrown w2 dq osq;simp only [] at hw'';rw [← hw''] at hB;clear hw'';go_wp2_with fail;go_meet;exact ⟨by rw [HR.out],hB⟩
       ·by_cases hne:nm=L
        ·have hte:=Jb hne
         have HR:Hid (Fp ms k m L=true):=by show _=_;rw [HS.out,hless,decide_eq_true hne];rfl
         clear hL ht HI2 HM;refine wp_region_quiet_below (by kernel_rfl) (by kernel_rfl) ?_
         repeat (go_big_quiet_step (fail))
         refine wpQuiet_nil ?_;intro w5 hw';obtain ⟨⟨dq,osq⟩,hw''⟩:=hw';have hB:=below_regrown w2 dq osq;simp only [] at hw'';rw [← hw''] at hB;clear hw'';go_wp2_with fail;go_meet;exact ⟨by rw [HR.out],hB⟩
        ·have hte:=Gj hne
         have HR:Hid (Fp ms k m L=false):=by show _=_;rw [HS.out,hless,decide_eq_false hne];rfl
         clear hL ht HI2 HM;refine wp_region_quiet_below (by kernel_rfl) (by kernel_rfl) ?_
         repeat (go_big_quiet_step (fail))
         refine wpQuiet_nil ?_;intro w5 hw';obtain ⟨⟨dq,osq⟩,hw''⟩:=hw';have hB:=below_regrown w2 dq osq;simp only [] at hw'';rw [← hw''] at hB;clear hw'';go_wp2_with fail;go_meet;exact ⟨by rw [HR.out],hB⟩
    case rest =>
     obtain ⟨rfl,hbc⟩:=hcut;have HB3:Hid (Below w.heap.size w wc):=HB2.out.trans (hbc.out.mono HB2.out.size);clear hbc HB2
     cases hbd:Fp ms k m L with
     | true =>
      have HC:Hid (Jy ms=false):=Pd (k:=k) (Pt HX.out hL.out hlt hbd) hlt;clear hL ht hbd;go_wp2_with fail;go_ret;exact ⟨Ae HC.out.symm,HB3.out⟩
     | false =>
      have HA:Hid (Cd ms nm k=true→Ig ms k=true):=fun hf=>Oi HX.out hL.out hlt hbd (by rw [HNM.out];exact hf)
      have HF:Hid (Cd ms nm k=false→Ig ms k=false):=fun hf=>Oh HX.out hlt (by rw [HNM.out];exact hf)
      clear hL hbd;go_wp2_with fail;obtain ⟨wo,hwo⟩:∃ wo,wo=wc:=⟨_,rfl⟩;subst hwo;go_loopw [8] (fun i wx=>∃ q:Nat,q≤k∧i=.int .i64 q∧Hid (Cd ms nm q=true)∧Hid (Below w.heap.size w wx)) (fun i _=>k - (intOf i).toNat)
      case atStart=>exact ⟨0,Nat.zero_le _,rfl,rfl,HB3⟩
      case round =>
       clear HB3;obtain ⟨q,hq,rfl,hfr,hbq⟩:=hrel;by_cases hql:q<k
       ·obtain ⟨t,htt⟩:∃ t,ms[q]?=some t:=⟨ms[q],List.getElem?_eq_getElem (by omega)⟩
        obtain ⟨b',o',hbo,_,_,hc'⟩:=(HI.out.below StrC.holds hbq.out nL).at htt;cases hbo
        obtain ⟨q1,z1⟩:=hc';simp only [Nat.mul_one,Nat.add_zero] at q1;have HT:Hid (ms[q]?=some t):=htt;have HTZ:Hid (t.size≤maxLen):=z1;have hqm:q<ms.length:=by omega
        clear htt z1;go_wp2_with fail;refine (Rc t _ HTZ.out).mono ?_;rintro e w5 ⟨rfl,hb5⟩;have HB5:Hid (Below w.heap.size w w5):=hbq.out.trans (hb5.mono hbq.out.size);clear hb5 hbq q1;by_cases hne:Ax t=nm
        ·have HC:Hid (Jy ms=false):=Pd (k:=k) (HF.out (Nf HT.out hne k hql)) hlt
         have hte:=Jb hne;generalize Ax t=nt at *;generalize Gw t=vt at *;clear hne HA HF ht hfr;go_wp2_with fail;go_ret;exact ⟨Ae HC.out.symm,HB5.out⟩
        ·have HN:Hid (Cd ms nm (q+1)=true):=Xf hfr.out HT.out hne
         have hte:=Gj hne;generalize Ax t=nt at *;generalize Gw t=vt at *;clear hne hfr;go_wp2_with fail;go_roundw
         case rel=>exact ⟨q+1,by omega,by go_num,HN,HB5⟩
         case measure=>simp [intOf];omega
       ·have hqe:q=k:=by omega
        subst hqe;have HN:Hid (Kq ms (q+1)=true):=aQ ht.out (HA.out hfr.out);have HLN:Hid (∀ j t,q+1=j+1→ms[j]?=some t→nm=Ax t):=by
         intro j t hj htt;have e:q=j:=Nat.succ.inj hj;subst e;rw [HX.out] at htt;cases htt
         exact HNM.out.symm
        clear hfr HA HF ht;go_wp2_with fail;go_roundw
        case rel=>exact ⟨q+1,nm,by omega,by go_num,rfl,HN,HLN,hbq⟩
        case measure=>simp [intOf];omega
   ·have hke:k=ms.length:=by omega
    subst hke;have HC:Hid (Jy ms=true):=by show _=_;rw [HM.out];exact ht.out
    clear ht;go_wp2_with fail;go_ret;exact ⟨Ae HC.out.symm,hb.out⟩
 ·have HM:Hid (Jy ms=false):=by show _=_;simp [Jy,h10]
  go_enter Tryz.func78,Tryz.ntmps78;go_wp2_with fail;go_ret;exact ⟨Ae HM.out.symm,by go_grown⟩
end Go.Proofs.YtpeajnkkdioflaaGreat
