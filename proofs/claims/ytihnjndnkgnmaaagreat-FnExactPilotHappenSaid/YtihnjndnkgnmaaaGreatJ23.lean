import Derived.Test.YtihnjndnkgnmaaaGreatVa6
import Derived.Test.YtihnjndnkgnmaaaGreatFnd
import Derived.Sort.AtCall
set_option maxHeartbeats 4000000
set_option maxRecDepth 100000
namespace Go.Proofs.YtihnjndnkgnmaaaGreat
open Go.RowKit Go.WideMaps Go.Maps
def Bj (x:Flt):Bool:=Cz x && (Ei x && (Bv x.berths && (Eg x.services && (Br x && Cs x.berths x.copies))))
theorem Zk (w:World) :
  Calls Tryz.prog 62 #[] w fun e w'=>∃ g,e=.returned (.slice (some ⟨g,0,none⟩) 6 6) ∧
   w'.rangeAt g 0 [.func (.func 91) #[] #[],.func (.func 92) #[] #[],.func (.func 93) #[] #[],.func (.func 94) #[] #[],.func (.func 95) #[] #[],.func (.func 96) #[] #[]]∧g<w'.heap.size∧Below w.heap.size w w':=by
 go_enter Tryz.func62,Tryz.ntmps62;go_wp2_with fail;go_ret;refine ⟨_,rfl,?_,?_,?_⟩
 ·exact Aa (by simp) (Aa (by simp) (Aa (by simp) (Aa (by simp) (Aa (by simp) (Aa (by simp) (Ap _ _ _))))))
 ·simp
 ·go_grown
end Go.Proofs.YtihnjndnkgnmaaaGreat
namespace Go.Proofs.YtihnjndnkgnmaaaGreat
open Go.RowKit
theorem fY {s:BA} {k:Nat} (hlt:k<s.size) (h:s[k].toNat=61) (hn:∀ j,j<k→s.data.toList[j]?≠some 61):Cg s=k:=by
 have hk:s.data.toList[k]?=some 61:=by
  rw [gE (by simpa using hlt)]
  congr 1
  exact UInt8.toNat_inj.1 h
 by_cases hz:Cg s=-1
 ·exact absurd hk (Lib.indexByte_none hz k)
 ·obtain ⟨o,ho⟩:∃ o:Nat,Cg s=o:=⟨(Cg s).toNat,by have:=Oj s;omega⟩
  have h2:=Lib.indexByte_some ho;rcases Nat.lt_trichotomy o k with h3 | h3 | h3
  ·exact absurd h2.1 (hn o h3)
  ·rw [ho,h3]
  ·exact absurd hk (h2.2 k h3)
theorem Vn {s:BA} (hn:∀ j,j<s.size→s.data.toList[j]?≠some 61):Cg s=-1:=by
 by_cases hz:Cg s=-1
 ·exact hz
 ·obtain ⟨o,ho⟩:∃ o:Nat,Cg s=o:=⟨(Cg s).toNat,by have:=Oj s;omega⟩
  exact absurd (Lib.indexByte_some ho).1 (hn o (Vs ho))
theorem Qw (s:BA) (w:World) (hs:s.size≤maxLen) :
  Calls Tryz.prog 111 #[.string s] w (Rt (.tuple #[.string (Az s),.string (Gt s),.bool (Dp s)]) w):=by
 have HS:=iH hs;unfold maxLen at hs;go_enter Tryz.func111,Tryz.ntmps111;go_wp2_with fail;go_loopw [5] (fun i wr=>∃ k:Nat,k≤s.size∧i=.int .i64 k∧Hid (∀ j,j<k→s.data.toList[j]?≠some 61)∧Below w.heap.size w wr) (fun i _=>s.size - (intOf i).toNat)
 case atStart=>exact ⟨0,zL,rfl,fun j h=>absurd h (Nat.not_lt_zero _),Below.refl _ _⟩
 case round =>
  obtain ⟨k,hk,rfl,hn,hbel⟩:=hrel;by_cases hlt:k<s.size
  ·by_cases hb:s[k].toNat=61
   ·have HE:Hid (Cg s=k):=fY hlt hb hn.out
    have HN:Hid (¬ Cg s<0):=by have:=HE.out;show ¬ _;omega
    have hbq:((s[k].toNat:Int) == 61)=true:=by simp;omega
    have HB:=iH hbel;have HNm:Hid (Az s=s.extract 0 k):=by show _=_;unfold Az;rw [if_neg HN.out,HE.out];rfl
    obtain ⟨n1,hn1⟩:∃ n1:Nat,n1=k+1:=⟨_,rfl⟩;have HVl:Hid (Gt s=s.extract n1 s.size):=by show _=_;unfold Gt;rw [if_neg HN.out,HE.out,hn1];rfl
    have HMk:Hid (Dp s=(P.nameOk (s.extract 0 k) && P.nameOk (s.extract n1 s.size))):=by show _=_;unfold Dp;rw [decide_eq_false HN.out,Bool.false_or,HNm.out,HVl.out]
    have i0:(0:Int)≤(k:Int):=by omega
    have i1:(k:Int)≤(s.size:Int):=by omega
    have i2:(n1:Int)≤(s.size:Int):=by omega
    have i3:(0:Int)≤(n1:Int):=by omega
    have HW:Hid (IntKind.i64.wrap ((k:Int)+1)=(n1:Int)):=by show _=_;rw [IntKind.wrap_i64];omega
    have Z1:Hid ((s.extract 0 k).size≤maxLen):=by have:=Il HS;rw [HNm.out] at this;exact this
    have Z2:Hid ((s.extract n1 s.size).size≤maxLen):=by have:=Rw HS;rw [HVl.out] at this;exact this
    clear hn hbel hn1;go_upto_region 5 with fail;generalize hX:P.nameOk (s.extract 0 k)=X at *;generalize hY:P.nameOk (s.extract n1 s.size)=Y at *;have cN:∀ d os,Calls Tryz.prog 47 #[.string (s.extract 0 k)] (Sort.grow (redrawn wr d) os) fun e w''=>e=.returned (.bool X)∧∃ p:Regrown,w''=Sort.grow (redrawn wr p.d) p.os:=fun d os=>by
     refine (Bi _ _ Z1).mono ?_;rintro e w' ⟨rfl,rfl⟩;exact ⟨by rw [hX],⟨d,os⟩,rfl⟩
    have cV:∀ d os,Calls Tryz.prog 47 #[.string (s.extract n1 s.size)] (Sort.grow (redrawn wr d) os) fun e w''=>e=.returned (.bool Y)∧∃ p:Regrown,w''=Sort.grow (redrawn wr p.d) p.os:=fun d os=>by
     refine (Bi _ _ Z2).mono ?_;rintro e w' ⟨rfl,rfl⟩;exact ⟨by rw [hY],⟨d,os⟩,rfl⟩
    clear hX hY
    cases X with
    | false =>
     refine wp_region_quiet_below (by kernel_rfl) (by kernel_rfl) ?_
     repeat (quiet_step (first | (go_at_call_has 47 (s.extract 0 k);exact cN _ _) | (go_at_call_has 47 (s.extract n1 s.size);exact cV _ _)))
     rw [HW.out]
     repeat (quiet_step (first | (go_at_call_has 47 (s.extract 0 k);exact cN _ _) | (go_at_call_has 47 (s.extract n1 s.size);exact cV _ _)))
     refine wpQuiet_nil ?_;intro w5 hw';obtain ⟨⟨dq,osq⟩,hw''⟩:=hw';have hB:=below_regrown wr dq osq;simp only [] at hw'';rw [← hw''] at hB;clear hw'' cN cV;have HB5:=qT HB hB;clear hB;go_wp2_with fail
     go_ret3
     exact ⟨by rw [HNm.out,HVl.out,HMk.out];rfl,HB5⟩
    | true =>
     refine wp_region_quiet_below (by kernel_rfl) (by kernel_rfl) ?_
     repeat (quiet_step (first | (go_at_call_has 47 (s.extract 0 k);exact cN _ _) | (go_at_call_has 47 (s.extract n1 s.size);exact cV _ _)))
     rw [HW.out]
     repeat (quiet_step (first | (go_at_call_has 47 (s.extract 0 k);exact cN _ _) | (go_at_call_has 47 (s.extract n1 s.size);exact cV _ _)))
     rw [HW.out]
     repeat (quiet_step (first | (go_at_call_has 47 (s.extract 0 k);exact cN _ _) | (go_at_call_has 47 (s.extract n1 s.size);exact cV _ _)))
     refine wpQuiet_nil ?_;intro w5 hw';obtain ⟨⟨dq,osq⟩,hw''⟩:=hw';have hB:=below_regrown wr dq osq;simp only [] at hw'';rw [← hw''] at hB;clear hw'' cN cV;have HB5:=qT HB hB;clear hB;go_wp2_with fail
     go_ret3
     exact ⟨by rw [HNm.out,HVl.out,HMk.out];rfl,HB5⟩
   ·have hbq:((s[k].toNat:Int) == 61)=false:=by simp;omega
    have HN:Hid (∀ j,j<k+1→s.data.toList[j]?≠some 61):=by
     intro j hj e;by_cases hjk:j=k
     ·subst hjk
      rw [gE (by simpa using hlt)] at e;injection e with e;exact hb (by rw [show s[j]=(61:UInt8) from e];rfl)
     ·exact hn.out j (by omega) e
    clear hn hb;go_wp2_with fail;go_roundw
    case rel=>exact ⟨k+1,by omega,by go_num,HN,hbel⟩
    case measure=>simp [intOf];omega
  ·have hke:k=s.size:=by omega
   have HE:Hid (Cg s<0):=by have:=Vn (s:=s) (fun j hj=>hn.out j (by omega));show _<_;omega
   have HNm:Hid (Az s=s):=by show _=_;unfold Az;rw [if_pos HE.out]
   have HVl:Hid (Gt s=⟨#[]⟩):=by show _=_;unfold Gt;rw [if_pos HE.out]
   have HMk:Hid (Dp s=P.nameOk s):=by show _=_;unfold Dp;rw [decide_eq_true HE.out,Bool.true_or,Bool.and_true,HNm.out]
   have HB:=iH hbel;clear hn hbel;subst hke;go_wp2_with fail;refine (Bi s _ HS).mono ?_;rintro e w' ⟨rfl,rfl⟩;generalize P.nameOk s=X at *;go_wp2_with fail
   go_ret3
   exact ⟨by rw [HNm.out,HVl.out,HMk.out];rfl,HB⟩
def Cm (ms:List BA) (nm:BA):Nat→Bool
 | 0=>true
 | j+1=>Cm ms nm j && (match ms[j]? with
  | some t=>!decide (Az t=nm)
  | none=>true)
def Ip (ms:List BA):Nat→Bool
 | 0=>match ms[0]? with
  | none=>true
  | some m=>Dp m
 | j+1=>match ms[j+1]?,ms[j]? with
  | some m,some t=>Dp m && Op.bytesLess t.toList m.toList && !decide (Az m=Az t) && Cm ms (Az m) (j+1)
  | _,_=>true
def Mb (ms:List BA):Nat→Bool
 | 0=>true
 | k+1=>Mb ms k && Ip ms k
def Kw (ms:List BA):Bool:=decide (ms.length≤10) && Mb ms ms.length
theorem Ox {ms:List BA} {k:Nat} (h:Ip ms k=false):∀ n,k<n→Mb ms n=false
 | 0,hn=>absurd hn (Nat.not_lt_zero _)
 | n+1,hn=>by
  by_cases e:k=n
  ·subst e;simp only [Mb,h,Bool.and_false]
  ·simp only [Mb,Ox h n (by omega),Bool.false_and]
theorem Og {ms:List BA} {k:Nat} (h:Ip ms k=false) (hk:k<ms.length):Kw ms=false:=by
 simp only [Kw,Ox h _ hk,Bool.and_false]
theorem bO {ms:List BA} {k:Nat} (h:Mb ms k=true) (h':Ip ms k=true):Mb ms (k+1)=true:=by
 simp only [Mb,h,h',Bool.and_self]
theorem Nn {ms:List BA} {nm:BA} {q:Nat} {t:BA} (h:ms[q]?=some t) (h':Az t=nm):∀ n,q<n→Cm ms nm n=false
 | 0,hn=>absurd hn (Nat.not_lt_zero _)
 | n+1,hn=>by
  by_cases e:q=n
  ·subst e;simp only [Cm,h,h',decide_true,Bool.not_true,Bool.and_false]
  ·simp only [Cm,Nn h h' n (by omega),Bool.false_and]
theorem Yc {ms:List BA} {nm:BA} {q:Nat} {t:BA} (h:Cm ms nm q=true) (ht:ms[q]?=some t) (h':¬ Az t=nm):Cm ms nm (q+1)=true:=by
 simp only [Cm,h,ht,h',decide_false,Bool.not_false,Bool.and_self]
def Fu (ms:List BA) (k:Nat) (m L:BA):Bool :=
 !Dp m || (match k with
  | 0=>false
  | j+1=>match ms[j]? with
   | some t=>!Op.bytesLess t.toList m.toList || decide (Az m=L)
   | none=>false)
theorem Ux {ms:List BA} {k:Nat} {m L:BA} (h:Dp m=false):Fu ms k m L=true:=by simp [Fu,h]
theorem Pc {ms:List BA} {m L:BA} (h:Dp m=true):Fu ms 0 m L=false:=by simp [Fu,h]
theorem Kj {ms:List BA} {j k:Nat} {m L t:BA} (h:Dp m=true) (hk:k=j+1) (ht:ms[j]?=some t):Fu ms k m L=(!Op.bytesLess t.toList m.toList || decide (Az m=L)):=by
 subst hk;simp only [Fu,h,ht,Bool.not_true,Bool.false_or]
theorem Qp {ms:List BA} {k:Nat} {m L:BA} (hx:ms[k]?=some m) (hl:∀ j t,k=j+1→ms[j]?=some t→L=Az t) (hlt:k<ms.length) (h1:Fu ms k m L=true):Ip ms k=false:=by
 cases k with
 | zero=>cases hi:Dp m with
  | false=>simp only [Ip,hx,hi]
  | true=>rw [Pc hi] at h1;cases h1
 | succ j =>
  obtain ⟨t,htt⟩:∃ t,ms[j]?=some t:=⟨ms[j],gE (by omega)⟩;have hlt':=hl j t rfl htt;subst hlt';simp only [Ip,hx,htt]
  cases hi:Dp m with
  | false=>simp
  | true =>
   rw [Kj hi rfl htt] at h1
   cases hbl:Op.bytesLess t.toList m.toList with
   | false=>simp
   | true =>
    rw [hbl] at h1;simp at h1;simp [h1]
theorem Piq {ms:List BA} {k:Nat} {m L:BA} (hx:ms[k]?=some m) (hl:∀ j t,k=j+1→ms[j]?=some t→L=Az t) (hlt:k<ms.length) (h1:Fu ms k m L=false) (hf:Cm ms (Az m) k=true):Ip ms k=true:=by
 cases hi:Dp m with
 | false=>rw [Ux hi] at h1;cases h1
 | true =>
 cases k with
 | zero=>simp only [Ip,hx,hi]
 | succ j =>
  obtain ⟨t,htt⟩:∃ t,ms[j]?=some t:=⟨ms[j],gE (by omega)⟩;have hlt':=hl j t rfl htt;subst hlt';rw [Kj hi rfl htt] at h1;simp only [Ip,hx,htt,hi,hf];simp at h1;simp [h1]
theorem Pj {ms:List BA} {k:Nat} {m:BA} (hx:ms[k]?=some m) (hlt:k<ms.length) (hf:Cm ms (Az m) k=false):Ip ms k=false:=by
 cases k with
 | zero=>simp [Cm] at hf
 | succ j =>
  obtain ⟨t,htt⟩:∃ t,ms[j]?=some t:=⟨ms[j],gE (by omega)⟩;simp only [Ip,hx,htt,hf,Bool.and_false]
theorem Uj (ms:List BA) (a:OA) (cap lo:Nat) (w:World) (hin:SliceC StrC 1 lo w a ms) :
  Calls Tryz.prog 83 #[.slice a ms.length cap] w (Rt (.bool (Kw ms)) w):=by
 have hlen:=hin.1;unfold maxLen at hlen;have HI:=iH hin;clear hin;by_cases h10:ms.length≤10
 ·have HM:Hid (Kw ms=Mb ms ms.length):=by show _=_;simp [Kw,h10]
  go_enter Tryz.func83,Tryz.ntmps83;go_wp2_with fail;go_loopw [3,4] (fun v i wr=>∃ (k:Nat) (L:BA),k≤ms.length∧i=.int .i64 k∧v=.string L∧Hid (Mb ms k=true)∧Hid (∀ j t,k=j+1→ms[j]?=some t→L=Az t)∧Hid (Below w.heap.size w wr)) (fun _ i _=>ms.length - (intOf i).toNat)
  case atStart=>exact ⟨0,_,zL,rfl,rfl,rfl,fun j t h=>by omega,Below.refl _ _⟩
  case round =>
   obtain ⟨k,L,hk,rfl,rfl,ht,hL,hb⟩:=hrel;by_cases hlt:k<ms.length
   ·obtain ⟨m,hm⟩:=gX hlt
    obtain ⟨b,o,rfl,_,_,hc⟩:=(HI.out.below StrC.holds hb.out nL).at hm;obtain ⟨q0,z0⟩:=hc;simp only [Nat.mul_one,Nat.add_zero] at q0;have HX:=iH hm;have HZ:=iH z0;clear hm z0;go_wp2_with fail;refine (Qw m _ HZ).mono ?_;rintro e w2 ⟨rfl,hb2⟩;have HB2:=qT hb hb2;have HI2:=iH (HI.out.below StrC.holds HB2 nL);clear hb2 hb q0;generalize hnm:Az m=nm at *;have HNM:=iH hnm;clear hnm;generalize Gt m=vl at *;go_upto_region 8 with fail
    go_cut [52] (fun c wx=>c=.bool (Fu ms k m L)∧Hid (Below w2.heap.size w2 wx))
    case first =>
     rcases Bool.eq_false_or_eq_true (Dp m) with hmk | hmk
     rotate_left
     ·have HR:Hid (Fu ms k m L=true):=by show _=_;exact Ux hmk
      clear hL ht HI2 HM;refine wp_region_quiet_below (by kernel_rfl) (by kernel_rfl) ?_
      repeat (go_big_quiet_step (fail))
      refine wpQuiet_nil ?_;intro w5 hw';obtain ⟨⟨dq,osq⟩,hw''⟩:=hw';have hB:=below_regrown w2 dq osq;simp only [] at hw'';rw [← hw''] at hB;clear hw'';go_wp2_with fail;go_meet;exact ⟨by rw [HR.out],hB⟩
     ·rcases Nat.eq_zero_or_pos k with hk0 | hk0
      ·subst hk0
       have HR:Hid (Fu ms 0 m L=false):=by show _=_;exact Pc hmk
       clear hL ht HI2 HM;refine wp_region_quiet_below (by kernel_rfl) (by kernel_rfl) ?_
       repeat (go_big_quiet_step (fail))
       refine wpQuiet_nil ?_;intro w5 hw';obtain ⟨⟨dq,osq⟩,hw''⟩:=hw';have hB:=below_regrown w2 dq osq;simp only [] at hw'';rw [← hw''] at hB;clear hw'';go_wp2_with fail;go_meet;exact ⟨by rw [HR.out],hB⟩
      ·obtain ⟨j,hj⟩:∃ j,k=j+1:=⟨k - 1,by omega⟩
       obtain ⟨t,htt⟩:∃ t,ms[j]?=some t:=⟨ms[j],gE (by omega)⟩;obtain ⟨b',o',hbo,_,_,hc'⟩:=HI2.out.at htt;cases hbo
       obtain ⟨q1,z1⟩:=hc';obtain ⟨b2,o2,hbo2,_,_,hc2⟩:=HI2.out.at HX;cases hbo2
       obtain ⟨q2,_⟩:=hc2;simp only [Nat.mul_one,Nat.add_zero] at q1 q2;have q1':w2.cell? ⟨b,o+(k - 1),none⟩=some (.string t):=by rw [show k - 1=j from by omega];exact q1
       have r1:=cell_regrown q1';have r2:=cell_regrown q2;have hjl:j<ms.length:=by omega
       have i0:(0:Int)≤(j:Int):=by omega
       have i1:(j:Int)<(ms.length:Int):=by omega
       have i2:(0:Int)<(k:Int):=by omega
       have i3:(0:Int)≤(k:Int):=by omega
       have i4:(k:Int)<(ms.length:Int):=by omega
       have HWJ:Hid (IntKind.i64.wrap ((k:Int) - 1)=(j:Int)):=by show _=_;rw [IntKind.wrap_i64];omega
       have HS:Hid (Fu ms k m L=(!Op.bytesLess t.toList m.toList || decide (nm=L))):=by show _=_;rw [Kj hmk hj htt,HNM.out]
       clear z1 q1 q2 hj q1' HWJ;rcases Bool.eq_false_or_eq_true (Op.bytesLess t.toList m.toList) with hless | hless
       rotate_left
       ·have HR:Hid (Fu ms k m L=true):=by show _=_;rw [HS.out,hless];rfl
        clear hL ht HI2 HM;refine wp_region_quiet_below (by kernel_rfl) (by kernel_rfl) ?_
        repeat (go_big_quiet_step (fail))
        refine wpQuiet_nil ?_;intro w5 hw';obtain ⟨⟨dq,osq⟩,hw''⟩:=hw';have hB:=below_regrown w2 dq osq;simp only [] at hw'';rw [← hw''] at hB;clear hw'';go_wp2_with fail;go_meet;exact ⟨by rw [HR.out],hB⟩
       ·by_cases hne:nm=L
        ·have hte:=Gf hne
         have HR:Hid (Fu ms k m L=true):=by show _=_;rw [HS.out,hless,decide_eq_true hne];rfl
         clear hL ht HI2 HM;refine wp_region_quiet_below (by kernel_rfl) (by kernel_rfl) ?_
         repeat (go_big_quiet_step (fail))
         refine wpQuiet_nil ?_;intro w5 hw';obtain ⟨⟨dq,osq⟩,hw''⟩:=hw';have hB:=below_regrown w2 dq osq;simp only [] at hw'';rw [← hw''] at hB;clear hw'';go_wp2_with fail;go_meet;exact ⟨by rw [HR.out],hB⟩
        ·have hte:=Fd hne
         have HR:Hid (Fu ms k m L=false):=by show _=_;rw [HS.out,hless,decide_eq_false hne];rfl
         clear hL ht HI2 HM;refine wp_region_quiet_below (by kernel_rfl) (by kernel_rfl) ?_
         repeat (go_big_quiet_step (fail))
         refine wpQuiet_nil ?_;intro w5 hw';obtain ⟨⟨dq,osq⟩,hw''⟩:=hw';have hB:=below_regrown w2 dq osq;simp only [] at hw'';rw [← hw''] at hB;clear hw'';go_wp2_with fail;go_meet;exact ⟨by rw [HR.out],hB⟩
    case rest =>
     obtain ⟨rfl,hbc⟩:=hcut;have HB3:=iH (HB2.out.trans (hbc.out.mono HB2.out.size));clear hbc HB2
     cases hbd:Fu ms k m L with
     | true =>
      have HC:Hid (Kw ms=false):=Og (k:=k) (Qp HX hL.out hlt hbd) hlt;clear hL ht hbd;go_wp2_with fail;go_ret;exact ⟨Ah HC.out.symm,HB3⟩
     | false =>
      have HA:Hid (Cm ms nm k=true→Ip ms k=true):=fun hf=>Piq HX hL.out hlt hbd (by rw [HNM.out];exact hf)
      have HF:Hid (Cm ms nm k=false→Ip ms k=false):=fun hf=>Pj HX hlt (by rw [HNM.out];exact hf)
      clear hL hbd;go_wp2_with fail;obtain ⟨wo,hwo⟩:∃ wo,wo=wc:=⟨_,rfl⟩;subst hwo;go_loopw [8] (fun i wx=>∃ q:Nat,q≤k∧i=.int .i64 q∧Hid (Cm ms nm q=true)∧Hid (Below w.heap.size w wx)) (fun i _=>k - (intOf i).toNat)
      case atStart=>exact ⟨0,zL,rfl,rfl,HB3⟩
      case round =>
       clear HB3;obtain ⟨q,hq,rfl,hfr,hbq⟩:=hrel;by_cases hql:q<k
       ·obtain ⟨t,htt⟩:∃ t,ms[q]?=some t:=⟨ms[q],gE (by omega)⟩
        obtain ⟨b',o',hbo,_,_,hc'⟩:=(HI.out.below StrC.holds hbq.out nL).at htt;cases hbo
        obtain ⟨q1,z1⟩:=hc';simp only [Nat.mul_one,Nat.add_zero] at q1;have HT:=iH htt;have HTZ:=iH z1;have hqm:q<ms.length:=by omega
        clear htt z1;go_wp2_with fail;refine (Qw t _ HTZ).mono ?_;rintro e w5 ⟨rfl,hb5⟩;have HB5:=qT hbq hb5;clear hb5 hbq q1;by_cases hne:Az t=nm
        ·have HC:Hid (Kw ms=false):=Og (k:=k) (HF (Nn HT hne k hql)) hlt
         have hte:=Gf hne;generalize Az t=nt at *;generalize Gt t=vt at *;clear hne HA HF ht hfr;go_wp2_with fail;go_ret;exact ⟨Ah HC.out.symm,HB5⟩
        ·have HN:Hid (Cm ms nm (q+1)=true):=Yc hfr.out HT hne
         have hte:=Fd hne;generalize Az t=nt at *;generalize Gt t=vt at *;clear hne hfr;go_wp2_with fail;go_roundw
         case rel=>exact ⟨q+1,by omega,by go_num,HN,HB5⟩
         case measure=>simp [intOf];omega
       ·have hqe:q=k:=by omega
        subst hqe;have HN:Hid (Mb ms (q+1)=true):=bO ht.out (HA hfr.out);have HLN:Hid (∀ j t,q+1=j+1→ms[j]?=some t→nm=Az t):=by
         intro j t hj htt;have e:q=j:=Nat.succ.inj hj;subst e;rw [HX.out] at htt;cases htt
         exact HNM.out.symm
        clear hfr HA HF ht;go_wp2_with fail;go_roundw
        case rel=>exact ⟨q+1,nm,by omega,by go_num,rfl,HN,HLN,hbq⟩
        case measure=>simp [intOf];omega
   ·have hke:k=ms.length:=by omega
    subst hke;have HC:Hid (Kw ms=true):=by show _=_;rw [HM.out];exact ht.out
    clear ht;go_wp2_with fail;go_ret;exact ⟨Ah HC.out.symm,hb.out⟩
 ·have HM:Hid (Kw ms=false):=by show _=_;simp [Kw,h10]
  go_enter Tryz.func83,Tryz.ntmps83;go_wp2_with fail;go_ret;exact ⟨Ah HM.out.symm,by go_grown⟩
end Go.Proofs.YtihnjndnkgnmaaaGreat
