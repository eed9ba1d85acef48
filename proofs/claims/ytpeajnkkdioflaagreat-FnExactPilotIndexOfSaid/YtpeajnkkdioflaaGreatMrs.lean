import Derived.Test.YtpeajnkkdioflaaGreatJ5
import Derived.Test.YtpeajnkkdioflaaGreatFlt
set_option maxHeartbeats 2000000
namespace Go.Proofs.YtpeajnkkdioflaaGreat
set_option maxRecDepth 100000
open Go.RowKit
theorem Qc (xs:List ByteArray) (a:Option Addr) (cap lo:Nat) (z:Int) (wx ws w:World) (hin:SliceC StrC 1 lo wx a xs) (hlo:0<lo) (hm:Mkd lo wx ws w) (h0:0<z) (h1:z+12*(wS ByteArray.size xs:Nat)≤1073741824) :
  Calls Tryz.prog 71 #[.slice a xs.length cap,.int .i64 z] w fun e w'=>∃ z',e=.returned (.int .i64 z')∧z≤z'∧z'≤z+12*(wS ByteArray.size xs:Nat)∧Mkd lo wx ws w':=by
 have hl:xs.length≤wS ByteArray.size xs:=Df;exact (St xs a cap lo z wx ws w hin hlo hm h0 (by omega)).mono fun _ _ h=>⟨_,h.1,by omega,by omega,h.2⟩
theorem Sy (xs:List Lik) (a:Option Addr) (cap lo:Nat) (z:Int) (wx ws w:World) (hin:SliceC LikC 2 lo wx a xs) (hlo:0<lo) (hm:Mkd lo wx ws w) (h0:0<z) (h1:z+12*(wS Cs xs:Nat)≤1073741824) :
  Calls Tryz.prog 72 #[.slice a xs.length cap,.int .i64 z] w fun e w'=>∃ z',e=.returned (.int .i64 z')∧z≤z'∧z'≤z+12*(wS Cs xs:Nat)∧Mkd lo wx ws w':=by
 have HI:=iH hin;have HM:=iH hm;have HW:Hid (wS Cs xs=xs.length+(xs.map Cs).sum):=rfl;have hlen:xs.length≤1048576000:=by have:=HW.out;omega
 have H1:=iH h1;clear hin hm h1;go_enter Tryz.func72,Tryz.ntmps72;go_wp2_with fail;go_loopw [1,5] (fun v i wr=>∃ (j:Nat) (y0:Int),j≤xs.length∧i=.int .i64 j∧v=.int .i64 y0∧z≤y0∧Hid (y0≤z+12*((j:Int)+(((xs.take j).map Cs).sum:Nat)))∧Hid (Mkd lo wx ws wr)) (fun _ i _=>xs.length - (intOf i).toNat)
 case atStart=>exact ⟨0,z,Nat.zero_le _,rfl,rfl,by omega,by show _≤_;simp,HM⟩
 case round =>
  clear HM;obtain ⟨j,y0,hj,rfl,rfl,hz0,hY,hM⟩:=hrel;by_cases hlt:j<xs.length
  ·obtain ⟨x,hx⟩:∃ x,xs[j]?=some x:=⟨xs[j],List.getElem?_eq_getElem hlt⟩
   obtain ⟨b,o,rfl,hb0,hbl,hc⟩:=HI.out.at hx;obtain ⟨q0,q1,_⟩:=hc;simp only [Nat.add_zero] at q0;have HS1:Hid (((xs.take (j+1)).map Cs).sum=((xs.take j).map Cs).sum+Cs x):=Du _ _ _ _ hx;have HS2:Hid (((xs.take (j+1)).map Cs).sum≤(xs.map Cs).sum):=Cj _ _ _;have hyb:y0+12*(1+(Cs x:Nat))≤1073741824:=by
    have e1:=HW.out;have e2:=HS1.out;have e3:=HS2.out;have e4:=hY.out;have e5:=H1.out;omega
   have Q0:=iH q0;have Q1:=iH q1;have hne:xs≠[]:=fun e=>by rw [e] at hlt;exact absurd hlt (Nat.not_lt_zero _)
   have HFZ:Hid (∀ p,wx.frozen? ⟨b,p,none⟩=false):=HI.out.frz hne hlo;have i0:(0:Int)≤(j:Int):=by omega
   have i1:(j:Int)<(xs.length:Int):=by omega
   clear hx hne q0 q1;go_wp2_with fail;refine (Cu _ _ (by omega) (by omega)).mono ?_;rintro e wa0 ⟨s0,rfl,hb⟩;have Ma0:=iH (hM.out.below hb);clear hb hM;obtain ⟨u0,d0⟩:=Ma0.out.so b (o+j*2) _ Q0.out;have g0:=(Ma0.out.fz b (o+j*2) hbl).trans (HFZ.out (o+j*2));have Mb0:=iH (Ma0.out.set hb0 Q0.out rfl (.string s0));go_upto_region 5 with fail;clear d0 g0 Ma0;generalize wa0.setCell ⟨b,o+j*2,none⟩ (.string s0)=wb0 at *;go_upto_region 6 with fail;obtain ⟨y1,hy1⟩:∃ t:Int,t=y0+1:=⟨_,rfl⟩;rw [← hy1];have ha1:z≤y1:=by omega
   have hb1:y1≤y0+1:=by omega
   clear hy1;obtain ⟨u1,d1⟩:=Mb0.out.so b (o+j*2+1) _ Q1.out;have g1:=(Mb0.out.fz b (o+j*2+1) hbl).trans (HFZ.out (o+j*2+1));have Mb1:=iH (Mb0.out.set hb0 Q1.out rfl (.int .i64 y1));go_upto_region 7 with fail;clear d1 g1 Mb0;generalize wb0.setCell ⟨b,o+j*2+1,none⟩ (.int .i64 y1)=wb1 at *;have HYE:Hid (y1+1≤z+12*(((j+1:Nat):Int)+(((xs.take (j+1)).map Cs).sum:Nat))):=by
    show _≤_
    have e2:=HS1.out;have e4:=hY.out;omega
   clear HS1 HS2 H1;go_wp2_with fail;go_roundw
   case rel=>exact ⟨j+1,y1+1,by omega,by go_num,rfl,by omega,HYE,Mb1⟩
   case measure=>simp [intOf];omega
  ·have hje:j=xs.length:=by omega
   subst hje;have HE:Hid (y0≤z+12*(wS Cs xs:Nat)):=by
    have e1:=HW.out;have e4:=hY.out;rw [List.take_length] at e4;show _≤_
    omega
   go_wp2_with fail;go_ret;exact ⟨y0,rfl,hz0,HE.out,hM.out⟩
theorem Ti (xs:List Svc) (a:Option Addr) (cap lo:Nat) (z:Int) (wx ws w:World) (hin:SliceC SvcC 2 lo wx a xs) (hlo:0<lo) (hm:Mkd lo wx ws w) (h0:0<z) (h1:z+12*(wS Cp xs:Nat)≤1073741824) :
  Calls Tryz.prog 31 #[.slice a xs.length cap,.int .i64 z] w fun e w'=>∃ z',e=.returned (.int .i64 z')∧z≤z'∧z'≤z+12*(wS Cp xs:Nat)∧Mkd lo wx ws w':=by
 have HI:=iH hin;have HM:=iH hm;have HW:Hid (wS Cp xs=xs.length+(xs.map Cp).sum):=rfl;have hlen:xs.length≤1048576000:=by have:=HW.out;omega
 have H1:=iH h1;clear hin hm h1;go_enter Tryz.func31,Tryz.ntmps31;go_wp2_with fail;go_loopw [1,5] (fun v i wr=>∃ (j:Nat) (y0:Int),j≤xs.length∧i=.int .i64 j∧v=.int .i64 y0∧z≤y0∧Hid (y0≤z+12*((j:Int)+(((xs.take j).map Cp).sum:Nat)))∧Hid (Mkd lo wx ws wr)) (fun _ i _=>xs.length - (intOf i).toNat)
 case atStart=>exact ⟨0,z,Nat.zero_le _,rfl,rfl,by omega,by show _≤_;simp,HM⟩
 case round =>
  clear HM;obtain ⟨j,y0,hj,rfl,rfl,hz0,hY,hM⟩:=hrel;by_cases hlt:j<xs.length
  ·obtain ⟨x,hx⟩:∃ x,xs[j]?=some x:=⟨xs[j],List.getElem?_eq_getElem hlt⟩
   obtain ⟨b,o,rfl,hb0,hbl,hc⟩:=HI.out.at hx;obtain ⟨q0,q1,_⟩:=hc;simp only [Nat.add_zero] at q0;have HS1:Hid (((xs.take (j+1)).map Cp).sum=((xs.take j).map Cp).sum+Cp x):=Du _ _ _ _ hx;have HS2:Hid (((xs.take (j+1)).map Cp).sum≤(xs.map Cp).sum):=Cj _ _ _;have hyb:y0+12*(1+(Cp x:Nat))≤1073741824:=by
    have e1:=HW.out;have e2:=HS1.out;have e3:=HS2.out;have e4:=hY.out;have e5:=H1.out;omega
   have Q0:=iH q0;have Q1:=iH q1;have hne:xs≠[]:=fun e=>by rw [e] at hlt;exact absurd hlt (Nat.not_lt_zero _)
   have HFZ:Hid (∀ p,wx.frozen? ⟨b,p,none⟩=false):=HI.out.frz hne hlo;have i0:(0:Int)≤(j:Int):=by omega
   have i1:(j:Int)<(xs.length:Int):=by omega
   clear hx hne q0 q1;go_wp2_with fail;refine (Cu _ _ (by omega) (by omega)).mono ?_;rintro e wa0 ⟨s0,rfl,hb⟩;have Ma0:=iH (hM.out.below hb);clear hb hM;obtain ⟨u0,d0⟩:=Ma0.out.so b (o+j*2) _ Q0.out;have g0:=(Ma0.out.fz b (o+j*2) hbl).trans (HFZ.out (o+j*2));have Mb0:=iH (Ma0.out.set hb0 Q0.out rfl (.string s0));go_upto_region 5 with fail;clear d0 g0 Ma0;generalize wa0.setCell ⟨b,o+j*2,none⟩ (.string s0)=wb0 at *;go_upto_region 6 with fail;obtain ⟨y1,hy1⟩:∃ t:Int,t=y0+1:=⟨_,rfl⟩;rw [← hy1];have ha1:z≤y1:=by omega
   have hb1:y1≤y0+1:=by omega
   clear hy1;obtain ⟨u1,d1⟩:=Mb0.out.so b (o+j*2+1) _ Q1.out;have g1:=(Mb0.out.fz b (o+j*2+1) hbl).trans (HFZ.out (o+j*2+1));have Mb1:=iH (Mb0.out.set hb0 Q1.out rfl (.int .i64 y1));go_upto_region 7 with fail;clear d1 g1 Mb0;generalize wb0.setCell ⟨b,o+j*2+1,none⟩ (.int .i64 y1)=wb1 at *;have HYE:Hid (y1+1≤z+12*(((j+1:Nat):Int)+(((xs.take (j+1)).map Cp).sum:Nat))):=by
    show _≤_
    have e2:=HS1.out;have e4:=hY.out;omega
   clear HS1 HS2 H1;go_wp2_with fail;go_roundw
   case rel=>exact ⟨j+1,y1+1,by omega,by go_num,rfl,by omega,HYE,Mb1⟩
   case measure=>simp [intOf];omega
  ·have hje:j=xs.length:=by omega
   subst hje;have HE:Hid (y0≤z+12*(wS Cp xs:Nat)):=by
    have e1:=HW.out;have e4:=hY.out;rw [List.take_length] at e4;show _≤_
    omega
   go_wp2_with fail;go_ret;exact ⟨y0,rfl,hz0,HE.out,hM.out⟩
theorem Ty (xs:List Brt) (a:Option Addr) (cap lo:Nat) (z:Int) (wx ws w:World) (hin:SliceC BrtC 6 lo wx a xs) (hlo:0<lo) (hm:Mkd lo wx ws w) (h0:0<z) (h1:z+12*(wS Bw xs:Nat)≤1073741824) :
  Calls Tryz.prog 30 #[.slice a xs.length cap,.int .i64 z] w fun e w'=>∃ z',e=.returned (.int .i64 z')∧z≤z'∧z'≤z+12*(wS Bw xs:Nat)∧Mkd lo wx ws w':=by
 have HI:=iH hin;have HM:=iH hm;have HW:Hid (wS Bw xs=xs.length+(xs.map Bw).sum):=rfl;have hlen:xs.length≤1048576000:=by have:=HW.out;omega
 have H1:=iH h1;clear hin hm h1;go_enter Tryz.func30,Tryz.ntmps30;go_wp2_with fail;go_loopw [1,5] (fun v i wr=>∃ (j:Nat) (y0:Int),j≤xs.length∧i=.int .i64 j∧v=.int .i64 y0∧z≤y0∧Hid (y0≤z+12*((j:Int)+(((xs.take j).map Bw).sum:Nat)))∧Hid (Mkd lo wx ws wr)) (fun _ i _=>xs.length - (intOf i).toNat)
 case atStart=>exact ⟨0,z,Nat.zero_le _,rfl,rfl,by omega,by show _≤_;simp,HM⟩
 case round =>
  clear HM;obtain ⟨j,y0,hj,rfl,rfl,hz0,hY,hM⟩:=hrel;by_cases hlt:j<xs.length
  ·obtain ⟨x,hx⟩:∃ x,xs[j]?=some x:=⟨xs[j],List.getElem?_eq_getElem hlt⟩
   obtain ⟨b,o,rfl,hb0,hbl,hc⟩:=HI.out.at hx;obtain ⟨a2,c2,q0,q1,q2,q3,q4,q5,_,_,n2⟩:=hc;simp only [Nat.add_zero] at q0;have HS1:Hid (((xs.take (j+1)).map Bw).sum=((xs.take j).map Bw).sum+Bw x):=Du _ _ _ _ hx;have HS2:Hid (((xs.take (j+1)).map Bw).sum≤(xs.map Bw).sum):=Cj _ _ _;have hyb:y0+12*(1+(Bw x:Nat))≤1073741824:=by
    have e1:=HW.out;have e2:=HS1.out;have e3:=HS2.out;have e4:=hY.out;have e5:=H1.out;omega
   have hn2:wS ByteArray.size x.marks≤Bw x:=by unfold Bw;omega
   have N2:=iH n2;have Q0:=iH q0;have Q1:=iH q1;have Q2:=iH q2;have Q3:=iH q3;have Q4:=iH q4;have Q5:=iH q5;have hne:xs≠[]:=fun e=>by rw [e] at hlt;exact absurd hlt (Nat.not_lt_zero _)
   have HFZ:Hid (∀ p,wx.frozen? ⟨b,p,none⟩=false):=HI.out.frz hne hlo;have i0:(0:Int)≤(j:Int):=by omega
   have i1:(j:Int)<(xs.length:Int):=by omega
   clear hx hne q0 q1 q2 q3 q4 q5 n2;go_wp2_with fail;refine (Cu _ _ (by omega) (by omega)).mono ?_;rintro e wa0 ⟨s0,rfl,hb⟩;have Ma0:=iH (hM.out.below hb);clear hb hM;obtain ⟨u0,d0⟩:=Ma0.out.so b (o+j*6) _ Q0.out;have g0:=(Ma0.out.fz b (o+j*6) hbl).trans (HFZ.out (o+j*6));have Mb0:=iH (Ma0.out.set hb0 Q0.out rfl (.string s0));go_upto_region 5 with fail;clear d0 g0 Ma0;generalize wa0.setCell ⟨b,o+j*6,none⟩ (.string s0)=wb0 at *;go_upto_region 6 with fail;obtain ⟨y1,hy1⟩:∃ t:Int,t=y0+1:=⟨_,rfl⟩;rw [← hy1];have ha1:z≤y1:=by omega
   have hb1:y1≤y0+1:=by omega
   clear hy1;go_wp2_with fail;refine (Cu _ _ (by omega) (by omega)).mono ?_;rintro e wa1 ⟨s1,rfl,hb⟩;have Ma1:=iH (Mb0.out.below hb);clear hb Mb0;obtain ⟨u1,d1⟩:=Ma1.out.so b (o+j*6+1) _ Q1.out;have g1:=(Ma1.out.fz b (o+j*6+1) hbl).trans (HFZ.out (o+j*6+1));have Mb1:=iH (Ma1.out.set hb0 Q1.out rfl (.string s1));go_upto_region 7 with fail;clear d1 g1 Ma1;generalize wa1.setCell ⟨b,o+j*6+1,none⟩ (.string s1)=wb1 at *;go_upto_region 8 with fail;obtain ⟨y2,hy2⟩:∃ t:Int,t=y1+1:=⟨_,rfl⟩;rw [← hy2];have ha2:z≤y2:=by omega
   have hb2:y2≤y1+1:=by omega
   clear hy2;have d2:=Mb1.out.sl b (o+j*6+2) _ Q2.out rfl;go_wp2_with fail;refine (Qc x.marks a2 c2 lo _ wx ws _ N2.out hlo Mb1.out (by omega) (by omega)).mono ?_;rintro e wb2 ⟨y3,rfl,ha3,hb3,hm2⟩;have Mb2:=iH hm2;clear hm2 d2 Mb1;go_upto_region 9 with fail;obtain ⟨u3,d3⟩:=Mb2.out.so b (o+j*6+3) _ Q3.out;have g3:=(Mb2.out.fz b (o+j*6+3) hbl).trans (HFZ.out (o+j*6+3));have Mb3:=iH (Mb2.out.set hb0 Q3.out rfl (.int .i64 y3));go_upto_region 10 with fail;clear d3 g3 Mb2;generalize wb2.setCell ⟨b,o+j*6+3,none⟩ (.int .i64 y3)=wb3 at *;go_upto_region 11 with fail;obtain ⟨y4,hy4⟩:∃ t:Int,t=y3+1:=⟨_,rfl⟩;rw [← hy4];have ha4:z≤y4:=by omega
   have hb4:y4≤y3+1:=by omega
   clear hy4;obtain ⟨u4,d4⟩:=Mb3.out.so b (o+j*6+4) _ Q4.out;have g4:=(Mb3.out.fz b (o+j*6+4) hbl).trans (HFZ.out (o+j*6+4));have Mb4:=iH (Mb3.out.set hb0 Q4.out rfl (.int .i64 y4));go_upto_region 12 with fail;clear d4 g4 Mb3;generalize wb3.setCell ⟨b,o+j*6+4,none⟩ (.int .i64 y4)=wb4 at *;go_upto_region 13 with fail;obtain ⟨y5,hy5⟩:∃ t:Int,t=y4+1:=⟨_,rfl⟩;rw [← hy5];have ha5:z≤y5:=by omega
   have hb5:y5≤y4+1:=by omega
   clear hy5;obtain ⟨u5,d5⟩:=Mb4.out.so b (o+j*6+5) _ Q5.out;have g5:=(Mb4.out.fz b (o+j*6+5) hbl).trans (HFZ.out (o+j*6+5));have HYE:Hid (y5+1≤z+12*(((j+1:Nat):Int)+(((xs.take (j+1)).map Bw).sum:Nat))):=by
    show _≤_
    have e2:=HS1.out;have e4:=hY.out;omega
   clear HS1 HS2 H1;go_wp2_with fail;go_roundw
   case rel=>exact ⟨j+1,y5+1,by omega,by go_num,rfl,by omega,HYE,iH (Mb4.out.set hb0 Q5.out rfl _)⟩
   case measure=>simp [intOf];omega
  ·have hje:j=xs.length:=by omega
   subst hje;have HE:Hid (y0≤z+12*(wS Bw xs:Nat)):=by
    have e1:=HW.out;have e4:=hY.out;rw [List.take_length] at e4;show _≤_
    omega
   go_wp2_with fail;go_ret;exact ⟨y0,rfl,hz0,HE.out,hM.out⟩
theorem Sn (xs:List Cpy) (a:Option Addr) (cap lo:Nat) (z:Int) (wx ws w:World) (hin:SliceC CpyC 12 lo wx a xs) (hlo:0<lo) (hm:Mkd lo wx ws w) (h0:0<z) (h1:z+12*(wS Cf xs:Nat)≤1073741824) :
  Calls Tryz.prog 32 #[.slice a xs.length cap,.int .i64 z] w fun e w'=>∃ z',e=.returned (.int .i64 z')∧z≤z'∧z'≤z+12*(wS Cf xs:Nat)∧Mkd lo wx ws w':=by
 have HI:=iH hin;have HM:=iH hm;have HW:Hid (wS Cf xs=xs.length+(xs.map Cf).sum):=rfl;have hlen:xs.length≤1048576000:=by have:=HW.out;omega
 have H1:=iH h1;clear hin hm h1;go_enter Tryz.func32,Tryz.ntmps32;go_wp2_with fail;go_loopw [1,5] (fun v i wr=>∃ (j:Nat) (y0:Int),j≤xs.length∧i=.int .i64 j∧v=.int .i64 y0∧z≤y0∧Hid (y0≤z+12*((j:Int)+(((xs.take j).map Cf).sum:Nat)))∧Hid (Mkd lo wx ws wr)) (fun _ i _=>xs.length - (intOf i).toNat)
 case atStart=>exact ⟨0,z,Nat.zero_le _,rfl,rfl,by omega,by show _≤_;simp,HM⟩
 case round =>
  clear HM;obtain ⟨j,y0,hj,rfl,rfl,hz0,hY,hM⟩:=hrel;by_cases hlt:j<xs.length
  ·obtain ⟨x,hx⟩:∃ x,xs[j]?=some x:=⟨xs[j],List.getElem?_eq_getElem hlt⟩
   obtain ⟨b,o,rfl,hb0,hbl,hc⟩:=HI.out.at hx;obtain ⟨a7,c7,q0,q1,q2,q3,q4,q5,q6,q7,q8,q9,q10,q11,_,_,_,_,_,_,n7⟩:=hc;simp only [Nat.add_zero] at q0;have HS1:Hid (((xs.take (j+1)).map Cf).sum=((xs.take j).map Cf).sum+Cf x):=Du _ _ _ _ hx;have HS2:Hid (((xs.take (j+1)).map Cf).sum≤(xs.map Cf).sum):=Cj _ _ _;have hyb:y0+12*(1+(Cf x:Nat))≤1073741824:=by
    have e1:=HW.out;have e2:=HS1.out;have e3:=HS2.out;have e4:=hY.out;have e5:=H1.out;omega
   have hn7:wS Cs x.likes≤Cf x:=by unfold Cf;omega
   have N7:=iH n7;have Q0:=iH q0;have Q1:=iH q1;have Q2:=iH q2;have Q3:=iH q3;have Q4:=iH q4;have Q5:=iH q5;have Q6:=iH q6;have Q7:=iH q7;have Q8:=iH q8;have Q9:=iH q9;have Q10:=iH q10;have Q11:=iH q11;have hne:xs≠[]:=fun e=>by rw [e] at hlt;exact absurd hlt (Nat.not_lt_zero _)
   have HFZ:Hid (∀ p,wx.frozen? ⟨b,p,none⟩=false):=HI.out.frz hne hlo;have i0:(0:Int)≤(j:Int):=by omega
   have i1:(j:Int)<(xs.length:Int):=by omega
   clear hx hne q0 q1 q2 q3 q4 q5 q6 q7 q8 q9 q10 q11 n7;go_wp2_with fail;refine (Cu _ _ (by omega) (by omega)).mono ?_;rintro e wa0 ⟨s0,rfl,hb⟩;have Ma0:=iH (hM.out.below hb);clear hb hM;obtain ⟨u0,d0⟩:=Ma0.out.so b (o+j*12) _ Q0.out;have g0:=(Ma0.out.fz b (o+j*12) hbl).trans (HFZ.out (o+j*12));have Mb0:=iH (Ma0.out.set hb0 Q0.out rfl (.string s0));go_upto_region 5 with fail;clear d0 g0 Ma0;generalize wa0.setCell ⟨b,o+j*12,none⟩ (.string s0)=wb0 at *;go_upto_region 6 with fail;obtain ⟨y1,hy1⟩:∃ t:Int,t=y0+1:=⟨_,rfl⟩;rw [← hy1];have ha1:z≤y1:=by omega
   have hb1:y1≤y0+1:=by omega
   clear hy1;go_wp2_with fail;refine (Cu _ _ (by omega) (by omega)).mono ?_;rintro e wa1 ⟨s1,rfl,hb⟩;have Ma1:=iH (Mb0.out.below hb);clear hb Mb0;obtain ⟨u1,d1⟩:=Ma1.out.so b (o+j*12+1) _ Q1.out;have g1:=(Ma1.out.fz b (o+j*12+1) hbl).trans (HFZ.out (o+j*12+1));have Mb1:=iH (Ma1.out.set hb0 Q1.out rfl (.string s1));go_upto_region 7 with fail;clear d1 g1 Ma1;generalize wa1.setCell ⟨b,o+j*12+1,none⟩ (.string s1)=wb1 at *;go_upto_region 8 with fail;obtain ⟨y2,hy2⟩:∃ t:Int,t=y1+1:=⟨_,rfl⟩;rw [← hy2];have ha2:z≤y2:=by omega
   have hb2:y2≤y1+1:=by omega
   clear hy2;obtain ⟨u2,d2⟩:=Mb1.out.so b (o+j*12+2) _ Q2.out;have g2:=(Mb1.out.fz b (o+j*12+2) hbl).trans (HFZ.out (o+j*12+2));have Mb2:=iH (Mb1.out.set hb0 Q2.out rfl (.int .i64 y2));go_upto_region 9 with fail;clear d2 g2 Mb1;generalize wb1.setCell ⟨b,o+j*12+2,none⟩ (.int .i64 y2)=wb2 at *;go_upto_region 10 with fail;obtain ⟨y3,hy3⟩:∃ t:Int,t=y2+1:=⟨_,rfl⟩;rw [← hy3];have ha3:z≤y3:=by omega
   have hb3:y3≤y2+1:=by omega
   clear hy3;obtain ⟨u3,d3⟩:=Mb2.out.so b (o+j*12+3) _ Q3.out;have g3:=(Mb2.out.fz b (o+j*12+3) hbl).trans (HFZ.out (o+j*12+3));have Mb3:=iH (Mb2.out.set hb0 Q3.out rfl (.int .i64 y3));go_upto_region 11 with fail;clear d3 g3 Mb2;generalize wb2.setCell ⟨b,o+j*12+3,none⟩ (.int .i64 y3)=wb3 at *;go_upto_region 12 with fail;obtain ⟨y4,hy4⟩:∃ t:Int,t=y3+1:=⟨_,rfl⟩;rw [← hy4];have ha4:z≤y4:=by omega
   have hb4:y4≤y3+1:=by omega
   clear hy4;obtain ⟨u4,d4⟩:=Mb3.out.so b (o+j*12+4) _ Q4.out;have g4:=(Mb3.out.fz b (o+j*12+4) hbl).trans (HFZ.out (o+j*12+4));have Mb4:=iH (Mb3.out.set hb0 Q4.out rfl (.int .i64 y4));go_upto_region 13 with fail;clear d4 g4 Mb3;generalize wb3.setCell ⟨b,o+j*12+4,none⟩ (.int .i64 y4)=wb4 at *;go_upto_region 14 with fail;obtain ⟨y5,hy5⟩:∃ t:Int,t=y4+1:=⟨_,rfl⟩;rw [← hy5];have ha5:z≤y5:=by omega
   have hb5:y5≤y4+1:=by omega
   clear hy5;obtain ⟨u5,d5⟩:=Mb4.out.so b (o+j*12+5) _ Q5.out;have g5:=(Mb4.out.fz b (o+j*12+5) hbl).trans (HFZ.out (o+j*12+5));have Mb5:=iH (Mb4.out.set hb0 Q5.out rfl (.int .i64 y5));go_upto_region 15 with fail;clear d5 g5 Mb4;generalize wb4.setCell ⟨b,o+j*12+5,none⟩ (.int .i64 y5)=wb5 at *;go_upto_region 16 with fail;obtain ⟨y6,hy6⟩:∃ t:Int,t=y5+1:=⟨_,rfl⟩;rw [← hy6];have ha6:z≤y6:=by omega
   have hb6:y6≤y5+1:=by omega
   clear hy6;go_wp2_with fail;refine (Cu _ _ (by omega) (by omega)).mono ?_;rintro e wa6 ⟨s6,rfl,hb⟩;have Ma6:=iH (Mb5.out.below hb);clear hb Mb5;obtain ⟨u6,d6⟩:=Ma6.out.so b (o+j*12+6) _ Q6.out;have g6:=(Ma6.out.fz b (o+j*12+6) hbl).trans (HFZ.out (o+j*12+6));have Mb6:=iH (Ma6.out.set hb0 Q6.out rfl (.string s6));go_upto_region 17 with fail;clear d6 g6 Ma6;generalize wa6.setCell ⟨b,o+j*12+6,none⟩ (.string s6)=wb6 at *;go_upto_region 18 with fail;obtain ⟨y7,hy7⟩:∃ t:Int,t=y6+1:=⟨_,rfl⟩;rw [← hy7];have ha7:z≤y7:=by omega
   have hb7:y7≤y6+1:=by omega
   clear hy7;have d7:=Mb6.out.sl b (o+j*12+7) _ Q7.out rfl;go_wp2_with fail;refine (Sy x.likes a7 c7 lo _ wx ws _ N7.out hlo Mb6.out (by omega) (by omega)).mono ?_;rintro e wb7 ⟨y8,rfl,ha8,hb8,hm7⟩;have Mb7:=iH hm7;clear hm7 d7 Mb6;go_upto_region 19 with fail;obtain ⟨u8,d8⟩:=Mb7.out.so b (o+j*12+8) _ Q8.out;have g8:=(Mb7.out.fz b (o+j*12+8) hbl).trans (HFZ.out (o+j*12+8));have Mb8:=iH (Mb7.out.set hb0 Q8.out rfl (.int .i64 y8));go_upto_region 20 with fail;clear d8 g8 Mb7;generalize wb7.setCell ⟨b,o+j*12+8,none⟩ (.int .i64 y8)=wb8 at *;go_upto_region 21 with fail;obtain ⟨y9,hy9⟩:∃ t:Int,t=y8+1:=⟨_,rfl⟩;rw [← hy9];have ha9:z≤y9:=by omega
   have hb9:y9≤y8+1:=by omega
   clear hy9;go_wp2_with fail;refine (Cu _ _ (by omega) (by omega)).mono ?_;rintro e wa9 ⟨s9,rfl,hb⟩;have Ma9:=iH (Mb8.out.below hb);clear hb Mb8;obtain ⟨u9,d9⟩:=Ma9.out.so b (o+j*12+9) _ Q9.out;have g9:=(Ma9.out.fz b (o+j*12+9) hbl).trans (HFZ.out (o+j*12+9));have Mb9:=iH (Ma9.out.set hb0 Q9.out rfl (.string s9));go_upto_region 22 with fail;clear d9 g9 Ma9;generalize wa9.setCell ⟨b,o+j*12+9,none⟩ (.string s9)=wb9 at *;go_upto_region 23 with fail;obtain ⟨y10,hy10⟩:∃ t:Int,t=y9+1:=⟨_,rfl⟩;rw [← hy10];have ha10:z≤y10:=by omega
   have hb10:y10≤y9+1:=by omega
   clear hy10;go_wp2_with fail;refine (Cu _ _ (by omega) (by omega)).mono ?_;rintro e wa10 ⟨s10,rfl,hb⟩;have Ma10:=iH (Mb9.out.below hb);clear hb Mb9;obtain ⟨u10,d10⟩:=Ma10.out.so b (o+j*12+10) _ Q10.out;have g10:=(Ma10.out.fz b (o+j*12+10) hbl).trans (HFZ.out (o+j*12+10));have Mb10:=iH (Ma10.out.set hb0 Q10.out rfl (.string s10));go_upto_region 24 with fail;clear d10 g10 Ma10;generalize wa10.setCell ⟨b,o+j*12+10,none⟩ (.string s10)=wb10 at *;go_upto_region 25 with fail;obtain ⟨y11,hy11⟩:∃ t:Int,t=y10+1:=⟨_,rfl⟩;rw [← hy11];have ha11:z≤y11:=by omega
   have hb11:y11≤y10+1:=by omega
   clear hy11;go_wp2_with fail;refine (Cu _ _ (by omega) (by omega)).mono ?_;rintro e wa11 ⟨s11,rfl,hb⟩;have Ma11:=iH (Mb10.out.below hb);clear hb Mb10;obtain ⟨u11,d11⟩:=Ma11.out.so b (o+j*12+11) _ Q11.out;have g11:=(Ma11.out.fz b (o+j*12+11) hbl).trans (HFZ.out (o+j*12+11));have Mb11:=iH (Ma11.out.set hb0 Q11.out rfl (.string s11));go_upto_region 26 with fail;clear d11 g11 Ma11;generalize wa11.setCell ⟨b,o+j*12+11,none⟩ (.string s11)=wb11 at *;have HYE:Hid (y11+1≤z+12*(((j+1:Nat):Int)+(((xs.take (j+1)).map Cf).sum:Nat))):=by
    show _≤_
    have e2:=HS1.out;have e4:=hY.out;omega
   clear HS1 HS2 H1;go_wp2_with fail;go_roundw
   case rel=>exact ⟨j+1,y11+1,by omega,by go_num,rfl,by omega,HYE,Mb11⟩
   case measure=>simp [intOf];omega
  ·have hje:j=xs.length:=by omega
   subst hje;have HE:Hid (y0≤z+12*(wS Cf xs:Nat)):=by
    have e1:=HW.out;have e4:=hY.out;rw [List.take_length] at e4;show _≤_
    omega
   go_wp2_with fail;go_ret;exact ⟨y0,rfl,hz0,HE.out,hM.out⟩
theorem Ve (x:Flt) (a1:Option Addr) (c1:Nat) (a2:Option Addr) (c2:Nat) (a3:Option Addr) (c3:Nat) (lo:Nat) (z:Int) (wx ws w:World) (n1:SliceC BrtC 6 lo wx a1 x.berths) (n2:SliceC SvcC 2 lo wx a2 x.services) (n3:SliceC CpyC 12 lo wx a3 x.copies) (hlo:0<lo) (hm:Mkd lo wx ws w) (h0:0<z) (h1:z+12*(Di x:Nat)≤1073741824) :
  Calls Tryz.prog 10 #[.agg #[.bool x.pack,.slice a1 x.berths.length c1,.slice a2 x.services.length c2,.slice a3 x.copies.length c3],.int .i64 z] w fun e w'=>∃ z',e=.returned (.int .i64 z')∧z≤z'∧z'≤z+12*(Di x:Nat)∧Mkd lo wx ws w':=by
 have N1:=iH n1;have N2:=iH n2;have N3:=iH n3;have HM:=iH hm;have hw:Di x=wS Bw x.berths+wS Cp x.services+wS Cf x.copies:=rfl;have hw1:Di x≤wS Bw x.berths+wS Cp x.services+wS Cf x.copies:=by omega
 have hw2:wS Bw x.berths+wS Cp x.services+wS Cf x.copies≤Di x:=by omega
 clear n1 n2 n3 hm hw;go_enter Tryz.func10,Tryz.ntmps10;go_upto_region 1 with fail;have hbx:Below w.heap.size w (w.alloc (Obj.cells #[.bool x.pack,.slice a1 x.berths.length c1,.slice a2 x.services.length c2,.slice a3 x.copies.length c3] 38)):=(Below.refl _ w).alloc nL _;have k1:(w.alloc (Obj.cells #[.bool x.pack,.slice a1 x.berths.length c1,.slice a2 x.services.length c2,.slice a3 x.copies.length c3] 38)).cell? ⟨w.heap.size,1,none⟩=some (.slice a1 x.berths.length c1):=by simp
 have k2:(w.alloc (Obj.cells #[.bool x.pack,.slice a1 x.berths.length c1,.slice a2 x.services.length c2,.slice a3 x.copies.length c3] 38)).cell? ⟨w.heap.size,2,none⟩=some (.slice a2 x.services.length c2):=by simp
 have k3:(w.alloc (Obj.cells #[.bool x.pack,.slice a1 x.berths.length c1,.slice a2 x.services.length c2,.slice a3 x.copies.length c3] 38)).cell? ⟨w.heap.size,3,none⟩=some (.slice a3 x.copies.length c3):=by simp
 have M0:=iH (HM.out.below hbx);have hs0:w.heap.size<(w.alloc (Obj.cells #[.bool x.pack,.slice a1 x.berths.length c1,.slice a2 x.services.length c2,.slice a3 x.copies.length c3] 38)).heap.size:=by simp
 have hwx:wx.heap.size≤w.heap.size:=HM.out.sz;generalize (w.alloc (Obj.cells #[.bool x.pack,.slice a1 x.berths.length c1,.slice a2 x.services.length c2,.slice a3 x.copies.length c3] 38))=w0 at *;clear hbx HM;go_wp2_with fail;refine (Ty x.berths a1 c1 lo _ wx _ _ N1.out hlo M0.out.rebase (by omega) (by omega)).mono ?_;rintro e w1 ⟨z1,rfl,ha1,hb1,hm1⟩;have p2:=(hm1.up w.heap.size 2 hwx hs0).1.trans k2;have p3:=(hm1.up w.heap.size 3 hwx hs0).1.trans k3;have M1:=iH (M0.out.trans hm1);have hs1:w.heap.size<w1.heap.size:=block_lt_of_cell p2;clear hm1 M0 k1 k2 k3;go_wp2_with fail;refine (Ti x.services a2 c2 lo _ wx _ _ N2.out hlo M1.out.rebase (by omega) (by omega)).mono ?_;rintro e w2 ⟨z2,rfl,ha2,hb2,hm2⟩;have r3:=(hm2.up w.heap.size 3 hwx hs1).1.trans p3;have M2:=iH (M1.out.trans hm2);clear hm2 M1 p2 p3;go_wp2_with fail;refine (Sn x.copies a3 c3 lo _ wx _ _ N3.out hlo M2.out.rebase (by omega) (by omega)).mono ?_;rintro e w3 ⟨z3,rfl,ha3,hb3,hm3⟩;have M3:=iH (M2.out.trans hm3);clear hm3 M2 r3;go_wp2_with fail;go_ret;exact ⟨z3,rfl,by omega,by omega,M3.out⟩
end Go.Proofs.YtpeajnkkdioflaaGreat
