import Derived.Test.YtjoeojhdkoidbaaGreatSdo
import Derived.Test.YtjoeojhdkoidbaaGreatJ49
set_option maxHeartbeats 2000000
namespace Go.Proofs.YtjoeojhdkoidbaaGreat
open Tryz
set_option maxRecDepth 100000
open Go.RowKit Tryz
theorem Ms (xs:List BA) (a:OA) (cap lo:Nat) (z:Int) (wx ws w:World) (hin:SliceC StrC 1 lo wx a xs) (hlo:0<lo) (hm:Mkd lo wx ws w) (h0:0<z) (h1:z+12*(wS ByteArray.size xs:Nat)≤1073741824) :
  Calls prog 43 #[.slice a xs.length cap,.int .i64 z] w fun e w'=>∃ z',e=.returned (.int .i64 z')∧z≤z'∧z'≤z+12*(wS ByteArray.size xs:Nat)∧Mkd lo wx ws w':=by
 have hl:xs.length≤wS ByteArray.size xs:=Eo;exact (Yb xs a cap lo z wx ws w hin hlo hm h0 (by omega)).mono fun _ _ h=>⟨_,h.1,by omega,by omega,h.2⟩
theorem Zf (xs:List Lik) (a:OA) (cap lo:Nat) (z:Int) (wx ws w:World) (hin:SliceC LikC 2 lo wx a xs) (hlo:0<lo) (hm:Mkd lo wx ws w) (h0:0<z) (h1:z+12*(wS Dp xs:Nat)≤1073741824) :
  Calls prog 86 #[.slice a xs.length cap,.int .i64 z] w fun e w'=>∃ z',e=.returned (.int .i64 z')∧z≤z'∧z'≤z+12*(wS Dp xs:Nat)∧Mkd lo wx ws w':=by
 have HI:=iH hin;have HM:=iH hm;have HW:Hid (wS Dp xs=xs.length+(xs.map Dp).sum):=rfl;have hlen:xs.length≤1048576000:=by have:=HW.out;omega
 have H1:=iH h1;clear hin hm h1;go_enter func86,ntmps86;go_wp2_with fail;go_loopw [1,5] (fun v i wr=>∃ (j:Nat) (y0:Int),j≤xs.length∧i=.int .i64 j∧v=.int .i64 y0∧z≤y0∧Hid (y0≤z+12*((j:Int)+(((xs.take j).map Dp).sum:Nat)))∧Hid (Mkd lo wx ws wr)) (fun _ i _=>xs.length - (intOf i).toNat)
 case atStart=>exact ⟨0,z,zL,rfl,rfl,by omega,by show _≤_;simp,HM⟩
 case round =>
  clear HM;obtain ⟨j,y0,hj,rfl,rfl,hz0,hY,hM⟩:=hrel;by_cases hlt:j<xs.length
  ·obtain ⟨x,hx⟩:=gXe hlt
   obtain ⟨b,o,rfl,hb0,hbl,hc⟩:=HI.out.at hx;obtain ⟨q0,q1,_⟩:=hc;simp only [Nat.add_zero] at q0;have HS1:Hid (((xs.take (j+1)).map Dp).sum=((xs.take j).map Dp).sum+Dp x):=El _ _ _ _ hx;have HS2:Hid (((xs.take (j+1)).map Dp).sum≤(xs.map Dp).sum):=Dg _ _ _;have hyb:y0+12*(1+(Dp x:Nat))≤1073741824:=by
    have e1:=HW.out;have e2:=HS1.out;have e3:=HS2.out;have e4:=hY.out;have e5:=H1.out;omega
   have Q0:=iH q0;have Q1:=iH q1;have hne:xs≠[]:=fun e=>by rw [e] at hlt;exact absurd hlt (Nat.not_lt_zero _)
   have HFZ:Hid (∀ p,wx.frozen? ⟨b,p,none⟩=false):=HI.out.frz hne hlo;have i0:(0:Int)≤(j:Int):=by omega
   have i1:(j:Int)<(xs.length:Int):=by omega
   clear hx hne q0 q1;go_wp2_with fail;refine (Ef _ _ (by omega) (by omega)).mono ?_;rintro e wa0 ⟨s0,rfl,hb⟩;have Ma0:=iH (hM.out.below hb);clear hb hM;obtain ⟨u0,d0⟩:=Ma0.out.so b (o+j*2) _ Q0;have g0:=(Ma0.out.fz b (o+j*2) hbl).trans (HFZ (o+j*2));have Mb0:=iH (Ma0.out.set hb0 Q0 rfl (.string s0));go_upto_region 5 with fail;clear d0 g0 Ma0;generalize wa0.setCell ⟨b,o+j*2,none⟩ (.string s0)=wb0 at *;go_upto_region 6 with fail;obtain ⟨y1,hy1⟩:∃ t:Int,t=y0+1:=⟨_,rfl⟩;rw [← hy1];have ha1:z≤y1:=by omega
   have hb1:y1≤y0+1:=by omega
   clear hy1;obtain ⟨u1,d1⟩:=Mb0.out.so b (o+j*2+1) _ Q1;have g1:=(Mb0.out.fz b (o+j*2+1) hbl).trans (HFZ (o+j*2+1));have Mb1:=iH (Mb0.out.set hb0 Q1 rfl (.int .i64 y1));go_upto_region 7 with fail;clear d1 g1 Mb0;generalize wb0.setCell ⟨b,o+j*2+1,none⟩ (.int .i64 y1)=wb1 at *;have HYE:Hid (y1+1≤z+12*(((j+1:Nat):Int)+(((xs.take (j+1)).map Dp).sum:Nat))):=by
    show _≤_
    have e2:=HS1.out;have e4:=hY.out;omega
   clear HS1 HS2 H1;go_wp2_with fail;go_roundw
   case rel=>exact ⟨j+1,y1+1,by omega,by go_num,rfl,by omega,HYE,Mb1⟩
   case measure=>simp [intOf];omega
  ·have hje:j=xs.length:=by omega
   subst hje;have HE:Hid (y0≤z+12*(wS Dp xs:Nat)):=by
    have e1:=HW.out;have e4:=hY.out;rw [List.take_length] at e4;show _≤_
    omega
   go_wp2_with fail;go_ret;exact ⟨y0,rfl,hz0,HE,hM.out⟩
theorem Zn (xs:List Svc) (a:OA) (cap lo:Nat) (z:Int) (wx ws w:World) (hin:SliceC SvcC 2 lo wx a xs) (hlo:0<lo) (hm:Mkd lo wx ws w) (h0:0<z) (h1:z+12*(wS Dj xs:Nat)≤1073741824) :
  Calls prog 41 #[.slice a xs.length cap,.int .i64 z] w fun e w'=>∃ z',e=.returned (.int .i64 z')∧z≤z'∧z'≤z+12*(wS Dj xs:Nat)∧Mkd lo wx ws w':=by
 have HI:=iH hin;have HM:=iH hm;have HW:Hid (wS Dj xs=xs.length+(xs.map Dj).sum):=rfl;have hlen:xs.length≤1048576000:=by have:=HW.out;omega
 have H1:=iH h1;clear hin hm h1;go_enter func41,ntmps41;go_wp2_with fail;go_loopw [1,5] (fun v i wr=>∃ (j:Nat) (y0:Int),j≤xs.length∧i=.int .i64 j∧v=.int .i64 y0∧z≤y0∧Hid (y0≤z+12*((j:Int)+(((xs.take j).map Dj).sum:Nat)))∧Hid (Mkd lo wx ws wr)) (fun _ i _=>xs.length - (intOf i).toNat)
 case atStart=>exact ⟨0,z,zL,rfl,rfl,by omega,by show _≤_;simp,HM⟩
 case round =>
  clear HM;obtain ⟨j,y0,hj,rfl,rfl,hz0,hY,hM⟩:=hrel;by_cases hlt:j<xs.length
  ·obtain ⟨x,hx⟩:=gXe hlt
   obtain ⟨b,o,rfl,hb0,hbl,hc⟩:=HI.out.at hx;obtain ⟨q0,q1,_⟩:=hc;simp only [Nat.add_zero] at q0;have HS1:Hid (((xs.take (j+1)).map Dj).sum=((xs.take j).map Dj).sum+Dj x):=El _ _ _ _ hx;have HS2:Hid (((xs.take (j+1)).map Dj).sum≤(xs.map Dj).sum):=Dg _ _ _;have hyb:y0+12*(1+(Dj x:Nat))≤1073741824:=by
    have e1:=HW.out;have e2:=HS1.out;have e3:=HS2.out;have e4:=hY.out;have e5:=H1.out;omega
   have Q0:=iH q0;have Q1:=iH q1;have hne:xs≠[]:=fun e=>by rw [e] at hlt;exact absurd hlt (Nat.not_lt_zero _)
   have HFZ:Hid (∀ p,wx.frozen? ⟨b,p,none⟩=false):=HI.out.frz hne hlo;have i0:(0:Int)≤(j:Int):=by omega
   have i1:(j:Int)<(xs.length:Int):=by omega
   clear hx hne q0 q1;go_wp2_with fail;refine (Ef _ _ (by omega) (by omega)).mono ?_;rintro e wa0 ⟨s0,rfl,hb⟩;have Ma0:=iH (hM.out.below hb);clear hb hM;obtain ⟨u0,d0⟩:=Ma0.out.so b (o+j*2) _ Q0;have g0:=(Ma0.out.fz b (o+j*2) hbl).trans (HFZ (o+j*2));have Mb0:=iH (Ma0.out.set hb0 Q0 rfl (.string s0));go_upto_region 5 with fail;clear d0 g0 Ma0;generalize wa0.setCell ⟨b,o+j*2,none⟩ (.string s0)=wb0 at *;go_upto_region 6 with fail;obtain ⟨y1,hy1⟩:∃ t:Int,t=y0+1:=⟨_,rfl⟩;rw [← hy1];have ha1:z≤y1:=by omega
   have hb1:y1≤y0+1:=by omega
   clear hy1;obtain ⟨u1,d1⟩:=Mb0.out.so b (o+j*2+1) _ Q1;have g1:=(Mb0.out.fz b (o+j*2+1) hbl).trans (HFZ (o+j*2+1));have Mb1:=iH (Mb0.out.set hb0 Q1 rfl (.int .i64 y1));go_upto_region 7 with fail;clear d1 g1 Mb0;generalize wb0.setCell ⟨b,o+j*2+1,none⟩ (.int .i64 y1)=wb1 at *;have HYE:Hid (y1+1≤z+12*(((j+1:Nat):Int)+(((xs.take (j+1)).map Dj).sum:Nat))):=by
    show _≤_
    have e2:=HS1.out;have e4:=hY.out;omega
   clear HS1 HS2 H1;go_wp2_with fail;go_roundw
   case rel=>exact ⟨j+1,y1+1,by omega,by go_num,rfl,by omega,HYE,Mb1⟩
   case measure=>simp [intOf];omega
  ·have hje:j=xs.length:=by omega
   subst hje;have HE:Hid (y0≤z+12*(wS Dj xs:Nat)):=by
    have e1:=HW.out;have e4:=hY.out;rw [List.take_length] at e4;show _≤_
    omega
   go_wp2_with fail;go_ret;exact ⟨y0,rfl,hz0,HE,hM.out⟩
theorem Xz (xs:List Brt) (a:OA) (cap lo:Nat) (z:Int) (wx ws w:World) (hin:SliceC BrtC 6 lo wx a xs) (hlo:0<lo) (hm:Mkd lo wx ws w) (h0:0<z) (h1:z+12*(wS Ct xs:Nat)≤1073741824) :
  Calls prog 40 #[.slice a xs.length cap,.int .i64 z] w fun e w'=>∃ z',e=.returned (.int .i64 z')∧z≤z'∧z'≤z+12*(wS Ct xs:Nat)∧Mkd lo wx ws w':=by
 have HI:=iH hin;have HM:=iH hm;have HW:Hid (wS Ct xs=xs.length+(xs.map Ct).sum):=rfl;have hlen:xs.length≤1048576000:=by have:=HW.out;omega
 have H1:=iH h1;clear hin hm h1;go_enter func40,ntmps40;go_wp2_with fail;go_loopw [1,5] (fun v i wr=>∃ (j:Nat) (y0:Int),j≤xs.length∧i=.int .i64 j∧v=.int .i64 y0∧z≤y0∧Hid (y0≤z+12*((j:Int)+(((xs.take j).map Ct).sum:Nat)))∧Hid (Mkd lo wx ws wr)) (fun _ i _=>xs.length - (intOf i).toNat)
 case atStart=>exact ⟨0,z,zL,rfl,rfl,by omega,by show _≤_;simp,HM⟩
 case round =>
  clear HM;obtain ⟨j,y0,hj,rfl,rfl,hz0,hY,hM⟩:=hrel;by_cases hlt:j<xs.length
  ·obtain ⟨x,hx⟩:=gXe hlt
   obtain ⟨b,o,rfl,hb0,hbl,hc⟩:=HI.out.at hx;obtain ⟨a2,c2,q0,q1,q2,q3,q4,q5,_,_,n2⟩:=hc;simp only [Nat.add_zero] at q0;have HS1:Hid (((xs.take (j+1)).map Ct).sum=((xs.take j).map Ct).sum+Ct x):=El _ _ _ _ hx;have HS2:Hid (((xs.take (j+1)).map Ct).sum≤(xs.map Ct).sum):=Dg _ _ _;have hyb:y0+12*(1+(Ct x:Nat))≤1073741824:=by
    have e1:=HW.out;have e2:=HS1.out;have e3:=HS2.out;have e4:=hY.out;have e5:=H1.out;omega
   have hn2:wS ByteArray.size x.marks≤Ct x:=by unfold Ct;omega
   have N2:=iH n2;have Q0:=iH q0;have Q1:=iH q1;have Q2:=iH q2;have Q3:=iH q3;have Q4:=iH q4;have Q5:=iH q5;have hne:xs≠[]:=fun e=>by rw [e] at hlt;exact absurd hlt (Nat.not_lt_zero _)
   have HFZ:Hid (∀ p,wx.frozen? ⟨b,p,none⟩=false):=HI.out.frz hne hlo;have i0:(0:Int)≤(j:Int):=by omega
   have i1:(j:Int)<(xs.length:Int):=by omega
   clear hx hne q0 q1 q2 q3 q4 q5 n2;go_wp2_with fail;refine (Ef _ _ (by omega) (by omega)).mono ?_;rintro e wa0 ⟨s0,rfl,hb⟩;have Ma0:=iH (hM.out.below hb);clear hb hM;obtain ⟨u0,d0⟩:=Ma0.out.so b (o+j*6) _ Q0;have g0:=(Ma0.out.fz b (o+j*6) hbl).trans (HFZ (o+j*6));have Mb0:=iH (Ma0.out.set hb0 Q0 rfl (.string s0));go_upto_region 5 with fail;clear d0 g0 Ma0;generalize wa0.setCell ⟨b,o+j*6,none⟩ (.string s0)=wb0 at *;go_upto_region 6 with fail;obtain ⟨y1,hy1⟩:∃ t:Int,t=y0+1:=⟨_,rfl⟩;rw [← hy1];have ha1:z≤y1:=by omega
   have hb1:y1≤y0+1:=by omega
   clear hy1;go_wp2_with fail;refine (Ef _ _ (by omega) (by omega)).mono ?_;rintro e wa1 ⟨s1,rfl,hb⟩;have Ma1:=iH (Mb0.out.below hb);clear hb Mb0;obtain ⟨u1,d1⟩:=Ma1.out.so b (o+j*6+1) _ Q1;have g1:=(Ma1.out.fz b (o+j*6+1) hbl).trans (HFZ (o+j*6+1));have Mb1:=iH (Ma1.out.set hb0 Q1 rfl (.string s1));go_upto_region 7 with fail;clear d1 g1 Ma1;generalize wa1.setCell ⟨b,o+j*6+1,none⟩ (.string s1)=wb1 at *;go_upto_region 8 with fail;obtain ⟨y2,hy2⟩:∃ t:Int,t=y1+1:=⟨_,rfl⟩;rw [← hy2];have ha2:z≤y2:=by omega
   have hb2:y2≤y1+1:=by omega
   clear hy2;have d2:=Mb1.out.sl b (o+j*6+2) _ Q2 rfl;go_wp2_with fail;refine (Ms x.marks a2 c2 lo _ wx ws _ N2 hlo Mb1 (by omega) (by omega)).mono ?_;rintro e wb2 ⟨y3,rfl,ha3,hb3,hm2⟩;have Mb2:=iH hm2;clear hm2 d2 Mb1;go_upto_region 9 with fail;obtain ⟨u3,d3⟩:=Mb2.out.so b (o+j*6+3) _ Q3;have g3:=(Mb2.out.fz b (o+j*6+3) hbl).trans (HFZ (o+j*6+3));have Mb3:=iH (Mb2.out.set hb0 Q3 rfl (.int .i64 y3));go_upto_region 10 with fail;clear d3 g3 Mb2;generalize wb2.setCell ⟨b,o+j*6+3,none⟩ (.int .i64 y3)=wb3 at *;go_upto_region 11 with fail;obtain ⟨y4,hy4⟩:∃ t:Int,t=y3+1:=⟨_,rfl⟩;rw [← hy4];have ha4:z≤y4:=by omega
   have hb4:y4≤y3+1:=by omega
   clear hy4;obtain ⟨u4,d4⟩:=Mb3.out.so b (o+j*6+4) _ Q4;have g4:=(Mb3.out.fz b (o+j*6+4) hbl).trans (HFZ (o+j*6+4));have Mb4:=iH (Mb3.out.set hb0 Q4 rfl (.int .i64 y4));go_upto_region 12 with fail;clear d4 g4 Mb3;generalize wb3.setCell ⟨b,o+j*6+4,none⟩ (.int .i64 y4)=wb4 at *;go_upto_region 13 with fail;obtain ⟨y5,hy5⟩:∃ t:Int,t=y4+1:=⟨_,rfl⟩;rw [← hy5];have ha5:z≤y5:=by omega
   have hb5:y5≤y4+1:=by omega
   clear hy5;obtain ⟨u5,d5⟩:=Mb4.out.so b (o+j*6+5) _ Q5;have g5:=(Mb4.out.fz b (o+j*6+5) hbl).trans (HFZ (o+j*6+5));have HYE:Hid (y5+1≤z+12*(((j+1:Nat):Int)+(((xs.take (j+1)).map Ct).sum:Nat))):=by
    show _≤_
    have e2:=HS1.out;have e4:=hY.out;omega
   clear HS1 HS2 H1;go_wp2_with fail;go_roundw
   case rel=>exact ⟨j+1,y5+1,by omega,by go_num,rfl,by omega,HYE,iH (Mb4.out.set hb0 Q5 rfl _)⟩
   case measure=>simp [intOf];omega
  ·have hje:j=xs.length:=by omega
   subst hje;have HE:Hid (y0≤z+12*(wS Ct xs:Nat)):=by
    have e1:=HW.out;have e4:=hY.out;rw [List.take_length] at e4;show _≤_
    omega
   go_wp2_with fail;go_ret;exact ⟨y0,rfl,hz0,HE,hM.out⟩
theorem Zp (xs:List Cpy) (a:OA) (cap lo:Nat) (z:Int) (wx ws w:World) (hin:SliceC CpyC 12 lo wx a xs) (hlo:0<lo) (hm:Mkd lo wx ws w) (h0:0<z) (h1:z+12*(wS Cl xs:Nat)≤1073741824) :
  Calls prog 42 #[.slice a xs.length cap,.int .i64 z] w fun e w'=>∃ z',e=.returned (.int .i64 z')∧z≤z'∧z'≤z+12*(wS Cl xs:Nat)∧Mkd lo wx ws w':=by
 have HI:=iH hin;have HM:=iH hm;have HW:Hid (wS Cl xs=xs.length+(xs.map Cl).sum):=rfl;have hlen:xs.length≤1048576000:=by have:=HW.out;omega
 have H1:=iH h1;clear hin hm h1;go_enter func42,ntmps42;go_wp2_with fail;go_loopw [1,5] (fun v i wr=>∃ (j:Nat) (y0:Int),j≤xs.length∧i=.int .i64 j∧v=.int .i64 y0∧z≤y0∧Hid (y0≤z+12*((j:Int)+(((xs.take j).map Cl).sum:Nat)))∧Hid (Mkd lo wx ws wr)) (fun _ i _=>xs.length - (intOf i).toNat)
 case atStart=>exact ⟨0,z,zL,rfl,rfl,by omega,by show _≤_;simp,HM⟩
 case round =>
  clear HM;obtain ⟨j,y0,hj,rfl,rfl,hz0,hY,hM⟩:=hrel;by_cases hlt:j<xs.length
  ·obtain ⟨x,hx⟩:=gXe hlt
   obtain ⟨b,o,rfl,hb0,hbl,hc⟩:=HI.out.at hx;obtain ⟨a7,c7,q0,q1,q2,q3,q4,q5,q6,q7,q8,q9,q10,q11,_,_,_,_,_,_,n7⟩:=hc;simp only [Nat.add_zero] at q0;have HS1:Hid (((xs.take (j+1)).map Cl).sum=((xs.take j).map Cl).sum+Cl x):=El _ _ _ _ hx;have HS2:Hid (((xs.take (j+1)).map Cl).sum≤(xs.map Cl).sum):=Dg _ _ _;have hyb:y0+12*(1+(Cl x:Nat))≤1073741824:=by
    have e1:=HW.out;have e2:=HS1.out;have e3:=HS2.out;have e4:=hY.out;have e5:=H1.out;omega
   have hn7:wS Dp x.likes≤Cl x:=by unfold Cl;omega
   have N7:=iH n7;have Q0:=iH q0;have Q1:=iH q1;have Q2:=iH q2;have Q3:=iH q3;have Q4:=iH q4;have Q5:=iH q5;have Q6:=iH q6;have Q7:=iH q7;have Q8:=iH q8;have Q9:=iH q9;have Q10:=iH q10;have Q11:=iH q11;have hne:xs≠[]:=fun e=>by rw [e] at hlt;exact absurd hlt (Nat.not_lt_zero _)
   have HFZ:Hid (∀ p,wx.frozen? ⟨b,p,none⟩=false):=HI.out.frz hne hlo;have i0:(0:Int)≤(j:Int):=by omega
   have i1:(j:Int)<(xs.length:Int):=by omega
   clear hx hne q0 q1 q2 q3 q4 q5 q6 q7 q8 q9 q10 q11 n7;go_wp2_with fail;refine (Ef _ _ (by omega) (by omega)).mono ?_;rintro e wa0 ⟨s0,rfl,hb⟩;have Ma0:=iH (hM.out.below hb);clear hb hM;obtain ⟨u0,d0⟩:=Ma0.out.so b (o+j*12) _ Q0;have g0:=(Ma0.out.fz b (o+j*12) hbl).trans (HFZ (o+j*12));have Mb0:=iH (Ma0.out.set hb0 Q0 rfl (.string s0));go_upto_region 5 with fail;clear d0 g0 Ma0;generalize wa0.setCell ⟨b,o+j*12,none⟩ (.string s0)=wb0 at *;go_upto_region 6 with fail;obtain ⟨y1,hy1⟩:∃ t:Int,t=y0+1:=⟨_,rfl⟩;rw [← hy1];have ha1:z≤y1:=by omega
   have hb1:y1≤y0+1:=by omega
   clear hy1;go_wp2_with fail;refine (Ef _ _ (by omega) (by omega)).mono ?_;rintro e wa1 ⟨s1,rfl,hb⟩;have Ma1:=iH (Mb0.out.below hb);clear hb Mb0;obtain ⟨u1,d1⟩:=Ma1.out.so b (o+j*12+1) _ Q1;have g1:=(Ma1.out.fz b (o+j*12+1) hbl).trans (HFZ (o+j*12+1));have Mb1:=iH (Ma1.out.set hb0 Q1 rfl (.string s1));go_upto_region 7 with fail;clear d1 g1 Ma1;generalize wa1.setCell ⟨b,o+j*12+1,none⟩ (.string s1)=wb1 at *;go_upto_region 8 with fail;obtain ⟨y2,hy2⟩:∃ t:Int,t=y1+1:=⟨_,rfl⟩;rw [← hy2];have ha2:z≤y2:=by omega
   have hb2:y2≤y1+1:=by omega
   clear hy2;obtain ⟨u2,d2⟩:=Mb1.out.so b (o+j*12+2) _ Q2;have g2:=(Mb1.out.fz b (o+j*12+2) hbl).trans (HFZ (o+j*12+2));have Mb2:=iH (Mb1.out.set hb0 Q2 rfl (.int .i64 y2));go_upto_region 9 with fail;clear d2 g2 Mb1;generalize wb1.setCell ⟨b,o+j*12+2,none⟩ (.int .i64 y2)=wb2 at *;go_upto_region 10 with fail;obtain ⟨y3,hy3⟩:∃ t:Int,t=y2+1:=⟨_,rfl⟩;rw [← hy3];have ha3:z≤y3:=by omega
   have hb3:y3≤y2+1:=by omega
   clear hy3;obtain ⟨u3,d3⟩:=Mb2.out.so b (o+j*12+3) _ Q3;have g3:=(Mb2.out.fz b (o+j*12+3) hbl).trans (HFZ (o+j*12+3));have Mb3:=iH (Mb2.out.set hb0 Q3 rfl (.int .i64 y3));go_upto_region 11 with fail;clear d3 g3 Mb2;generalize wb2.setCell ⟨b,o+j*12+3,none⟩ (.int .i64 y3)=wb3 at *;go_upto_region 12 with fail;obtain ⟨y4,hy4⟩:∃ t:Int,t=y3+1:=⟨_,rfl⟩;rw [← hy4];have ha4:z≤y4:=by omega
   have hb4:y4≤y3+1:=by omega
   clear hy4;obtain ⟨u4,d4⟩:=Mb3.out.so b (o+j*12+4) _ Q4;have g4:=(Mb3.out.fz b (o+j*12+4) hbl).trans (HFZ (o+j*12+4));have Mb4:=iH (Mb3.out.set hb0 Q4 rfl (.int .i64 y4));go_upto_region 13 with fail;clear d4 g4 Mb3;generalize wb3.setCell ⟨b,o+j*12+4,none⟩ (.int .i64 y4)=wb4 at *;go_upto_region 14 with fail;obtain ⟨y5,hy5⟩:∃ t:Int,t=y4+1:=⟨_,rfl⟩;rw [← hy5];have ha5:z≤y5:=by omega
   have hb5:y5≤y4+1:=by omega
   clear hy5;obtain ⟨u5,d5⟩:=Mb4.out.so b (o+j*12+5) _ Q5;have g5:=(Mb4.out.fz b (o+j*12+5) hbl).trans (HFZ (o+j*12+5));have Mb5:=iH (Mb4.out.set hb0 Q5 rfl (.int .i64 y5));go_upto_region 15 with fail;clear d5 g5 Mb4;generalize wb4.setCell ⟨b,o+j*12+5,none⟩ (.int .i64 y5)=wb5 at *;go_upto_region 16 with fail;obtain ⟨y6,hy6⟩:∃ t:Int,t=y5+1:=⟨_,rfl⟩;rw [← hy6];have ha6:z≤y6:=by omega
   have hb6:y6≤y5+1:=by omega
   clear hy6;go_wp2_with fail;refine (Ef _ _ (by omega) (by omega)).mono ?_;rintro e wa6 ⟨s6,rfl,hb⟩;have Ma6:=iH (Mb5.out.below hb);clear hb Mb5;obtain ⟨u6,d6⟩:=Ma6.out.so b (o+j*12+6) _ Q6;have g6:=(Ma6.out.fz b (o+j*12+6) hbl).trans (HFZ (o+j*12+6));have Mb6:=iH (Ma6.out.set hb0 Q6 rfl (.string s6));go_upto_region 17 with fail;clear d6 g6 Ma6;generalize wa6.setCell ⟨b,o+j*12+6,none⟩ (.string s6)=wb6 at *;go_upto_region 18 with fail;obtain ⟨y7,hy7⟩:∃ t:Int,t=y6+1:=⟨_,rfl⟩;rw [← hy7];have ha7:z≤y7:=by omega
   have hb7:y7≤y6+1:=by omega
   clear hy7;have d7:=Mb6.out.sl b (o+j*12+7) _ Q7 rfl;go_wp2_with fail;refine (Zf x.likes a7 c7 lo _ wx ws _ N7 hlo Mb6 (by omega) (by omega)).mono ?_;rintro e wb7 ⟨y8,rfl,ha8,hb8,hm7⟩;have Mb7:=iH hm7;clear hm7 d7 Mb6;go_upto_region 19 with fail;obtain ⟨u8,d8⟩:=Mb7.out.so b (o+j*12+8) _ Q8;have g8:=(Mb7.out.fz b (o+j*12+8) hbl).trans (HFZ (o+j*12+8));have Mb8:=iH (Mb7.out.set hb0 Q8 rfl (.int .i64 y8));go_upto_region 20 with fail;clear d8 g8 Mb7;generalize wb7.setCell ⟨b,o+j*12+8,none⟩ (.int .i64 y8)=wb8 at *;go_upto_region 21 with fail;obtain ⟨y9,hy9⟩:∃ t:Int,t=y8+1:=⟨_,rfl⟩;rw [← hy9];have ha9:z≤y9:=by omega
   have hb9:y9≤y8+1:=by omega
   clear hy9;go_wp2_with fail;refine (Ef _ _ (by omega) (by omega)).mono ?_;rintro e wa9 ⟨s9,rfl,hb⟩;have Ma9:=iH (Mb8.out.below hb);clear hb Mb8;obtain ⟨u9,d9⟩:=Ma9.out.so b (o+j*12+9) _ Q9;have g9:=(Ma9.out.fz b (o+j*12+9) hbl).trans (HFZ (o+j*12+9));have Mb9:=iH (Ma9.out.set hb0 Q9 rfl (.string s9));go_upto_region 22 with fail;clear d9 g9 Ma9;generalize wa9.setCell ⟨b,o+j*12+9,none⟩ (.string s9)=wb9 at *;go_upto_region 23 with fail;obtain ⟨y10,hy10⟩:∃ t:Int,t=y9+1:=⟨_,rfl⟩;rw [← hy10];have ha10:z≤y10:=by omega
   have hb10:y10≤y9+1:=by omega
   clear hy10;go_wp2_with fail;refine (Ef _ _ (by omega) (by omega)).mono ?_;rintro e wa10 ⟨s10,rfl,hb⟩;have Ma10:=iH (Mb9.out.below hb);clear hb Mb9;obtain ⟨u10,d10⟩:=Ma10.out.so b (o+j*12+10) _ Q10;have g10:=(Ma10.out.fz b (o+j*12+10) hbl).trans (HFZ (o+j*12+10));have Mb10:=iH (Ma10.out.set hb0 Q10 rfl (.string s10));go_upto_region 24 with fail;clear d10 g10 Ma10;generalize wa10.setCell ⟨b,o+j*12+10,none⟩ (.string s10)=wb10 at *;go_upto_region 25 with fail;obtain ⟨y11,hy11⟩:∃ t:Int,t=y10+1:=⟨_,rfl⟩;rw [← hy11];have ha11:z≤y11:=by omega
   have hb11:y11≤y10+1:=by omega
   clear hy11;go_wp2_with fail;refine (Ef _ _ (by omega) (by omega)).mono ?_;rintro e wa11 ⟨s11,rfl,hb⟩;have Ma11:=iH (Mb10.out.below hb);clear hb Mb10;obtain ⟨u11,d11⟩:=Ma11.out.so b (o+j*12+11) _ Q11;have g11:=(Ma11.out.fz b (o+j*12+11) hbl).trans (HFZ (o+j*12+11));have Mb11:=iH (Ma11.out.set hb0 Q11 rfl (.string s11));go_upto_region 26 with fail;clear d11 g11 Ma11;generalize wa11.setCell ⟨b,o+j*12+11,none⟩ (.string s11)=wb11 at *;have HYE:Hid (y11+1≤z+12*(((j+1:Nat):Int)+(((xs.take (j+1)).map Cl).sum:Nat))):=by
    show _≤_
    have e2:=HS1.out;have e4:=hY.out;omega
   clear HS1 HS2 H1;go_wp2_with fail;go_roundw
   case rel=>exact ⟨j+1,y11+1,by omega,by go_num,rfl,by omega,HYE,Mb11⟩
   case measure=>simp [intOf];omega
  ·have hje:j=xs.length:=by omega
   subst hje;have HE:Hid (y0≤z+12*(wS Cl xs:Nat)):=by
    have e1:=HW.out;have e4:=hY.out;rw [List.take_length] at e4;show _≤_
    omega
   go_wp2_with fail;go_ret;exact ⟨y0,rfl,hz0,HE,hM.out⟩
theorem bV (x:Flt) (a1:OA) (c1:Nat) (a2:OA) (c2:Nat) (a3:OA) (c3:Nat) (lo:Nat) (z:Int) (wx ws w:World) (n1:SliceC BrtC 6 lo wx a1 x.berths) (n2:SliceC SvcC 2 lo wx a2 x.services) (n3:SliceC CpyC 12 lo wx a3 x.copies) (hlo:0<lo) (hm:Mkd lo wx ws w) (h0:0<z) (h1:z+12*(Ek x:Nat)≤1073741824) :
  Calls prog 12 #[.agg (ffA x a1 c1 a2 c2 a3 c3),.int .i64 z] w fun e w'=>∃ z',e=.returned (.int .i64 z')∧z≤z'∧z'≤z+12*(Ek x:Nat)∧Mkd lo wx ws w':=by
 have N1:=iH n1;have N2:=iH n2;have N3:=iH n3;have HM:=iH hm;have hw:Ek x=wS Ct x.berths+wS Dj x.services+wS Cl x.copies:=rfl;have hw1:Ek x≤wS Ct x.berths+wS Dj x.services+wS Cl x.copies:=by omega
 have hw2:wS Ct x.berths+wS Dj x.services+wS Cl x.copies≤Ek x:=by omega
 clear n1 n2 n3 hm hw;go_enter func12,ntmps12;go_upto_region 1 with fail;have hbx:=(Below.refl _ w).alloc nL (Obj.cells (ffA x a1 c1 a2 c2 a3 c3) 36);have k1:(w.alloc (Obj.cells (ffA x a1 c1 a2 c2 a3 c3) 36)).cell? ⟨w.heap.size,1,none⟩=some (.slice a1 x.berths.length c1):=by simp
 have k2:(w.alloc (Obj.cells (ffA x a1 c1 a2 c2 a3 c3) 36)).cell? ⟨w.heap.size,2,none⟩=some (.slice a2 x.services.length c2):=by simp
 have k3:(w.alloc (Obj.cells (ffA x a1 c1 a2 c2 a3 c3) 36)).cell? ⟨w.heap.size,3,none⟩=some (.slice a3 x.copies.length c3):=by simp
 have M0:=iH (HM.out.below hbx);have hs0:w.heap.size<(w.alloc (Obj.cells (ffA x a1 c1 a2 c2 a3 c3) 36)).heap.size:=by simp
 have hwx:wx.heap.size≤w.heap.size:=HM.out.sz;generalize (w.alloc (Obj.cells (ffA x a1 c1 a2 c2 a3 c3) 36))=w0 at *;clear hbx HM;go_wp2_with fail;refine (Xz x.berths a1 c1 lo _ wx _ _ N1 hlo M0.out.rebase (by omega) (by omega)).mono ?_;rintro e w1 ⟨z1,rfl,ha1,hb1,hm1⟩;have p2:=(hm1.up w.heap.size 2 hwx hs0).1.trans k2;have p3:=(hm1.up w.heap.size 3 hwx hs0).1.trans k3;have M1:=iH (M0.out.trans hm1);have hs1:w.heap.size<w1.heap.size:=block_lt_of_cell p2;clear hm1 M0 k1 k2 k3;go_wp2_with fail;refine (Zn x.services a2 c2 lo _ wx _ _ N2 hlo M1.out.rebase (by omega) (by omega)).mono ?_;rintro e w2 ⟨z2,rfl,ha2,hb2,hm2⟩;have r3:=(hm2.up w.heap.size 3 hwx hs1).1.trans p3;have M2:=iH (M1.out.trans hm2);clear hm2 M1 p2 p3;go_wp2_with fail;refine (Zp x.copies a3 c3 lo _ wx _ _ N3 hlo M2.out.rebase (by omega) (by omega)).mono ?_;rintro e w3 ⟨z3,rfl,ha3,hb3,hm3⟩;have M3:=iH (M2.out.trans hm3);clear hm3 M2 r3;go_wp2_with fail;go_ret;exact ⟨z3,rfl,by omega,by omega,M3⟩
theorem Keeps.up {a b:Nat} {w w':World} (h:Keeps a w w') (hab:a≤b):Keeps b w w':=⟨h.1,fun x o h1 h2=>h.2 x o (lT hab h1) h2⟩
theorem Mkd.keepsE {lo:Nat} {wx ws w:World} (m:Mkd lo wx ws w) {l:Nat} (h:wx.heap.size≤l):Keeps l ws w:=⟨m.bel.size,fun b o h1 h2=>m.up b o (lT h h1) h2⟩
theorem bP (v:Stp) (am:OA) (cm lo:Nat) (z:Int) (wx ws w:World) (nm:SliceC StrC 1 lo wx am v.gone) (hlo:0<lo) (hm:Mkd lo wx ws w) (h0:0<z) (h1:z+12*(Hd v:Nat)≤1073741824) :
  Calls prog 13 #[.agg (hhA v am cm),.int .i64 z] w fun e w'=>∃ z',e=.returned (.int .i64 z')∧z≤z'∧z'≤z+12*(Hd v:Nat)∧Mkd lo wx ws w':=by
 have N:=iH nm;have M0:=iH (hm.below ((Below.refl _ w).alloc nL (Obj.cells (hhA v am cm) 40)));have HK:=iH (Blk.alloc w (hhA v am cm) 40);have hw1:wS ByteArray.size v.gone≤Hd v:=by unfold Hd;omega
 clear nm hm;go_enter func13,ntmps13;go_upto_region 1 with fail;generalize w.alloc (Obj.cells (hhA v am cm) 40)=w0 at *;have k:w0.cell? ⟨w.heap.size,2,none⟩=some (.slice am v.gone.length cm):=HK.out.cell rfl;go_wp2_with fail;refine (Ms v.gone am cm lo z wx _ _ N hlo M0 h0 (by omega)).mono ?_;rintro e w1 ⟨z1,rfl,ha,hb,hm⟩;have M1:=iH hm;clear hm M0 HK k;go_wp2_with fail;go_ret;exact ⟨z1,rfl,ha,by omega,M1⟩
def Li (w:World) (h:Nat):World:={ w with heap:=w.heap.take h }
theorem Gz {w:World} {h:Nat} (hl:h≤w.heap.size):(Li w h).heap.size=h:=by
 show (w.heap.take h).size=h
 simp;omega
theorem mO {w:World} {h k:Nat} (hk:k<h):(Li w h).heap[k]?=w.heap[k]?:=by
 show (w.heap.extract 0 h)[k]?=w.heap[k]?
 rw [Array.getElem?_extract]
 split
 ·simp
 ·rename_i hn
  rw [Array.getElem?_eq_none (by omega)]
theorem Ka {w:World} {h:Nat} (hl:h≤w.heap.size):Below (Li w h).heap.size (Li w h) w where
 os:=rfl
 tape:=rfl
 output:=rfl
 size:=by rw [Gz hl];exact hl
 block:=fun k hk=>by rw [Gz hl] at hk;exact (mO hk).symm
theorem Mkd.cutE {lo h:Nat} {w:World} (hl:h≤w.heap.size) (h0:lo≤h):Mkd lo (Li w h) w w:=Mkd.start (Ka hl) (by rw [Gz hl];exact h0)
theorem dS {lo h:Nat} {w w7:World} {a:OA} {xs:List BA} (hs7:SliceC StrC 1 lo w7 a xs) (h7:w7.heap.size≤h) (hs:SliceC StrC 1 lo w a xs) (hl:h≤w.heap.size):SliceC StrC 1 lo (Li w h) a xs:=by
 refine ⟨hs.1,?_⟩;rcases hs7.2 with h0 | ⟨b,o,rfl,_,hb7,_⟩
 ·exact .inl h0
 ·rcases hs.2 with h0 | ⟨b',o',e,⟨l1,f1⟩,hb,hc⟩
  ·exact .inl h0
  ·cases e
   have hb2:b<(Li w h).heap.size:=by rw [Gz hl];omega
   refine .inr ⟨b,o,rfl,⟨l1,fun hp p=>((Ka hl).frozen (p:=⟨b,p,none⟩) hb2).symm.trans (f1 hp p)⟩,hb2,fun k x hk=>?_⟩;obtain ⟨q0,z0⟩:=hc k x hk;exact ⟨((Ka hl).cell (p:=⟨b,_,none⟩) hb2).symm.trans q0,z0⟩
theorem DoRes.ex (x:Flt) (s:Stp):∃ r t,DoRes x s r t:=by
 by_cases h:∃ ci bi y b,Mr x s ci bi y b
 ·obtain ⟨ci,bi,y,b,h⟩:=h
  exact ⟨_,true,Or.inl ⟨rfl,ci,bi,y,b,h,rfl⟩⟩
 ·exact ⟨noF,false,DoRes.no (fun ci bi y b k=>h ⟨ci,bi,y,b,k⟩)⟩
theorem Ug {f:Cpy→Nat}:∀ (l:List Cpy) (g:Nat→Cpy→Cpy),(∀ i c,f (g i c)≤f c)→((l.mapIdx g).map f).sum≤(l.map f).sum
 | [],_,_=>by simp
 | a::l,g,h=>by
  rw [List.mapIdx_cons,List.map_cons,List.map_cons,List.sum_cons,List.sum_cons];have h1:=h 0 a;have h2:=Ug (f:=f) l (fun i=>g (i+1)) (fun i c=>h (i+1) c);omega
theorem gR {f:Cpy→Nat} {c:Cpy} {d:Nat}:∀ (l:List Cpy) (i:Nat),(∀ y,l[i]?=some y→f c≤f y+d)→((l.set i c).map f).sum≤(l.map f).sum+d
 | [],_,_=>by simp
 | a::l,0,h=>by
  have h1:=h a rfl;simp only [List.set_cons_zero,List.map_cons,List.sum_cons];omega
 | a::l,i+1,h=>by
  have h2:=gR (f:=f) l i (fun y hy=>h y (by simpa using hy));simp only [List.set_cons_succ,List.map_cons,List.sum_cons];omega
theorem DoRes.small {x r:Flt} {s:Stp} {t:Bool} (h:DoRes x s r t):Ek r≤Ek x+Hd s:=by
 rcases h with ⟨_,ci,bi,y,b,hd,rfl⟩ | ⟨_,_,rfl⟩
 ·have h1:((atP (Dl x s.gone) ⟨#[]⟩ x.copies).map Cl).sum≤(x.copies.map Cl).sum:=Ug _ _ (fun i c=>by
   split
   ·unfold Cl
    simp only;have:(⟨#[]⟩:BA).size=0:=rfl;omega
   ·exact Nat.le_refl _)
  have h2:=gR (f:=Cl) (c:={ y with at_:=s.berth }) (d:=s.berth.size) (atP (Dl x s.gone) ⟨#[]⟩ x.copies) ci (fun y' hy'=>by
   rw [Eb,hd.2.1] at hy';have e:=Option.some.inj hy';rw [← e]
   split <;> (unfold Cl;simp only;omega))
  have h3:s.berth.size≤Hd s:=by unfold Hd;omega
  unfold Ek doF wS;simp only [List.length_set,Bp];omega
 ·have:Ek noF=0:=rfl
  omega
theorem Ib {lo:Nat} {d1 d2 d3:OA} {y:Flt} {w w':World} (h:SliceC BrtC 6 lo w d1 y.berths∧SliceC SvcC 2 lo w d2 y.services∧SliceC CpyC 12 lo w d3 y.copies) (hb:Below w.heap.size w w'):SliceC BrtC 6 lo w' d1 y.berths∧SliceC SvcC 2 lo w' d2 y.services∧SliceC CpyC 12 lo w' d3 y.copies:=⟨h.1.below BrtC.holds hb nL,h.2.1.below SvcC.holds hb nL,h.2.2.below CpyC.holds hb nL⟩
theorem uE {lo:Nat} {d1 d2 d3:OA} {y:Flt} {w:World} (h:SliceC BrtC 6 lo w d1 y.berths∧SliceC SvcC 2 lo w d2 y.services∧SliceC CpyC 12 lo w d3 y.copies):SliceC BrtC 6 0 w d1 y.berths∧SliceC SvcC 2 0 w d2 y.services∧SliceC CpyC 12 0 w d3 y.copies:=⟨h.1.keep BrtC.holds (Keeps.refl _ _) (zL),h.2.1.keep SvcC.holds (Keeps.refl _ _) (zL),h.2.2.keep CpyC.holds (Keeps.refl _ _) (zL)⟩
theorem uC {lo:Nat} {d1 d2 d3:OA} {y:Flt} {w w':World} (h:SliceC BrtC 6 lo w d1 y.berths∧SliceC SvcC 2 lo w d2 y.services∧SliceC CpyC 12 lo w d3 y.copies) (hk:Keeps lo w w'):SliceC BrtC 6 lo w' d1 y.berths∧SliceC SvcC 2 lo w' d2 y.services∧SliceC CpyC 12 lo w' d3 y.copies:=⟨h.1.keep BrtC.holds hk nL,h.2.1.keep SvcC.holds hk nL,h.2.2.keep CpyC.holds hk nL⟩
theorem jJ {lo g:Nat} {d1 d2 d3:OA} {y:Flt} {w:World} (h:SliceC BrtC 6 lo w d1 y.berths∧SliceC SvcC 2 lo w d2 y.services∧SliceC CpyC 12 lo w d3 y.copies) (hg:g<lo) (vs:List Value):SliceC BrtC 6 0 (w.setCells g 0 vs) d1 y.berths∧SliceC SvcC 2 0 (w.setCells g 0 vs) d2 y.services∧SliceC CpyC 12 0 (w.setCells g 0 vs) d3 y.copies:=uE (uC h (Keeps.setCells hg vs 0 w))
theorem oD {v:Stp} (h:Hd v≤1048576):v.copy.size≤maxLen∧v.berth.size≤maxLen∧v.gone.length≤1048576:=by
 have h1:=Eo (f:=ByteArray.size) (xs:=v.gone);unfold Hd at h;exact ⟨by unfold maxLen;omega,by unfold maxLen;omega,by omega⟩
def DsR (y:Flt) (cd:Bool) (w:World) (e:Ending) (w':World):Prop :=
 ∃ (d1:OA) (q1:Nat) (d2:OA) (q2:Nat) (d3:OA) (q3:Nat),e=.returned (.tuple #[.agg (ffA y d1 q1 d2 q2 d3 q3),.bool cd])∧SliceC BrtC 6 w.heap.size w' d1 y.berths∧SliceC SvcC 2 w.heap.size w' d2 y.services∧SliceC CpyC 12 w.heap.size w' d3 y.copies∧Below w.heap.size w w'
theorem uN {x y:Flt} {v:Stp} {cd:Bool} (HY:DoRes x v y cd) (hm:Ek x≤1048576) (he:Hd v≤1048576) (g1 g2 g3 gm lo:Nat) (w:World) (n1:SliceC BrtC 6 lo w (some ⟨g1,0,none⟩) x.berths) (n2:SliceC SvcC 2 lo w (some ⟨g2,0,none⟩) x.services) (n3:SliceC CpyC 12 lo w (some ⟨g3,0,none⟩) x.copies) (nm:SliceC StrC 1 lo w (some ⟨gm,0,none⟩) v.gone) :
  Calls prog 6 #[.agg (ffA x (some ⟨g1,0,none⟩) x.berths.length (some ⟨g2,0,none⟩) x.services.length (some ⟨g3,0,none⟩) x.copies.length),.agg (hhA v (some ⟨gm,0,none⟩) v.gone.length)] w fun e w'=>DsR y cd w e w':=by
 obtain ⟨s1,s2,s3,l2,l1,l3⟩:=oV hm;obtain ⟨z0,z1,hgl⟩:=oD he;refine (fX x v (some ⟨g1,0,none⟩) x.berths.length g2 0 x.services.length (some ⟨g3,0,none⟩) x.copies.length (some ⟨gm,0,none⟩) v.gone.length lo w n1 n2 n3 nm hgl z1 l1 l2 l3 (fun y hy=>(s1 y hy).1) (fun y hy=>(s3 y hy).1)).mono ?_;rintro e w' ⟨r,t,d1,q1,d2,q2,d3,q3,he,hd,h1,h2,h3,hb⟩;obtain ⟨rfl,rfl⟩:=HY.one hd;exact ⟨d1,q1,d2,q2,d3,q3,he,h1,h2,h3,hb⟩
def HiR (y:Flt) (cd:Bool) (w:World) (e:Ending) (w':World):Prop :=
 ∃ (d1:OA) (r1:Nat) (d2:OA) (r2:Nat) (d3:OA) (r3 B len:Nat),e=.returned (.tuple #[.agg (ffA y d1 r1 d2 r2 d3 r3),.bool cd])∧w.heap.size≤B∧B≤w'.heap.size∧len≤12*Ek y∧LA 12 14 (.agg (ffA y d1 r1 d2 r2 d3 r3)) w' B w'.heap.size len∧SliceC BrtC 6 w.heap.size w' d1 y.berths∧SliceC SvcC 2 w.heap.size w' d2 y.services∧SliceC CpyC 12 w.heap.size w' d3 y.copies∧Below w.heap.size w w'
theorem vA {y:Flt} {cd:Bool} {u:Value} {w w':World} (hy:Ek y≤1048576) (h:NwRes y w (.returned u) w'):HiR y cd w (.returned (.tuple #[u,.bool cd])) w':=by
 obtain ⟨s1,s2,s3,l2,l1,l3⟩:=oV hy;obtain ⟨v,B,len,hv,hB1,hB2,hlen,hla⟩:=h.la l1 l3;obtain ⟨g1,q1,g2,q2,g3,q3,B1,B2,B3,he,h0,h1,h2,h3,h4,hT,hob,hos,hot,hoc,hb⟩:=h;cases hv
 cases he
 refine ⟨g1,q1,g2,q2,g3,q3,B,len,rfl,hB1,hB2,hlen,hla,?_,?_,?_,hb⟩
 ·exact (OwnN.berths hob.own (fun y hy=>⟨lT (s1 y hy).2.2.1 (by unfold maxLen;omega),lT (s1 y hy).2.2.2 (by unfold maxLen;omega)⟩) (lT l1 (by unfold maxLen;omega))).keep BrtC.holds (Keeps.refl _ _) h1
 ·exact (Od hos l2 (fun y hy=>lT (s2 y hy) (by unfold maxLen;omega))).keep SvcC.holds (Keeps.refl _ _) (by omega)
 ·exact (OwnN.copies hoc.own (fun y hy=>⟨lT (s3 y hy).2.2.1 (by unfold maxLen;omega),lT (s3 y hy).2.2.2.1 (by unfold maxLen;omega),lT (s3 y hy).2.2.2.2.1 (by unfold maxLen;omega),lT (s3 y hy).2.2.2.2.2.1 (by unfold maxLen;omega),lT (s3 y hy).2.2.2.2.2.2.1 (by unfold maxLen;omega),lT (s3 y hy).2.2.2.2.2.2.2 (by unfold maxLen;omega)⟩) (lT l3 (by unfold maxLen;omega))).keep CpyC.holds (Keeps.refl _ _) (by omega)
theorem uJ {x y:Flt} {v:Stp} {cd:Bool} (HY:DoRes x v y cd) (hm:Ek x≤1048576) (he:Hd v≤1048576) (hy:Ek y≤1048576) (g1 g2 g3 gm lo:Nat) (w:World) (n1:SliceC BrtC 6 lo w (some ⟨g1,0,none⟩) x.berths) (n2:SliceC SvcC 2 lo w (some ⟨g2,0,none⟩) x.services) (n3:SliceC CpyC 12 lo w (some ⟨g3,0,none⟩) x.copies) (nm:SliceC StrC 1 lo w (some ⟨gm,0,none⟩) v.gone) (_hlo:lo≤w.heap.size) :
  Calls prog 9 #[.agg (ffA x (some ⟨g1,0,none⟩) x.berths.length (some ⟨g2,0,none⟩) x.services.length (some ⟨g3,0,none⟩) x.copies.length),.agg (hhA v (some ⟨gm,0,none⟩) v.gone.length)] w fun e w'=>HiR y cd w e w':=by
 obtain ⟨s1,s2,s3,l2,l1,l3⟩:=oV hm;obtain ⟨z0,z1,hgl⟩:=oD he;refine (eH x v (some ⟨g1,0,none⟩) x.berths.length (some ⟨g2,0,none⟩) x.services.length (some ⟨g3,0,none⟩) x.copies.length (some ⟨gm,0,none⟩) v.gone.length lo w n1 n2 n3 nm hgl z0 z1 l1 l2 l3 ⟨s1,s2,s3⟩).mono ?_;rintro e w' ⟨u,r,t,rfl,hd,hn⟩;obtain ⟨rfl,rfl⟩:=HY.one hd;exact vA hy hn
theorem iD {x y:Flt} {v:Stp} {cd:Bool} (HY:DoRes x v y cd) (hm:Ek x≤1048576) (he:Hd v≤1048576) {g1 g2 g3 gm k1 k2:Nat} {w:World} (h:SliceC BrtC 6 k1 w (some ⟨g1,0,none⟩) x.berths∧SliceC SvcC 2 k1 w (some ⟨g2,0,none⟩) x.services∧SliceC CpyC 12 k1 w (some ⟨g3,0,none⟩) x.copies) (nm:SliceC StrC 1 k2 w (some ⟨gm,0,none⟩) v.gone):Calls prog 6 #[.agg (ffA x (some ⟨g1,0,none⟩) x.berths.length (some ⟨g2,0,none⟩) x.services.length (some ⟨g3,0,none⟩) x.copies.length),.agg (hhA v (some ⟨gm,0,none⟩) v.gone.length)] w fun e w'=>DsR y cd w e w':=uN HY hm he g1 g2 g3 gm 0 w (h.1.keep BrtC.holds (Keeps.refl _ _) (zL)) (h.2.1.keep SvcC.holds (Keeps.refl _ _) (zL)) (h.2.2.keep CpyC.holds (Keeps.refl _ _) (zL)) (nm.keep StrC.holds (Keeps.refl _ _) (zL))
theorem Zt {x y:Flt} {v:Stp} {cd:Bool} (HY:DoRes x v y cd) (hm:Ek x≤1048576) (he:Hd v≤1048576) (hy:Ek y≤1048576) {g1 g2 g3 gm k1 k2:Nat} {w:World} (h:SliceC BrtC 6 k1 w (some ⟨g1,0,none⟩) x.berths∧SliceC SvcC 2 k1 w (some ⟨g2,0,none⟩) x.services∧SliceC CpyC 12 k1 w (some ⟨g3,0,none⟩) x.copies) (nm:SliceC StrC 1 k2 w (some ⟨gm,0,none⟩) v.gone):Calls prog 9 #[.agg (ffA x (some ⟨g1,0,none⟩) x.berths.length (some ⟨g2,0,none⟩) x.services.length (some ⟨g3,0,none⟩) x.copies.length),.agg (hhA v (some ⟨gm,0,none⟩) v.gone.length)] w fun e w'=>HiR y cd w e w':=uJ HY hm he hy g1 g2 g3 gm 0 w (h.1.keep BrtC.holds (Keeps.refl _ _) (zL)) (h.2.1.keep SvcC.holds (Keeps.refl _ _) (zL)) (h.2.2.keep CpyC.holds (Keeps.refl _ _) (zL)) (nm.keep StrC.holds (Keeps.refl _ _) (zL)) (zL)
end Go.Proofs.YtjoeojhdkoidbaaGreat
