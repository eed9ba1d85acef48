import Derived.Test.YtihnjndnkgnmaaaGreatJ49
set_option maxHeartbeats 2000000
namespace Go.Proofs.YtihnjndnkgnmaaaGreat
set_option maxRecDepth 100000
open Go.RowKit
theorem Kd (xs:List BA) (a:OA) (cap lo:Nat) (z:Int) (wx ws w:World) (hin:SliceC StrC 1 lo wx a xs) (hlo:0<lo) (hm:Mkd lo wx ws w) (h0:0<z) (h1:z+12*(wS ByteArray.size xs:Nat)≤1073741824) :
  Calls Tryz.prog 76 #[.slice a xs.length cap,.int .i64 z] w fun e w'=>∃ z',e=.returned (.int .i64 z')∧z≤z'∧z'≤z+12*(wS ByteArray.size xs:Nat)∧Mkd lo wx ws w':=by
 have hl:xs.length≤wS ByteArray.size xs:=Dq;exact (St xs a cap lo z wx ws w hin hlo hm h0 (by omega)).mono fun _ _ h=>⟨_,h.1,by omega,by omega,h.2⟩
theorem Lq (xs:List Lik) (a:OA) (cap lo:Nat) (z:Int) (wx ws w:World) (hin:SliceC LikC 2 lo wx a xs) (hlo:0<lo) (hm:Mkd lo wx ws w) (h0:0<z) (h1:z+12*(wS Cn xs:Nat)≤1073741824) :
  Calls Tryz.prog 77 #[.slice a xs.length cap,.int .i64 z] w fun e w'=>∃ z',e=.returned (.int .i64 z')∧z≤z'∧z'≤z+12*(wS Cn xs:Nat)∧Mkd lo wx ws w':=by
 have HI:=iH hin;have HM:=iH hm;have HW:Hid (wS Cn xs=xs.length+(xs.map Cn).sum):=rfl;have hlen:xs.length≤1048576000:=by have:=HW.out;omega
 have H1:=iH h1;clear hin hm h1;go_enter Tryz.func77,Tryz.ntmps77;go_wp2_with fail;go_loopw [1,5] (fun v i wr=>∃ (j:Nat) (y0:Int),j≤xs.length∧i=.int .i64 j∧v=.int .i64 y0∧z≤y0∧Hid (y0≤z+12*((j:Int)+(((xs.take j).map Cn).sum:Nat)))∧Hid (Mkd lo wx ws wr)) (fun _ i _=>xs.length - (intOf i).toNat)
 case atStart=>exact ⟨0,z,zL,rfl,rfl,by omega,by show _≤_;simp,HM⟩
 case round =>
  clear HM;obtain ⟨j,y0,hj,rfl,rfl,hz0,hY,hM⟩:=hrel;by_cases hlt:j<xs.length
  ·obtain ⟨x,hx⟩:=gX hlt
   obtain ⟨b,o,rfl,hb0,hbl,hc⟩:=HI.out.at hx;obtain ⟨q0,q1,_⟩:=hc;simp only [Nat.add_zero] at q0;have HS1:Hid (((xs.take (j+1)).map Cn).sum=((xs.take j).map Cn).sum+Cn x):=Dm _ _ _ _ hx;have HS2:Hid (((xs.take (j+1)).map Cn).sum≤(xs.map Cn).sum):=Co _ _ _;have hyb:y0+12*(1+(Cn x:Nat))≤1073741824:=by
    have e1:=HW.out;have e2:=HS1.out;have e3:=HS2.out;have e4:=hY.out;have e5:=H1.out;omega
   have Q0:=iH q0;have Q1:=iH q1;have hne:xs≠[]:=fun e=>by rw [e] at hlt;exact absurd hlt (Nat.not_lt_zero _)
   have HFZ:Hid (∀ p,wx.frozen? ⟨b,p,none⟩=false):=HI.out.frz hne hlo;have i0:(0:Int)≤(j:Int):=by omega
   have i1:(j:Int)<(xs.length:Int):=by omega
   clear hx hne q0 q1;go_wp2_with fail;refine (De _ _ (by omega) (by omega)).mono ?_;rintro e wa0 ⟨s0,rfl,hb⟩;have Ma0:=iH (hM.out.below hb);clear hb hM;obtain ⟨u0,d0⟩:=Ma0.out.so b (o+j*2) _ Q0;have g0:=(Ma0.out.fz b (o+j*2) hbl).trans (HFZ (o+j*2));have Mb0:=iH (Ma0.out.set hb0 Q0 rfl (.string s0));go_upto_region 5 with fail;clear d0 g0 Ma0;generalize wa0.setCell ⟨b,o+j*2,none⟩ (.string s0)=wb0 at *;go_upto_region 6 with fail;obtain ⟨y1,hy1⟩:∃ t:Int,t=y0+1:=⟨_,rfl⟩;rw [← hy1];have ha1:z≤y1:=by omega
   have hb1:y1≤y0+1:=by omega
   clear hy1;obtain ⟨u1,d1⟩:=Mb0.out.so b (o+j*2+1) _ Q1;have g1:=(Mb0.out.fz b (o+j*2+1) hbl).trans (HFZ (o+j*2+1));have Mb1:=iH (Mb0.out.set hb0 Q1 rfl (.int .i64 y1));go_upto_region 7 with fail;clear d1 g1 Mb0;generalize wb0.setCell ⟨b,o+j*2+1,none⟩ (.int .i64 y1)=wb1 at *;have HYE:Hid (y1+1≤z+12*(((j+1:Nat):Int)+(((xs.take (j+1)).map Cn).sum:Nat))):=by
    show _≤_
    have e2:=HS1.out;have e4:=hY.out;omega
   clear HS1 HS2 H1;go_wp2_with fail;go_roundw
   case rel=>exact ⟨j+1,y1+1,by omega,by go_num,rfl,by omega,HYE,Mb1⟩
   case measure=>simp [intOf];omega
  ·have hje:j=xs.length:=by omega
   subst hje;have HE:Hid (y0≤z+12*(wS Cn xs:Nat)):=by
    have e1:=HW.out;have e4:=hY.out;rw [List.take_length] at e4;show _≤_
    omega
   go_wp2_with fail;go_ret;exact ⟨y0,rfl,hz0,HE,hM.out⟩
theorem Ti (xs:List Svc) (a:OA) (cap lo:Nat) (z:Int) (wx ws w:World) (hin:SliceC SvcC 2 lo wx a xs) (hlo:0<lo) (hm:Mkd lo wx ws w) (h0:0<z) (h1:z+12*(wS Cq xs:Nat)≤1073741824) :
  Calls Tryz.prog 37 #[.slice a xs.length cap,.int .i64 z] w fun e w'=>∃ z',e=.returned (.int .i64 z')∧z≤z'∧z'≤z+12*(wS Cq xs:Nat)∧Mkd lo wx ws w':=by
 have HI:=iH hin;have HM:=iH hm;have HW:Hid (wS Cq xs=xs.length+(xs.map Cq).sum):=rfl;have hlen:xs.length≤1048576000:=by have:=HW.out;omega
 have H1:=iH h1;clear hin hm h1;go_enter Tryz.func37,Tryz.ntmps37;go_wp2_with fail;go_loopw [1,5] (fun v i wr=>∃ (j:Nat) (y0:Int),j≤xs.length∧i=.int .i64 j∧v=.int .i64 y0∧z≤y0∧Hid (y0≤z+12*((j:Int)+(((xs.take j).map Cq).sum:Nat)))∧Hid (Mkd lo wx ws wr)) (fun _ i _=>xs.length - (intOf i).toNat)
 case atStart=>exact ⟨0,z,zL,rfl,rfl,by omega,by show _≤_;simp,HM⟩
 case round =>
  clear HM;obtain ⟨j,y0,hj,rfl,rfl,hz0,hY,hM⟩:=hrel;by_cases hlt:j<xs.length
  ·obtain ⟨x,hx⟩:=gX hlt
   obtain ⟨b,o,rfl,hb0,hbl,hc⟩:=HI.out.at hx;obtain ⟨q0,q1,_⟩:=hc;simp only [Nat.add_zero] at q0;have HS1:Hid (((xs.take (j+1)).map Cq).sum=((xs.take j).map Cq).sum+Cq x):=Dm _ _ _ _ hx;have HS2:Hid (((xs.take (j+1)).map Cq).sum≤(xs.map Cq).sum):=Co _ _ _;have hyb:y0+12*(1+(Cq x:Nat))≤1073741824:=by
    have e1:=HW.out;have e2:=HS1.out;have e3:=HS2.out;have e4:=hY.out;have e5:=H1.out;omega
   have Q0:=iH q0;have Q1:=iH q1;have hne:xs≠[]:=fun e=>by rw [e] at hlt;exact absurd hlt (Nat.not_lt_zero _)
   have HFZ:Hid (∀ p,wx.frozen? ⟨b,p,none⟩=false):=HI.out.frz hne hlo;have i0:(0:Int)≤(j:Int):=by omega
   have i1:(j:Int)<(xs.length:Int):=by omega
   clear hx hne q0 q1;go_wp2_with fail;refine (De _ _ (by omega) (by omega)).mono ?_;rintro e wa0 ⟨s0,rfl,hb⟩;have Ma0:=iH (hM.out.below hb);clear hb hM;obtain ⟨u0,d0⟩:=Ma0.out.so b (o+j*2) _ Q0;have g0:=(Ma0.out.fz b (o+j*2) hbl).trans (HFZ (o+j*2));have Mb0:=iH (Ma0.out.set hb0 Q0 rfl (.string s0));go_upto_region 5 with fail;clear d0 g0 Ma0;generalize wa0.setCell ⟨b,o+j*2,none⟩ (.string s0)=wb0 at *;go_upto_region 6 with fail;obtain ⟨y1,hy1⟩:∃ t:Int,t=y0+1:=⟨_,rfl⟩;rw [← hy1];have ha1:z≤y1:=by omega
   have hb1:y1≤y0+1:=by omega
   clear hy1;obtain ⟨u1,d1⟩:=Mb0.out.so b (o+j*2+1) _ Q1;have g1:=(Mb0.out.fz b (o+j*2+1) hbl).trans (HFZ (o+j*2+1));have Mb1:=iH (Mb0.out.set hb0 Q1 rfl (.int .i64 y1));go_upto_region 7 with fail;clear d1 g1 Mb0;generalize wb0.setCell ⟨b,o+j*2+1,none⟩ (.int .i64 y1)=wb1 at *;have HYE:Hid (y1+1≤z+12*(((j+1:Nat):Int)+(((xs.take (j+1)).map Cq).sum:Nat))):=by
    show _≤_
    have e2:=HS1.out;have e4:=hY.out;omega
   clear HS1 HS2 H1;go_wp2_with fail;go_roundw
   case rel=>exact ⟨j+1,y1+1,by omega,by go_num,rfl,by omega,HYE,Mb1⟩
   case measure=>simp [intOf];omega
  ·have hje:j=xs.length:=by omega
   subst hje;have HE:Hid (y0≤z+12*(wS Cq xs:Nat)):=by
    have e1:=HW.out;have e4:=hY.out;rw [List.take_length] at e4;show _≤_
    omega
   go_wp2_with fail;go_ret;exact ⟨y0,rfl,hz0,HE,hM.out⟩
theorem Uq (xs:List Brt) (a:OA) (cap lo:Nat) (z:Int) (wx ws w:World) (hin:SliceC BrtC 6 lo wx a xs) (hlo:0<lo) (hm:Mkd lo wx ws w) (h0:0<z) (h1:z+12*(wS Bs xs:Nat)≤1073741824) :
  Calls Tryz.prog 36 #[.slice a xs.length cap,.int .i64 z] w fun e w'=>∃ z',e=.returned (.int .i64 z')∧z≤z'∧z'≤z+12*(wS Bs xs:Nat)∧Mkd lo wx ws w':=by
 have HI:=iH hin;have HM:=iH hm;have HW:Hid (wS Bs xs=xs.length+(xs.map Bs).sum):=rfl;have hlen:xs.length≤1048576000:=by have:=HW.out;omega
 have H1:=iH h1;clear hin hm h1;go_enter Tryz.func36,Tryz.ntmps36;go_wp2_with fail;go_loopw [1,5] (fun v i wr=>∃ (j:Nat) (y0:Int),j≤xs.length∧i=.int .i64 j∧v=.int .i64 y0∧z≤y0∧Hid (y0≤z+12*((j:Int)+(((xs.take j).map Bs).sum:Nat)))∧Hid (Mkd lo wx ws wr)) (fun _ i _=>xs.length - (intOf i).toNat)
 case atStart=>exact ⟨0,z,zL,rfl,rfl,by omega,by show _≤_;simp,HM⟩
 case round =>
  clear HM;obtain ⟨j,y0,hj,rfl,rfl,hz0,hY,hM⟩:=hrel;by_cases hlt:j<xs.length
  ·obtain ⟨x,hx⟩:=gX hlt
   obtain ⟨b,o,rfl,hb0,hbl,hc⟩:=HI.out.at hx;obtain ⟨a2,c2,q0,q1,q2,q3,q4,q5,_,_,n2⟩:=hc;simp only [Nat.add_zero] at q0;have HS1:Hid (((xs.take (j+1)).map Bs).sum=((xs.take j).map Bs).sum+Bs x):=Dm _ _ _ _ hx;have HS2:Hid (((xs.take (j+1)).map Bs).sum≤(xs.map Bs).sum):=Co _ _ _;have hyb:y0+12*(1+(Bs x:Nat))≤1073741824:=by
    have e1:=HW.out;have e2:=HS1.out;have e3:=HS2.out;have e4:=hY.out;have e5:=H1.out;omega
   have hn2:wS ByteArray.size x.marks≤Bs x:=by unfold Bs;omega
   have N2:=iH n2;have Q0:=iH q0;have Q1:=iH q1;have Q2:=iH q2;have Q3:=iH q3;have Q4:=iH q4;have Q5:=iH q5;have hne:xs≠[]:=fun e=>by rw [e] at hlt;exact absurd hlt (Nat.not_lt_zero _)
   have HFZ:Hid (∀ p,wx.frozen? ⟨b,p,none⟩=false):=HI.out.frz hne hlo;have i0:(0:Int)≤(j:Int):=by omega
   have i1:(j:Int)<(xs.length:Int):=by omega
   clear hx hne q0 q1 q2 q3 q4 q5 n2;go_wp2_with fail;refine (De _ _ (by omega) (by omega)).mono ?_;rintro e wa0 ⟨s0,rfl,hb⟩;have Ma0:=iH (hM.out.below hb);clear hb hM;obtain ⟨u0,d0⟩:=Ma0.out.so b (o+j*6) _ Q0;have g0:=(Ma0.out.fz b (o+j*6) hbl).trans (HFZ (o+j*6));have Mb0:=iH (Ma0.out.set hb0 Q0 rfl (.string s0));go_upto_region 5 with fail;clear d0 g0 Ma0;generalize wa0.setCell ⟨b,o+j*6,none⟩ (.string s0)=wb0 at *;go_upto_region 6 with fail;obtain ⟨y1,hy1⟩:∃ t:Int,t=y0+1:=⟨_,rfl⟩;rw [← hy1];have ha1:z≤y1:=by omega
   have hb1:y1≤y0+1:=by omega
   clear hy1;go_wp2_with fail;refine (De _ _ (by omega) (by omega)).mono ?_;rintro e wa1 ⟨s1,rfl,hb⟩;have Ma1:=iH (Mb0.out.below hb);clear hb Mb0;obtain ⟨u1,d1⟩:=Ma1.out.so b (o+j*6+1) _ Q1;have g1:=(Ma1.out.fz b (o+j*6+1) hbl).trans (HFZ (o+j*6+1));have Mb1:=iH (Ma1.out.set hb0 Q1 rfl (.string s1));go_upto_region 7 with fail;clear d1 g1 Ma1;generalize wa1.setCell ⟨b,o+j*6+1,none⟩ (.string s1)=wb1 at *;go_upto_region 8 with fail;obtain ⟨y2,hy2⟩:∃ t:Int,t=y1+1:=⟨_,rfl⟩;rw [← hy2];have ha2:z≤y2:=by omega
   have hb2:y2≤y1+1:=by omega
   clear hy2;have d2:=Mb1.out.sl b (o+j*6+2) _ Q2 rfl;go_wp2_with fail;refine (Kd x.marks a2 c2 lo _ wx ws _ N2 hlo Mb1 (by omega) (by omega)).mono ?_;rintro e wb2 ⟨y3,rfl,ha3,hb3,hm2⟩;have Mb2:=iH hm2;clear hm2 d2 Mb1;go_upto_region 9 with fail;obtain ⟨u3,d3⟩:=Mb2.out.so b (o+j*6+3) _ Q3;have g3:=(Mb2.out.fz b (o+j*6+3) hbl).trans (HFZ (o+j*6+3));have Mb3:=iH (Mb2.out.set hb0 Q3 rfl (.int .i64 y3));go_upto_region 10 with fail;clear d3 g3 Mb2;generalize wb2.setCell ⟨b,o+j*6+3,none⟩ (.int .i64 y3)=wb3 at *;go_upto_region 11 with fail;obtain ⟨y4,hy4⟩:∃ t:Int,t=y3+1:=⟨_,rfl⟩;rw [← hy4];have ha4:z≤y4:=by omega
   have hb4:y4≤y3+1:=by omega
   clear hy4;obtain ⟨u4,d4⟩:=Mb3.out.so b (o+j*6+4) _ Q4;have g4:=(Mb3.out.fz b (o+j*6+4) hbl).trans (HFZ (o+j*6+4));have Mb4:=iH (Mb3.out.set hb0 Q4 rfl (.int .i64 y4));go_upto_region 12 with fail;clear d4 g4 Mb3;generalize wb3.setCell ⟨b,o+j*6+4,none⟩ (.int .i64 y4)=wb4 at *;go_upto_region 13 with fail;obtain ⟨y5,hy5⟩:∃ t:Int,t=y4+1:=⟨_,rfl⟩;rw [← hy5];have ha5:z≤y5:=by omega
   have hb5:y5≤y4+1:=by omega
   clear hy5;obtain ⟨u5,d5⟩:=Mb4.out.so b (o+j*6+5) _ Q5;have g5:=(Mb4.out.fz b (o+j*6+5) hbl).trans (HFZ (o+j*6+5));have HYE:Hid (y5+1≤z+12*(((j+1:Nat):Int)+(((xs.take (j+1)).map Bs).sum:Nat))):=by
    show _≤_
    have e2:=HS1.out;have e4:=hY.out;omega
   clear HS1 HS2 H1;go_wp2_with fail;go_roundw
   case rel=>exact ⟨j+1,y5+1,by omega,by go_num,rfl,by omega,HYE,iH (Mb4.out.set hb0 Q5 rfl _)⟩
   case measure=>simp [intOf];omega
  ·have hje:j=xs.length:=by omega
   subst hje;have HE:Hid (y0≤z+12*(wS Bs xs:Nat)):=by
    have e1:=HW.out;have e4:=hY.out;rw [List.take_length] at e4;show _≤_
    omega
   go_wp2_with fail;go_ret;exact ⟨y0,rfl,hz0,HE,hM.out⟩
theorem Uo (xs:List Cpy) (a:OA) (cap lo:Nat) (z:Int) (wx ws w:World) (hin:SliceC CpyC 12 lo wx a xs) (hlo:0<lo) (hm:Mkd lo wx ws w) (h0:0<z) (h1:z+12*(wS Bt xs:Nat)≤1073741824) :
  Calls Tryz.prog 38 #[.slice a xs.length cap,.int .i64 z] w fun e w'=>∃ z',e=.returned (.int .i64 z')∧z≤z'∧z'≤z+12*(wS Bt xs:Nat)∧Mkd lo wx ws w':=by
 have HI:=iH hin;have HM:=iH hm;have HW:Hid (wS Bt xs=xs.length+(xs.map Bt).sum):=rfl;have hlen:xs.length≤1048576000:=by have:=HW.out;omega
 have H1:=iH h1;clear hin hm h1;go_enter Tryz.func38,Tryz.ntmps38;go_wp2_with fail;go_loopw [1,5] (fun v i wr=>∃ (j:Nat) (y0:Int),j≤xs.length∧i=.int .i64 j∧v=.int .i64 y0∧z≤y0∧Hid (y0≤z+12*((j:Int)+(((xs.take j).map Bt).sum:Nat)))∧Hid (Mkd lo wx ws wr)) (fun _ i _=>xs.length - (intOf i).toNat)
 case atStart=>exact ⟨0,z,zL,rfl,rfl,by omega,by show _≤_;simp,HM⟩
 case round =>
  clear HM;obtain ⟨j,y0,hj,rfl,rfl,hz0,hY,hM⟩:=hrel;by_cases hlt:j<xs.length
  ·obtain ⟨x,hx⟩:=gX hlt
   obtain ⟨b,o,rfl,hb0,hbl,hc⟩:=HI.out.at hx;obtain ⟨a7,c7,q0,q1,q2,q3,q4,q5,q6,q7,q8,q9,q10,q11,_,_,_,_,_,_,n7⟩:=hc;simp only [Nat.add_zero] at q0;have HS1:Hid (((xs.take (j+1)).map Bt).sum=((xs.take j).map Bt).sum+Bt x):=Dm _ _ _ _ hx;have HS2:Hid (((xs.take (j+1)).map Bt).sum≤(xs.map Bt).sum):=Co _ _ _;have hyb:y0+12*(1+(Bt x:Nat))≤1073741824:=by
    have e1:=HW.out;have e2:=HS1.out;have e3:=HS2.out;have e4:=hY.out;have e5:=H1.out;omega
   have hn7:wS Cn x.likes≤Bt x:=by unfold Bt;omega
   have N7:=iH n7;have Q0:=iH q0;have Q1:=iH q1;have Q2:=iH q2;have Q3:=iH q3;have Q4:=iH q4;have Q5:=iH q5;have Q6:=iH q6;have Q7:=iH q7;have Q8:=iH q8;have Q9:=iH q9;have Q10:=iH q10;have Q11:=iH q11;have hne:xs≠[]:=fun e=>by rw [e] at hlt;exact absurd hlt (Nat.not_lt_zero _)
   have HFZ:Hid (∀ p,wx.frozen? ⟨b,p,none⟩=false):=HI.out.frz hne hlo;have i0:(0:Int)≤(j:Int):=by omega
   have i1:(j:Int)<(xs.length:Int):=by omega
   clear hx hne q0 q1 q2 q3 q4 q5 q6 q7 q8 q9 q10 q11 n7;go_wp2_with fail;refine (De _ _ (by omega) (by omega)).mono ?_;rintro e wa0 ⟨s0,rfl,hb⟩;have Ma0:=iH (hM.out.below hb);clear hb hM;obtain ⟨u0,d0⟩:=Ma0.out.so b (o+j*12) _ Q0;have g0:=(Ma0.out.fz b (o+j*12) hbl).trans (HFZ (o+j*12));have Mb0:=iH (Ma0.out.set hb0 Q0 rfl (.string s0));go_upto_region 5 with fail;clear d0 g0 Ma0;generalize wa0.setCell ⟨b,o+j*12,none⟩ (.string s0)=wb0 at *;go_upto_region 6 with fail;obtain ⟨y1,hy1⟩:∃ t:Int,t=y0+1:=⟨_,rfl⟩;rw [← hy1];have ha1:z≤y1:=by omega
   have hb1:y1≤y0+1:=by omega
   clear hy1;go_wp2_with fail;refine (De _ _ (by omega) (by omega)).mono ?_;rintro e wa1 ⟨s1,rfl,hb⟩;have Ma1:=iH (Mb0.out.below hb);clear hb Mb0;obtain ⟨u1,d1⟩:=Ma1.out.so b (o+j*12+1) _ Q1;have g1:=(Ma1.out.fz b (o+j*12+1) hbl).trans (HFZ (o+j*12+1));have Mb1:=iH (Ma1.out.set hb0 Q1 rfl (.string s1));go_upto_region 7 with fail;clear d1 g1 Ma1;generalize wa1.setCell ⟨b,o+j*12+1,none⟩ (.string s1)=wb1 at *;go_upto_region 8 with fail;obtain ⟨y2,hy2⟩:∃ t:Int,t=y1+1:=⟨_,rfl⟩;rw [← hy2];have ha2:z≤y2:=by omega
   have hb2:y2≤y1+1:=by omega
   clear hy2;obtain ⟨u2,d2⟩:=Mb1.out.so b (o+j*12+2) _ Q2;have g2:=(Mb1.out.fz b (o+j*12+2) hbl).trans (HFZ (o+j*12+2));have Mb2:=iH (Mb1.out.set hb0 Q2 rfl (.int .i64 y2));go_upto_region 9 with fail;clear d2 g2 Mb1;generalize wb1.setCell ⟨b,o+j*12+2,none⟩ (.int .i64 y2)=wb2 at *;go_upto_region 10 with fail;obtain ⟨y3,hy3⟩:∃ t:Int,t=y2+1:=⟨_,rfl⟩;rw [← hy3];have ha3:z≤y3:=by omega
   have hb3:y3≤y2+1:=by omega
   clear hy3;obtain ⟨u3,d3⟩:=Mb2.out.so b (o+j*12+3) _ Q3;have g3:=(Mb2.out.fz b (o+j*12+3) hbl).trans (HFZ (o+j*12+3));have Mb3:=iH (Mb2.out.set hb0 Q3 rfl (.int .i64 y3));go_upto_region 11 with fail;clear d3 g3 Mb2;generalize wb2.setCell ⟨b,o+j*12+3,none⟩ (.int .i64 y3)=wb3 at *;go_upto_region 12 with fail;obtain ⟨y4,hy4⟩:∃ t:Int,t=y3+1:=⟨_,rfl⟩;rw [← hy4];have ha4:z≤y4:=by omega
   have hb4:y4≤y3+1:=by omega
   clear hy4;obtain ⟨u4,d4⟩:=Mb3.out.so b (o+j*12+4) _ Q4;have g4:=(Mb3.out.fz b (o+j*12+4) hbl).trans (HFZ (o+j*12+4));have Mb4:=iH (Mb3.out.set hb0 Q4 rfl (.int .i64 y4));go_upto_region 13 with fail;clear d4 g4 Mb3;generalize wb3.setCell ⟨b,o+j*12+4,none⟩ (.int .i64 y4)=wb4 at *;go_upto_region 14 with fail;obtain ⟨y5,hy5⟩:∃ t:Int,t=y4+1:=⟨_,rfl⟩;rw [← hy5];have ha5:z≤y5:=by omega
   have hb5:y5≤y4+1:=by omega
   clear hy5;obtain ⟨u5,d5⟩:=Mb4.out.so b (o+j*12+5) _ Q5;have g5:=(Mb4.out.fz b (o+j*12+5) hbl).trans (HFZ (o+j*12+5));have Mb5:=iH (Mb4.out.set hb0 Q5 rfl (.int .i64 y5));go_upto_region 15 with fail;clear d5 g5 Mb4;generalize wb4.setCell ⟨b,o+j*12+5,none⟩ (.int .i64 y5)=wb5 at *;go_upto_region 16 with fail;obtain ⟨y6,hy6⟩:∃ t:Int,t=y5+1:=⟨_,rfl⟩;rw [← hy6];have ha6:z≤y6:=by omega
   have hb6:y6≤y5+1:=by omega
   clear hy6;go_wp2_with fail;refine (De _ _ (by omega) (by omega)).mono ?_;rintro e wa6 ⟨s6,rfl,hb⟩;have Ma6:=iH (Mb5.out.below hb);clear hb Mb5;obtain ⟨u6,d6⟩:=Ma6.out.so b (o+j*12+6) _ Q6;have g6:=(Ma6.out.fz b (o+j*12+6) hbl).trans (HFZ (o+j*12+6));have Mb6:=iH (Ma6.out.set hb0 Q6 rfl (.string s6));go_upto_region 17 with fail;clear d6 g6 Ma6;generalize wa6.setCell ⟨b,o+j*12+6,none⟩ (.string s6)=wb6 at *;go_upto_region 18 with fail;obtain ⟨y7,hy7⟩:∃ t:Int,t=y6+1:=⟨_,rfl⟩;rw [← hy7];have ha7:z≤y7:=by omega
   have hb7:y7≤y6+1:=by omega
   clear hy7;have d7:=Mb6.out.sl b (o+j*12+7) _ Q7 rfl;go_wp2_with fail;refine (Lq x.likes a7 c7 lo _ wx ws _ N7 hlo Mb6 (by omega) (by omega)).mono ?_;rintro e wb7 ⟨y8,rfl,ha8,hb8,hm7⟩;have Mb7:=iH hm7;clear hm7 d7 Mb6;go_upto_region 19 with fail;obtain ⟨u8,d8⟩:=Mb7.out.so b (o+j*12+8) _ Q8;have g8:=(Mb7.out.fz b (o+j*12+8) hbl).trans (HFZ (o+j*12+8));have Mb8:=iH (Mb7.out.set hb0 Q8 rfl (.int .i64 y8));go_upto_region 20 with fail;clear d8 g8 Mb7;generalize wb7.setCell ⟨b,o+j*12+8,none⟩ (.int .i64 y8)=wb8 at *;go_upto_region 21 with fail;obtain ⟨y9,hy9⟩:∃ t:Int,t=y8+1:=⟨_,rfl⟩;rw [← hy9];have ha9:z≤y9:=by omega
   have hb9:y9≤y8+1:=by omega
   clear hy9;go_wp2_with fail;refine (De _ _ (by omega) (by omega)).mono ?_;rintro e wa9 ⟨s9,rfl,hb⟩;have Ma9:=iH (Mb8.out.below hb);clear hb Mb8;obtain ⟨u9,d9⟩:=Ma9.out.so b (o+j*12+9) _ Q9;have g9:=(Ma9.out.fz b (o+j*12+9) hbl).trans (HFZ (o+j*12+9));have Mb9:=iH (Ma9.out.set hb0 Q9 rfl (.string s9));go_upto_region 22 with fail;clear d9 g9 Ma9;generalize wa9.setCell ⟨b,o+j*12+9,none⟩ (.string s9)=wb9 at *;go_upto_region 23 with fail;obtain ⟨y10,hy10⟩:∃ t:Int,t=y9+1:=⟨_,rfl⟩;rw [← hy10];have ha10:z≤y10:=by omega
   have hb10:y10≤y9+1:=by omega
   clear hy10;go_wp2_with fail;refine (De _ _ (by omega) (by omega)).mono ?_;rintro e wa10 ⟨s10,rfl,hb⟩;have Ma10:=iH (Mb9.out.below hb);clear hb Mb9;obtain ⟨u10,d10⟩:=Ma10.out.so b (o+j*12+10) _ Q10;have g10:=(Ma10.out.fz b (o+j*12+10) hbl).trans (HFZ (o+j*12+10));have Mb10:=iH (Ma10.out.set hb0 Q10 rfl (.string s10));go_upto_region 24 with fail;clear d10 g10 Ma10;generalize wa10.setCell ⟨b,o+j*12+10,none⟩ (.string s10)=wb10 at *;go_upto_region 25 with fail;obtain ⟨y11,hy11⟩:∃ t:Int,t=y10+1:=⟨_,rfl⟩;rw [← hy11];have ha11:z≤y11:=by omega
   have hb11:y11≤y10+1:=by omega
   clear hy11;go_wp2_with fail;refine (De _ _ (by omega) (by omega)).mono ?_;rintro e wa11 ⟨s11,rfl,hb⟩;have Ma11:=iH (Mb10.out.below hb);clear hb Mb10;obtain ⟨u11,d11⟩:=Ma11.out.so b (o+j*12+11) _ Q11;have g11:=(Ma11.out.fz b (o+j*12+11) hbl).trans (HFZ (o+j*12+11));have Mb11:=iH (Ma11.out.set hb0 Q11 rfl (.string s11));go_upto_region 26 with fail;clear d11 g11 Ma11;generalize wa11.setCell ⟨b,o+j*12+11,none⟩ (.string s11)=wb11 at *;have HYE:Hid (y11+1≤z+12*(((j+1:Nat):Int)+(((xs.take (j+1)).map Bt).sum:Nat))):=by
    show _≤_
    have e2:=HS1.out;have e4:=hY.out;omega
   clear HS1 HS2 H1;go_wp2_with fail;go_roundw
   case rel=>exact ⟨j+1,y11+1,by omega,by go_num,rfl,by omega,HYE,Mb11⟩
   case measure=>simp [intOf];omega
  ·have hje:j=xs.length:=by omega
   subst hje;have HE:Hid (y0≤z+12*(wS Bt xs:Nat)):=by
    have e1:=HW.out;have e4:=hY.out;rw [List.take_length] at e4;show _≤_
    omega
   go_wp2_with fail;go_ret;exact ⟨y0,rfl,hz0,HE,hM.out⟩
theorem Wa (x:Flt) (a1:OA) (c1:Nat) (a2:OA) (c2:Nat) (a3:OA) (c3:Nat) (lo:Nat) (z:Int) (wx ws w:World) (n1:SliceC BrtC 6 lo wx a1 x.berths) (n2:SliceC SvcC 2 lo wx a2 x.services) (n3:SliceC CpyC 12 lo wx a3 x.copies) (hlo:0<lo) (hm:Mkd lo wx ws w) (h0:0<z) (h1:z+12*(Dx x:Nat)≤1073741824) :
  Calls Tryz.prog 12 #[.agg (ffA x a1 c1 a2 c2 a3 c3),.int .i64 z] w fun e w'=>∃ z',e=.returned (.int .i64 z')∧z≤z'∧z'≤z+12*(Dx x:Nat)∧Mkd lo wx ws w':=by
 have N1:=iH n1;have N2:=iH n2;have N3:=iH n3;have HM:=iH hm;have hw:Dx x=wS Bs x.berths+wS Cq x.services+wS Bt x.copies:=rfl;have hw1:Dx x≤wS Bs x.berths+wS Cq x.services+wS Bt x.copies:=by omega
 have hw2:wS Bs x.berths+wS Cq x.services+wS Bt x.copies≤Dx x:=by omega
 clear n1 n2 n3 hm hw;go_enter Tryz.func12,Tryz.ntmps12;go_upto_region 1 with fail;have hbx:=(Below.refl _ w).alloc nL (Obj.cells (ffA x a1 c1 a2 c2 a3 c3) 41);have k1:(w.alloc (Obj.cells (ffA x a1 c1 a2 c2 a3 c3) 41)).cell? ⟨w.heap.size,1,none⟩=some (.slice a1 x.berths.length c1):=by simp
 have k2:(w.alloc (Obj.cells (ffA x a1 c1 a2 c2 a3 c3) 41)).cell? ⟨w.heap.size,2,none⟩=some (.slice a2 x.services.length c2):=by simp
 have k3:(w.alloc (Obj.cells (ffA x a1 c1 a2 c2 a3 c3) 41)).cell? ⟨w.heap.size,3,none⟩=some (.slice a3 x.copies.length c3):=by simp
 have M0:=iH (HM.out.below hbx);have hs0:w.heap.size<(w.alloc (Obj.cells (ffA x a1 c1 a2 c2 a3 c3) 41)).heap.size:=by simp
 have hwx:wx.heap.size≤w.heap.size:=HM.out.sz;generalize (w.alloc (Obj.cells (ffA x a1 c1 a2 c2 a3 c3) 41))=w0 at *;clear hbx HM;go_wp2_with fail;refine (Uq x.berths a1 c1 lo _ wx _ _ N1 hlo M0.out.rebase (by omega) (by omega)).mono ?_;rintro e w1 ⟨z1,rfl,ha1,hb1,hm1⟩;have p2:=(hm1.up w.heap.size 2 hwx hs0).1.trans k2;have p3:=(hm1.up w.heap.size 3 hwx hs0).1.trans k3;have M1:=iH (M0.out.trans hm1);have hs1:w.heap.size<w1.heap.size:=block_lt_of_cell p2;clear hm1 M0 k1 k2 k3;go_wp2_with fail;refine (Ti x.services a2 c2 lo _ wx _ _ N2 hlo M1.out.rebase (by omega) (by omega)).mono ?_;rintro e w2 ⟨z2,rfl,ha2,hb2,hm2⟩;have r3:=(hm2.up w.heap.size 3 hwx hs1).1.trans p3;have M2:=iH (M1.out.trans hm2);clear hm2 M1 p2 p3;go_wp2_with fail;refine (Uo x.copies a3 c3 lo _ wx _ _ N3 hlo M2.out.rebase (by omega) (by omega)).mono ?_;rintro e w3 ⟨z3,rfl,ha3,hb3,hm3⟩;have M3:=iH (M2.out.trans hm3);clear hm3 M2 r3;go_wp2_with fail;go_ret;exact ⟨z3,rfl,by omega,by omega,M3⟩
theorem Un (x:Brt) (ax:OA) (cx lo:Nat) (z:Int) (wx ws w:World) (hin:SliceC StrC 1 lo wx ax x.marks) (hlo:0<lo) (hm:Mkd lo wx ws w) (h0:0<z) (h1:z+12*(wS ByteArray.size x.marks:Nat)≤1073741824) :
  Calls Tryz.prog 39 #[.agg (bbA x ax cx),.int .i64 z] w fun e w'=>∃ z',e=.returned (.int .i64 z')∧z≤z'∧z'≤z+12*(wS ByteArray.size x.marks:Nat)∧Mkd lo wx ws w':=by
 have N:=iH hin;have M0:=iH (hm.below ((Below.refl _ w).alloc nL (Obj.cells (bbA x ax cx) 45)));have HK:=iH (Blk.alloc w (bbA x ax cx) 45);clear hin hm;go_enter Tryz.func39,Tryz.ntmps39;go_upto_region 1 with fail;generalize w.alloc (Obj.cells (bbA x ax cx) 45)=w0 at *;have k:w0.cell? ⟨w.heap.size,2,none⟩=some (.slice ax x.marks.length cx):=HK.out.cell rfl;go_wp2_with fail;refine (Kd x.marks ax cx lo z wx _ _ N hlo M0 h0 h1).mono ?_;rintro e w1 ⟨z1,rfl,ha,hb,hm⟩;have M1:=iH hm;clear hm M0 HK k;go_wp2_with fail;go_ret;exact ⟨z1,rfl,ha,hb,M1⟩
theorem Ts (x:Cpy) (ax:OA) (cx lo:Nat) (z:Int) (wx ws w:World) (hin:SliceC LikC 2 lo wx ax x.likes) (hlo:0<lo) (hm:Mkd lo wx ws w) (h0:0<z) (h1:z+12*(wS Cn x.likes:Nat)≤1073741824) :
  Calls Tryz.prog 40 #[.agg (ccA x ax cx),.int .i64 z] w fun e w'=>∃ z',e=.returned (.int .i64 z')∧z≤z'∧z'≤z+12*(wS Cn x.likes:Nat)∧Mkd lo wx ws w':=by
 have N:=iH hin;have M0:=iH (hm.below ((Below.refl _ w).alloc nL (Obj.cells (ccA x ax cx) 48)));have HK:=iH (Blk.alloc w (ccA x ax cx) 48);clear hin hm;go_enter Tryz.func40,Tryz.ntmps40;go_upto_region 1 with fail;generalize w.alloc (Obj.cells (ccA x ax cx) 48)=w0 at *;have k:w0.cell? ⟨w.heap.size,7,none⟩=some (.slice ax x.likes.length cx):=HK.out.cell rfl;go_wp2_with fail;refine (Lq x.likes ax cx lo z wx _ _ N hlo M0 h0 h1).mono ?_;rintro e w1 ⟨z1,rfl,ha,hb,hm⟩;have M1:=iH hm;clear hm M0 HK k;go_wp2_with fail;go_ret;exact ⟨z1,rfl,ha,hb,M1⟩
theorem Mkd.keepsE {lo:Nat} {wx ws w:World} (m:Mkd lo wx ws w) {l:Nat} (h:wx.heap.size≤l):Keeps l ws w:=⟨m.bel.size,fun b o h1 h2=>m.up b o (lT h h1) h2⟩
theorem Xc (v:Evt) (am:OA) (cm:Nat) (al:OA) (cl lo:Nat) (z:Int) (wx ws w:World) (nm:SliceC StrC 1 lo wx am v.berth.marks) (nl:SliceC LikC 2 lo wx al v.copy.likes) (hlo:0<lo) (hm:Mkd lo wx ws w) (h0:0<z) (h1:z+12*(He v:Nat)≤1073741824) :
  Calls Tryz.prog 13 #[.agg (eeA v am cm al cl),.int .i64 z] w fun e w'=>∃ z',e=.returned (.int .i64 z')∧z≤z'∧z'≤z+12*(He v:Nat)∧Mkd lo wx ws w':=by
 have NM:=iH nm;have NL:=iH nl;have M0:=iH (hm.below ((Below.refl _ w).alloc nL (Obj.cells (eeA v am cm al cl) 50)));have HK:=iH (Blk.alloc w (eeA v am cm al cl) 50);have hwx:wx.heap.size≤w.heap.size:=hm.sz;have hw1:wS ByteArray.size v.berth.marks+wS Cn v.copy.likes≤He v:=by unfold He Bs Bt;omega
 clear nm nl hm;go_enter Tryz.func13,Tryz.ntmps13;go_upto_region 1 with fail;generalize w.alloc (Obj.cells (eeA v am cm al cl) 50)=w0 at *;have HLB:Hid (w0.rangeAt w.heap.size 1 (bbL v.berth am cm)):=Aa (HK.out.cell rfl) (Aa (HK.out.cell rfl) (Aa (HK.out.cell rfl) (Aa (HK.out.cell rfl) (Aa (HK.out.cell rfl) (Aa (HK.out.cell rfl) (Ap _ _ _))))));go_wp2_with (refine lr Gg HLB ?_);refine (Un v.berth am cm lo z wx _ _ NM hlo M0.out.rebase h0 (by omega)).mono ?_;rintro e w1 ⟨z1,rfl,ha1,hb1,hm1⟩;have M1:=iH (M0.out.trans hm1);have HLC:Hid (w1.rangeAt w.heap.size 7 (ccL v.copy al cl)):=by
  have h9:w0.rangeAt w.heap.size 7 (ccL v.copy al cl):=Aa (HK.out.cell rfl) (Aa (HK.out.cell rfl) (Aa (HK.out.cell rfl) (Aa (HK.out.cell rfl) (Aa (HK.out.cell rfl) (Aa (HK.out.cell rfl) (Aa (HK.out.cell rfl) (Aa (HK.out.cell rfl) (Aa (HK.out.cell rfl) (Aa (HK.out.cell rfl) (Aa (HK.out.cell rfl) (Aa (HK.out.cell rfl) (Ap _ _ _))))))))))));intro j u hj;exact (hm1.up w.heap.size (7+j) hwx HK.out.lt).1.trans (h9 j u hj)
 clear hm1 M0 HK HLB;go_wp2_with (refine lr Exq HLC ?_);refine (Ts v.copy al cl lo z1 wx _ _ NL hlo M1.out.rebase (by omega) (by omega)).mono ?_;rintro e w2 ⟨z2,rfl,ha2,hb2,hm2⟩;have M2:=iH (M1.out.trans hm2);clear hm2 M1 HLC;go_wp2_with fail;go_ret;exact ⟨z2,rfl,by omega,by omega,M2⟩
def Hd (w:World) (h:Nat):World:={ w with heap:=w.heap.take h }
theorem Ew {w:World} {h:Nat} (hl:h≤w.heap.size):(Hd w h).heap.size=h:=by
 show (w.heap.take h).size=h
 simp;omega
theorem bY {w:World} {h k:Nat} (hk:k<h):(Hd w h).heap[k]?=w.heap[k]?:=by
 show (w.heap.extract 0 h)[k]?=w.heap[k]?
 rw [Array.getElem?_extract]
 split
 ·simp
 ·rename_i hn
  rw [Array.getElem?_eq_none (by omega)]
theorem Ec {w:World} {h:Nat} (hl:h≤w.heap.size):Below (Hd w h).heap.size (Hd w h) w where
 os:=rfl
 tape:=rfl
 output:=rfl
 size:=by rw [Ew hl];exact hl
 block:=fun k hk=>by rw [Ew hl] at hk;exact (bY hk).symm
theorem Mkd.cutE {lo h:Nat} {w:World} (hl:h≤w.heap.size) (h0:lo≤h):Mkd lo (Hd w h) w w:=Mkd.start (Ec hl) (by rw [Ew hl];exact h0)
theorem Ze {lo h:Nat} {w w7:World} {a:OA} {xs:List BA} (hs7:SliceC StrC 1 lo w7 a xs) (h7:w7.heap.size≤h) (hs:SliceC StrC 1 lo w a xs) (hl:h≤w.heap.size):SliceC StrC 1 lo (Hd w h) a xs:=by
 refine ⟨hs.1,?_⟩;rcases hs7.2 with h0 | ⟨b,o,rfl,_,hb7,_⟩
 ·exact .inl h0
 ·rcases hs.2 with h0 | ⟨b',o',e,⟨l1,f1⟩,hb,hc⟩
  ·exact .inl h0
  ·cases e
   have hb2:b<(Hd w h).heap.size:=by rw [Ew hl];omega
   refine .inr ⟨b,o,rfl,⟨l1,fun hp p=>((Ec hl).frozen (p:=⟨b,p,none⟩) hb2).symm.trans (f1 hp p)⟩,hb2,fun k x hk=>?_⟩;obtain ⟨q0,z0⟩:=hc k x hk;exact ⟨((Ec hl).cell (p:=⟨b,_,none⟩) hb2).symm.trans q0,z0⟩
theorem Ya {lo h:Nat} {w w7:World} {a:OA} {xs:List Lik} (hs7:SliceC LikC 2 lo w7 a xs) (h7:w7.heap.size≤h) (hs:SliceC LikC 2 lo w a xs) (hl:h≤w.heap.size):SliceC LikC 2 lo (Hd w h) a xs:=by
 refine ⟨hs.1,?_⟩;rcases hs7.2 with h0 | ⟨b,o,rfl,_,hb7,_⟩
 ·exact .inl h0
 ·rcases hs.2 with h0 | ⟨b',o',e,⟨l1,f1⟩,hb,hc⟩
  ·exact .inl h0
  ·cases e
   have hb2:b<(Hd w h).heap.size:=by rw [Ew hl];omega
   refine .inr ⟨b,o,rfl,⟨l1,fun hp p=>((Ec hl).frozen (p:=⟨b,p,none⟩) hb2).symm.trans (f1 hp p)⟩,hb2,fun k x hk=>?_⟩;obtain ⟨q0,q1,z0⟩:=hc k x hk;exact ⟨((Ec hl).cell (p:=⟨b,_,none⟩) hb2).symm.trans q0,((Ec hl).cell (p:=⟨b,_,none⟩) hb2).symm.trans q1,z0⟩
theorem jS {v:Evt} (h:He v≤1048576):SzB [v.berth]∧SzC [v.copy]∧v.name.size≤maxLen∧v.at_.size≤maxLen∧v.berth.marks.length≤1048576∧v.copy.likes.length≤1048576:=by
 have h1:=Dq (f:=ByteArray.size) (xs:=v.berth.marks);have h2:=Dq (f:=Cn) (xs:=v.copy.likes);unfold He Bs Bt at h;refine ⟨fun y hy=>?_,fun y hy=>?_,by unfold maxLen;omega,by unfold maxLen;omega,by omega,by omega⟩
 ·have e:y=v.berth:=by simpa using hy
  subst e;unfold maxLen;exact ⟨by omega,by omega⟩
 ·have e:y=v.copy:=by simpa using hy
  subst e;unfold maxLen;exact ⟨by omega,by omega,by omega,by omega,by omega,by omega⟩
theorem aS {x y:Flt} {v:Evt} {cd:Int} (HY:Hj x v=(y,cd)) (hm:Dx x≤1048576) (he:He v≤1048576) (g1 g2 g3 gm gl lo:Nat) (w:World) (n1:SliceC BrtC 6 lo w (some ⟨g1,0,none⟩) x.berths) (n2:SliceC SvcC 2 lo w (some ⟨g2,0,none⟩) x.services) (n3:SliceC CpyC 12 lo w (some ⟨g3,0,none⟩) x.copies) (nm:SliceC StrC 1 lo w (some ⟨gm,0,none⟩) v.berth.marks) (nl:SliceC LikC 2 lo w (some ⟨gl,0,none⟩) v.copy.likes) :
  Calls Tryz.prog 6 #[.agg (ffA x (some ⟨g1,0,none⟩) x.berths.length (some ⟨g2,0,none⟩) x.services.length (some ⟨g3,0,none⟩) x.copies.length),.agg (eeA v (some ⟨gm,0,none⟩) v.berth.marks.length (some ⟨gl,0,none⟩) v.copy.likes.length)] w fun e w'=>HsR y cd w e w':=by
 obtain ⟨s1,s2,s3,l2,l1,l3⟩:=Wm hm;obtain ⟨z1,z3,zn,za,hvm,hvl⟩:=jS he;have h:=Qa x v (some ⟨g1,0,none⟩) x.berths.length g2 0 x.services.length (some ⟨g3,0,none⟩) x.copies.length (some ⟨gm,0,none⟩) v.berth.marks.length (some ⟨gl,0,none⟩) v.copy.likes.length lo w n1 n2 n3 nm nl l1 l2 l3 hvm hvl z1 z3 za;rw [HY] at h;exact h
def HiR (y:Flt) (cd:Int) (w:World) (e:Ending) (w':World):Prop :=
 ∃ (d1:OA) (r1:Nat) (d2:OA) (r2:Nat) (d3:OA) (r3 B len:Nat),e=.returned (.tuple #[.agg (ffA y d1 r1 d2 r2 d3 r3),.int .i64 cd])∧w.heap.size≤B∧B≤w'.heap.size∧len≤12*Dx y∧LA 12 14 (.agg (ffA y d1 r1 d2 r2 d3 r3)) w' B w'.heap.size len∧SliceC BrtC 6 w.heap.size w' d1 y.berths∧SliceC SvcC 2 w.heap.size w' d2 y.services∧SliceC CpyC 12 w.heap.size w' d3 y.copies∧Below w.heap.size w w'
theorem lZ {y:Flt} {cd:Int} {u:Value} {w w':World} (hy:Dx y≤1048576) (h:NwRes y w (.returned u) w'):HiR y cd w (.returned (.tuple #[u,.int .i64 cd])) w':=by
 obtain ⟨s1,s2,s3,l2,l1,l3⟩:=Wm hy;obtain ⟨v,B,len,hv,hB1,hB2,hlen,hla⟩:=h.la l1 l3;obtain ⟨g1,q1,g2,q2,g3,q3,B1,B2,B3,he,h0,h1,h2,h3,h4,hT,hob,hos,hot,hoc,hb⟩:=h;cases hv
 cases he
 refine ⟨g1,q1,g2,q2,g3,q3,B,len,rfl,hB1,hB2,hlen,hla,?_,?_,?_,hb⟩
 ·exact (OwnN.berths hob.own (fun y hy=>⟨lT (s1 y hy).2.2.1 (by unfold maxLen;omega),lT (s1 y hy).2.2.2 (by unfold maxLen;omega)⟩) (lT l1 (by unfold maxLen;omega))).keep BrtC.holds (Keeps.refl _ _) h1
 ·exact (Lf hos l2 (fun y hy=>lT (s2 y hy) (by unfold maxLen;omega))).keep SvcC.holds (Keeps.refl _ _) (by omega)
 ·exact (OwnN.copies hoc.own (fun y hy=>⟨lT (s3 y hy).2.2.1 (by unfold maxLen;omega),lT (s3 y hy).2.2.2.1 (by unfold maxLen;omega),lT (s3 y hy).2.2.2.2.1 (by unfold maxLen;omega),lT (s3 y hy).2.2.2.2.2.1 (by unfold maxLen;omega),lT (s3 y hy).2.2.2.2.2.2.1 (by unfold maxLen;omega),lT (s3 y hy).2.2.2.2.2.2.2 (by unfold maxLen;omega)⟩) (lT l3 (by unfold maxLen;omega))).keep CpyC.holds (Keeps.refl _ _) (by omega)
theorem Vm {x y:Flt} {v:Evt} {cd:Int} (HY:Hj x v=(y,cd)) (hm:Dx x≤1048576) (he:He v≤1048576) (g1 g2 g3 gm gl lo:Nat) (w:World) (n1:SliceC BrtC 6 lo w (some ⟨g1,0,none⟩) x.berths) (n2:SliceC SvcC 2 lo w (some ⟨g2,0,none⟩) x.services) (n3:SliceC CpyC 12 lo w (some ⟨g3,0,none⟩) x.copies) (nm:SliceC StrC 1 lo w (some ⟨gm,0,none⟩) v.berth.marks) (nl:SliceC LikC 2 lo w (some ⟨gl,0,none⟩) v.copy.likes) (hlo:lo≤w.heap.size) :
  Calls Tryz.prog 9 #[.agg (ffA x (some ⟨g1,0,none⟩) x.berths.length (some ⟨g2,0,none⟩) x.services.length (some ⟨g3,0,none⟩) x.copies.length),.agg (eeA v (some ⟨gm,0,none⟩) v.berth.marks.length (some ⟨gl,0,none⟩) v.copy.likes.length)] w fun e w'=>HiR y cd w e w':=by
 obtain ⟨s1,s2,s3,l2,l1,l3⟩:=Wm hm;obtain ⟨z1,z3,zn,za,hvm,hvl⟩:=jS he;have hy:Dx y≤1048576:=by have:=Qe x v;rw [HY] at this;exact this
 refine (Pd x v g1 0 x.berths.length (some ⟨g2,0,none⟩) x.services.length g3 0 x.copies.length (some ⟨gm,0,none⟩) v.berth.marks.length (some ⟨gl,0,none⟩) v.copy.likes.length lo w n1 n2 n3 nm nl hlo nL (lT l1 (by unfold maxLen;omega)) nL (lT l3 (by unfold maxLen;omega)) z1 z3 zn za l1 l2 l3).mono ?_;rintro e w' ⟨u,rfl,hn⟩;rw [HY] at hn ⊢;exact lZ hy hn
end Go.Proofs.YtihnjndnkgnmaaaGreat
