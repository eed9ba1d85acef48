import Derived.Test.YthboopnmbglkjaaGreatJ47
set_option maxHeartbeats 2000000
namespace Go.Proofs.YthboopnmbglkjaaGreat
open Tryz
set_option maxRecDepth 100000
open Go.RowKit Tryz
theorem Xu(xs:List BA)(a:OA)(cap lo:Nat)(z:Int)(wx ws w:World)(hin:sX lo wx a xs)(hlo:0<lo)(hm:Mkd lo wx ws w)(h0:0<z)(h1:z+12*(wS ByteArray.size xs:Nat)<=1073741824) :
  Calls prog 36 #[.slice a xs.length cap,X z] w λe w'=>∃z',e=.returned (X z')/\z<=z'/\z'<=z+12*(wS ByteArray.size xs:Nat)/\Mkd lo wx ws w':=by
 have hl:xs.length<=wS ByteArray.size xs:=Ep;exact(bN xs a cap lo z wx ws w hin hlo hm h0 (by omega)).mono λ_ _ h=>⟨_,h.1,by omega,by omega,h.2⟩
theorem bX(xs:List Lik)(a:OA)(cap lo:Nat)(z:Int)(wx ws w:World)(hin:sK lo wx a xs)(hlo:0<lo)(hm:Mkd lo wx ws w)(h0:0<z)(h1:z+12*(wS Dm xs:Nat)<=1073741824) :
  Calls prog 75 #[.slice a xs.length cap,X z] w λe w'=>∃z',e=.returned (X z')/\z<=z'/\z'<=z+12*(wS Dm xs:Nat)/\Mkd lo wx ws w':=by
 have HI:=iH hin;have HM:=iH hm;have HW:Hid (wS Dm xs=xs.length+(xs.map Dm).sum):=rfl;have hlen:xs.length<=1048576000:=by have:=HW.out;omega
 have H1:=iH h1;clear hin hm h1;go_enter func75,ntmps75
 go_wp2
 go_loopw [1,5] (λv i wr=>∃(j:Nat)(y0:Int),j<=xs.length/\i=X j/\v=X y0/\z<=y0/\Hid (y0<=z+12*((j:Int)+(((xs.take j).map Dm).sum:Nat)))/\Hid (Mkd lo wx ws wr)) (λ_ i _=>xs.length-(intOf i).toNat)
 case atStart=>exact⟨0,z,zL,rfl,rfl,by omega,by show _<=_;simp,HM⟩
 clear HM;obtain⟨j,y0,hj,rfl,rfl,hz0,hY,hM⟩:=hrel;by_cases hlt:j<xs.length
 .obtain⟨x,hx⟩:=gXe hlt
  obtain⟨b,o,rfl,hb0,hbl,hc⟩:=HI.out.at hx;obtain⟨q0,q1,_⟩:=hc;simp only[Nat.add_zero]at q0;have HS1:Hid (((xs.take (j+1)).map Dm).sum=((xs.take j).map Dm).sum+Dm x):=Eg _ _ _ _ hx;have HS2:Hid (((xs.take (j+1)).map Dm).sum<=(xs.map Dm).sum):=Df _ _ _;have hyb:y0+12*(1+(Dm x:Nat))<=1073741824:=by
   have e1:=HW.out;have e2:=HS1.out;have e3:=HS2.out;have e4:=hY.out;have e5:=H1.out;omega
  have Q0:=iH q0;have Q1:=iH q1;have hne:xs≠[]:=λe=>by rw[e]at hlt;exact absurd hlt (Nat.not_lt_zero _)
  have HFZ:Hid (∀p,wx.frozen? (E b p)=false):=HI.out.frz hne hlo;have i0:(0:Int)<=(j:Int):=by omega
  have i1:(j:Int)<(xs.length:Int):=by omega
  clear hx hne q0 q1;go_wp2_with fail;refine(Ee _ _ (by omega) (by omega)).mono ?_;rintro e wa0⟨s0,rfl,hb⟩;have Ma0:=iH (hM.out.below hb);clear hb hM;obtain⟨u0,d0⟩:=Ma0.out.so b (o+j*2) _ Q0;have g0:=(Ma0.out.fz b (o+j*2) hbl).trans (HFZ (o+j*2));have Mb0:=iH (Ma0.out.set hb0 Q0 rfl (Y s0));go_upto_region 5 with fail;clear d0 g0 Ma0;generalize wa0.setCell (E b (o+j*2)) (Y s0)=wb0 at *;go_upto_region 6 with fail;obtain⟨y1,hy1⟩:∃t:Int,t=y0+1:=⟨_,rfl⟩;rw[<-hy1];have ha1:z<=y1:=by omega
  have hb1:y1<=y0+1:=by omega
  clear hy1;obtain⟨u1,d1⟩:=Mb0.out.so b (o+j*2+1) _ Q1;have g1:=(Mb0.out.fz b (o+j*2+1) hbl).trans (HFZ (o+j*2+1));have Mb1:=iH (Mb0.out.set hb0 Q1 rfl (X y1));go_upto_region 7 with fail;clear d1 g1 Mb0;generalize wb0.setCell (E b (o+j*2+1)) (X y1)=wb1 at *;have HYE:Hid (y1+1<=z+12*(((j+1:Nat):Int)+(((xs.take (j+1)).map Dm).sum:Nat))):=by
   show _<=_
   have e2:=HS1.out;have e4:=hY.out;omega
  clear HS1 HS2 H1
  go_wp2
  go_roundw
  case rel=>exact⟨j+1,y1+1,by omega,by go_num,rfl,by omega,HYE,Mb1⟩
  simp[intOf];omega
 have hje:j=xs.length:=by omega
 subst hje;have HE:Hid (y0<=z+12*(wS Dm xs:Nat)):=by
  have e1:=HW.out;have e4:=hY.out;rw[List.take_length]at e4;show _<=_
  omega
 go_wp2
 go_ret;exact⟨y0,rfl,hz0,HE,hM.out⟩
theorem bO(xs:List Svc)(a:OA)(cap lo:Nat)(z:Int)(wx ws w:World)(hin:sV lo wx a xs)(hlo:0<lo)(hm:Mkd lo wx ws w)(h0:0<z)(h1:z+12*(wS Dj xs:Nat)<=1073741824) :
  Calls prog 33 #[.slice a xs.length cap,X z] w λe w'=>∃z',e=.returned (X z')/\z<=z'/\z'<=z+12*(wS Dj xs:Nat)/\Mkd lo wx ws w':=by
 have HI:=iH hin;have HM:=iH hm;have HW:Hid (wS Dj xs=xs.length+(xs.map Dj).sum):=rfl;have hlen:xs.length<=1048576000:=by have:=HW.out;omega
 have H1:=iH h1;clear hin hm h1;go_enter func33,ntmps33
 go_wp2
 go_loopw [1,5] (λv i wr=>∃(j:Nat)(y0:Int),j<=xs.length/\i=X j/\v=X y0/\z<=y0/\Hid (y0<=z+12*((j:Int)+(((xs.take j).map Dj).sum:Nat)))/\Hid (Mkd lo wx ws wr)) (λ_ i _=>xs.length-(intOf i).toNat)
 case atStart=>exact⟨0,z,zL,rfl,rfl,by omega,by show _<=_;simp,HM⟩
 clear HM;obtain⟨j,y0,hj,rfl,rfl,hz0,hY,hM⟩:=hrel;by_cases hlt:j<xs.length
 .obtain⟨x,hx⟩:=gXe hlt
  obtain⟨b,o,rfl,hb0,hbl,hc⟩:=HI.out.at hx;obtain⟨q0,q1,_⟩:=hc;simp only[Nat.add_zero]at q0;have HS1:Hid (((xs.take (j+1)).map Dj).sum=((xs.take j).map Dj).sum+Dj x):=Eg _ _ _ _ hx;have HS2:Hid (((xs.take (j+1)).map Dj).sum<=(xs.map Dj).sum):=Df _ _ _;have hyb:y0+12*(1+(Dj x:Nat))<=1073741824:=by
   have e1:=HW.out;have e2:=HS1.out;have e3:=HS2.out;have e4:=hY.out;have e5:=H1.out;omega
  have Q0:=iH q0;have Q1:=iH q1;have hne:xs≠[]:=λe=>by rw[e]at hlt;exact absurd hlt (Nat.not_lt_zero _)
  have HFZ:Hid (∀p,wx.frozen? (E b p)=false):=HI.out.frz hne hlo;have i0:(0:Int)<=(j:Int):=by omega
  have i1:(j:Int)<(xs.length:Int):=by omega
  clear hx hne q0 q1;go_wp2_with fail;refine(Ee _ _ (by omega) (by omega)).mono ?_;rintro e wa0⟨s0,rfl,hb⟩;have Ma0:=iH (hM.out.below hb);clear hb hM;obtain⟨u0,d0⟩:=Ma0.out.so b (o+j*2) _ Q0;have g0:=(Ma0.out.fz b (o+j*2) hbl).trans (HFZ (o+j*2));have Mb0:=iH (Ma0.out.set hb0 Q0 rfl (Y s0));go_upto_region 5 with fail;clear d0 g0 Ma0;generalize wa0.setCell (E b (o+j*2)) (Y s0)=wb0 at *;go_upto_region 6 with fail;obtain⟨y1,hy1⟩:∃t:Int,t=y0+1:=⟨_,rfl⟩;rw[<-hy1];have ha1:z<=y1:=by omega
  have hb1:y1<=y0+1:=by omega
  clear hy1;obtain⟨u1,d1⟩:=Mb0.out.so b (o+j*2+1) _ Q1;have g1:=(Mb0.out.fz b (o+j*2+1) hbl).trans (HFZ (o+j*2+1));have Mb1:=iH (Mb0.out.set hb0 Q1 rfl (X y1));go_upto_region 7 with fail;clear d1 g1 Mb0;generalize wb0.setCell (E b (o+j*2+1)) (X y1)=wb1 at *;have HYE:Hid (y1+1<=z+12*(((j+1:Nat):Int)+(((xs.take (j+1)).map Dj).sum:Nat))):=by
   show _<=_
   have e2:=HS1.out;have e4:=hY.out;omega
  clear HS1 HS2 H1
  go_wp2
  go_roundw
  case rel=>exact⟨j+1,y1+1,by omega,by go_num,rfl,by omega,HYE,Mb1⟩
  simp[intOf];omega
 have hje:j=xs.length:=by omega
 subst hje;have HE:Hid (y0<=z+12*(wS Dj xs:Nat)):=by
  have e1:=HW.out;have e4:=hY.out;rw[List.take_length]at e4;show _<=_
  omega
 go_wp2
 go_ret;exact⟨y0,rfl,hz0,HE,hM.out⟩
theorem cO(xs:List Brt)(a:OA)(cap lo:Nat)(z:Int)(wx ws w:World)(hin:sB lo wx a xs)(hlo:0<lo)(hm:Mkd lo wx ws w)(h0:0<z)(h1:z+12*(wS Cn xs:Nat)<=1073741824) :
  Calls prog 32 #[.slice a xs.length cap,X z] w λe w'=>∃z',e=.returned (X z')/\z<=z'/\z'<=z+12*(wS Cn xs:Nat)/\Mkd lo wx ws w':=by
 have HI:=iH hin;have HM:=iH hm;have HW:Hid (wS Cn xs=xs.length+(xs.map Cn).sum):=rfl;have hlen:xs.length<=1048576000:=by have:=HW.out;omega
 have H1:=iH h1;clear hin hm h1;go_enter func32,ntmps32
 go_wp2
 go_loopw [1,5] (λv i wr=>∃(j:Nat)(y0:Int),j<=xs.length/\i=X j/\v=X y0/\z<=y0/\Hid (y0<=z+12*((j:Int)+(((xs.take j).map Cn).sum:Nat)))/\Hid (Mkd lo wx ws wr)) (λ_ i _=>xs.length-(intOf i).toNat)
 case atStart=>exact⟨0,z,zL,rfl,rfl,by omega,by show _<=_;simp,HM⟩
 clear HM;obtain⟨j,y0,hj,rfl,rfl,hz0,hY,hM⟩:=hrel;by_cases hlt:j<xs.length
 .obtain⟨x,hx⟩:=gXe hlt
  obtain⟨b,o,rfl,hb0,hbl,hc⟩:=HI.out.at hx;obtain⟨a2,c2,q0,q1,q2,q3,q4,q5,_,_,n2⟩:=hc;simp only[Nat.add_zero]at q0;have HS1:Hid (((xs.take (j+1)).map Cn).sum=((xs.take j).map Cn).sum+Cn x):=Eg _ _ _ _ hx;have HS2:Hid (((xs.take (j+1)).map Cn).sum<=(xs.map Cn).sum):=Df _ _ _;have hyb:y0+12*(1+(Cn x:Nat))<=1073741824:=by
   have e1:=HW.out;have e2:=HS1.out;have e3:=HS2.out;have e4:=hY.out;have e5:=H1.out;omega
  have hn2:wS ByteArray.size x.marks<=Cn x:=by unfold Cn;omega
  have N2:=iH n2;have Q0:=iH q0;have Q1:=iH q1;have Q2:=iH q2;have Q3:=iH q3;have Q4:=iH q4;have Q5:=iH q5;have hne:xs≠[]:=λe=>by rw[e]at hlt;exact absurd hlt (Nat.not_lt_zero _)
  have HFZ:Hid (∀p,wx.frozen? (E b p)=false):=HI.out.frz hne hlo;have i0:(0:Int)<=(j:Int):=by omega
  have i1:(j:Int)<(xs.length:Int):=by omega
  clear hx hne q0 q1 q2 q3 q4 q5 n2;go_wp2_with fail;refine(Ee _ _ (by omega) (by omega)).mono ?_;rintro e wa0⟨s0,rfl,hb⟩;have Ma0:=iH (hM.out.below hb);clear hb hM;obtain⟨u0,d0⟩:=Ma0.out.so b (o+j*6) _ Q0;have g0:=(Ma0.out.fz b (o+j*6) hbl).trans (HFZ (o+j*6));have Mb0:=iH (Ma0.out.set hb0 Q0 rfl (Y s0));go_upto_region 5 with fail;clear d0 g0 Ma0;generalize wa0.setCell (E b (o+j*6)) (Y s0)=wb0 at *;go_upto_region 6 with fail;obtain⟨y1,hy1⟩:∃t:Int,t=y0+1:=⟨_,rfl⟩;rw[<-hy1];have ha1:z<=y1:=by omega
  have hb1:y1<=y0+1:=by omega
  clear hy1;go_wp2_with fail;refine(Ee _ _ (by omega) (by omega)).mono ?_;rintro e wa1⟨s1,rfl,hb⟩;have Ma1:=iH (Mb0.out.below hb);clear hb Mb0;obtain⟨u1,d1⟩:=Ma1.out.so b (o+j*6+1) _ Q1;have g1:=(Ma1.out.fz b (o+j*6+1) hbl).trans (HFZ (o+j*6+1));have Mb1:=iH (Ma1.out.set hb0 Q1 rfl (Y s1));go_upto_region 7 with fail;clear d1 g1 Ma1;generalize wa1.setCell (E b (o+j*6+1)) (Y s1)=wb1 at *;go_upto_region 8 with fail;obtain⟨y2,hy2⟩:∃t:Int,t=y1+1:=⟨_,rfl⟩;rw[<-hy2];have ha2:z<=y2:=by omega
  have hb2:y2<=y1+1:=by omega
  clear hy2;have d2:=Mb1.out.sl b (o+j*6+2) _ Q2 rfl;go_wp2_with fail;refine(Xu x.marks a2 c2 lo _ wx ws _ N2 hlo Mb1 (by omega) (by omega)).mono ?_;rintro e wb2⟨y3,rfl,ha3,hb3,hm2⟩;have Mb2:=iH hm2;clear hm2 d2 Mb1;go_upto_region 9 with fail;obtain⟨u3,d3⟩:=Mb2.out.so b (o+j*6+3) _ Q3;have g3:=(Mb2.out.fz b (o+j*6+3) hbl).trans (HFZ (o+j*6+3));have Mb3:=iH (Mb2.out.set hb0 Q3 rfl (X y3));go_upto_region 10 with fail;clear d3 g3 Mb2;generalize wb2.setCell (E b (o+j*6+3)) (X y3)=wb3 at *;go_upto_region 11 with fail;obtain⟨y4,hy4⟩:∃t:Int,t=y3+1:=⟨_,rfl⟩;rw[<-hy4];have ha4:z<=y4:=by omega
  have hb4:y4<=y3+1:=by omega
  clear hy4;obtain⟨u4,d4⟩:=Mb3.out.so b (o+j*6+4) _ Q4;have g4:=(Mb3.out.fz b (o+j*6+4) hbl).trans (HFZ (o+j*6+4));have Mb4:=iH (Mb3.out.set hb0 Q4 rfl (X y4));go_upto_region 12 with fail;clear d4 g4 Mb3;generalize wb3.setCell (E b (o+j*6+4)) (X y4)=wb4 at *;go_upto_region 13 with fail;obtain⟨y5,hy5⟩:∃t:Int,t=y4+1:=⟨_,rfl⟩;rw[<-hy5];have ha5:z<=y5:=by omega
  have hb5:y5<=y4+1:=by omega
  clear hy5;obtain⟨u5,d5⟩:=Mb4.out.so b (o+j*6+5) _ Q5;have g5:=(Mb4.out.fz b (o+j*6+5) hbl).trans (HFZ (o+j*6+5));have HYE:Hid (y5+1<=z+12*(((j+1:Nat):Int)+(((xs.take (j+1)).map Cn).sum:Nat))):=by
   show _<=_
   have e2:=HS1.out;have e4:=hY.out;omega
  clear HS1 HS2 H1
  go_wp2
  go_roundw
  case rel=>exact⟨j+1,y5+1,by omega,by go_num,rfl,by omega,HYE,iH (Mb4.out.set hb0 Q5 rfl _)⟩
  simp[intOf];omega
 have hje:j=xs.length:=by omega
 subst hje;have HE:Hid (y0<=z+12*(wS Cn xs:Nat)):=by
  have e1:=HW.out;have e4:=hY.out;rw[List.take_length]at e4;show _<=_
  omega
 go_wp2
 go_ret;exact⟨y0,rfl,hz0,HE,hM.out⟩
theorem dD(xs:List Cpy)(a:OA)(cap lo:Nat)(z:Int)(wx ws w:World)(hin:sC lo wx a xs)(hlo:0<lo)(hm:Mkd lo wx ws w)(h0:0<z)(h1:z+12*(wS Cr xs:Nat)<=1073741824) :
  Calls prog 34 #[.slice a xs.length cap,X z] w λe w'=>∃z',e=.returned (X z')/\z<=z'/\z'<=z+12*(wS Cr xs:Nat)/\Mkd lo wx ws w':=by
 have HI:=iH hin;have HM:=iH hm;have HW:Hid (wS Cr xs=xs.length+(xs.map Cr).sum):=rfl;have hlen:xs.length<=1048576000:=by have:=HW.out;omega
 have H1:=iH h1;clear hin hm h1;go_enter func34,ntmps34
 go_wp2
 go_loopw [1,5] (λv i wr=>∃(j:Nat)(y0:Int),j<=xs.length/\i=X j/\v=X y0/\z<=y0/\Hid (y0<=z+12*((j:Int)+(((xs.take j).map Cr).sum:Nat)))/\Hid (Mkd lo wx ws wr)) (λ_ i _=>xs.length-(intOf i).toNat)
 case atStart=>exact⟨0,z,zL,rfl,rfl,by omega,by show _<=_;simp,HM⟩
 clear HM;obtain⟨j,y0,hj,rfl,rfl,hz0,hY,hM⟩:=hrel;by_cases hlt:j<xs.length
 .obtain⟨x,hx⟩:=gXe hlt
  obtain⟨b,o,rfl,hb0,hbl,hc⟩:=HI.out.at hx;obtain⟨a7,c7,q0,q1,q2,q3,q4,q5,q6,q7,q8,q9,q10,q11,_,_,_,_,_,_,n7⟩:=hc;simp only[Nat.add_zero]at q0;have HS1:Hid (((xs.take (j+1)).map Cr).sum=((xs.take j).map Cr).sum+Cr x):=Eg _ _ _ _ hx;have HS2:Hid (((xs.take (j+1)).map Cr).sum<=(xs.map Cr).sum):=Df _ _ _;have hyb:y0+12*(1+(Cr x:Nat))<=1073741824:=by
   have e1:=HW.out;have e2:=HS1.out;have e3:=HS2.out;have e4:=hY.out;have e5:=H1.out;omega
  have hn7:wS Dm x.likes<=Cr x:=by unfold Cr;omega
  have N7:=iH n7;have Q0:=iH q0;have Q1:=iH q1;have Q2:=iH q2;have Q3:=iH q3;have Q4:=iH q4;have Q5:=iH q5;have Q6:=iH q6;have Q7:=iH q7;have Q8:=iH q8;have Q9:=iH q9;have Q10:=iH q10;have Q11:=iH q11;have hne:xs≠[]:=λe=>by rw[e]at hlt;exact absurd hlt (Nat.not_lt_zero _)
  have HFZ:Hid (∀p,wx.frozen? (E b p)=false):=HI.out.frz hne hlo;have i0:(0:Int)<=(j:Int):=by omega
  have i1:(j:Int)<(xs.length:Int):=by omega
  clear hx hne q0 q1 q2 q3 q4 q5 q6 q7 q8 q9 q10 q11 n7;go_wp2_with fail;refine(Ee _ _ (by omega) (by omega)).mono ?_;rintro e wa0⟨s0,rfl,hb⟩;have Ma0:=iH (hM.out.below hb);clear hb hM;obtain⟨u0,d0⟩:=Ma0.out.so b (o+j*12) _ Q0;have g0:=(Ma0.out.fz b (o+j*12) hbl).trans (HFZ (o+j*12));have Mb0:=iH (Ma0.out.set hb0 Q0 rfl (Y s0));go_upto_region 5 with fail;clear d0 g0 Ma0;generalize wa0.setCell (E b (o+j*12)) (Y s0)=wb0 at *;go_upto_region 6 with fail;obtain⟨y1,hy1⟩:∃t:Int,t=y0+1:=⟨_,rfl⟩;rw[<-hy1];have ha1:z<=y1:=by omega
  have hb1:y1<=y0+1:=by omega
  clear hy1;go_wp2_with fail;refine(Ee _ _ (by omega) (by omega)).mono ?_;rintro e wa1⟨s1,rfl,hb⟩;have Ma1:=iH (Mb0.out.below hb);clear hb Mb0;obtain⟨u1,d1⟩:=Ma1.out.so b (o+j*12+1) _ Q1;have g1:=(Ma1.out.fz b (o+j*12+1) hbl).trans (HFZ (o+j*12+1));have Mb1:=iH (Ma1.out.set hb0 Q1 rfl (Y s1));go_upto_region 7 with fail;clear d1 g1 Ma1;generalize wa1.setCell (E b (o+j*12+1)) (Y s1)=wb1 at *;go_upto_region 8 with fail;obtain⟨y2,hy2⟩:∃t:Int,t=y1+1:=⟨_,rfl⟩;rw[<-hy2];have ha2:z<=y2:=by omega
  have hb2:y2<=y1+1:=by omega
  clear hy2;obtain⟨u2,d2⟩:=Mb1.out.so b (o+j*12+2) _ Q2;have g2:=(Mb1.out.fz b (o+j*12+2) hbl).trans (HFZ (o+j*12+2));have Mb2:=iH (Mb1.out.set hb0 Q2 rfl (X y2));go_upto_region 9 with fail;clear d2 g2 Mb1;generalize wb1.setCell (E b (o+j*12+2)) (X y2)=wb2 at *;go_upto_region 10 with fail;obtain⟨y3,hy3⟩:∃t:Int,t=y2+1:=⟨_,rfl⟩;rw[<-hy3];have ha3:z<=y3:=by omega
  have hb3:y3<=y2+1:=by omega
  clear hy3;obtain⟨u3,d3⟩:=Mb2.out.so b (o+j*12+3) _ Q3;have g3:=(Mb2.out.fz b (o+j*12+3) hbl).trans (HFZ (o+j*12+3));have Mb3:=iH (Mb2.out.set hb0 Q3 rfl (X y3));go_upto_region 11 with fail;clear d3 g3 Mb2;generalize wb2.setCell (E b (o+j*12+3)) (X y3)=wb3 at *;go_upto_region 12 with fail;obtain⟨y4,hy4⟩:∃t:Int,t=y3+1:=⟨_,rfl⟩;rw[<-hy4];have ha4:z<=y4:=by omega
  have hb4:y4<=y3+1:=by omega
  clear hy4;obtain⟨u4,d4⟩:=Mb3.out.so b (o+j*12+4) _ Q4;have g4:=(Mb3.out.fz b (o+j*12+4) hbl).trans (HFZ (o+j*12+4));have Mb4:=iH (Mb3.out.set hb0 Q4 rfl (X y4));go_upto_region 13 with fail;clear d4 g4 Mb3;generalize wb3.setCell (E b (o+j*12+4)) (X y4)=wb4 at *;go_upto_region 14 with fail;obtain⟨y5,hy5⟩:∃t:Int,t=y4+1:=⟨_,rfl⟩;rw[<-hy5];have ha5:z<=y5:=by omega
  have hb5:y5<=y4+1:=by omega
  clear hy5;obtain⟨u5,d5⟩:=Mb4.out.so b (o+j*12+5) _ Q5;have g5:=(Mb4.out.fz b (o+j*12+5) hbl).trans (HFZ (o+j*12+5));have Mb5:=iH (Mb4.out.set hb0 Q5 rfl (X y5));go_upto_region 15 with fail;clear d5 g5 Mb4;generalize wb4.setCell (E b (o+j*12+5)) (X y5)=wb5 at *;go_upto_region 16 with fail;obtain⟨y6,hy6⟩:∃t:Int,t=y5+1:=⟨_,rfl⟩;rw[<-hy6];have ha6:z<=y6:=by omega
  have hb6:y6<=y5+1:=by omega
  clear hy6;go_wp2_with fail;refine(Ee _ _ (by omega) (by omega)).mono ?_;rintro e wa6⟨s6,rfl,hb⟩;have Ma6:=iH (Mb5.out.below hb);clear hb Mb5;obtain⟨u6,d6⟩:=Ma6.out.so b (o+j*12+6) _ Q6;have g6:=(Ma6.out.fz b (o+j*12+6) hbl).trans (HFZ (o+j*12+6));have Mb6:=iH (Ma6.out.set hb0 Q6 rfl (Y s6));go_upto_region 17 with fail;clear d6 g6 Ma6;generalize wa6.setCell (E b (o+j*12+6)) (Y s6)=wb6 at *;go_upto_region 18 with fail;obtain⟨y7,hy7⟩:∃t:Int,t=y6+1:=⟨_,rfl⟩;rw[<-hy7];have ha7:z<=y7:=by omega
  have hb7:y7<=y6+1:=by omega
  clear hy7;have d7:=Mb6.out.sl b (o+j*12+7) _ Q7 rfl;go_wp2_with fail;refine(bX x.likes a7 c7 lo _ wx ws _ N7 hlo Mb6 (by omega) (by omega)).mono ?_;rintro e wb7⟨y8,rfl,ha8,hb8,hm7⟩;have Mb7:=iH hm7;clear hm7 d7 Mb6;go_upto_region 19 with fail;obtain⟨u8,d8⟩:=Mb7.out.so b (o+j*12+8) _ Q8;have g8:=(Mb7.out.fz b (o+j*12+8) hbl).trans (HFZ (o+j*12+8));have Mb8:=iH (Mb7.out.set hb0 Q8 rfl (X y8));go_upto_region 20 with fail;clear d8 g8 Mb7;generalize wb7.setCell (E b (o+j*12+8)) (X y8)=wb8 at *;go_upto_region 21 with fail;obtain⟨y9,hy9⟩:∃t:Int,t=y8+1:=⟨_,rfl⟩;rw[<-hy9];have ha9:z<=y9:=by omega
  have hb9:y9<=y8+1:=by omega
  clear hy9;go_wp2_with fail;refine(Ee _ _ (by omega) (by omega)).mono ?_;rintro e wa9⟨s9,rfl,hb⟩;have Ma9:=iH (Mb8.out.below hb);clear hb Mb8;obtain⟨u9,d9⟩:=Ma9.out.so b (o+j*12+9) _ Q9;have g9:=(Ma9.out.fz b (o+j*12+9) hbl).trans (HFZ (o+j*12+9));have Mb9:=iH (Ma9.out.set hb0 Q9 rfl (Y s9));go_upto_region 22 with fail;clear d9 g9 Ma9;generalize wa9.setCell (E b (o+j*12+9)) (Y s9)=wb9 at *;go_upto_region 23 with fail;obtain⟨y10,hy10⟩:∃t:Int,t=y9+1:=⟨_,rfl⟩;rw[<-hy10];have ha10:z<=y10:=by omega
  have hb10:y10<=y9+1:=by omega
  clear hy10;go_wp2_with fail;refine(Ee _ _ (by omega) (by omega)).mono ?_;rintro e wa10⟨s10,rfl,hb⟩;have Ma10:=iH (Mb9.out.below hb);clear hb Mb9;obtain⟨u10,d10⟩:=Ma10.out.so b (o+j*12+10) _ Q10;have g10:=(Ma10.out.fz b (o+j*12+10) hbl).trans (HFZ (o+j*12+10));have Mb10:=iH (Ma10.out.set hb0 Q10 rfl (Y s10));go_upto_region 24 with fail;clear d10 g10 Ma10;generalize wa10.setCell (E b (o+j*12+10)) (Y s10)=wb10 at *;go_upto_region 25 with fail;obtain⟨y11,hy11⟩:∃t:Int,t=y10+1:=⟨_,rfl⟩;rw[<-hy11];have ha11:z<=y11:=by omega
  have hb11:y11<=y10+1:=by omega
  clear hy11;go_wp2_with fail;refine(Ee _ _ (by omega) (by omega)).mono ?_;rintro e wa11⟨s11,rfl,hb⟩;have Ma11:=iH (Mb10.out.below hb);clear hb Mb10;obtain⟨u11,d11⟩:=Ma11.out.so b (o+j*12+11) _ Q11;have g11:=(Ma11.out.fz b (o+j*12+11) hbl).trans (HFZ (o+j*12+11));have Mb11:=iH (Ma11.out.set hb0 Q11 rfl (Y s11));go_upto_region 26 with fail;clear d11 g11 Ma11;generalize wa11.setCell (E b (o+j*12+11)) (Y s11)=wb11 at *;have HYE:Hid (y11+1<=z+12*(((j+1:Nat):Int)+(((xs.take (j+1)).map Cr).sum:Nat))):=by
   show _<=_
   have e2:=HS1.out;have e4:=hY.out;omega
  clear HS1 HS2 H1
  go_wp2
  go_roundw
  case rel=>exact⟨j+1,y11+1,by omega,by go_num,rfl,by omega,HYE,Mb11⟩
  simp[intOf];omega
 have hje:j=xs.length:=by omega
 subst hje;have HE:Hid (y0<=z+12*(wS Cr xs:Nat)):=by
  have e1:=HW.out;have e4:=hY.out;rw[List.take_length]at e4;show _<=_
  omega
 go_wp2
 go_ret;exact⟨y0,rfl,hz0,HE,hM.out⟩
theorem gQ(x:Flt)(a1:OA)(c1:Nat)(a2:OA)(c2:Nat)(a3:OA)(c3:Nat)(lo:Nat)(z:Int)(wx ws w:World)(n1:sB lo wx a1 x.berths)(n2:sV lo wx a2 x.services)(n3:sC lo wx a3 x.copies)(hlo:0<lo)(hm:Mkd lo wx ws w)(h0:0<z)(h1:z+12*(Ei x:Nat)<=1073741824) :
  Calls prog 10 #[.agg (ffA x a1 c1 a2 c2 a3 c3),X z] w λe w'=>∃z',e=.returned (X z')/\z<=z'/\z'<=z+12*(Ei x:Nat)/\Mkd lo wx ws w':=by
 have N1:=iH n1;have N2:=iH n2;have N3:=iH n3;have HM:=iH hm;have hw:Ei x=wS Cn x.berths+wS Dj x.services+wS Cr x.copies:=rfl;have hw1:Ei x<=wS Cn x.berths+wS Dj x.services+wS Cr x.copies:=by omega
 have hw2:wS Cn x.berths+wS Dj x.services+wS Cr x.copies<=Ei x:=by omega
 clear n1 n2 n3 hm hw;go_enter func10,ntmps10;go_upto_region 1 with fail;have hbx:=(Below.refl _ w).alloc nL (Obj.cells (ffA x a1 c1 a2 c2 a3 c3) 32);have k1:(w.alloc (Obj.cells (ffA x a1 c1 a2 c2 a3 c3) 32)).cell? (E w.heap.size 1)=some (.slice a1 x.berths.length c1):=by simp
 have k2:(w.alloc (Obj.cells (ffA x a1 c1 a2 c2 a3 c3) 32)).cell? (E w.heap.size 2)=some (.slice a2 x.services.length c2):=by simp
 have k3:(w.alloc (Obj.cells (ffA x a1 c1 a2 c2 a3 c3) 32)).cell? (E w.heap.size 3)=some (.slice a3 x.copies.length c3):=by simp
 have M0:=iH (HM.out.below hbx);have hs0:w.heap.size<(w.alloc (Obj.cells (ffA x a1 c1 a2 c2 a3 c3) 32)).heap.size:=by simp
 have hwx:wx.heap.size<=w.heap.size:=HM.out.sz;generalize(w.alloc (Obj.cells (ffA x a1 c1 a2 c2 a3 c3) 32))=w0 at *;clear hbx HM;go_wp2_with fail;refine(cO x.berths a1 c1 lo _ wx _ _ N1 hlo M0.out.rebase (by omega) (by omega)).mono ?_;rintro e w1⟨z1,rfl,ha1,hb1,hm1⟩;have p2:=(hm1.up w.heap.size 2 hwx hs0).1.trans k2;have p3:=(hm1.up w.heap.size 3 hwx hs0).1.trans k3;have M1:=iH (M0.out.trans hm1);have hs1:w.heap.size<w1.heap.size:=block_lt_of_cell p2;clear hm1 M0 k1 k2 k3;go_wp2_with fail;refine(bO x.services a2 c2 lo _ wx _ _ N2 hlo M1.out.rebase (by omega) (by omega)).mono ?_;rintro e w2⟨z2,rfl,ha2,hb2,hm2⟩;have r3:=(hm2.up w.heap.size 3 hwx hs1).1.trans p3;have M2:=iH (M1.out.trans hm2);clear hm2 M1 p2 p3;go_wp2_with fail;refine(dD x.copies a3 c3 lo _ wx _ _ N3 hlo M2.out.rebase (by omega) (by omega)).mono ?_;rintro e w3⟨z3,rfl,ha3,hb3,hm3⟩;have M3:=iH (M2.out.trans hm3);clear hm3 M2 r3
 go_wp2
 go_ret;exact⟨z3,rfl,by omega,by omega,M3⟩
end Go.Proofs.YthboopnmbglkjaaGreat
