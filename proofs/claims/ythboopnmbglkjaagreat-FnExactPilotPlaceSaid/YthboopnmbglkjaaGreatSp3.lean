import Derived.Test.YthboopnmbglkjaaGreatJ19
set_option maxHeartbeats 16000000
set_option maxRecDepth 100000
namespace Go.Proofs.YthboopnmbglkjaaGreat
open Go.RowKit Tryz
theorem Xz(x:Flt)(a1:OA)(c1:Nat)(a2:OA)(c2:Nat)(a3:OA)(c3:Nat)(lo:Nat)(w:World)(n1:sB lo w a1 x.berths)(n2:sV lo w a2 x.services)(n3:sC lo w a3 x.copies)(l1:x.berths.length<=1048576)(l2:x.services.length<=1048576)(l3:x.copies.length<=1048576) :
  Calls prog 17 #[.agg (ffA x a1 c1 a2 c2 a3 c3)] w (Rt (.bool (Uu x)) w):=by
 have N1:=iH n1;have N2:=iH n2;have N3:=iH n3;have HV0:Hid (Uu x=(Dn x&&(Ec (Gr x) x.services.length&&(Ec (Gi x) x.copies.length&&Ec (Fo x) x.berths.length)))):=rfl;clear n1 n2 n3;generalize Uu x=V at *;by_cases h1:x.berths.length<=12
 rotate_left
 .have HC:Hid (V=false):=by show _=_;rw[HV0.out];simp[Dn,h1]
  go_enter func17,ntmps17
  go_wp2
  go_ret;exact⟨Ab HC.out.symm,by go_grown⟩
 by_cases h2:x.services.length<=30
 rotate_left
 .have HC:Hid (V=false):=by show _=_;rw[HV0.out];simp[Dn,h2]
  go_enter func17,ntmps17
  go_wp2
  go_ret;exact⟨Ab HC.out.symm,by go_grown⟩
 by_cases h3:x.copies.length<=60
 rotate_left
 .have HC:Hid (V=false):=by show _=_;rw[HV0.out];simp[Dn,h3]
  go_enter func17,ntmps17
  go_wp2
  go_ret;exact⟨Ab HC.out.symm,by go_grown⟩
 have HV:Hid (V=(Ec (Gr x) x.services.length&&(Ec (Gi x) x.copies.length&&Ec (Fo x) x.berths.length))):=by show _=_;rw[HV0.out];simp[Dn,h1,h2,h3]
 clear HV0;go_enter func17,ntmps17;go_wp2_with fail;have HFL:=qRa w (ffA x a1 c1 a2 c2 a3 c3) 32 (ffL x a1 c1 a2 c2 a3 c3);have HSZ:Hid (w.heap.size<(w.alloc (Obj.cells (ffA x a1 c1 a2 c2 a3 c3) 32)).heap.size):=by show _<_;simp
 have HBL:=iH ((Below.refl _ w).alloc nL (Obj.cells (ffA x a1 c1 a2 c2 a3 c3) 32));generalize w.alloc (Obj.cells (ffA x a1 c1 a2 c2 a3 c3) 32)=w0 at *;go_loopw [3] (λi wr=>∃k:Nat,k<=x.services.length/\i=X k/\Hid (Ec (Gr x) k=true)/\Hid (wr.rangeAt w.heap.size 0 (ffL x a1 c1 a2 c2 a3 c3))/\Hid (w.heap.size<wr.heap.size)/\Hid (bW w wr)) (λi _=>x.services.length-(intOf i).toNat)
 case atStart=>exact⟨0,zL,rfl,rfl,HFL,HSZ,HBL⟩
 clear HFL HSZ HBL;obtain⟨k,hk,rfl,ho,hfl,hsz,hbel⟩:=hrel;have cf:wr.cell? (E w.heap.size 2)=some (.slice a2 x.services.length c2):=hfl.out 2 _ rfl;by_cases hlt:k<x.services.length
 .obtain⟨y,hy⟩:=gXe hlt
  have HIR:=iH (N2.out.below SvcC.holds hbel.out nL);obtain⟨b,o,hbo,_,hbl,hc⟩:=HIR.out.at hy;subst hbo;obtain⟨q0,q1,z0⟩:=hc;simp only[Nat.add_zero]at q0 q1;have HX:=iH hy;have HRA:Hid (wr.rangeAt b (o+k*2) [Y y.name,X y.spare]):=Aa q0 (Aa q1 (Am _ _ _));have Z0:=iH z0;clear z0;clear hy q0 q1;go_upto_region 7 with(first|(refine qLr Vf HRA ?_));have hal:=(Below.refl _ wr).alloc nL (Obj.cells #[Y y.name,X y.spare] 88);have HG:=qRa wr #[Y y.name,X y.spare] 88 [Y y.name,X y.spare];have HS4:Hid (wr.heap.size<(wr.alloc (Obj.cells #[Y y.name,X y.spare] 88)).heap.size):=by show _<_;simp
  have HB4:=qTH hbel hal;have HF4:=iH (Ac hfl.out hal hsz.out);have HRP:=iH (Ac HRA hal hbl);have HZW:=iH hsz;clear hal hbel hfl hsz HRA cf hbl HIR;generalize(wr.alloc (Obj.cells #[Y y.name,X y.spare] 88))=W at *
  go_cut [64] (λc wx=>c=.bool (cH x k)/\Hid (bW W wx))
  case first =>
   have g0:=cell_regrown (HG 0 _ rfl);have g1:=cell_regrown (HG 1 _ rfl);have f0:=cell_regrown (HF4 0 _ rfl);have f1:=cell_regrown (HF4 1 _ rfl);have f2:=cell_regrown (HF4 2 _ rfl);have f3:=cell_regrown (HF4 3 _ rfl);simp only[Nat.zero_add]at g0 g1 f0 f1 f2 f3;have HAT:Hid (Gr x k=(P.nameOk y.name&&(Im (x.services.map (·.name)) k&&inB y.spare 0 60))):=by show _=_;simp only[Gr,HX.out]
   have HBD:Hid (cH x k=!Gr x k):=rfl;generalize hA:P.nameOk y.name=A at *;generalize hC:inB y.spare 0 60=C at *;have cA:∀d os,Calls prog 44 #[Y y.name] (Sort.grow (redrawn W d) os) λe w''=>e=.returned (.bool A)/\∃p:Regrown,w''=Sort.grow (redrawn W p.d) p.os:=λd os=>by
    refine(Bj _ _ Z0).mono ?_;rintro e w' ⟨rfl,rfl⟩;exact⟨by rw[hA],⟨d,os⟩,rfl⟩
   have cC:∀d os,Calls prog 45 #[X y.spare,X 0,X 60] (Sort.grow (redrawn W d) os) λe w''=>e=.returned (.bool C)/\∃p:Regrown,w''=Sort.grow (redrawn W p.d) p.os:=λd os=>by
    refine(Fe _ _ _ _).mono ?_;rintro e w' ⟨rfl,rfl⟩;exact⟨by rw[hC],⟨d,os⟩,rfl⟩
   clear hA hC
   cases A with
   |false =>
    rw[Bool.false_and]at HAT;clear HF4 HB4;refine wp_region_quiet_below (by kernel_rfl) (by kernel_rfl) ?_
    repeat(go_big_quiet_step (first|(go_at_call 44;exact cA _ _)|(go_at_call 45;exact cC _ _)))
    refine wpQuiet_nil ?_;intro w5 hw';obtain⟨⟨dq,osq⟩,hw''⟩:=hw';have hB:=below_regrown W dq osq;simp only[]at hw'';rw[<-hw'']at hB;clear hw''
    go_wp2
    go_meet;exact⟨by rw[HBD.out,HAT.out];rfl,hB⟩
   |true =>
   rw[Bool.true_and]at HAT;rcases Nat.eq_zero_or_pos k with hk0|hk0
   .subst hk0
    have HLT:Hid (Im (x.services.map (·.name)) 0=true):=rfl;rw[HLT.out,Bool.true_and]at HAT
    cases C with
    |false =>
     clear HF4 HB4;refine wp_region_quiet_below (by kernel_rfl) (by kernel_rfl) ?_
     repeat(go_big_quiet_step (first|(go_at_call 44;exact cA _ _)|(go_at_call 45;exact cC _ _)))
     refine wpQuiet_nil ?_;intro w5 hw';obtain⟨⟨dq,osq⟩,hw''⟩:=hw';have hB:=below_regrown W dq osq;simp only[]at hw'';rw[<-hw'']at hB;clear hw''
     go_wp2
     go_meet;exact⟨by rw[HBD.out,HAT.out];rfl,hB⟩
    |true =>
     clear HF4 HB4;refine wp_region_quiet_below (by kernel_rfl) (by kernel_rfl) ?_
     repeat(go_big_quiet_step (first|(go_at_call 44;exact cA _ _)|(go_at_call 45;exact cC _ _)))
     refine wpQuiet_nil ?_;intro w5 hw';obtain⟨⟨dq,osq⟩,hw''⟩:=hw';have hB:=below_regrown W dq osq;simp only[]at hw'';rw[<-hw'']at hB;clear hw''
     go_wp2
     go_meet;exact⟨by rw[HBD.out,HAT.out];rfl,hB⟩
   obtain⟨j,hj⟩:∃j,k=j+1:=⟨k-1,by omega⟩;obtain⟨z,hz⟩:∃z,x.services[j]?=some z:=⟨x.services[j],gE (by omega)⟩;have HIW:=iH (N2.out.below SvcC.holds HB4 nL);obtain⟨b',o',hbo,_,_,hc'⟩:=HIW.out.at hz;cases hbo
   obtain⟨q0,_,_⟩:=hc';simp only[Nat.add_zero]at q0;have q0':W.cell? (E b (o+(k-1)*2))=some (Y z.name):=by rw[show k-1=j from by omega];exact q0
   have r0:=cell_regrown q0';have HLT':Hid (Im (x.services.map (·.name)) k=Op.bytesLess z.name.toList y.name.toList):=Rz hj HX hz;have i1:(j:Int)<(x.services.length:Int):=by omega
   have i2:(0:Int)<(k:Int):=by omega
   have i3:(0:Int)<=(k:Int)-1:=by omega
   have i4:(k:Int)-1<(x.services.length:Int):=by omega
   clear q0 q0' HIW hz hj;rcases Bool.eq_false_or_eq_true (Op.bytesLess z.name.toList y.name.toList)with hless|hless
   rotate_left
   .skip
    rw[HLT'.out,hless,Bool.false_and]at HAT;clear HF4 HB4;refine wp_region_quiet_below (by kernel_rfl) (by kernel_rfl) ?_
    repeat(go_big_quiet_step (first|(go_at_call 44;exact cA _ _)|(go_at_call 45;exact cC _ _)))
    refine wpQuiet_nil ?_;intro w5 hw';obtain⟨⟨dq,osq⟩,hw''⟩:=hw';have hB:=below_regrown W dq osq;simp only[]at hw'';rw[<-hw'']at hB;clear hw''
    go_wp2
    go_meet;exact⟨by rw[HBD.out,HAT.out];rfl,hB⟩
   have HLT:Hid (_=true):=HLT'.out.trans hless;clear HLT';rw[HLT.out,Bool.true_and]at HAT
   cases C with
   |false =>
    clear HF4 HB4;refine wp_region_quiet_below (by kernel_rfl) (by kernel_rfl) ?_
    repeat(go_big_quiet_step (first|(go_at_call 44;exact cA _ _)|(go_at_call 45;exact cC _ _)))
    refine wpQuiet_nil ?_;intro w5 hw';obtain⟨⟨dq,osq⟩,hw''⟩:=hw';have hB:=below_regrown W dq osq;simp only[]at hw'';rw[<-hw'']at hB;clear hw''
    go_wp2
    go_meet;exact⟨by rw[HBD.out,HAT.out];rfl,hB⟩
   |true =>
    clear HF4 HB4;refine wp_region_quiet_below (by kernel_rfl) (by kernel_rfl) ?_
    repeat(go_big_quiet_step (first|(go_at_call 44;exact cA _ _)|(go_at_call 45;exact cC _ _)))
    refine wpQuiet_nil ?_;intro w5 hw';obtain⟨⟨dq,osq⟩,hw''⟩:=hw';have hB:=below_regrown W dq osq;simp only[]at hw'';rw[<-hw'']at hB;clear hw''
    go_wp2
    go_meet;exact⟨by rw[HBD.out,HAT.out];rfl,hB⟩
  obtain⟨rfl,hbc⟩:=hcut;have HFC:Hid (wc.rangeAt w.heap.size 0 (ffL x a1 c1 (O b o) c2 a3 c3)):=Ac HF4 hbc.out (Nat.lt_trans HZW HS4);have HBC:=iH (HB4.out.trans (hbc.out.mono HB4.out.size));have HSC:Hid (w.heap.size<wc.heap.size):=lL (Nat.lt_trans HZW HS4) hbc.out.size;clear hbc HF4 HB4 HS4 HG HRP;have HBD:Hid (cH x k=!Gr x k):=rfl
  cases hbd:cH x k with
  | true =>
   have HC:Hid (V=false):=by
    have h4:=HBD.out.symm.trans hbd;have h5:Gr x k=false:=by simpa using h4
    show _=_
    rw[HV.out,Jd h5 _ hlt];rfl
   clear hbd ho HV HBD
   go_wp2
   go_ret;exact⟨Ab HC.out.symm,HBC⟩
  |false =>
   have HO:Hid (Ec (Gr x) (k+1)=true):=Ou ho.out (by have h4:=HBD.out.symm.trans hbd;simpa using h4);clear hbd ho HBD
   go_wp2
   go_roundw
   case rel=>exact⟨k+1,by omega,by go_num,HO,HFC,HSC,HBC⟩
   simp[intOf];omega
 have hke:k=x.services.length:=by omega
 subst hke;have HV2:Hid (V=(Ec (Gi x) x.copies.length&&Ec (Fo x) x.berths.length)):=by show _=_;rw[HV.out,ho.out];rfl
 clear ho HV;have HV:=HV2;clear HV2;go_wp2_with fail;clear cf;have HFL:=hfl;have HSZ:=hsz;have HBL:=hbel;clear hfl hsz hbel hlt hk;go_loopw [5] (λi wr=>∃k:Nat,k<=x.copies.length/\i=X k/\Hid (Ec (Gi x) k=true)/\Hid (wr.rangeAt w.heap.size 0 (ffL x a1 c1 a2 c2 a3 c3))/\Hid (w.heap.size<wr.heap.size)/\Hid (bW w wr)) (λi _=>x.copies.length-(intOf i).toNat)
 case atStart=>exact⟨0,zL,rfl,rfl,HFL,HSZ,HBL⟩
 clear HFL HSZ HBL;obtain⟨k,hk,rfl,ho,hfl,hsz,hbel⟩:=hrel;have cf:wr.cell? (E w.heap.size 3)=some (.slice a3 x.copies.length c3):=hfl.out 3 _ rfl;by_cases hlt:k<x.copies.length
 .obtain⟨y,hy⟩:=gXe hlt
  have HIR:=iH (N3.out.below CpyC.holds hbel.out nL);obtain⟨b,o,hbo,_,hbl,hc⟩:=HIR.out.at hy;subst hbo;obtain⟨a7,c7,q0,q1,q2,q3,q4,q5,q6,q7,q8,q9,q10,q11,z0,z1,z6,z9,z10,z11,hlk⟩:=hc;simp only[Nat.add_zero]at q0 q1 q2 q3 q4 q5 q6 q7 q8 q9 q10 q11;have HX:=iH hy;have HRA:Hid (wr.rangeAt b (o+k*12) (ccL y a7 c7)):=Aa q0 (Aa q1 (Aa q2 (Aa q3 (Aa q4 (Aa q5 (Aa q6 (Aa q7 (Aa q8 (Aa q9 (Aa q10 (Aa q11 (Am _ _ _))))))))))));have HLK:=iH hlk;have Z0:=iH z0;have Z1:=iH z1;have Z6:=iH z6;have Z9:=iH z9;have Z10:=iH z10;clear hlk z0 z1 z6 z9 z10 z11;clear hy q0 q1 q2 q3 q4 q5 q6 q7 q8 q9 q10 q11;go_upto_region 13 with(first|(refine qLr Hb HRA ?_));have hal:=(Below.refl _ wr).alloc nL (Obj.cells (ccA y a7 c7) 54);have HG:=qRa wr (ccA y a7 c7) 54 (ccL y a7 c7);have HS4:Hid (wr.heap.size<(wr.alloc (Obj.cells (ccA y a7 c7) 54)).heap.size):=by show _<_;simp
  have HB4:=qTH hbel hal;have HF4:=iH (Ac hfl.out hal hsz.out);have HRP:=iH (Ac HRA hal hbl);have HL4:=qSl LikC.holds HLK hal;have HZW:=iH hsz;clear hal hbel hfl hsz HRA cf hbl HIR HLK;generalize(wr.alloc (Obj.cells (ccA y a7 c7) 54))=W at *
  go_cut [114] (λc wx=>c=.bool (bF x k)/\Hid (bW W wx))
  case first =>
   have g0:=cell_regrown (HG 0 _ rfl);have g1:=cell_regrown (HG 1 _ rfl);have g2:=cell_regrown (HG 2 _ rfl);have g3:=cell_regrown (HG 3 _ rfl);have g4:=cell_regrown (HG 4 _ rfl);have g5:=cell_regrown (HG 5 _ rfl);have g6:=cell_regrown (HG 6 _ rfl);have g7:=cell_regrown (HG 7 _ rfl);have g8:=cell_regrown (HG 8 _ rfl);have g9:=cell_regrown (HG 9 _ rfl);have g10:=cell_regrown (HG 10 _ rfl);have g11:=cell_regrown (HG 11 _ rfl);have f0:=cell_regrown (HF4 0 _ rfl);have f1:=cell_regrown (HF4 1 _ rfl);have f2:=cell_regrown (HF4 2 _ rfl);have f3:=cell_regrown (HF4 3 _ rfl);simp only[Nat.zero_add]at g0 g1 g2 g3 g4 g5 g6 g7 g8 g9 g10 g11 f0 f1 f2 f3;have HAT:Hid (Gi x k=(Sm y&&(Im (x.copies.map (·.name)) k&&(!decide (Rm x.services y.service<0)&&(decide (y.at_=⟨#[]⟩)||!decide (He x.berths y.at_<0)))))):=by show _=_;simp only[Gi,HX.out]
   have HBD:Hid (bF x k=!Gi x k):=rfl;generalize hA:Sm y=A at *;generalize hI:Rm x.services y.service=I at *;generalize hJ:He x.berths y.at_=J at *;have cA:∀d os,Calls prog 46 #[.agg (ccA y a7 c7)] (Sort.grow (redrawn W d) os) λe w''=>e=.returned (.bool A)/\∃p:Regrown,w''=Sort.grow (redrawn W p.d) p.os:=λd os=>by
    have:=Calls.regrown_of (gC y a7 c7 lo (Sort.grow (redrawn W d) os) Z0 Z1 Z6 (HL4.out.below LikC.holds (below_regrown W d os) nL) Z9 Z10);rw[hA]at this;exact this
   have cI:∀d os,Calls prog 47 #[.agg (ffA x a1 c1 a2 c2 (O b o) c3),Y y.service] (Sort.grow (redrawn W d) os) λe w''=>e=.returned (X I)/\∃p:Regrown,w''=Sort.grow (redrawn W p.d) p.os:=λd os=>by
    have:=Calls.regrown_of (aN x a1 c1 a2 c2 (O b o) c3 lo y.service (Sort.grow (redrawn W d) os) ((N2.out.below SvcC.holds HB4 nL).below SvcC.holds (below_regrown W d os) nL) l2);rw[hI]at this;exact this
   have cJ:∀d os,Calls prog 48 #[.agg (ffA x a1 c1 a2 c2 (O b o) c3),Y y.at_] (Sort.grow (redrawn W d) os) λe w''=>e=.returned (X J)/\∃p:Regrown,w''=Sort.grow (redrawn W p.d) p.os:=λd os=>by
    have:=Calls.regrown_of (Ma x a1 c1 a2 c2 (O b o) c3 lo y.at_ (Sort.grow (redrawn W d) os) ((N1.out.below BrtC.holds HB4 nL).below BrtC.holds (below_regrown W d os) nL) l1);rw[hJ]at this;exact this
   clear hA hI hJ
   cases A with
   |false =>
    rw[Bool.false_and]at HAT;clear HF4 HB4;refine wp_region_quiet_below (by kernel_rfl) (by kernel_rfl) ?_
    repeat(go_big_quiet_step (first|(go_at_call 46;exact cA _ _)|(go_at_call 47;exact cI _ _)|(go_at_call 48;exact cJ _ _)))
    refine wpQuiet_nil ?_;intro w5 hw';obtain⟨⟨dq,osq⟩,hw''⟩:=hw';have hB:=below_regrown W dq osq;simp only[]at hw'';rw[<-hw'']at hB;clear hw''
    go_wp2
    go_meet;exact⟨by rw[HBD.out,HAT.out];rfl,hB⟩
   |true =>
   rw[Bool.true_and]at HAT;rcases Nat.eq_zero_or_pos k with hk0|hk0
   case' _ =>
    subst hk0;have HLT:Hid (Im (x.copies.map (·.name)) 0=true):=rfl;rw[HLT.out,Bool.true_and]at HAT;by_cases hI0:I<0
    .skip
     rw[decide_eq_true hI0,Bool.not_true,Bool.false_and]at HAT;clear HF4 HB4;refine wp_region_quiet_below (by kernel_rfl) (by kernel_rfl) ?_
     repeat(go_big_quiet_step (first|(go_at_call 46;exact cA _ _)|(go_at_call 47;exact cI _ _)|(go_at_call 48;exact cJ _ _)))
     refine wpQuiet_nil ?_;intro w5 hw';obtain⟨⟨dq,osq⟩,hw''⟩:=hw';have hB:=below_regrown W dq osq;simp only[]at hw'';rw[<-hw'']at hB;clear hw''
     go_wp2
     go_meet;exact⟨by rw[HBD.out,HAT.out];rfl,hB⟩
    rw[decide_eq_false hI0,Bool.not_false,Bool.true_and]at HAT;by_cases hat:y.at_=⟨#[]⟩
    .skip
     rw[decide_eq_true hat,Bool.true_or]at HAT;have hte:=Rf hat;have hte2:=Wx hat;clear hat;clear HF4 HB4;refine wp_region_quiet_below (by kernel_rfl) (by kernel_rfl) ?_
     repeat(go_big_quiet_step (first|(go_at_call 46;exact cA _ _)|(go_at_call 47;exact cI _ _)|(go_at_call 48;exact cJ _ _)))
     refine wpQuiet_nil ?_;intro w5 hw';obtain⟨⟨dq,osq⟩,hw''⟩:=hw';have hB:=below_regrown W dq osq;simp only[]at hw'';rw[<-hw'']at hB;clear hw''
     go_wp2
     go_meet;exact⟨by rw[HBD.out,HAT.out];rfl,hB⟩
    rw[decide_eq_false hat,Bool.false_or]at HAT;have hte:=Zg hat;have hte2:=gL hat;clear hat;by_cases hJ0:J<0
    case' _ =>
     skip;rw[decide_eq_true hJ0,Bool.not_true]at HAT
    rotate_left
    case' _ =>
     skip;rw[decide_eq_false hJ0,Bool.not_false]at HAT
    rotate_left
   rotate_left 2
   case' _ =>
    obtain⟨j,hj⟩:∃j,k=j+1:=⟨k-1,by omega⟩;obtain⟨z,hz⟩:∃z,x.copies[j]?=some z:=⟨x.copies[j],gE (by omega)⟩;have HIW:=iH (N3.out.below CpyC.holds HB4 nL);obtain⟨b',o',hbo,_,_,hc'⟩:=HIW.out.at hz;cases hbo
    obtain⟨_,_,q0,_⟩:=hc';simp only[Nat.add_zero]at q0;have q0':W.cell? (E b (o+(k-1)*12))=some (Y z.name):=by rw[show k-1=j from by omega];exact q0
    have r0:=cell_regrown q0';have HLT':Hid (Im (x.copies.map (·.name)) k=Op.bytesLess z.name.toList y.name.toList):=Rz hj HX hz;have i1:(j:Int)<(x.copies.length:Int):=by omega
    have i2:(0:Int)<(k:Int):=by omega
    have i3:(0:Int)<=(k:Int)-1:=by omega
    have i4:(k:Int)-1<(x.copies.length:Int):=by omega
    clear q0 q0' HIW hz hj;rcases Bool.eq_false_or_eq_true (Op.bytesLess z.name.toList y.name.toList)with hless|hless
    rotate_left
    case' _ =>
     skip;rw[HLT'.out,hless,Bool.false_and]at HAT
    rotate_left
    case' _ =>
     have HLT:Hid (_=true):=HLT'.out.trans hless;clear HLT';rw[HLT.out,Bool.true_and]at HAT;by_cases hI0:I<0
     .skip
      rw[decide_eq_true hI0,Bool.not_true,Bool.false_and]at HAT;clear HF4 HB4;refine wp_region_quiet_below (by kernel_rfl) (by kernel_rfl) ?_
      repeat(go_big_quiet_step (first|(go_at_call 46;exact cA _ _)|(go_at_call 47;exact cI _ _)|(go_at_call 48;exact cJ _ _)))
      refine wpQuiet_nil ?_;intro w5 hw';obtain⟨⟨dq,osq⟩,hw''⟩:=hw';have hB:=below_regrown W dq osq;simp only[]at hw'';rw[<-hw'']at hB;clear hw''
      go_wp2
      go_meet;exact⟨by rw[HBD.out,HAT.out];rfl,hB⟩
     rw[decide_eq_false hI0,Bool.not_false,Bool.true_and]at HAT;by_cases hat:y.at_=⟨#[]⟩
     .skip
      rw[decide_eq_true hat,Bool.true_or]at HAT;have hte:=Rf hat;have hte2:=Wx hat;clear hat;clear HF4 HB4;refine wp_region_quiet_below (by kernel_rfl) (by kernel_rfl) ?_
      repeat(go_big_quiet_step (first|(go_at_call 46;exact cA _ _)|(go_at_call 47;exact cI _ _)|(go_at_call 48;exact cJ _ _)))
      refine wpQuiet_nil ?_;intro w5 hw';obtain⟨⟨dq,osq⟩,hw''⟩:=hw';have hB:=below_regrown W dq osq;simp only[]at hw'';rw[<-hw'']at hB;clear hw''
      go_wp2
      go_meet;exact⟨by rw[HBD.out,HAT.out];rfl,hB⟩
     rw[decide_eq_false hat,Bool.false_or]at HAT;have hte:=Zg hat;have hte2:=gL hat;clear hat;by_cases hJ0:J<0
     case' _ =>
      skip;rw[decide_eq_true hJ0,Bool.not_true]at HAT
     rotate_left
     case' _ =>
      skip;rw[decide_eq_false hJ0,Bool.not_false]at HAT
     rotate_left
    rotate_left 2
   rotate_left 3
   all_goals
    clear HF4 HB4;refine wp_region_quiet_below (by kernel_rfl) (by kernel_rfl) ?_
    repeat(go_big_quiet_step (first|(go_at_call 46;exact cA _ _)|(go_at_call 47;exact cI _ _)|(go_at_call 48;exact cJ _ _)))
    refine wpQuiet_nil ?_;intro w5 hw';obtain⟨⟨dq,osq⟩,hw''⟩:=hw';have hB:=below_regrown W dq osq;simp only[]at hw'';rw[<-hw'']at hB;clear hw''
    go_wp2
    go_meet;exact⟨by rw[HBD.out,HAT.out];rfl,hB⟩
  obtain⟨rfl,hbc⟩:=hcut;have HFC:Hid (wc.rangeAt w.heap.size 0 (ffL x a1 c1 a2 c2 (O b o) c3)):=Ac HF4 hbc.out (Nat.lt_trans HZW HS4);have HBC:=iH (HB4.out.trans (hbc.out.mono HB4.out.size));have HSC:Hid (w.heap.size<wc.heap.size):=lL (Nat.lt_trans HZW HS4) hbc.out.size;clear hbc HF4 HB4 HS4 HG HRP HL4;have HBD:Hid (bF x k=!Gi x k):=rfl
  cases hbd:bF x k with
  | true =>
   have HC:Hid (V=false):=by
    have h4:=HBD.out.symm.trans hbd;have h5:Gi x k=false:=by simpa using h4
    show _=_
    rw[HV.out,Jd h5 _ hlt];rfl
   clear hbd ho HV HBD
   go_wp2
   go_ret;exact⟨Ab HC.out.symm,HBC⟩
  |false =>
   have HO:Hid (Ec (Gi x) (k+1)=true):=Ou ho.out (by have h4:=HBD.out.symm.trans hbd;simpa using h4);clear hbd ho HBD
   go_wp2
   go_roundw
   case rel=>exact⟨k+1,by omega,by go_num,HO,HFC,HSC,HBC⟩
   simp[intOf];omega
 have hke:k=x.copies.length:=by omega
 subst hke;have HV2:Hid (V=(Ec (Fo x) x.berths.length)):=by show _=_;rw[HV.out,ho.out];rfl
 clear ho HV;have HV:=HV2;clear HV2;go_wp2_with fail;clear cf;have HFL:=hfl;have HSZ:=hsz;have HBL:=hbel;clear hfl hsz hbel hlt hk;go_loopw [7] (λi wr=>∃k:Nat,k<=x.berths.length/\i=X k/\Hid (Ec (Fo x) k=true)/\Hid (wr.rangeAt w.heap.size 0 (ffL x a1 c1 a2 c2 a3 c3))/\Hid (w.heap.size<wr.heap.size)/\Hid (bW w wr)) (λi _=>x.berths.length-(intOf i).toNat)
 case atStart=>exact⟨0,zL,rfl,rfl,HFL,HSZ,HBL⟩
 clear HFL HSZ HBL;obtain⟨k,hk,rfl,ho,hfl,hsz,hbel⟩:=hrel;have cf:wr.cell? (E w.heap.size 1)=some (.slice a1 x.berths.length c1):=hfl.out 1 _ rfl;by_cases hlt:k<x.berths.length
 .obtain⟨y,hy⟩:=gXe hlt
  have HIR:=iH (N1.out.below BrtC.holds hbel.out nL);obtain⟨b,o,hbo,_,hbl,hc⟩:=HIR.out.at hy;subst hbo;obtain⟨a7,c7,q0,q1,q2,q3,q4,q5,z0,z1,hlk⟩:=hc;simp only[Nat.add_zero]at q0 q1 q2 q3 q4 q5;have HX:=iH hy;have HRA:Hid (wr.rangeAt b (o+k*6) (bbL y a7 c7)):=Aa q0 (Aa q1 (Aa q2 (Aa q3 (Aa q4 (Aa q5 (Am _ _ _))))));have HLK:=iH hlk;have Z0:=iH z0;have Z1:=iH z1;clear hlk z0 z1;clear hy q0 q1 q2 q3 q4 q5;go_upto_region 19 with(first|(refine qLr Ki HRA ?_));have hal:=(Below.refl _ wr).alloc nL (Obj.cells (bbA y a7 c7) 92);have HG:=qRa wr (bbA y a7 c7) 92 (bbL y a7 c7);have HS4:Hid (wr.heap.size<(wr.alloc (Obj.cells (bbA y a7 c7) 92)).heap.size):=by show _<_;simp
  have HB4:=qTH hbel hal;have HF4:=iH (Ac hfl.out hal hsz.out);have HRP:=iH (Ac HRA hal hbl);have HL4:=qSl StrC.holds HLK hal;have HZW:=iH hsz;clear hal hbel hfl hsz HRA cf hbl HIR HLK;generalize(wr.alloc (Obj.cells (bbA y a7 c7) 92))=W at *;have e0:W.cell? (E w.heap.size 0)=some (.bool x.pack):=HF4.out 0 _ rfl;have e1:W.cell? (E w.heap.size 1)=some (sP b o x.berths.length c1):=HF4.out 1 _ rfl;have e2:W.cell? (E w.heap.size 2)=some (.slice a2 x.services.length c2):=HF4.out 2 _ rfl;have e3:W.cell? (E w.heap.size 3)=some (.slice a3 x.copies.length c3):=HF4.out 3 _ rfl;have g0:W.cell? (E wr.heap.size 0)=some (Y y.name):=HG.out 0 _ rfl;go_wp2_with fail;refine(bT x (O b o) c1 a2 c2 a3 c3 lo y.name _ (N1.out.below BrtC.holds HB4 nL) (N3.out.below CpyC.holds HB4 nL) l1 l3).mono ?_;rintro e W2⟨rfl,hb2⟩;have HG2:=iH (Ac HG hb2 HS4);have HS2:Hid (wr.heap.size<W2.heap.size):=lL HS4 hb2.size;have HB2:=qTH HB4 hb2;have HF2:Hid (W2.rangeAt w.heap.size 0 (ffL x (O b o) c1 a2 c2 a3 c3)):=Ac HF4 hb2 (Nat.lt_trans HZW HS4);have HL2:=qSl StrC.holds HL4 hb2;clear hb2 HG HS4 HB4 HF4 HL4 HRP e0 e1 e2 e3 g0;have HG:=HG2;have HS4:=HS2;have HB4:=HB2;have HF4:=HF2;have HL4:=HL2;clear HG2 HS2 HB2 HF2 HL2;generalize hU:Md x y.name=U at *;have HU:=iH hU;clear hU;go_upto_region 20 with fail
  go_cut [171] (λc wx=>c=.bool (dB x k)/\Hid (bW W2 wx))
  case first =>
   have g0:=cell_regrown (HG 0 _ rfl);have g1:=cell_regrown (HG 1 _ rfl);have g2:=cell_regrown (HG 2 _ rfl);have g3:=cell_regrown (HG 3 _ rfl);have g4:=cell_regrown (HG 4 _ rfl);have g5:=cell_regrown (HG 5 _ rfl);have f0:=cell_regrown (HF4 0 _ rfl);have f1:=cell_regrown (HF4 1 _ rfl);have f2:=cell_regrown (HF4 2 _ rfl);have f3:=cell_regrown (HF4 3 _ rfl);simp only[Nat.zero_add]at g0 g1 g2 g3 g4 g5 f0 f1 f2 f3;have HAT:Hid (Fo x k=(Mg y&&(Im (x.berths.map (·.name)) k&&(!decide (y.room<U.1)&&(!decide (y.hold<U.2)&&!decide (10<Gj x.copies y.name x.copies.length)))))):=by show _=_;simp only[Fo,HX.out,HU.out]
   have HBD:Hid (dB x k=!Fo x k):=rfl;generalize hA:Mg y=A at *;generalize hI:Gj x.copies y.name x.copies.length=I at *;have cA:∀d os,Calls prog 50 #[.agg (bbA y a7 c7)] (Sort.grow (redrawn W2 d) os) λe w''=>e=.returned (.bool A)/\∃p:Regrown,w''=Sort.grow (redrawn W2 p.d) p.os:=λd os=>by
    have:=Calls.regrown_of (aO y a7 c7 lo (Sort.grow (redrawn W2 d) os) Z0 Z1 (HL4.out.below StrC.holds (below_regrown W2 d os) nL));rw[hA]at this;exact this
   have cI:∀d os,Calls prog 51 #[.agg (ffA x (O b o) c1 a2 c2 a3 c3),Y y.name] (Sort.grow (redrawn W2 d) os) λe w''=>e=.returned (X I)/\∃p:Regrown,w''=Sort.grow (redrawn W2 p.d) p.os:=λd os=>by
    have:=Calls.regrown_of (lF x (O b o) c1 a2 c2 a3 c3 lo y.name (Sort.grow (redrawn W2 d) os) ((N3.out.below CpyC.holds HB4 nL).below CpyC.holds (below_regrown W2 d os) nL) l3);rw[hI]at this;exact this
   clear hA hI
   cases A with
   |false =>
    rw[Bool.false_and]at HAT;clear HF4 HB4;refine wp_region_quiet_below (by kernel_rfl) (by kernel_rfl) ?_
    repeat(go_big_quiet_step (first|(go_at_call 50;exact cA _ _)|(go_at_call 51;exact cI _ _)))
    refine wpQuiet_nil ?_;intro w5 hw';obtain⟨⟨dq,osq⟩,hw''⟩:=hw';have hB:=below_regrown W2 dq osq;simp only[]at hw'';rw[<-hw'']at hB;clear hw''
    go_wp2
    go_meet;exact⟨by rw[HBD.out,HAT.out];rfl,hB⟩
   |true =>
   rw[Bool.true_and]at HAT;rcases Nat.eq_zero_or_pos k with hk0|hk0
   case' _ =>
    subst hk0;have HLT:Hid (Im (x.berths.map (·.name)) 0=true):=rfl;rw[HLT.out,Bool.true_and]at HAT;by_cases hr0:y.room<U.1
    .skip
     rw[decide_eq_true hr0,Bool.not_true,Bool.false_and]at HAT;clear HF4 HB4;refine wp_region_quiet_below (by kernel_rfl) (by kernel_rfl) ?_
     repeat(go_big_quiet_step (first|(go_at_call 50;exact cA _ _)|(go_at_call 51;exact cI _ _)))
     refine wpQuiet_nil ?_;intro w5 hw';obtain⟨⟨dq,osq⟩,hw''⟩:=hw';have hB:=below_regrown W2 dq osq;simp only[]at hw'';rw[<-hw'']at hB;clear hw''
     go_wp2
     go_meet;exact⟨by rw[HBD.out,HAT.out];rfl,hB⟩
    rw[decide_eq_false hr0,Bool.not_false,Bool.true_and]at HAT;by_cases hh0:y.hold<U.2
    .skip
     rw[decide_eq_true hh0,Bool.not_true,Bool.false_and]at HAT;clear HF4 HB4;refine wp_region_quiet_below (by kernel_rfl) (by kernel_rfl) ?_
     repeat(go_big_quiet_step (first|(go_at_call 50;exact cA _ _)|(go_at_call 51;exact cI _ _)))
     refine wpQuiet_nil ?_;intro w5 hw';obtain⟨⟨dq,osq⟩,hw''⟩:=hw';have hB:=below_regrown W2 dq osq;simp only[]at hw'';rw[<-hw'']at hB;clear hw''
     go_wp2
     go_meet;exact⟨by rw[HBD.out,HAT.out];rfl,hB⟩
    rw[decide_eq_false hh0,Bool.not_false,Bool.true_and]at HAT;by_cases hi0:10<I
    case' _ =>
     skip;rw[decide_eq_true hi0,Bool.not_true]at HAT;have hi1:(10:Int)<(I:Int):=by omega
    rotate_left
    case' _ =>
     skip;rw[decide_eq_false hi0,Bool.not_false]at HAT;have hi1:¬(10:Int)<(I:Int):=by omega
    rotate_left
   rotate_left 2
   case' _ =>
    obtain⟨j,hj⟩:∃j,k=j+1:=⟨k-1,by omega⟩;obtain⟨z,hz⟩:∃z,x.berths[j]?=some z:=⟨x.berths[j],gE (by omega)⟩;have HIW:=iH (N1.out.below BrtC.holds HB4 nL);obtain⟨b',o',hbo,_,_,hc'⟩:=HIW.out.at hz;cases hbo
    obtain⟨_,_,q0,_⟩:=hc';simp only[Nat.add_zero]at q0;have q0':W2.cell? (E b (o+(k-1)*6))=some (Y z.name):=by rw[show k-1=j from by omega];exact q0
    have r0:=cell_regrown q0';have HLT':Hid (Im (x.berths.map (·.name)) k=Op.bytesLess z.name.toList y.name.toList):=Rz hj HX hz;have i1:(j:Int)<(x.berths.length:Int):=by omega
    have i2:(0:Int)<(k:Int):=by omega
    have i3:(0:Int)<=(k:Int)-1:=by omega
    have i4:(k:Int)-1<(x.berths.length:Int):=by omega
    clear q0 q0' HIW hz hj;rcases Bool.eq_false_or_eq_true (Op.bytesLess z.name.toList y.name.toList)with hless|hless
    rotate_left
    case' _ =>
     skip;rw[HLT'.out,hless,Bool.false_and]at HAT
    rotate_left
    case' _ =>
     have HLT:Hid (_=true):=HLT'.out.trans hless;clear HLT';rw[HLT.out,Bool.true_and]at HAT;by_cases hr0:y.room<U.1
     .skip
      rw[decide_eq_true hr0,Bool.not_true,Bool.false_and]at HAT;clear HF4 HB4;refine wp_region_quiet_below (by kernel_rfl) (by kernel_rfl) ?_
      repeat(go_big_quiet_step (first|(go_at_call 50;exact cA _ _)|(go_at_call 51;exact cI _ _)))
      refine wpQuiet_nil ?_;intro w5 hw';obtain⟨⟨dq,osq⟩,hw''⟩:=hw';have hB:=below_regrown W2 dq osq;simp only[]at hw'';rw[<-hw'']at hB;clear hw''
      go_wp2
      go_meet;exact⟨by rw[HBD.out,HAT.out];rfl,hB⟩
     rw[decide_eq_false hr0,Bool.not_false,Bool.true_and]at HAT;by_cases hh0:y.hold<U.2
     .skip
      rw[decide_eq_true hh0,Bool.not_true,Bool.false_and]at HAT;clear HF4 HB4;refine wp_region_quiet_below (by kernel_rfl) (by kernel_rfl) ?_
      repeat(go_big_quiet_step (first|(go_at_call 50;exact cA _ _)|(go_at_call 51;exact cI _ _)))
      refine wpQuiet_nil ?_;intro w5 hw';obtain⟨⟨dq,osq⟩,hw''⟩:=hw';have hB:=below_regrown W2 dq osq;simp only[]at hw'';rw[<-hw'']at hB;clear hw''
      go_wp2
      go_meet;exact⟨by rw[HBD.out,HAT.out];rfl,hB⟩
     rw[decide_eq_false hh0,Bool.not_false,Bool.true_and]at HAT;by_cases hi0:10<I
     case' _ =>
      skip;rw[decide_eq_true hi0,Bool.not_true]at HAT;have hi1:(10:Int)<(I:Int):=by omega
     rotate_left
     case' _ =>
      skip;rw[decide_eq_false hi0,Bool.not_false]at HAT;have hi1:¬(10:Int)<(I:Int):=by omega
     rotate_left
    rotate_left 2
   rotate_left 3
   all_goals
    clear HF4 HB4;refine wp_region_quiet_below (by kernel_rfl) (by kernel_rfl) ?_
    repeat(go_big_quiet_step (first|(go_at_call 50;exact cA _ _)|(go_at_call 51;exact cI _ _)))
    refine wpQuiet_nil ?_;intro w5 hw';obtain⟨⟨dq,osq⟩,hw''⟩:=hw';have hB:=below_regrown W2 dq osq;simp only[]at hw'';rw[<-hw'']at hB;clear hw''
    go_wp2
    go_meet;exact⟨by rw[HBD.out,HAT.out];rfl,hB⟩
  obtain⟨rfl,hbc⟩:=hcut;have HFC:Hid (wc.rangeAt w.heap.size 0 (ffL x (O b o) c1 a2 c2 a3 c3)):=Ac HF4 hbc.out (Nat.lt_trans HZW HS4);have HBC:=iH (HB4.out.trans (hbc.out.mono HB4.out.size));have HSC:Hid (w.heap.size<wc.heap.size):=lL (Nat.lt_trans HZW HS4) hbc.out.size;clear hbc HF4 HB4 HS4 HG HL4;have HBD:Hid (dB x k=!Fo x k):=rfl
  cases hbd:dB x k with
  | true =>
   have HC:Hid (V=false):=by
    have h4:=HBD.out.symm.trans hbd;have h5:Fo x k=false:=by simpa using h4
    show _=_
    rw[HV.out,Jd h5 _ hlt];skip
   clear hbd ho HV HBD
   go_wp2
   go_ret;exact⟨Ab HC.out.symm,HBC⟩
  |false =>
   have HO:Hid (Ec (Fo x) (k+1)=true):=Ou ho.out (by have h4:=HBD.out.symm.trans hbd;simpa using h4);clear hbd ho HBD
   go_wp2
   go_roundw
   case rel=>exact⟨k+1,by omega,by go_num,HO,HFC,HSC,HBC⟩
   simp[intOf];omega
 have hke:k=x.berths.length:=by omega
 subst hke;have HV2:Hid (V=(true)):=by show _=_;rw[HV.out,ho.out]
 clear ho HV;have HV:=HV2;clear HV2
 go_wp2
 go_ret;exact⟨Ab HV.out.symm,hbel.out⟩
end Go.Proofs.YthboopnmbglkjaaGreat
