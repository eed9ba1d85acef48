import Derived.Test.YtjoeojhdkoidbaaGreatJ39
set_option maxHeartbeats 8000000
set_option maxRecDepth 100000
namespace Go.Proofs.YtjoeojhdkoidbaaGreat
open Go.RowKit Go.WideMaps Go.Maps Tryz
theorem SliceC.keepI {lo G m:Nat} {w w':World} {pa:OA} {is:List Int} (h:SliceC IntC 1 lo w pa is) (hb:Bt2 G m w w') (hp:is≠[]→∀ b o,pa=some ⟨b,o,none⟩→b≠G∧b≠m):SliceC IntC 1 lo w' pa is:=by
 by_cases hz:is=[]
 ·exact ⟨h.1,.inl hz⟩
 refine ⟨h.1,?_⟩;rcases h.2 with e | ⟨b,o,e,⟨q1,q2⟩,q3,q4⟩
 ·exact .inl e
 ·have hbl:=hb.2.2 b q3 (hp hz b o e).1 (hp hz b o e).2
  refine .inr ⟨b,o,e,⟨q1,fun h0 p=>(World.frozen?_of_block (a:=⟨b,p,none⟩) hbl).trans (q2 h0 p)⟩,lL q3 hb.2.1,fun j x hj=>?_⟩;have h9:_=_:=q4 j x hj;exact (World.cell?_of_block (a:=⟨b,_,none⟩) hbl).trans h9
theorem eH (x:Flt) (s:Stp) (a1:OA) (c1:Nat) (a2:OA) (c2:Nat) (a3:OA) (c3:Nat) (ag:OA) (cg lo:Nat) (w:World) (n1:SliceC BrtC 6 lo w a1 x.berths) (n2:SliceC SvcC 2 lo w a2 x.services) (n3:SliceC CpyC 12 lo w a3 x.copies) (hg:SliceC StrC 1 lo w ag s.gone) (hgl:s.gone.length≤1048576) (hcn:s.copy.size≤maxLen) (hbn:s.berth.size≤maxLen) (l1:x.berths.length≤1048576) (l2:x.services.length≤1048576) (l3:x.copies.length≤1048576) (hsm:SmB x.berths∧Uf x.services 1048576∧SmC x.copies) :
  Calls prog 9 #[.agg (ffA x a1 c1 a2 c2 a3 c3),.agg (hhA s ag cg)] w fun e w'=>uL x s w e w':=by
 obtain ⟨w0,hw0,HX,HP,HZ,HB⟩:=alU w (ffA x a1 c1 a2 c2 a3 c3) (hhA s ag cg) FfA 36 40 36;have N1:=iH n1;have N2:=iH n2;have N3:=iH n3;have NG:=iH hg;have HSM:=iH hsm;clear n1 n2 n3 hg hsm;go_enter func9,ntmps9;go_upto_region 1 with fail;rw [← hw0];clear hw0;have hs0:w.heap.size+2<w0.heap.size:=HZ.out.lt;have HRX:=iH HX.out.rangeA;have k0:=HP.out.cell (o:=0) rfl;have k1:=HP.out.cell (o:=1) rfl;go_wp2_with (first | (refine qLr Kq HRX ?_));clear k0 k1 HRX;refine (aG x a1 c1 a2 c2 a3 c3 lo s.copy s.berth w0 (N1.out.below BrtC.holds HB nL) (N2.out.below SvcC.holds HB nL) (N3.out.below CpyC.holds HB nL) l1 l2 l3 hcn hbn).mono ?_;rintro e w1 ⟨hres,hb1⟩;have hs1:w0.heap.size≤w1.heap.size:=hb1.size;have HB1:=iH (HB.out.trans (hb1.mono (by omega)));have HX1:=qBk HX hb1;have HP1:=qBk HP hb1;have HZ1:=qBk HZ hb1;clear HB HX HP HZ;rcases hres with ⟨rfl,hsc⟩ | ⟨p,m1,m2,m3,m4,ci,bi,y,b,a7,c7,am,cm,rfl,hv,hy,hb,hsc,hF,hp,hm4,s7,sm⟩
 ·skip
  have HNO:Hid (∀ ci bi y b,¬ Mr x s ci bi y b):=fun ci bi y b h=>by rw [h.1] at hsc;cases hsc
  clear hsc;have hza:=Blk.alloc w1 Bm 69;have HTS:Hid ((w1.alloc (Obj.cells Bm 69)).there w1.heap.size 0 24):=hza.there;obtain ⟨w2,HW2⟩:∃ w2,Hid (w2=(w1.alloc (Obj.cells Bm 69)).setCells w1.heap.size 0 (Bm).toList):=⟨_,rfl⟩;have HS2:Hid (Blk w1.heap.size (Bm) 69 w2):=by
   show Blk _ _ _ _
   rw [HW2.out];exact hza.setAll (Bm) rfl
  have hbs:Below w1.heap.size w1 w2:=by
   rw [HW2.out];exact Ad nL _ _ _ ((Below.refl _ w1).alloc nL _)
  clear hza;have hs2:w1.heap.size<w2.heap.size:=HS2.out.lt;have HB2:=iH (HB1.out.trans (hbs.mono (by omega)));have HX2:=qBk HX1 hbs;have HP2:=qBk HP1 hbs;have HZ2:=qBk HZ1 hbs;clear hbs;obtain ⟨wf,HE,HTZ,HRf,HBf⟩:=noW HZ2 HB2;go_wp2_with (first | (refine Ag rfl 36 _ _ rfl (w.heap.size+2) 0 FfA rfl rfl HTZ Am (by simp [Value.oneCell']) wf HE ?_) | (refine Ag rfl 69 _ _ rfl w1.heap.size 0 Bm rfl rfl HTS Cz (by simp [Value.oneCell']) w2 HW2 ?_));exact bodyPost_ret (Bi rfl _ _ (w.heap.size+2) FfL _ rfl HRf underlying36 rfl Am) rfl ⟨_,noF,false,rfl,DoRes.no HNO,NwRes.noD HBf.out.2 HBf.out.1⟩
 ·skip
  have hbnm:b.name=s.berth:=Wn hsc hb;have HBN:=iH hbnm;clear hbnm;obtain ⟨u1,hu1⟩:∃ u:Int,u=(Ar x.copies b.name ci x.copies.length).1:=⟨_,rfl⟩;obtain ⟨u2,hu2⟩:∃ u:Int,u=(Ar x.copies b.name ci x.copies.length).2.1:=⟨_,rfl⟩;obtain ⟨u3,hu3⟩:∃ u:Int,u=(Ar x.copies b.name ci x.copies.length).2.2:=⟨_,rfl⟩;rw [← hu1,← hu2,← hu3];clear hu1 hu2 hu3 s7 sm;have hza:=Blk.alloc w1 Bm 69;have HTS:Hid ((w1.alloc (Obj.cells Bm 69)).there w1.heap.size 0 24):=hza.there;obtain ⟨w2,HW2⟩:∃ w2,Hid (w2=(w1.alloc (Obj.cells Bm 69)).setCells w1.heap.size 0 (Aq p ci bi y a7 c7 b am cm u1 u2 u3).toList):=⟨_,rfl⟩;have HS2:Hid (Blk w1.heap.size (Aq p ci bi y a7 c7 b am cm u1 u2 u3) 69 w2):=by
   show Blk _ _ _ _
   rw [HW2.out];exact hza.setAll (Aq p ci bi y a7 c7 b am cm u1 u2 u3) rfl
  have hbs:Below w1.heap.size w1 w2:=by
   rw [HW2.out];exact Ad nL _ _ _ ((Below.refl _ w1).alloc nL _)
  clear hza;have hs2:w1.heap.size<w2.heap.size:=HS2.out.lt;have HB2:=iH (HB1.out.trans (hbs.mono (by omega)));have HX2:=qBk HX1 hbs;have HP2:=qBk HP1 hbs;have HZ2:=qBk HZ1 hbs;have HF2:=iH (hF.below hbs);have HV:=iH hv;have HY:=iH hy;have HBY:=iH hb;have HSC:=iH hsc;have hpl2:p<w1.heap.size:=hF.1.2.1;have hm4l:m4<w1.heap.size:=(FoundM.of hF.1).memo.lt;clear hbs hF hv hy hb hsc;go_upto_region 2 with (first | (refine Ag rfl 69 _ _ rfl w1.heap.size 0 (Aq p ci bi y a7 c7 b am cm u1 u2 u3) rfl rfl HTS Cz (by simp [Value.oneCell']) w2 HW2 ?_));clear HTS HW2 HX1 HP1 HZ1 HB1;have k13:=HS2.out.cell (o:=13) rfl;by_cases hat:y.at_=⟨#[]⟩
  case neg =>
   have HNO:Hid (∀ ci bi y b,¬ Mr x s ci bi y b):=fun ci2 bi2 y2 b2 h=>by
    have e9:=HSC.out.symm.trans h.1;cases e9
    have e8:=HY.out.symm.trans h.2.1;cases e8
    exact hat h.2.2.2.1
   have hte:=Ay hat;have hte2:y.at_.toList.isEmpty=false:=by
    try unfold ffA hhA
    cases h:y.at_.toList with
    | nil=>exact absurd h hte
    | cons a l=>rfl
   clear hat;obtain ⟨wf,HE,HTZ,HRf,HBf⟩:=noW HZ2 HB2;go_wp2_with (first | (refine Ag rfl 36 _ _ rfl (w.heap.size+2) 0 FfA rfl rfl HTZ Am (by simp [Value.oneCell']) wf HE ?_));exact bodyPost_ret (Bi rfl _ _ (w.heap.size+2) FfL _ rfl HRf underlying36 rfl Am) rfl ⟨_,noF,false,rfl,DoRes.no HNO,NwRes.noD HBf.out.2 HBf.out.1⟩
  have hte:=Bf hat;have hte2:y.at_.toList.isEmpty=true:=by rw [hte];rfl
  have HAT:=iH hat;clear hat;go_upto_region 4 with fail;clear k13 hte hte2;have k0:=HS2.out.cell (o:=0) rfl;have k2:=HP2.out.cell (o:=2) rfl;go_wp2_with fail;clear k0 k2;refine (Yp p m1 m2 m3 m4 x a1 c1 a2 c2 a3 c3 lo s.gone ag cg lo w2 HF2.out.1 (N2.out.below SvcC.holds HB2 nL) (N3.out.below CpyC.holds HB2 nL) (NG.out.below StrC.holds HB2 nL) hgl HV).mono ?_;rintro e w3 ⟨v,t,rfl,hmay,hpl,hb3⟩;have hs3:w2.heap.size≤w3.heap.size:=hb3.size;have HB3:=iH (HB2.out.trans (hb3.mono (by omega)));have HX3:=qBk HX2 hb3;have HP3:=qBk HP2 hb3;have HZ3:=qBk HZ2 hb3;have HS3:=qBk HS2 hb3;have HF3:=iH (HF2.out.below hb3);clear hb3 HB2 HX2 HP2 HZ2 HS2 HF2
  cases t with
  | false =>
   have HNO:Hid (∀ ci bi y b,¬ Mr x s ci bi y b):=fun ci2 bi2 y2 b2 h=>absurd (hmay.2 h.2.2.2.2.1) (by decide)
   clear hmay hpl;obtain ⟨wf,HE,HTZ,HRf,HBf⟩:=noW HZ3 HB3;go_wp2_with (first | (refine Ag rfl 36 _ _ rfl (w.heap.size+2) 0 FfA rfl rfl HTZ Am (by simp [Value.oneCell']) wf HE ?_));exact bodyPost_ret (Bi rfl _ _ (w.heap.size+2) FfL _ rfl HRf underlying36 rfl Am) rfl ⟨_,noF,false,rfl,DoRes.no HNO,NwRes.noD HBf.out.2 HBf.out.1⟩
  | true =>
   obtain ⟨pa,pc,rfl,hps,hin⟩:=hpl rfl;have HMAY:Hid (May x s.gone):=hmay.1 rfl;have HPS:=iH hps;have HIN:=iH hin;have hpll:(Dl x s.gone).length≤1048576:=by unfold Dl;rw [List.length_map];exact hgl
   clear hmay hpl hps hin;have HPA:Hid (Dl x s.gone≠[]→∀ b o,pa=some ⟨b,o,none⟩→w2.heap.size≤b∧b<w3.heap.size):=by
    intro hne b0 o0 e0;rcases HPS.out.2 with h9 | ⟨b1,o1,e1,⟨q1,_⟩,q3,_⟩
    ·exact absurd (show Dl x s.gone=[] from List.map_eq_nil_iff.1 h9) hne
    ·rw [e0] at e1
     cases e1
     exact ⟨q1,q3⟩
   generalize hpd:Dl x s.gone=pl at *;have k1:=HP3.out.cell (o:=1) rfl;go_wp2_with fail;clear k1;refine (Yi p x.copies a3 c3 lo s.berth pl pa pc w2.heap.size w3 (HF3.out.1.1 3 _ rfl) (N3.out.below CpyC.holds HB3 nL) HPS HIN hpll).mono ?_;rintro e w4 ⟨rfl,hb4⟩;have hs4:w3.heap.size≤w4.heap.size:=hb4.size;have HB4:=iH (HB3.out.trans (hb4.mono (by omega)));have HX4:=qBk HX3 hb4;have HP4:=qBk HP3 hb4;have HZ4:=qBk HZ3 hb4;have HS4:=qBk HS3 hb4;have HF4:=iH (HF3.out.below hb4);have HPS4:=qSl IntC.holds HPS hb4;clear hb4 HB3 HX3 HP3 HZ3 HS3 HF3 HPS;obtain ⟨qa,hqa⟩:∃ t,pl.any (Mt x.copies s.berth)=t:=⟨_,rfl⟩;rw [hqa]
   cases qa with
   | true =>
    have HNO:Hid (∀ ci bi y b,¬ Mr x s ci bi y b):=fun ci2 bi2 y2 b2 h=>lQ hqa (by rw [← hpd];exact h.2.2.2.2.2.1)
    clear hqa;obtain ⟨wf,HE,HTZ,HRf,HBf⟩:=noW HZ4 HB4;go_wp2_with (first | (refine Ag rfl 36 _ _ rfl (w.heap.size+2) 0 FfA rfl rfl HTZ Am (by simp [Value.oneCell']) wf HE ?_));exact bodyPost_ret (Bi rfl _ _ (w.heap.size+2) FfL _ rfl HRf underlying36 rfl Am) rfl ⟨_,noF,false,rfl,DoRes.no HNO,NwRes.noD HBf.out.2 HBf.out.1⟩
   | false =>
    have HST:=iH (pP hqa);clear hqa;have HRX:=iH HX4.out.rangeA;go_wp2_with (first | (refine qLr Kq HRX ?_));clear HRX;refine (Ye x a1 c1 a2 c2 a3 c3 lo w4 (N1.out.below BrtC.holds HB4 nL) (N2.out.below SvcC.holds HB4 nL) (N3.out.below CpyC.holds HB4 nL) l2 l1 l3 HSM.out.1 HSM.out.2.1 HSM.out.2.2).mono ?_;rintro e w5 ⟨g1,q1,g2,q2,g3,q3,B1,B2,B3,rfl,z0,z1,z2,z3,z4,hT,_,hos,hot,hoc,hb5⟩;have hil:=Ah HY;obtain ⟨G,rfl⟩:∃ G,g3=some ⟨G,0,none⟩:=by
     obtain ⟨cs,h9,_⟩:=hoc;rcases h9.2 with ⟨e9,_⟩ | ⟨g,cap,cur,e9,_⟩
     ·injection e9 with _ e8
      omega
     ·injection e9 with e7
      exact ⟨g,e7⟩
    have hGl:B3≤G∧G<w5.heap.size:=by
     obtain ⟨cs,h9,_⟩:=hoc;exact h9.lt G rfl
    have hs5:w4.heap.size≤w5.heap.size:=hb5.size;have HB5:=iH (HB4.out.trans (hb5.mono (by omega)));have HZ5:=qBk HZ4 hb5;have HS5:=qBk HS4 hb5;have HF5:=iH (HF4.out.below hb5);have HPS5:=qSl IntC.holds HPS4 hb5;have HT5:=iH hT;have HOS:=iH hos;have HOT:=iH hot;have HOC:=iH hoc;clear hT hos hot hoc hb5 HX4 HP4 HZ4 HS4 HF4 HPS4;have hth:=qA HF5;have HTH:=iH hth;obtain ⟨w6,HE6⟩:∃ w6,Hid (w6=(w5.setCells p 0 (ffL x g1 q1 g2 q2 (some ⟨G,0,none⟩) q3))):=⟨_,rfl⟩;have HF6:Hid (FoundM p m1 m2 m3 m4 0 x g1 q1 g2 q2 (some ⟨G,0,none⟩) q3 w6):=by
     show FoundM _ _ _ _ _ _ _ _ _ _ _ _ _ _
     rw [HE6.out];exact FoundM.of (HF5.out.fleet g1 q1 g2 q2 (some ⟨G,0,none⟩) q3)
    have HG6:Hid (w5.heap.size=w6.heap.size∧(∀ k,k≠p→w6.heap[k]?=w5.heap[k]?)∧Below w.heap.size w w6):=by
     show _∧_
     rw [HE6.out,Bb];exact ⟨rfl,fun k hk=>Bq hk _ _ _,Ad (by omega) _ _ _ HB5⟩
    clear hth HF5 HB5;have hs6:w5.heap.size=w6.heap.size:=HG6.out.1;have HB6:=iH HG6.out.2.2;have HZ6:Hid (Blk (w.heap.size+2) FfA 36 w6):=(HG6.out.2.1 _ (by omega)).trans HZ5;have HS6:Hid (Blk w1.heap.size (Aq p ci bi y a7 c7 b am cm u1 u2 u3) 69 w6):=(HG6.out.2.1 _ (by omega)).trans HS5;have HPS6:Hid (SliceC IntC 1 w2.heap.size w6 pa (plI pl)):=Lj HPS5 (G:=p) ⟨by rw [HE6.out];exact (Ad (Nat.zero_le p) _ _ _ (Below.refl 0 w5)).os,by rw [HE6.out];exact (Ad (Nat.zero_le p) _ _ _ (Below.refl 0 w5)).tape,by rw [HE6.out];exact (Ad (Nat.zero_le p) _ _ _ (Below.refl 0 w5)).output,by omega,fun k _ h=>HG6.out.2.1 k h⟩ (fun h b o e=>by have:=HPA.out (Pp h) b o e;omega);have HC6:Hid (Gi B3 w5.heap.size w6 (.slice (some ⟨G,0,none⟩) x.copies.length q3) x.copies):=⟨w5,HOC,Nat.le_refl _,by omega,fun k h1 _=>HG6.out.2.1 k (by omega)⟩;have HT6:Hid (OwnT vBr Brt.marks StrC 1 6 2 60 B1 B2 w6 (.slice g1 x.berths.length q1) x.berths):=HT5.out.keep (by omega) (fun k h1 _ _=>HG6.out.2.1 k (by omega));have HN6:Hid (∀ w',Bt2 G m4 w6 w'→SliceC BrtC 6 B1 w' g1 x.berths):=by
     intro w' hw';have h9:=HT6.out.keep (w':=w') hw'.2.1 (fun k h1 h2 h3=>hw'.2.2 k h3 (by omega) (by omega));exact OwnN.berths (h9.own StrC.holds).own (uA N1) (by unfold maxLen;omega)
    have HCP:Hid (ci∉pl):=by
     intro h9;have h8:=HST.out ci h9 y HY;rw [HAT.out,← HBN.out] at h8;exact Kk ((Br HV).2.2.1 bi b HBY).1 h8.symm
    have HSTB:Hid (∀ q,q∈pl→∀ c,x.copies[q]?=some c→c.at_=b.name):=by
     intro q hq c hc;rw [HBN.out];exact HST.out q hq c hc
    go_upto_region 9 with (first | (refine Ag rfl 36 _ _ rfl p 0 (ffA x g1 q1 g2 q2 (some ⟨G,0,none⟩) q3) rfl rfl HTH Am (by simp [Value.oneCell']) w6 HE6 ?_));clear HTH HE6 HZ5 HS5 HPS5;have HRS:=iH HS6.out.rangeA;go_wp2_with (first | (refine wpList_load_mid rfl 69 _ rfl w1.heap.size 0 (by first | rfl | (simp [go_sem];done)) (Aq p ci bi y a7 c7 b am cm u1 u2 u3).toList _ HRS underlying69 rfl Cz ?_));clear HRS;refine (eG p m1 m2 m3 m4 ci bi x g1 q1 g2 q2 G q3 B3 w5.heap.size y a7 c7 b am cm u1 u2 u3 pl pa pc B1 w2.heap.size 0 w6 (by omega) HF6 (by omega) HC6 (by omega) (by omega) HN6 HV HY HCP HBY (Qg N3) HPS6 (fun h b o e=>by have:=HPA.out h b o e;omega) HIN HSTB hpll).mono ?_;rintro e w7 ⟨rfl,hF7,hC7,hB7⟩;have hs7:w6.heap.size≤w7.heap.size:=hB7.2.1;have HB7:=iH (HB6.out.trans (hB7.below (by omega) (by omega) (by omega)));have HZ7:Hid (Blk (w.heap.size+2) FfA 36 w7):=(hB7.2.2 _ (by omega) (by omega) (by omega)).trans HZ6;obtain ⟨qf,hqf⟩:∃ t,t=decide (Du (woF x pl) ci y b false=0):=⟨_,rfl⟩;rw [← hqf]
    cases qf with
    | false =>
     have HNO:Hid (∀ ci bi y b,¬ Mr x s ci bi y b):=fun ci2 bi2 y2 b2 h=>by
      have e9:=HSC.out.symm.trans h.1;cases e9
      have e8:=HY.out.symm.trans h.2.1;cases e8
      have e7:=HBY.out.symm.trans h.2.2.1;cases e7
      have e6:=h.2.2.2.2.2.2;rw [hpd] at e6;exact absurd hqf (by rw [e6];decide)
     clear hqf hF7 hC7 hB7;obtain ⟨wf,HE,HTZ,HRf,HBf⟩:=noW HZ7 HB7;go_wp2_with (first | (refine Ag rfl 36 _ _ rfl (w.heap.size+2) 0 FfA rfl rfl HTZ Am (by simp [Value.oneCell']) wf HE ?_));exact bodyPost_ret (Bi rfl _ _ (w.heap.size+2) FfL _ rfl HRf underlying36 rfl Am) rfl ⟨_,noF,false,rfl,DoRes.no HNO,NwRes.noD HBf.out.2 HBf.out.1⟩
    | true =>
     have hfi:Du (woF x pl) ci y b false=0:=of_decide_eq_true hqf.symm;have HFI:=iH hfi;clear hqf hfi;have HS7:Hid (Blk w1.heap.size (Aq p ci bi y a7 c7 b am cm u1 u2 u3) 69 w7):=(hB7.2.2 _ (by omega) (by omega) (by omega)).trans HS6;have HK7:Hid (∀ k,B1≤k→k<w5.heap.size→k≠G→w7.heap[k]?=w5.heap[k]?):=fun k h1 h2 h3=>(hB7.2.2 k (by omega) h3 (by omega)).trans (HG6.out.2.1 k (by omega))
     have HPS7:Hid (SliceC IntC 1 w2.heap.size w7 pa (plI pl)):=by
      refine HPS6.out.keepI hB7 (fun h b o e=>?_);have:=HPA.out (Pp h) b o e;omega
     have HN7:Hid (∀ w',But G w7.heap.size w7 w'→SliceC BrtC 6 B1 w' g1 x.berths):=fun w' h9=>HN6.out w' (hB7.trans (Bt2.of1 h9))
     have HDO:=iH (tV p G q3 B3 w5.heap.size ci bi x.copies y x.berths b g1 q1 B1 pl pa pc w2.heap.size w7 (hF7.1 3 _ rfl) (hF7.1 1 _ rfl) (by omega) (by omega) hC7 HN7 HY HCP HBY (HSM.out.1 b (List.mem_of_getElem? HBY)).2.2.1 (fun k c h=>(HSM.out.2.2 c (List.mem_of_getElem? h)).2.2.1) (Qg N3) l3 HPS7 (fun h b o e=>by have:=HPA.out h b o e;omega) HIN hpll)
     have HR7:Hid (w7.rangeAt p 0 (ffL x g1 q1 g2 q2 (some ⟨G,0,none⟩) q3)):=fun j v hj=>hF7.1 j v (by
      have hj2:=Ah hj;have hj':j=0∨j=1∨j=2∨j=3:=by simp at hj2;omega
      rcases hj' with rfl | rfl | rfl | rfl <;> exact hj)
     have hp7:p<w7.heap.size:=hF7.2.1;clear hF7 hC7 hB7 HZ6 HS6 HPS6 HC6 HF6 HN6 HN7 HPS7;have k1:=HS7.out.cell (o:=1) rfl;have k14:=HS7.out.cell (o:=14) rfl;go_wp2_with fail;clear k1 k14;refine HDO.out.mono ?_;rintro e w8 ⟨⟨v8,rfl⟩,hC8,hB8⟩;have hs8:w7.heap.size≤w8.heap.size:=hB8.size;have HR8:Hid (w8.rangeAt p 0 (ffL x g1 q1 g2 q2 (some ⟨G,0,none⟩) q3)):=fun j v hj=>(hB8.cell (a:=⟨p,0+j,none⟩) hp7 (by show p≠G;omega)).trans (HR7 j v hj)
     have HZ8:Hid (Blk (w.heap.size+2) FfA 36 w8):=(hB8.block _ (by omega) (by omega)).trans HZ7;have HTZ:=iH HZ8.out.there;obtain ⟨w9,HE9⟩:∃ w9,Hid (w9=w8.setCells (w.heap.size+2) 0 (ffL x g1 q1 g2 q2 (some ⟨G,0,none⟩) q3)):=⟨_,rfl⟩;have HR9:Hid (w9.rangeAt (w.heap.size+2) 0 (ffL x g1 q1 g2 q2 (some ⟨G,0,none⟩) q3)):=by
      show World.rangeAt _ _ _ _
      rw [HE9.out];exact World.rangeAt_setCells_same w8 (w.heap.size+2) 0 _ HTZ
     have HK9:Hid (w8.heap.size=w9.heap.size∧(∀ k,k≠w.heap.size+2→w9.heap[k]?=w8.heap[k]?)∧Below w.heap.size w w9):=by
      show _∧_
      rw [HE9.out,Bb];exact ⟨rfl,fun k hk=>Bq hk _ _ _,Ad (by omega) _ _ _ (HB7.out.trans (hB8.below (by omega) (by omega)))⟩
     have HNW:Hid (NwRes (doF x s ci y) w (.returned (.agg (ffA x g1 q1 g2 q2 (some ⟨G,0,none⟩) q3))) w9):=by
      have el:(doF x s ci y).copies.length=x.copies.length:=by show ((atP _ _ _).set _ _).length=_;rw [List.length_set,Bp]
      have e9:(doF x s ci y).copies=(atP pl ⟨#[]⟩ x.copies).set ci { y with at_:=b.name }:=by unfold doF;rw [hpd,HBN.out]
      have hc9:Oj B3 w9 (.slice (some ⟨G,0,none⟩) (doF x s ci y).copies.length q3) (doF x s ci y).copies:=by
       rw [e9];exact (hC8.keep (w':=w9) (by have:=HK9.out.1;omega) (fun k h1 _ _=>HK9.out.2.1 k (by omega))).own LikC.holds
      exact NwRes.done HB4 rfl rfl rfl el z0 z1 z2 z3 z4 hGl.1 HT5 HOS HOT hc9 (fun k h1 h2 h3=>(HK9.out.2.1 k (by omega)).trans ((hB8.block k (by omega) h3).trans (HK7 k h1 h2 h3))) (by have:=HK9.out.1;omega) HK9.out.2.2
     have HDR:Hid (DoRes x s (doF x s ci y) true):=Or.inl ⟨rfl,ci,bi,y,b,⟨HSC,HY,HBY,HAT,HMAY,by rw [hpd];exact HST.out,by rw [hpd];exact HFI.out⟩,rfl⟩;clear hC8 hB8 HZ7 HR7 HB7 HK7 HK9 HDO;go_wp2_with (first | (refine qLr Kq HR8 ?_) | (refine Ag rfl 36 _ _ rfl (w.heap.size+2) 0 (ffA x g1 q1 g2 q2 (some ⟨G,0,none⟩) q3) rfl rfl HTZ Am (by simp [Value.oneCell']) w9 HE9 ?_));exact bodyPost_ret (Bi rfl _ _ (w.heap.size+2) (ffL x g1 q1 g2 q2 (some ⟨G,0,none⟩) q3) _ rfl HR9 underlying36 rfl Am) rfl ⟨_,(doF x s ci y),true,rfl,HDR,HNW⟩
end Go.Proofs.YtjoeojhdkoidbaaGreat
namespace Go.Proofs.YtjoeojhdkoidbaaGreat
open Go.RowKit Tryz
theorem bK {P:Program} {ops:Array Oper} {Q:Exit→Act→World→Prop} {md:Region.Mode} {S:World→Prop} {s i:Nat} {oi:Oper} {v:Value} {n:Nat} {l:Array Bool} {a:Act} {w:World} (hi:ops[i]?=some oi) (hr:Region.ready md ops l=[i]) (hy:YieldsIf P ops S oi v a) (hS:S w)
  (h:wpAnyU P md ops Q s S n (l.setIfInBounds i true) (a.put oi.dst v) w):wpAnyU P md ops Q s S (n+1) l a w :=
 ⟨fun h0=>(by rw [hr] at h0;cases h0),(by rw [hr];intro j hj;rw [List.mem_singleton.1 hj];exact hy.wpOp hi hS ⟨fun _=>hS,h⟩)⟩
theorem gL {l l':List Cpy} (h:l.map (·.name)=l'.map (·.name)) (s:BA):Fy l s=Fy l' s:=by
 have e:∀ l:List Cpy,l.findIdx? (fun b=>decide (b.name=s))=(l.map (·.name)).findIdx? (fun n=>decide (n=s)):=fun l=>by
  rw [List.findIdx?_map];rfl
 unfold Fy;rw [e l,e l',h]
theorem pF {α:Type} {C:Ej α} {m lo:Nat} {w:World} {a:OA} {l:List α} {b o:Nat} (h:SliceC C m lo w a l) (e:a=some ⟨b,o,none⟩) (hn:l≠[]):lo≤b:=by
 rcases h.2 with e2 | ⟨b',o',e',⟨hlo,_⟩,_⟩
 ·exact absurd e2 hn
 ·rw [e] at e'
  cases e'
  exact hlo
theorem uD {x:Flt} {s:Stp} {ci:Nat} {y:Cpy} (h:SzC x.copies) (hy:x.copies[ci]?=some y) (hb:s.berth.size≤maxLen):SzC (doF x s ci y).copies:=by
 intro c hc;have z:=h y (List.mem_of_getElem? hy);rcases List.mem_or_eq_of_mem_set hc with h9 | h9
 ·exact Yy h c h9
 ·rw [h9]
  exact ⟨z.1,z.2.1,z.2.2.1,z.2.2.2.1,z.2.2.2.2.1,hb⟩
def woT (x:Flt) (gone:List BA) (k:Nat):Flt:={ x with copies:=atP ((Dl x gone).take k) ⟨#[]⟩ x.copies }
def WoR (x:Flt) (pl:List Nat) (w:World) (e:Ending) (w':World):Prop:=∃ (e1:OA) (q1 g2 q2 G q3 bs:Nat),e=.returned (.agg (ffA x e1 q1 (some ⟨g2,0,none⟩) q2 (some ⟨G,0,none⟩) q3))∧w.heap.size≤bs∧(∃ H wB,w.heap.size≤H∧SliceC BrtC 6 H wB e1 x.berths∧wB.heap.size≤bs∧Keeps H wB w')∧SliceC SvcC 2 w.heap.size w' (some ⟨g2,0,none⟩) x.services∧g2<bs∧bs≤G∧Lm bs w' (.slice (some ⟨G,0,none⟩) x.copies.length q3) (atP pl ⟨#[]⟩ x.copies)∧Below w.heap.size w w'
theorem aH (x:Flt) (a1:OA) (c1 b2 o2 c2:Nat) (a3:OA) (c3:Nat) (gone:List BA) (ga:OA) (gc lo:Nat) (w:World) (n1:SliceC BrtC 6 lo w a1 x.berths) (n2:SliceC SvcC 2 lo w (some ⟨b2,o2,none⟩) x.services) (n3:SliceC CpyC 12 lo w a3 x.copies) (hg:SliceC StrC 1 lo w ga gone) (hgl:gone.length≤1048576) (l1:x.berths.length≤1048576) (l2:x.services.length≤1048576) (l3:x.copies.length≤1048576) (hmk:∀ y∈x.berths,y.marks.length≤1048576) (hlk:∀ y∈x.copies,y.likes.length≤1048576) (hne:x.copies≠[]) (hix:∀ (k:Nat) g,gone[k]?=some g→∃ t:Nat,Fy x.copies g=(t:Int)∧t<x.copies.length) :
  Calls prog 23 #[.agg (ffA x a1 c1 (some ⟨b2,o2,none⟩) c2 a3 c3),.slice ga gone.length gc] w fun e w'=>WoR x (Dl x gone) w e w':=by
 obtain ⟨w0,hw0,HX,HZ,HB⟩:=alT w (ffA x a1 c1 (some ⟨b2,o2,none⟩) c2 a3 c3) FfA 36 36;have N1:=iH n1;have N2:=iH n2;have N3:=iH n3;have NG:=iH hg;have HIX:=iH hix;have HSZ:=iH (Qg n3);clear n1 n2 n3 hg hix;go_enter func23,ntmps23;go_upto_region 1 with fail;rw [← hw0];clear hw0;have hs0:w.heap.size+1<w0.heap.size:=HZ.out.lt;have HRX:=iH HX.out.rangeA;go_wp2_with (first | (refine qLr Kq HRX ?_));clear HRX HX;refine (aJ x a1 c1 b2 o2 c2 a3 c3 lo w0 (N1.out.below BrtC.holds HB nL) (N2.out.below SvcC.holds HB nL) (N3.out.below CpyC.holds HB nL) l2 l1 l3 hmk hlk).mono ?_;rintro e w1 ⟨e1,q1,g2,q2,e3,q3,bs,H,wB,rfl,_,hbr,hH,hHb,hwb,hkp,hsv,hg2,hoc,hb1⟩;obtain ⟨G,rfl⟩:∃ G,e3=some ⟨G,0,none⟩:=by
  obtain ⟨cs,h9,_⟩:=hoc;rcases h9.2 with ⟨e9,_⟩ | ⟨g,cap,cur,e9,_⟩
  ·injection e9 with _ e8
   exact absurd (List.length_eq_zero_iff.1 e8) hne
  ·injection e9 with e7
   exact ⟨g,e7⟩
 have hGl:bs≤G∧G<w1.heap.size:=by
  obtain ⟨cs,h9,_⟩:=hoc;exact h9.lt G rfl
 have hs1:w0.heap.size≤w1.heap.size:=hb1.size;have HZ1:=qBk HZ hb1;have HB1:=iH (HB.out.trans (hb1.mono (by omega)));have hza:=Blk.alloc w1 FfA 36;have HTS:=iH hza.there;obtain ⟨w2,HE2⟩:∃ w2,Hid (w2=(w1.alloc (Obj.cells FfA 36)).setCells w1.heap.size 0 (ffL x e1 q1 (some ⟨g2,0,none⟩) q2 (some ⟨G,0,none⟩) q3)):=⟨_,rfl⟩;have HV2:Hid (Blk w1.heap.size (ffA x e1 q1 (some ⟨g2,0,none⟩) q2 (some ⟨G,0,none⟩) q3) 36 w2):=by
  show Blk _ _ _ _
  rw [HE2.out];exact hza.setAll (ffA x e1 q1 (some ⟨g2,0,none⟩) q2 (some ⟨G,0,none⟩) q3) rfl
 have hb2:Below w1.heap.size w1 w2:=by
  rw [HE2.out];exact Ad nL _ _ _ ((Below.refl _ _).alloc nL _)
 clear hza;have hs2:w1.heap.size<w2.heap.size:=HV2.out.lt;have HZ2:=qBk HZ1 hb2;have HB2:=iH (HB1.out.trans (hb2.mono (by omega)));have HK2:Hid (Keeps H wB w2):=hkp.trans (Keeps.of_below hb2 nL _);have HS2:=iH (hsv.below SvcC.holds hb2 nL);have HO2:Hid (Lm bs w2 (.slice (some ⟨G,0,none⟩) x.copies.length q3) (atP ((Dl x gone).take 0) ⟨#[]⟩ x.copies)):=by
  show Lm _ _ _ _
  rw [List.take_zero,iK];exact hoc.below LikC.holds hb2
 have HBR:=iH hbr;clear hbr hkp hsv hoc hb1 hb2 HZ HB HZ1 HB1;go_upto_region 3 with (first | (refine Ag rfl 36 _ _ rfl w1.heap.size 0 (ffA x e1 q1 (some ⟨g2,0,none⟩) q2 (some ⟨G,0,none⟩) q3) rfl rfl HTS Am (by simp [Value.oneCell']) w2 HE2 ?_));clear HTS HE2;go_loopw [6] (fun i wr=>∃ k:Nat,k≤gone.length∧i=.int .i64 k∧w1.heap.size<wr.heap.size∧Hid (Lm bs wr (.slice (some ⟨G,0,none⟩) x.copies.length q3) (atP ((Dl x gone).take k) ⟨#[]⟩ x.copies))∧Hid (Blk w1.heap.size (ffA x e1 q1 (some ⟨g2,0,none⟩) q2 (some ⟨G,0,none⟩) q3) 36 wr)∧Hid (Blk (w.heap.size+1) FfA 36 wr)∧Hid (Keeps H wB wr)∧Hid (SliceC SvcC 2 w0.heap.size wr (some ⟨g2,0,none⟩) x.services)∧Hid (Below w.heap.size w wr)) (fun i _=>gone.length - (intOf i).toNat)
 case atStart=>exact ⟨0,zL,rfl,hs2,HO2,HV2,HZ2,HK2,HS2,HB2⟩
 case round =>
  clear HO2 HV2 HZ2 HK2 HS2 HB2;obtain ⟨k,hk,rfl,hsr,HO,HV,HZ,HK,HS,HB⟩:=hrel;by_cases hlt:k<gone.length
  case neg =>
   have hke:k=gone.length:=by omega
   subst hke;have HRV:=iH HV.out.rangeA;have HTZ:=iH HZ.out.there;obtain ⟨wf,HE⟩:∃ wf,Hid (wf=wr.setCells (w.heap.size+1) 0 (ffL x e1 q1 (some ⟨g2,0,none⟩) q2 (some ⟨G,0,none⟩) q3)):=⟨_,rfl⟩;have HRf:Hid (wf.rangeAt (w.heap.size+1) 0 (ffL x e1 q1 (some ⟨g2,0,none⟩) q2 (some ⟨G,0,none⟩) q3)):=by
    show World.rangeAt _ _ _ _
    rw [HE.out];exact World.rangeAt_setCells_same wr (w.heap.size+1) 0 _ HTZ
   have HF:Hid (WoR x (Dl x gone) w (.returned (.agg (ffA x e1 q1 (some ⟨g2,0,none⟩) q2 (some ⟨G,0,none⟩) q3))) wf):=by
    show WoR _ _ _ _ _
    rw [HE.out];have hg9:=Cb (b:=w.heap.size+1) (ffL x e1 q1 (some ⟨g2,0,none⟩) q2 (some ⟨G,0,none⟩) q3) 0 wr;have ho9:=HO.out;rw [show gone.length=(Dl x gone).length by unfold Dl;rw [List.length_map],List.take_length] at ho9;refine ⟨e1,q1,g2,q2,G,q3,bs,rfl,by omega,⟨H,wB,by omega,HBR,hwb,HK.out.grownD hg9 (fun r e=>.inr (by cases e;omega))⟩,?_,by omega,hGl.1,?_,Ad (by omega) _ _ _ HB⟩
    ·exact SliceC.keep (C:=SvcC) (Bj SvcC.flat HS hg9 (fun b o e hn e2=>by have e3:=Option.some.inj e2;have:=pF HS e hn;omega)) SvcC.holds (Keeps.refl _ _) (by omega)
    ·exact ho9.kept LikC.flat hg9 (fun r e=>by cases e;omega)
   clear HO HV HZ HK HS HB;go_wp2_with (first | (refine qLr Kq HRV ?_) | (refine Ag rfl 36 _ _ rfl (w.heap.size+1) 0 (ffA x e1 q1 (some ⟨g2,0,none⟩) q2 (some ⟨G,0,none⟩) q3) rfl rfl HTZ Am (by simp [Value.oneCell']) wf HE ?_));exact bodyPost_ret (Av rfl _ _ (w.heap.size+1) (ffL x e1 q1 (some ⟨g2,0,none⟩) q2 (some ⟨G,0,none⟩) q3) _ rfl HRf underlying36 rfl Am) rfl HF
  case pos =>
   obtain ⟨g,hgk⟩:=gXe hlt;obtain ⟨t,ht,htl⟩:=HIX.out k g hgk;have hpk:(Dl x gone)[k]?=some t:=by
    unfold Dl;rw [List.getElem?_map,hgk,Option.map_some,ht];rfl
   obtain ⟨c,hc⟩:∃ c,(atP ((Dl x gone).take k) ⟨#[]⟩ x.copies)[t]?=some c:=⟨(atP ((Dl x gone).take k) ⟨#[]⟩ x.copies)[t]'(by rw [Bp];exact htl),gE _⟩;obtain ⟨gb,go,rfl,_,hgb,hgc⟩:=(NG.out.below StrC.holds HB nL).at hgk;obtain ⟨r0,hgs⟩:=hgc;simp only [Nat.mul_one,Nat.add_zero] at r0;have HR0:=iH r0;clear r0 hgs hgk;have n3r:SliceC CpyC 12 bs wr (some ⟨G,0,none⟩) (woT x gone k).copies:=by
    have h9:=HO.out;rw [show Value.slice (some ⟨G,0,none⟩) x.copies.length q3=.slice (some ⟨G,0,none⟩) (atP ((Dl x gone).take k) ⟨#[]⟩ x.copies).length q3 by rw [Bp]] at h9;exact OwnN.copies h9 (Yy HSZ) (by show (atP _ _ _).length≤_;rw [Bp];unfold maxLen;omega)
   have HN3:=iH n3r;clear n3r;go_upto_region 5 with fail;refine Fm (S:=(fun wy=>Blk w1.heap.size (ffA x e1 q1 (some ⟨g2,0,none⟩) q2 (some ⟨G,0,none⟩) q3) 36 wy∧wy.cell? ⟨gb,go+k,none⟩=some (.string g))) 10 (by kernel_rfl) ⟨HV.out.drew,HR0⟩ (fun hS=>?_);replace HO:=iH (HO.out.below LikC.holds (Below.refl _ _).drew);replace HV:=iH HV.out.drew;replace HZ:=iH HZ.out.drew;replace HK:=iH (HK.out.trans (Keeps.of_below (Below.refl wr.heap.size wr).drew nL _));replace HS:=iH (HS.out.below SvcC.holds (Below.refl _ _).drew nL);replace HN3:=iH (HN3.out.below CpyC.holds (Below.refl _ _).drew nL);replace HB:=iH HB.out.drew;replace hsr:w1.heap.size<wr.drew.heap.size:=hsr;replace hgb:gb<wr.drew.heap.size:=hgb;generalize wr.drew=wn at *;refine tv 0 ⟨some 15,_,_,_,_,none⟩ (.pointer (some ⟨w1.heap.size,3,none⟩)) rfl (by rfl) ?_ hS ?_
   ·intro wy hy
    clear hy;go_simp
   simp only [pX];refine tv 1 ⟨some 16,_,_,_,_,none⟩ (.slice (some ⟨G,0,none⟩) x.copies.length q3) rfl (by rfl) ?_ hS ?_
   ·intro wy hy
    have h0:=Blk.cell hy.1 (o:=3) rfl;clear hy;go_simp
   simp only [pX];refine tu 2 ⟨some 17,_,_,_,_,none⟩ (.agg (ffA x e1 q1 (some ⟨g2,0,none⟩) q2 (some ⟨G,0,none⟩) q3)) rfl (yieldsIf_load_mid (by rfl) _ _ rfl w1.heap.size (0) rfl (ffL x e1 q1 (some ⟨g2,0,none⟩) q2 (some ⟨G,0,none⟩) q3) _ (fun _ h=>h.1.rangeA) underlying36 rfl Am) hS ?_;simp only [pX];refine tv 3 ⟨some 18,_,_,_,_,none⟩ (.slice (some ⟨gb,go,none⟩) gone.length gc) rfl (by rfl) ?_ hS ?_
   ·intro wy hy
    clear hy;go_simp
   simp only [pX];refine tv 4 ⟨some 19,_,_,_,_,none⟩ (.int .i64 (k:Int)) rfl (by rfl) ?_ hS ?_
   ·intro wy hy
    clear hy;go_simp
   simp only [pX];refine tv 5 ⟨some 20,_,_,_,_,none⟩ (.pointer (some ⟨gb,go+k,none⟩)) rfl (by rfl) ?_ hS ?_
   ·intro wy hy
    clear hy
    first | (go_simp;done) | (go_simp;omega)
   simp only [pX];refine tv 6 ⟨some 21,_,_,_,_,none⟩ (.string g) rfl (by rfl) ?_ hS ?_
   ·intro wy hy
    have h0:=hy.2;clear hy;go_simp
   simp only [pX];refine ru1 7 ⟨some 22,_,_,_,_,none⟩ rfl (fun KK hKK=>?_);go_simp;have hcl:=Ht (woT x gone k) e1 q1 (some ⟨g2,0,none⟩) q2 (some ⟨G,0,none⟩) q3 bs g wn HN3 (by show (atP _ _ _).length≤_;rw [Bp];exact l3)
   (try unfold ffA at hcl);rw [show (woT x gone k).copies.length=x.copies.length from Bp _ _ _,show Fy (woT x gone k).copies g=(t:Int) from (gL (Ly _ _ _) g).trans ht] at hcl
   refine hcl.mono ?_;rintro e w3 ⟨rfl,hb3⟩;have hs3:wn.heap.size≤w3.heap.size:=hb3.size;replace HO:=iH (HO.out.below LikC.holds hb3);replace HZ:=qBk HZ hb3;replace HK:=iH (HK.out.trans (Keeps.of_below hb3 nL _));replace HS:=qSl SvcC.holds HS hb3;replace HB:=iH (HB.out.trans (hb3.mono (by have:=HB.out.size;omega)));replace HV:=qBk HV hb3;refine hKK.out _ _ ⟨HV,(hb3.cell (p:=⟨gb,go+k,none⟩) hgb).trans hS.2⟩ (fun hS=>?_);clear hKK KK hb3 HN3 hcl;refine bK (i:=8) (oi:=⟨some 23,_,_,_,_,none⟩) (v:=.pointer (some ⟨G,t*12,none⟩)) rfl (by kernel_rfl) (Or.inl ⟨by rfl,?_⟩) hS ?_
   ·intro wy hy
    clear hy
    first | (go_simp;done) | (go_simp;omega)
   simp only [pX];refine tv 9 ⟨some 24,_,_,_,_,none⟩ (.pointer (some ⟨G,t*12+11,none⟩)) rfl (by rfl) ?_ hS ?_
   ·intro wy hy
    clear hy;go_simp
   simp only [pX];have ho9:=HO.out;rw [show Value.slice (some ⟨G,0,none⟩) x.copies.length q3=.slice (some ⟨G,0,none⟩) (atP ((Dl x gone).take k) ⟨#[]⟩ x.copies).length q3 by rw [Bp]] at ho9;obtain ⟨kz,fz⟩:=OwnN.atCell ho9 hc;refine Gb (rs:=[10]) (by kernel_rfl) (by simp) (AllReadyU.last (o:=⟨none,_,_,_,_,none⟩) rfl (fun KK hKK=>?_));go_simp;clear kz fz;have HO4:Hid (Lm bs (w3.setCell ⟨G,t*12+11,none⟩ (.string ⟨#[]⟩)) (.slice (some ⟨G,0,none⟩) x.copies.length q3) (atP ((Dl x gone).take (k+1)) ⟨#[]⟩ x.copies)):=by
    have h9:=ho9.setAt hc ⟨#[]⟩;rw [bD hpk hc,Bp] at h9;exact h9
   have hg4:=Cp w3 ⟨G,t*12+11,none⟩ (.string ⟨#[]⟩);have HV4:=iH (HV.out.grown hg4 (fun e=>absurd (Option.some.inj e) (by show ¬ w1.heap.size=G;omega)));have HZ4:=iH (HZ.out.grown hg4 (fun e=>absurd (Option.some.inj e) (by show ¬ w.heap.size+1=G;omega)));have HK4:Hid (Keeps H wB (w3.setCell ⟨G,t*12+11,none⟩ (.string ⟨#[]⟩))):=HK.out.grownD hg4 (fun r e=>.inl (by cases e;show wB.heap.size≤G;omega));have HS4:=iH (Bj SvcC.flat HS hg4 (fun b o e _ e2=>absurd (Option.some.inj e2) (by cases e;show ¬ g2=G;omega)));have HB4:Hid (Below w.heap.size w (w3.setCell ⟨G,t*12+11,none⟩ (.string ⟨#[]⟩))):=HB.out.setCell (show w.heap.size≤(⟨G,t*12+11,none⟩:Addr).block by show w.heap.size≤G;omega) _;have hs4:w3.heap.size≤(w3.setCell ⟨G,t*12+11,none⟩ (.string ⟨#[]⟩)).heap.size:=hg4.size;refine hKK.out _ _ (Ip (by kernel_rfl) ?_ _);clear hKK KK hS ho9 hg4 HO HV HZ HK HS HB;generalize w3.setCell ⟨G,t*12+11,none⟩ (.string ⟨#[]⟩)=w4 at *;go_wp2_with fail;go_roundw
   case rel=>exact ⟨k+1,by omega,by go_num,by omega,HO4,HV4,HZ4,HK4,HS4,HB4⟩
   case measure=>simp [intOf];omega
end Go.Proofs.YtjoeojhdkoidbaaGreat
