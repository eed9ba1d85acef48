import Derived.Test.YtpidfnfilnkhkaaGreatJ46
set_option maxHeartbeats 8000000
set_option maxRecDepth 100000
namespace Go.Proofs.YtpidfnfilnkhkaaGreat
open Go.RowKit Go.WideMaps Go.Maps
theorem AD {x:Flt} {ci:Nat} {y:Cpy} {b:Brt} {op:Bool}  (h1:(b.closed && !op)=true):Ec x ci y b op=1:=by
 unfold Ec;rw [if_pos h1]
theorem kL {x:Flt} {ci:Nat} {y:Cpy} {b:Brt} {op:Bool} (h1:¬ ((b.closed && !op)=true)) (h2:En y b=true):Ec x ci y b op=2:=by
 unfold Ec;rw [if_neg h1,if_pos h2]
theorem Rn {x:Flt} {ci:Nat} {y:Cpy} {b:Brt} {op:Bool} (h1:¬ ((b.closed && !op)=true)) (h2:¬ (En y b=true)) (h3:Ch y.select b.marks b.zone=false):Ec x ci y b op=3:=by
 unfold Ec;rw [if_neg h1,if_neg h2,if_pos h3]
theorem Qx {x:Flt} {ci:Nat} {y:Cpy} {b:Brt} {op:Bool} (h1:¬ ((b.closed && !op)=true)) (h2:¬ (En y b=true)) (h3:¬ (Ch y.select b.marks b.zone=false)) (h4:Es x ci y b=true):Ec x ci y b op=4:=by
 unfold Ec;rw [if_neg h1,if_neg h2,if_neg h3,if_pos h4]
theorem Rr {x:Flt} {ci:Nat} {y:Cpy} {b:Brt} {op:Bool} (h1:¬ ((b.closed && !op)=true)) (h2:¬ (En y b=true)) (h3:¬ (Ch y.select b.marks b.zone=false)) (h4:¬ (Es x ci y b=true)) (h5:Ej x ci y b=true):Ec x ci y b op=5:=by
 unfold Ec;rw [if_neg h1,if_neg h2,if_neg h3,if_neg h4,if_pos h5]
theorem Rb {x:Flt} {ci:Nat} {y:Cpy} {b:Brt} {op:Bool} (h1:¬ ((b.closed && !op)=true)) (h2:¬ (En y b=true)) (h3:¬ (Ch y.select b.marks b.zone=false)) (h4:¬ (Es x ci y b=true)) (h5:¬ (Ej x ci y b=true)) (h6:10≤Av x ci b.name x.copies.length):Ec x ci y b op=6:=by
 unfold Ec;rw [if_neg h1,if_neg h2,if_neg h3,if_neg h4,if_neg h5,if_pos h6]
theorem Ry {x:Flt} {ci:Nat} {y:Cpy} {b:Brt} {op:Bool} (h1:¬ ((b.closed && !op)=true)) (h2:¬ (En y b=true)) (h3:¬ (Ch y.select b.marks b.zone=false)) (h4:¬ (Es x ci y b=true)) (h5:¬ (Ej x ci y b=true)) (h6:¬ (10≤Av x ci b.name x.copies.length)) (h7:b.room<Bc x ci b.name x.copies.length+y.room):Ec x ci y b op=7:=by
 unfold Ec;rw [if_neg h1,if_neg h2,if_neg h3,if_neg h4,if_neg h5,if_neg h6,if_pos h7]
theorem Rh {x:Flt} {ci:Nat} {y:Cpy} {b:Brt} {op:Bool} (h1:¬ ((b.closed && !op)=true)) (h2:¬ (En y b=true)) (h3:¬ (Ch y.select b.marks b.zone=false)) (h4:¬ (Es x ci y b=true)) (h5:¬ (Ej x ci y b=true)) (h6:¬ (10≤Av x ci b.name x.copies.length)) (h7:¬ (b.room<Bc x ci b.name x.copies.length+y.room)) (h8:b.hold<Bg x ci b.name x.copies.length+y.hold):Ec x ci y b op=8:=by
 unfold Ec;rw [if_neg h1,if_neg h2,if_neg h3,if_neg h4,if_neg h5,if_neg h6,if_neg h7,if_pos h8]
theorem Rc {x:Flt} {ci:Nat} {y:Cpy} {b:Brt} {op:Bool} (h1:¬ ((b.closed && !op)=true)) (h2:¬ (En y b=true)) (h3:¬ (Ch y.select b.marks b.zone=false)) (h4:¬ (Es x ci y b=true)) (h5:¬ (Ej x ci y b=true)) (h6:¬ (10≤Av x ci b.name x.copies.length)) (h7:¬ (b.room<Bc x ci b.name x.copies.length+y.room)) (h8:¬ (b.hold<Bg x ci b.name x.copies.length+y.hold)):Ec x ci y b op=0:=by
 unfold Ec;rw [if_neg h1,if_neg h2,if_neg h3,if_neg h4,if_neg h5,if_neg h6,if_neg h7,if_neg h8]
theorem kM (lo ci bi:Nat) (x:Flt) (a1:OA) (c1:Nat) (a2:OA) (c2:Nat) (a3:OA) (c3:Nat) (y:Cpy) (a7:OA) (c7:Nat) (b:Brt) (am:OA) (cm:Nat) (op:Bool) (w:World) (n1:SliceC BrtC 6 lo w a1 x.berths) (n3:SliceC CpyC 12 lo w a3 x.copies) (nm:SliceC StrC 1 lo w am b.marks) (hci:x.copies[ci]?=some y) (hbi:x.berths[bi]?=some b) (hv:Au x=true) (hsel:y.select.size≤maxLen) :
  Calls Tryz.prog 48 #[.agg (ffA x a1 c1 a2 c2 a3 c3),.agg (ccA y a7 c7),.agg (bbA b am cm),.bool op] w (Rt (.int .i64 (Ec x ci y b op)) w):=by
 obtain ⟨hyr,_,_⟩:=(Be hv).2.2.2 ci y hci;have hyh:=((Dp hv).1 ci y hci).1;obtain ⟨_,hbz,_,hmk⟩:=(Be hv).2.2.1 bi b hbi;have hml:=Za hmk;have hz:=Pn hbz;have NM:=iH nm;have HV:=iH hv;have HS:=iH hsel;have HCP:Hid (∀ (k:Nat) (c:Cpy),x.copies[k]?=some c→0≤c.room∧c.room≤1000):=fun k c h=>((Be hv).2.2.2 k c h).1
 have HCH:Hid (∀ (k:Nat) (c:Cpy),x.copies[k]?=some c→0≤c.hold∧c.hold≤1000):=fun k c h=>((Dp hv).1 k c h).1
 obtain ⟨hy0,hy1⟩:=hyr;obtain ⟨hh0,hh1⟩:=hyh;have N1:=iH n1;have N3:=iH n3;have HCI:=iH hci;obtain ⟨l2,l3,_,hcN,_,_⟩:=Ay hv;have l1:=(Be hv).1;have HCN:=iH hcN;clear n1 n3 hci hcN;clear hv hbi hbz hmk nm hsel;go_enter Tryz.func48,Tryz.ntmps48;go_upto_region 1 with fail;have HI0:=iH (L3In.of x a1 c1 a2 c2 a3 c3 y a7 c7 b am cm w).1;have HB0:=iH (L3In.of x a1 c1 a2 c2 a3 c3 y a7 c7 b am cm w).2;generalize (((w.alloc (Obj.cells (ffA x a1 c1 a2 c2 a3 c3) 35)).alloc (Obj.cells (ccA y a7 c7) 49)).alloc (Obj.cells (bbA b am cm) 52))=w0 at *;have y4:w0.cell? ⟨w.heap.size+1,4,none⟩=some (.int .i64 y.room):=HI0.out.2.1.cell rfl;have y5:w0.cell? ⟨w.heap.size+1,5,none⟩=some (.int .i64 y.hold):=HI0.out.2.1.cell rfl;go_wp2_with fail;go_loopw [9,10,11,12] (fun sr sh ss i wr=>∃ (k:Nat) (R H S:Int),k≤x.copies.length∧sr=.int .i64 R∧sh=.int .i64 H∧ss=.int .i64 S∧i=.int .i64 k∧0≤R∧R≤1000+1000*k∧0≤H∧H≤1000+1000*k∧0≤S∧S≤k∧Hid (R=y.room+Bc x ci b.name k)∧Hid (H=y.hold+Bg x ci b.name k)∧Hid (S=Av x ci b.name k)∧Hid (L3In w.heap.size x a1 c1 a2 c2 a3 c3 y a7 c7 b am cm wr)∧Hid (Below w.heap.size w wr)) (fun _ _ _ i _=>x.copies.length - (intOf i).toNat)
 case atStart=>exact ⟨0,y.room,y.hold,0,zL,rfl,rfl,rfl,rfl,hy0,by omega,hh0,by omega,by omega,by omega,by show _=_;simp [Bc],by show _=_;simp [Bg],rfl,HI0,HB0⟩
 case round =>
  clear HI0 HB0 y4 y5;obtain ⟨k,R,H,S,hk,rfl,rfl,rfl,rfl,hR0,hR1,hH0,hH1,hS0,hS1,hRR,hHH,hS,hI,hB⟩:=hrel;have p3:wr.cell? ⟨w.heap.size,3,none⟩=some (.slice a3 x.copies.length c3):=hI.out.1.cell rfl;by_cases hlt:k<x.copies.length
  ·skip
   obtain ⟨c,hck⟩:=gXe hlt;obtain ⟨cb,co,rfl,_,_,hc⟩:=(N3.out.below CpyC.holds hB.out nL).at hck;obtain ⟨a8,c8,q0,q1,q2,q3,q4,q5,q6,q7,q8,q9,q10,q11,z0,z1,z6,z9,z10,z11,z7⟩:=hc;simp only [Nat.add_zero] at q0 q1 q2 q3 q4 q5 q6 q7 q8 q9 q10 q11;have HRA:Hid (wr.rangeAt cb (co+k*12) (ccL c a8 c8)):=Aa q0 (Aa q1 (Aa q2 (Aa q3 (Aa q4 (Aa q5 (Aa q6 (Aa q7 (Aa q8 (Aa q9 (Aa q10 (Aa q11 (Ao _ _ _))))))))))));have HX:=iH hck;have HSM:Hid (k=ci↔c.name=y.name):=by
    constructor
    ·rintro rfl
     have:=HCI.out;rw [hck] at this;cases this
     rfl
    ·intro e
     exact HCN.out.inj (Cs (f:=(·.name)) hck) (by rw [Cs (f:=(·.name)) HCI.out,e])
   obtain ⟨hcr0,hcr1⟩:=HCP.out k c hck;obtain ⟨hch0,hch1⟩:=HCH.out k c hck;clear hck q0 q1 q2 q3 q4 q5 q6 q7 q8 q9 q10 q11 z0 z1 z6 z7 z9 z10 z11;go_upto_region 8 with (first | (refine qLr Jr HRA ?_));have hbx:=(Below.refl _ wr).alloc nL (Obj.cells (ccA c a8 c8) 49);have HX4:=iH (Blk.alloc wr (ccA c a8 c8) 49);have HI4:=iH (hI.out.below hbx);have HB4:=qTH hB hbx;have hbk:w.heap.size+1+1<wr.heap.size:=hI.out.2.2.lt;clear HRA hbx hI hB p3;generalize (wr.alloc (Obj.cells (ccA c a8 c8) 49))=w4 at *;have y0:w4.cell? ⟨w.heap.size+1,0,none⟩=some (.string y.name):=HI4.out.2.1.cell rfl;have y1:w4.cell? ⟨w.heap.size+1,1,none⟩=some (.string y.service):=HI4.out.2.1.cell rfl;have y8:w4.cell? ⟨w.heap.size+1,8,none⟩=some (.int .i64 y.apart):=HI4.out.2.1.cell rfl;have y9:w4.cell? ⟨w.heap.size+1,9,none⟩=some (.string y.near):=HI4.out.2.1.cell rfl;have zb0:w4.cell? ⟨w.heap.size+1+1,0,none⟩=some (.string b.name):=HI4.out.2.2.cell rfl;have g0:w4.cell? ⟨wr.heap.size,0,none⟩=some (.string c.name):=HX4.out.cell rfl;have g1:w4.cell? ⟨wr.heap.size,1,none⟩=some (.string c.service):=HX4.out.cell rfl;have g4:w4.cell? ⟨wr.heap.size,4,none⟩=some (.int .i64 c.room):=HX4.out.cell rfl;have g5:w4.cell? ⟨wr.heap.size,5,none⟩=some (.int .i64 c.hold):=HX4.out.cell rfl;have g8:w4.cell? ⟨wr.heap.size,8,none⟩=some (.int .i64 c.apart):=HX4.out.cell rfl;have g11:w4.cell? ⟨wr.heap.size,11,none⟩=some (.string c.at_):=HX4.out.cell rfl;by_cases hnm:c.name=y.name
   ·have htn:=Br hnm
    have hkc:=HSM.out.2 hnm;have HRE:Hid (R=y.room+Bc x ci b.name (k+1)):=by show _=_;rw [Wk HX.out (fun h=>h.2 hkc),hRR.out]
    have HHE:Hid (H=y.hold+Bg x ci b.name (k+1)):=by show _=_;rw [Wj HX.out (fun h=>h.2 hkc),hHH.out]
    have HSE:Hid (S=Av x ci b.name (k+1)):=by show _=_;rw [Sz HX.out (fun h=>h.2 hkc),hS.out]
    clear hnm hkc;go_wp2_with fail;go_roundw
    case rel=>first | exact ⟨k+1,R,H,S,by omega,rfl,rfl,rfl,by go_num,by omega,by omega,by omega,by omega,by omega,by omega,HRE,HHE,HSE,HI4,HB4⟩ | ((repeat apply Exists.intro);exact ⟨⟨k+1,R,H,S,by omega,rfl,rfl,rfl,by go_num,by omega,by omega,by omega,by omega,by omega,by omega,HRE,HHE,HSE,HI4,HB4⟩,rfl⟩)
    case measure=>simp [intOf];omega
   have htn:=Bz hnm;have hkc:k≠ci:=fun h=>hnm (HSM.out.1 h)
   clear hnm;by_cases hab:c.at_=b.name
   ·have hta:=Br hab
    have HAB:=iH hab;clear hab;have HRE:Hid (R+c.room=y.room+Bc x ci b.name (k+1)):=by show _=_;rw [nN HX.out HAB.out hkc,hRR.out];omega
    have HHE:Hid (H+c.hold=y.hold+Bg x ci b.name (k+1)):=by show _=_;rw [nS HX.out HAB.out hkc,hHH.out];omega
    have HSE:Hid (S+1=Av x ci b.name (k+1)):=by show _=_;rw [lJ HX.out HAB.out hkc,hS.out]
    clear HAB hkc;go_wp2_with fail;go_roundw
    case rel=>first | exact ⟨k+1,R+c.room,H+c.hold,S+1,by omega,rfl,rfl,rfl,by go_num,by omega,by omega,by omega,by omega,by omega,by omega,HRE,HHE,HSE,HI4,HB4⟩ | ((repeat apply Exists.intro);exact ⟨⟨k+1,R+c.room,H+c.hold,S+1,by omega,rfl,rfl,rfl,by go_num,by omega,by omega,by omega,by omega,by omega,by omega,HRE,HHE,HSE,HI4,HB4⟩,rfl⟩)
    case measure=>simp [intOf];omega
   ·have hta:=Bz hab
    have HRE:Hid (R=y.room+Bc x ci b.name (k+1)):=by show _=_;rw [Wk HX.out (fun h=>hab h.1),hRR.out]
    have HHE:Hid (H=y.hold+Bg x ci b.name (k+1)):=by show _=_;rw [Wj HX.out (fun h=>hab h.1),hHH.out]
    have HSE:Hid (S=Av x ci b.name (k+1)):=by show _=_;rw [Sz HX.out (fun h=>hab h.1),hS.out]
    clear hab hkc;go_wp2_with fail;go_roundw
    case rel=>first | exact ⟨k+1,R,H,S,by omega,rfl,rfl,rfl,by go_num,by omega,by omega,by omega,by omega,by omega,by omega,HRE,HHE,HSE,HI4,HB4⟩ | ((repeat apply Exists.intro);exact ⟨⟨k+1,R,H,S,by omega,rfl,rfl,rfl,by go_num,by omega,by omega,by omega,by omega,by omega,by omega,HRE,HHE,HSE,HI4,HB4⟩,rfl⟩)
    case measure=>simp [intOf];omega
  ·have hke:k=x.copies.length:=by omega
   subst hke;have HI0:=hI;have HB0:=hB;clear hI hB;have zb5:wr.cell? ⟨w.heap.size+1+1,5,none⟩=some (.bool b.closed):=HI0.out.2.2.cell rfl
   cases op with
   | true =>
    have HCL:Hid (¬ ((b.closed && !true)=true)):=by show ¬ _;simp
    try unfold bbA ccA ffA
    cases hcl:b.closed with
    | true =>
     go_upto_region 14 with fail;clear hcl zb5;have y10:wr.cell? ⟨w.heap.size+1,10,none⟩=some (.string y.fixed):=HI0.out.2.1.cell rfl;have zb0:wr.cell? ⟨w.heap.size+1+1,0,none⟩=some (.string b.name):=HI0.out.2.2.cell rfl;by_cases hfx:y.fixed=⟨#[]⟩
     ·have t1:=Bl hfx
      have t2:=Gh hfx;have HE:Hid (¬ (En y b=true)):=fun h=>by unfold En at h;rw [decide_eq_false (fun k=>k hfx)] at h;cases h
      clear hfx;go_upto_region 16 with fail;clear t1 t2 y10 zb0;have y6:wr.cell? ⟨w.heap.size+1,6,none⟩=some (.string y.select):=HI0.out.2.1.cell rfl;go_wp2_with (first | (refine wpList_load_mid rfl 52 _ rfl (w.heap.size+1+1) 0 (by first | rfl | (simp [go_sem];done)) (bbL b am cm) _ HI0.out.2.2.rangeA Tryz.underlying52 rfl Bj ?_) | (refine wpList_load_mid rfl 49 _ rfl (w.heap.size+1) 0 (by first | rfl | (simp [go_sem];done)) (ccL y a7 c7) _ HI0.out.2.1.rangeA Tryz.underlying49 rfl Bk ?_) | (refine wpList_load_mid rfl 35 _ rfl w.heap.size 0 (by first | rfl | (simp [go_sem];done)) (ffL x a1 c1 a2 c2 a3 c3) _ HI0.out.1.rangeA Tryz.underlying35 rfl Bh ?_));refine (Fi y.select b.name b.zone b.marks am cm lo b.room b.hold b.closed _ (NM.out.below StrC.holds HB0 nL) hml hz HS).mono ?_;rintro e w5 ⟨rfl,hb⟩;have HI5:=iH (HI0.out.below hb);have HB5:=qTH HB0 hb;clear hb;obtain ⟨q,hq⟩:∃ q,Pb y.select b.marks b.zone=q:=⟨_,rfl⟩;rw [hq];have HA:Hid (Ch y.select b.marks b.zone=q):=(Oa _ _ _).trans hq;clear hq
      cases q with
      | false =>
       go_wp2_with fail;go_ret;exact ⟨Ag (Rn HCL HE HA).symm,HB5⟩
      | true =>
       have HA2:Hid (¬ (Ch y.select b.marks b.zone=false)):=fun h=>by rw [HA.out] at h;cases h
       clear y6;go_wp2_with (first | (refine wpList_load_mid rfl 52 _ rfl (w.heap.size+1+1) 0 (by first | rfl | (simp [go_sem];done)) (bbL b am cm) _ HI5.out.2.2.rangeA Tryz.underlying52 rfl Bj ?_) | (refine wpList_load_mid rfl 49 _ rfl (w.heap.size+1) 0 (by first | rfl | (simp [go_sem];done)) (ccL y a7 c7) _ HI5.out.2.1.rangeA Tryz.underlying49 rfl Bk ?_) | (refine wpList_load_mid rfl 35 _ rfl w.heap.size 0 (by first | rfl | (simp [go_sem];done)) (ffL x a1 c1 a2 c2 a3 c3) _ HI5.out.1.rangeA Tryz.underlying35 rfl Bh ?_));refine (Ek lo ci x a1 c1 a2 c2 a3 c3 y a7 c7 b am cm _ (N1.out.below BrtC.holds HB5 nL) (N3.out.below CpyC.holds HB5 nL) HCI HV).mono ?_;rintro e w6 ⟨rfl,hb⟩;have HI6:=iH (HI5.out.below hb);have HB6:=qTH HB5 hb;clear hb;obtain ⟨q,hq⟩:∃ q,Es x ci y b=q:=⟨_,rfl⟩;rw [hq];have HT:=iH hq;clear hq
       cases q with
       | true =>
        go_wp2_with fail;go_ret;exact ⟨Ag (Qx HCL HE HA2 HT).symm,HB6⟩
       | false =>
        have HT2:Hid (¬ (Es x ci y b=true)):=fun h=>by rw [HT.out] at h;cases h
        go_wp2_with (first | (refine wpList_load_mid rfl 52 _ rfl (w.heap.size+1+1) 0 (by first | rfl | (simp [go_sem];done)) (bbL b am cm) _ HI6.out.2.2.rangeA Tryz.underlying52 rfl Bj ?_) | (refine wpList_load_mid rfl 49 _ rfl (w.heap.size+1) 0 (by first | rfl | (simp [go_sem];done)) (ccL y a7 c7) _ HI6.out.2.1.rangeA Tryz.underlying49 rfl Bk ?_) | (refine wpList_load_mid rfl 35 _ rfl w.heap.size 0 (by first | rfl | (simp [go_sem];done)) (ffL x a1 c1 a2 c2 a3 c3) _ HI6.out.1.rangeA Tryz.underlying35 rfl Bh ?_));refine (Il lo ci x a1 c1 a2 c2 a3 c3 y a7 c7 b am cm _ (N1.out.below BrtC.holds HB6 nL) (N3.out.below CpyC.holds HB6 nL) HCI HV).mono ?_;rintro e w7 ⟨rfl,hb⟩;have HI7:=iH (HI6.out.below hb);have HB7:=qTH HB6 hb;clear hb;obtain ⟨q,hq⟩:∃ q,Ej x ci y b=q:=⟨_,rfl⟩;rw [hq];have HR:=iH hq;clear hq
        cases q with
        | true =>
         go_wp2_with fail;go_ret;exact ⟨Ag (Rr HCL HE HA2 HT2 HR).symm,HB7⟩
        | false =>
         have HR2:Hid (¬ (Ej x ci y b=true)):=fun h=>by rw [HR.out] at h;cases h
         have zb3:w7.cell? ⟨w.heap.size+1+1,3,none⟩=some (.int .i64 b.room):=HI7.out.2.2.cell rfl;have zb4:w7.cell? ⟨w.heap.size+1+1,4,none⟩=some (.int .i64 b.hold):=HI7.out.2.2.cell rfl;by_cases hs:10≤S
         ·have H6:Hid (10≤Av x ci b.name x.copies.length):=by show _≤_;rw [← hS.out];exact hs
          go_wp2_with fail;go_ret;exact ⟨Ag (Rb HCL HE HA2 HT2 HR2 H6).symm,HB7⟩
         have H6:Hid (Av x ci b.name x.copies.length<10):=by show _<_;rw [← hS.out];omega
         by_cases hr:b.room<R
         ·have H7:Hid (b.room<Bc x ci b.name x.copies.length+y.room):=by show _<_;have:=hRR.out;omega
          go_wp2_with fail;go_ret;exact ⟨Ag (Ry HCL HE HA2 HT2 HR2 (Int.not_le.2 H6) H7).symm,HB7⟩
         have H7:Hid (Bc x ci b.name x.copies.length+y.room≤b.room):=by show _≤_;have:=hRR.out;omega
         by_cases hh:b.hold<H
         ·have H8:Hid (b.hold<Bg x ci b.name x.copies.length+y.hold):=by show _<_;have:=hHH.out;omega
          go_wp2_with fail;go_ret;exact ⟨Ag (Rh HCL HE HA2 HT2 HR2 (Int.not_le.2 H6) (Int.not_lt.2 H7) H8).symm,HB7⟩
         have H8:Hid (Bg x ci b.name x.copies.length+y.hold≤b.hold):=by show _≤_;have:=hHH.out;omega
         go_wp2_with fail;go_ret;exact ⟨Ag (Rc HCL HE HA2 HT2 HR2 (Int.not_le.2 H6) (Int.not_lt.2 H7) (Int.not_lt.2 H8)).symm,HB7⟩
     ·have t1:=Az hfx
      have t2:=Fj hfx;by_cases hfn:y.fixed=b.name
      ·have t3:=Br hfn
       have HE:Hid (¬ (En y b=true)):=fun h=>by unfold En at h;rw [decide_eq_false (p:=¬ y.fixed=b.name) (fun k=>k hfn),Bool.and_false] at h;cases h
       clear hfx hfn;go_upto_region 16 with fail;clear t1 t2 t3 y10 zb0;have y6:wr.cell? ⟨w.heap.size+1,6,none⟩=some (.string y.select):=HI0.out.2.1.cell rfl;go_wp2_with (first | (refine wpList_load_mid rfl 52 _ rfl (w.heap.size+1+1) 0 (by first | rfl | (simp [go_sem];done)) (bbL b am cm) _ HI0.out.2.2.rangeA Tryz.underlying52 rfl Bj ?_) | (refine wpList_load_mid rfl 49 _ rfl (w.heap.size+1) 0 (by first | rfl | (simp [go_sem];done)) (ccL y a7 c7) _ HI0.out.2.1.rangeA Tryz.underlying49 rfl Bk ?_) | (refine wpList_load_mid rfl 35 _ rfl w.heap.size 0 (by first | rfl | (simp [go_sem];done)) (ffL x a1 c1 a2 c2 a3 c3) _ HI0.out.1.rangeA Tryz.underlying35 rfl Bh ?_));refine (Fi y.select b.name b.zone b.marks am cm lo b.room b.hold b.closed _ (NM.out.below StrC.holds HB0 nL) hml hz HS).mono ?_;rintro e w5 ⟨rfl,hb⟩;have HI5:=iH (HI0.out.below hb);have HB5:=qTH HB0 hb;clear hb;obtain ⟨q,hq⟩:∃ q,Pb y.select b.marks b.zone=q:=⟨_,rfl⟩;rw [hq];have HA:Hid (Ch y.select b.marks b.zone=q):=(Oa _ _ _).trans hq;clear hq
       cases q with
       | false =>
        go_wp2_with fail;go_ret;exact ⟨Ag (Rn HCL HE HA).symm,HB5⟩
       | true =>
        have HA2:Hid (¬ (Ch y.select b.marks b.zone=false)):=fun h=>by rw [HA.out] at h;cases h
        clear y6;go_wp2_with (first | (refine wpList_load_mid rfl 52 _ rfl (w.heap.size+1+1) 0 (by first | rfl | (simp [go_sem];done)) (bbL b am cm) _ HI5.out.2.2.rangeA Tryz.underlying52 rfl Bj ?_) | (refine wpList_load_mid rfl 49 _ rfl (w.heap.size+1) 0 (by first | rfl | (simp [go_sem];done)) (ccL y a7 c7) _ HI5.out.2.1.rangeA Tryz.underlying49 rfl Bk ?_) | (refine wpList_load_mid rfl 35 _ rfl w.heap.size 0 (by first | rfl | (simp [go_sem];done)) (ffL x a1 c1 a2 c2 a3 c3) _ HI5.out.1.rangeA Tryz.underlying35 rfl Bh ?_));refine (Ek lo ci x a1 c1 a2 c2 a3 c3 y a7 c7 b am cm _ (N1.out.below BrtC.holds HB5 nL) (N3.out.below CpyC.holds HB5 nL) HCI HV).mono ?_;rintro e w6 ⟨rfl,hb⟩;have HI6:=iH (HI5.out.below hb);have HB6:=qTH HB5 hb;clear hb;obtain ⟨q,hq⟩:∃ q,Es x ci y b=q:=⟨_,rfl⟩;rw [hq];have HT:=iH hq;clear hq
        cases q with
        | true =>
         go_wp2_with fail;go_ret;exact ⟨Ag (Qx HCL HE HA2 HT).symm,HB6⟩
        | false =>
         have HT2:Hid (¬ (Es x ci y b=true)):=fun h=>by rw [HT.out] at h;cases h
         go_wp2_with (first | (refine wpList_load_mid rfl 52 _ rfl (w.heap.size+1+1) 0 (by first | rfl | (simp [go_sem];done)) (bbL b am cm) _ HI6.out.2.2.rangeA Tryz.underlying52 rfl Bj ?_) | (refine wpList_load_mid rfl 49 _ rfl (w.heap.size+1) 0 (by first | rfl | (simp [go_sem];done)) (ccL y a7 c7) _ HI6.out.2.1.rangeA Tryz.underlying49 rfl Bk ?_) | (refine wpList_load_mid rfl 35 _ rfl w.heap.size 0 (by first | rfl | (simp [go_sem];done)) (ffL x a1 c1 a2 c2 a3 c3) _ HI6.out.1.rangeA Tryz.underlying35 rfl Bh ?_));refine (Il lo ci x a1 c1 a2 c2 a3 c3 y a7 c7 b am cm _ (N1.out.below BrtC.holds HB6 nL) (N3.out.below CpyC.holds HB6 nL) HCI HV).mono ?_;rintro e w7 ⟨rfl,hb⟩;have HI7:=iH (HI6.out.below hb);have HB7:=qTH HB6 hb;clear hb;obtain ⟨q,hq⟩:∃ q,Ej x ci y b=q:=⟨_,rfl⟩;rw [hq];have HR:=iH hq;clear hq
         cases q with
         | true =>
          go_wp2_with fail;go_ret;exact ⟨Ag (Rr HCL HE HA2 HT2 HR).symm,HB7⟩
         | false =>
          have HR2:Hid (¬ (Ej x ci y b=true)):=fun h=>by rw [HR.out] at h;cases h
          have zb3:w7.cell? ⟨w.heap.size+1+1,3,none⟩=some (.int .i64 b.room):=HI7.out.2.2.cell rfl;have zb4:w7.cell? ⟨w.heap.size+1+1,4,none⟩=some (.int .i64 b.hold):=HI7.out.2.2.cell rfl;by_cases hs:10≤S
          ·have H6:Hid (10≤Av x ci b.name x.copies.length):=by show _≤_;rw [← hS.out];exact hs
           go_wp2_with fail;go_ret;exact ⟨Ag (Rb HCL HE HA2 HT2 HR2 H6).symm,HB7⟩
          have H6:Hid (Av x ci b.name x.copies.length<10):=by show _<_;rw [← hS.out];omega
          by_cases hr:b.room<R
          ·have H7:Hid (b.room<Bc x ci b.name x.copies.length+y.room):=by show _<_;have:=hRR.out;omega
           go_wp2_with fail;go_ret;exact ⟨Ag (Ry HCL HE HA2 HT2 HR2 (Int.not_le.2 H6) H7).symm,HB7⟩
          have H7:Hid (Bc x ci b.name x.copies.length+y.room≤b.room):=by show _≤_;have:=hRR.out;omega
          by_cases hh:b.hold<H
          ·have H8:Hid (b.hold<Bg x ci b.name x.copies.length+y.hold):=by show _<_;have:=hHH.out;omega
           go_wp2_with fail;go_ret;exact ⟨Ag (Rh HCL HE HA2 HT2 HR2 (Int.not_le.2 H6) (Int.not_lt.2 H7) H8).symm,HB7⟩
          have H8:Hid (Bg x ci b.name x.copies.length+y.hold≤b.hold):=by show _≤_;have:=hHH.out;omega
          go_wp2_with fail;go_ret;exact ⟨Ag (Rc HCL HE HA2 HT2 HR2 (Int.not_le.2 H6) (Int.not_lt.2 H7) (Int.not_lt.2 H8)).symm,HB7⟩
      ·have t3:=Bz hfn
       have HE:Hid (En y b=true):=by show _=_;unfold En;rw [decide_eq_true hfx,decide_eq_true hfn];rfl
       clear hfx hfn;go_wp2_with fail;go_ret;exact ⟨Ag (kL HCL HE).symm,HB0⟩
    | false =>
     go_upto_region 14 with fail;clear hcl zb5;have y10:wr.cell? ⟨w.heap.size+1,10,none⟩=some (.string y.fixed):=HI0.out.2.1.cell rfl;have zb0:wr.cell? ⟨w.heap.size+1+1,0,none⟩=some (.string b.name):=HI0.out.2.2.cell rfl;by_cases hfx:y.fixed=⟨#[]⟩
     ·have t1:=Bl hfx
      have t2:=Gh hfx;have HE:Hid (¬ (En y b=true)):=fun h=>by unfold En at h;rw [decide_eq_false (fun k=>k hfx)] at h;cases h
      clear hfx;go_upto_region 16 with fail;clear t1 t2 y10 zb0;have y6:wr.cell? ⟨w.heap.size+1,6,none⟩=some (.string y.select):=HI0.out.2.1.cell rfl;go_wp2_with (first | (refine wpList_load_mid rfl 52 _ rfl (w.heap.size+1+1) 0 (by first | rfl | (simp [go_sem];done)) (bbL b am cm) _ HI0.out.2.2.rangeA Tryz.underlying52 rfl Bj ?_) | (refine wpList_load_mid rfl 49 _ rfl (w.heap.size+1) 0 (by first | rfl | (simp [go_sem];done)) (ccL y a7 c7) _ HI0.out.2.1.rangeA Tryz.underlying49 rfl Bk ?_) | (refine wpList_load_mid rfl 35 _ rfl w.heap.size 0 (by first | rfl | (simp [go_sem];done)) (ffL x a1 c1 a2 c2 a3 c3) _ HI0.out.1.rangeA Tryz.underlying35 rfl Bh ?_));refine (Fi y.select b.name b.zone b.marks am cm lo b.room b.hold b.closed _ (NM.out.below StrC.holds HB0 nL) hml hz HS).mono ?_;rintro e w5 ⟨rfl,hb⟩;have HI5:=iH (HI0.out.below hb);have HB5:=qTH HB0 hb;clear hb;obtain ⟨q,hq⟩:∃ q,Pb y.select b.marks b.zone=q:=⟨_,rfl⟩;rw [hq];have HA:Hid (Ch y.select b.marks b.zone=q):=(Oa _ _ _).trans hq;clear hq
      cases q with
      | false =>
       go_wp2_with fail;go_ret;exact ⟨Ag (Rn HCL HE HA).symm,HB5⟩
      | true =>
       have HA2:Hid (¬ (Ch y.select b.marks b.zone=false)):=fun h=>by rw [HA.out] at h;cases h
       clear y6;go_wp2_with (first | (refine wpList_load_mid rfl 52 _ rfl (w.heap.size+1+1) 0 (by first | rfl | (simp [go_sem];done)) (bbL b am cm) _ HI5.out.2.2.rangeA Tryz.underlying52 rfl Bj ?_) | (refine wpList_load_mid rfl 49 _ rfl (w.heap.size+1) 0 (by first | rfl | (simp [go_sem];done)) (ccL y a7 c7) _ HI5.out.2.1.rangeA Tryz.underlying49 rfl Bk ?_) | (refine wpList_load_mid rfl 35 _ rfl w.heap.size 0 (by first | rfl | (simp [go_sem];done)) (ffL x a1 c1 a2 c2 a3 c3) _ HI5.out.1.rangeA Tryz.underlying35 rfl Bh ?_));refine (Ek lo ci x a1 c1 a2 c2 a3 c3 y a7 c7 b am cm _ (N1.out.below BrtC.holds HB5 nL) (N3.out.below CpyC.holds HB5 nL) HCI HV).mono ?_;rintro e w6 ⟨rfl,hb⟩;have HI6:=iH (HI5.out.below hb);have HB6:=qTH HB5 hb;clear hb;obtain ⟨q,hq⟩:∃ q,Es x ci y b=q:=⟨_,rfl⟩;rw [hq];have HT:=iH hq;clear hq
       cases q with
       | true =>
        go_wp2_with fail;go_ret;exact ⟨Ag (Qx HCL HE HA2 HT).symm,HB6⟩
       | false =>
        have HT2:Hid (¬ (Es x ci y b=true)):=fun h=>by rw [HT.out] at h;cases h
        go_wp2_with (first | (refine wpList_load_mid rfl 52 _ rfl (w.heap.size+1+1) 0 (by first | rfl | (simp [go_sem];done)) (bbL b am cm) _ HI6.out.2.2.rangeA Tryz.underlying52 rfl Bj ?_) | (refine wpList_load_mid rfl 49 _ rfl (w.heap.size+1) 0 (by first | rfl | (simp [go_sem];done)) (ccL y a7 c7) _ HI6.out.2.1.rangeA Tryz.underlying49 rfl Bk ?_) | (refine wpList_load_mid rfl 35 _ rfl w.heap.size 0 (by first | rfl | (simp [go_sem];done)) (ffL x a1 c1 a2 c2 a3 c3) _ HI6.out.1.rangeA Tryz.underlying35 rfl Bh ?_));refine (Il lo ci x a1 c1 a2 c2 a3 c3 y a7 c7 b am cm _ (N1.out.below BrtC.holds HB6 nL) (N3.out.below CpyC.holds HB6 nL) HCI HV).mono ?_;rintro e w7 ⟨rfl,hb⟩;have HI7:=iH (HI6.out.below hb);have HB7:=qTH HB6 hb;clear hb;obtain ⟨q,hq⟩:∃ q,Ej x ci y b=q:=⟨_,rfl⟩;rw [hq];have HR:=iH hq;clear hq
        cases q with
        | true =>
         go_wp2_with fail;go_ret;exact ⟨Ag (Rr HCL HE HA2 HT2 HR).symm,HB7⟩
        | false =>
         have HR2:Hid (¬ (Ej x ci y b=true)):=fun h=>by rw [HR.out] at h;cases h
         have zb3:w7.cell? ⟨w.heap.size+1+1,3,none⟩=some (.int .i64 b.room):=HI7.out.2.2.cell rfl;have zb4:w7.cell? ⟨w.heap.size+1+1,4,none⟩=some (.int .i64 b.hold):=HI7.out.2.2.cell rfl;by_cases hs:10≤S
         ·have H6:Hid (10≤Av x ci b.name x.copies.length):=by show _≤_;rw [← hS.out];exact hs
          go_wp2_with fail;go_ret;exact ⟨Ag (Rb HCL HE HA2 HT2 HR2 H6).symm,HB7⟩
         have H6:Hid (Av x ci b.name x.copies.length<10):=by show _<_;rw [← hS.out];omega
         by_cases hr:b.room<R
         ·have H7:Hid (b.room<Bc x ci b.name x.copies.length+y.room):=by show _<_;have:=hRR.out;omega
          go_wp2_with fail;go_ret;exact ⟨Ag (Ry HCL HE HA2 HT2 HR2 (Int.not_le.2 H6) H7).symm,HB7⟩
         have H7:Hid (Bc x ci b.name x.copies.length+y.room≤b.room):=by show _≤_;have:=hRR.out;omega
         by_cases hh:b.hold<H
         ·have H8:Hid (b.hold<Bg x ci b.name x.copies.length+y.hold):=by show _<_;have:=hHH.out;omega
          go_wp2_with fail;go_ret;exact ⟨Ag (Rh HCL HE HA2 HT2 HR2 (Int.not_le.2 H6) (Int.not_lt.2 H7) H8).symm,HB7⟩
         have H8:Hid (Bg x ci b.name x.copies.length+y.hold≤b.hold):=by show _≤_;have:=hHH.out;omega
         go_wp2_with fail;go_ret;exact ⟨Ag (Rc HCL HE HA2 HT2 HR2 (Int.not_le.2 H6) (Int.not_lt.2 H7) (Int.not_lt.2 H8)).symm,HB7⟩
     ·have t1:=Az hfx
      have t2:=Fj hfx;by_cases hfn:y.fixed=b.name
      ·have t3:=Br hfn
       have HE:Hid (¬ (En y b=true)):=fun h=>by unfold En at h;rw [decide_eq_false (p:=¬ y.fixed=b.name) (fun k=>k hfn),Bool.and_false] at h;cases h
       clear hfx hfn;go_upto_region 16 with fail;clear t1 t2 t3 y10 zb0;have y6:wr.cell? ⟨w.heap.size+1,6,none⟩=some (.string y.select):=HI0.out.2.1.cell rfl;go_wp2_with (first | (refine wpList_load_mid rfl 52 _ rfl (w.heap.size+1+1) 0 (by first | rfl | (simp [go_sem];done)) (bbL b am cm) _ HI0.out.2.2.rangeA Tryz.underlying52 rfl Bj ?_) | (refine wpList_load_mid rfl 49 _ rfl (w.heap.size+1) 0 (by first | rfl | (simp [go_sem];done)) (ccL y a7 c7) _ HI0.out.2.1.rangeA Tryz.underlying49 rfl Bk ?_) | (refine wpList_load_mid rfl 35 _ rfl w.heap.size 0 (by first | rfl | (simp [go_sem];done)) (ffL x a1 c1 a2 c2 a3 c3) _ HI0.out.1.rangeA Tryz.underlying35 rfl Bh ?_));refine (Fi y.select b.name b.zone b.marks am cm lo b.room b.hold b.closed _ (NM.out.below StrC.holds HB0 nL) hml hz HS).mono ?_;rintro e w5 ⟨rfl,hb⟩;have HI5:=iH (HI0.out.below hb);have HB5:=qTH HB0 hb;clear hb;obtain ⟨q,hq⟩:∃ q,Pb y.select b.marks b.zone=q:=⟨_,rfl⟩;rw [hq];have HA:Hid (Ch y.select b.marks b.zone=q):=(Oa _ _ _).trans hq;clear hq
       cases q with
       | false =>
        go_wp2_with fail;go_ret;exact ⟨Ag (Rn HCL HE HA).symm,HB5⟩
       | true =>
        have HA2:Hid (¬ (Ch y.select b.marks b.zone=false)):=fun h=>by rw [HA.out] at h;cases h
        clear y6;go_wp2_with (first | (refine wpList_load_mid rfl 52 _ rfl (w.heap.size+1+1) 0 (by first | rfl | (simp [go_sem];done)) (bbL b am cm) _ HI5.out.2.2.rangeA Tryz.underlying52 rfl Bj ?_) | (refine wpList_load_mid rfl 49 _ rfl (w.heap.size+1) 0 (by first | rfl | (simp [go_sem];done)) (ccL y a7 c7) _ HI5.out.2.1.rangeA Tryz.underlying49 rfl Bk ?_) | (refine wpList_load_mid rfl 35 _ rfl w.heap.size 0 (by first | rfl | (simp [go_sem];done)) (ffL x a1 c1 a2 c2 a3 c3) _ HI5.out.1.rangeA Tryz.underlying35 rfl Bh ?_));refine (Ek lo ci x a1 c1 a2 c2 a3 c3 y a7 c7 b am cm _ (N1.out.below BrtC.holds HB5 nL) (N3.out.below CpyC.holds HB5 nL) HCI HV).mono ?_;rintro e w6 ⟨rfl,hb⟩;have HI6:=iH (HI5.out.below hb);have HB6:=qTH HB5 hb;clear hb;obtain ⟨q,hq⟩:∃ q,Es x ci y b=q:=⟨_,rfl⟩;rw [hq];have HT:=iH hq;clear hq
        cases q with
        | true =>
         go_wp2_with fail;go_ret;exact ⟨Ag (Qx HCL HE HA2 HT).symm,HB6⟩
        | false =>
         have HT2:Hid (¬ (Es x ci y b=true)):=fun h=>by rw [HT.out] at h;cases h
         go_wp2_with (first | (refine wpList_load_mid rfl 52 _ rfl (w.heap.size+1+1) 0 (by first | rfl | (simp [go_sem];done)) (bbL b am cm) _ HI6.out.2.2.rangeA Tryz.underlying52 rfl Bj ?_) | (refine wpList_load_mid rfl 49 _ rfl (w.heap.size+1) 0 (by first | rfl | (simp [go_sem];done)) (ccL y a7 c7) _ HI6.out.2.1.rangeA Tryz.underlying49 rfl Bk ?_) | (refine wpList_load_mid rfl 35 _ rfl w.heap.size 0 (by first | rfl | (simp [go_sem];done)) (ffL x a1 c1 a2 c2 a3 c3) _ HI6.out.1.rangeA Tryz.underlying35 rfl Bh ?_));refine (Il lo ci x a1 c1 a2 c2 a3 c3 y a7 c7 b am cm _ (N1.out.below BrtC.holds HB6 nL) (N3.out.below CpyC.holds HB6 nL) HCI HV).mono ?_;rintro e w7 ⟨rfl,hb⟩;have HI7:=iH (HI6.out.below hb);have HB7:=qTH HB6 hb;clear hb;obtain ⟨q,hq⟩:∃ q,Ej x ci y b=q:=⟨_,rfl⟩;rw [hq];have HR:=iH hq;clear hq
         cases q with
         | true =>
          go_wp2_with fail;go_ret;exact ⟨Ag (Rr HCL HE HA2 HT2 HR).symm,HB7⟩
         | false =>
          have HR2:Hid (¬ (Ej x ci y b=true)):=fun h=>by rw [HR.out] at h;cases h
          have zb3:w7.cell? ⟨w.heap.size+1+1,3,none⟩=some (.int .i64 b.room):=HI7.out.2.2.cell rfl;have zb4:w7.cell? ⟨w.heap.size+1+1,4,none⟩=some (.int .i64 b.hold):=HI7.out.2.2.cell rfl;by_cases hs:10≤S
          ·have H6:Hid (10≤Av x ci b.name x.copies.length):=by show _≤_;rw [← hS.out];exact hs
           go_wp2_with fail;go_ret;exact ⟨Ag (Rb HCL HE HA2 HT2 HR2 H6).symm,HB7⟩
          have H6:Hid (Av x ci b.name x.copies.length<10):=by show _<_;rw [← hS.out];omega
          by_cases hr:b.room<R
          ·have H7:Hid (b.room<Bc x ci b.name x.copies.length+y.room):=by show _<_;have:=hRR.out;omega
           go_wp2_with fail;go_ret;exact ⟨Ag (Ry HCL HE HA2 HT2 HR2 (Int.not_le.2 H6) H7).symm,HB7⟩
          have H7:Hid (Bc x ci b.name x.copies.length+y.room≤b.room):=by show _≤_;have:=hRR.out;omega
          by_cases hh:b.hold<H
          ·have H8:Hid (b.hold<Bg x ci b.name x.copies.length+y.hold):=by show _<_;have:=hHH.out;omega
           go_wp2_with fail;go_ret;exact ⟨Ag (Rh HCL HE HA2 HT2 HR2 (Int.not_le.2 H6) (Int.not_lt.2 H7) H8).symm,HB7⟩
          have H8:Hid (Bg x ci b.name x.copies.length+y.hold≤b.hold):=by show _≤_;have:=hHH.out;omega
          go_wp2_with fail;go_ret;exact ⟨Ag (Rc HCL HE HA2 HT2 HR2 (Int.not_le.2 H6) (Int.not_lt.2 H7) (Int.not_lt.2 H8)).symm,HB7⟩
      ·have t3:=Bz hfn
       have HE:Hid (En y b=true):=by show _=_;unfold En;rw [decide_eq_true hfx,decide_eq_true hfn];rfl
       clear hfx hfn;go_wp2_with fail;go_ret;exact ⟨Ag (kL HCL HE).symm,HB0⟩
   | false =>
    cases hcl:b.closed with
    | true =>
     have HCL:Hid ((b.closed && !false)=true):=by show _=_;rw [hcl];rfl
     go_wp2_with fail;go_ret;exact ⟨Ag (AD HCL).symm,HB0⟩
    | false =>
     have HCL:Hid (¬ ((b.closed && !false)=true)):=by show ¬ _;rw [hcl];simp
     go_upto_region 14 with fail;clear hcl zb5;have y10:wr.cell? ⟨w.heap.size+1,10,none⟩=some (.string y.fixed):=HI0.out.2.1.cell rfl;have zb0:wr.cell? ⟨w.heap.size+1+1,0,none⟩=some (.string b.name):=HI0.out.2.2.cell rfl;by_cases hfx:y.fixed=⟨#[]⟩
     ·have t1:=Bl hfx
      have t2:=Gh hfx;have HE:Hid (¬ (En y b=true)):=fun h=>by unfold En at h;rw [decide_eq_false (fun k=>k hfx)] at h;cases h
      clear hfx;go_upto_region 16 with fail;clear t1 t2 y10 zb0;have y6:wr.cell? ⟨w.heap.size+1,6,none⟩=some (.string y.select):=HI0.out.2.1.cell rfl;go_wp2_with (first | (refine wpList_load_mid rfl 52 _ rfl (w.heap.size+1+1) 0 (by first | rfl | (simp [go_sem];done)) (bbL b am cm) _ HI0.out.2.2.rangeA Tryz.underlying52 rfl Bj ?_) | (refine wpList_load_mid rfl 49 _ rfl (w.heap.size+1) 0 (by first | rfl | (simp [go_sem];done)) (ccL y a7 c7) _ HI0.out.2.1.rangeA Tryz.underlying49 rfl Bk ?_) | (refine wpList_load_mid rfl 35 _ rfl w.heap.size 0 (by first | rfl | (simp [go_sem];done)) (ffL x a1 c1 a2 c2 a3 c3) _ HI0.out.1.rangeA Tryz.underlying35 rfl Bh ?_));refine (Fi y.select b.name b.zone b.marks am cm lo b.room b.hold b.closed _ (NM.out.below StrC.holds HB0 nL) hml hz HS).mono ?_;rintro e w5 ⟨rfl,hb⟩;have HI5:=iH (HI0.out.below hb);have HB5:=qTH HB0 hb;clear hb;obtain ⟨q,hq⟩:∃ q,Pb y.select b.marks b.zone=q:=⟨_,rfl⟩;rw [hq];have HA:Hid (Ch y.select b.marks b.zone=q):=(Oa _ _ _).trans hq;clear hq
      cases q with
      | false =>
       go_wp2_with fail;go_ret;exact ⟨Ag (Rn HCL HE HA).symm,HB5⟩
      | true =>
       have HA2:Hid (¬ (Ch y.select b.marks b.zone=false)):=fun h=>by rw [HA.out] at h;cases h
       clear y6;go_wp2_with (first | (refine wpList_load_mid rfl 52 _ rfl (w.heap.size+1+1) 0 (by first | rfl | (simp [go_sem];done)) (bbL b am cm) _ HI5.out.2.2.rangeA Tryz.underlying52 rfl Bj ?_) | (refine wpList_load_mid rfl 49 _ rfl (w.heap.size+1) 0 (by first | rfl | (simp [go_sem];done)) (ccL y a7 c7) _ HI5.out.2.1.rangeA Tryz.underlying49 rfl Bk ?_) | (refine wpList_load_mid rfl 35 _ rfl w.heap.size 0 (by first | rfl | (simp [go_sem];done)) (ffL x a1 c1 a2 c2 a3 c3) _ HI5.out.1.rangeA Tryz.underlying35 rfl Bh ?_));refine (Ek lo ci x a1 c1 a2 c2 a3 c3 y a7 c7 b am cm _ (N1.out.below BrtC.holds HB5 nL) (N3.out.below CpyC.holds HB5 nL) HCI HV).mono ?_;rintro e w6 ⟨rfl,hb⟩;have HI6:=iH (HI5.out.below hb);have HB6:=qTH HB5 hb;clear hb;obtain ⟨q,hq⟩:∃ q,Es x ci y b=q:=⟨_,rfl⟩;rw [hq];have HT:=iH hq;clear hq
       cases q with
       | true =>
        go_wp2_with fail;go_ret;exact ⟨Ag (Qx HCL HE HA2 HT).symm,HB6⟩
       | false =>
        have HT2:Hid (¬ (Es x ci y b=true)):=fun h=>by rw [HT.out] at h;cases h
        go_wp2_with (first | (refine wpList_load_mid rfl 52 _ rfl (w.heap.size+1+1) 0 (by first | rfl | (simp [go_sem];done)) (bbL b am cm) _ HI6.out.2.2.rangeA Tryz.underlying52 rfl Bj ?_) | (refine wpList_load_mid rfl 49 _ rfl (w.heap.size+1) 0 (by first | rfl | (simp [go_sem];done)) (ccL y a7 c7) _ HI6.out.2.1.rangeA Tryz.underlying49 rfl Bk ?_) | (refine wpList_load_mid rfl 35 _ rfl w.heap.size 0 (by first | rfl | (simp [go_sem];done)) (ffL x a1 c1 a2 c2 a3 c3) _ HI6.out.1.rangeA Tryz.underlying35 rfl Bh ?_));refine (Il lo ci x a1 c1 a2 c2 a3 c3 y a7 c7 b am cm _ (N1.out.below BrtC.holds HB6 nL) (N3.out.below CpyC.holds HB6 nL) HCI HV).mono ?_;rintro e w7 ⟨rfl,hb⟩;have HI7:=iH (HI6.out.below hb);have HB7:=qTH HB6 hb;clear hb;obtain ⟨q,hq⟩:∃ q,Ej x ci y b=q:=⟨_,rfl⟩;rw [hq];have HR:=iH hq;clear hq
        cases q with
        | true =>
         go_wp2_with fail;go_ret;exact ⟨Ag (Rr HCL HE HA2 HT2 HR).symm,HB7⟩
        | false =>
         have HR2:Hid (¬ (Ej x ci y b=true)):=fun h=>by rw [HR.out] at h;cases h
         have zb3:w7.cell? ⟨w.heap.size+1+1,3,none⟩=some (.int .i64 b.room):=HI7.out.2.2.cell rfl;have zb4:w7.cell? ⟨w.heap.size+1+1,4,none⟩=some (.int .i64 b.hold):=HI7.out.2.2.cell rfl;by_cases hs:10≤S
         ·have H6:Hid (10≤Av x ci b.name x.copies.length):=by show _≤_;rw [← hS.out];exact hs
          go_wp2_with fail;go_ret;exact ⟨Ag (Rb HCL HE HA2 HT2 HR2 H6).symm,HB7⟩
         have H6:Hid (Av x ci b.name x.copies.length<10):=by show _<_;rw [← hS.out];omega
         by_cases hr:b.room<R
         ·have H7:Hid (b.room<Bc x ci b.name x.copies.length+y.room):=by show _<_;have:=hRR.out;omega
          go_wp2_with fail;go_ret;exact ⟨Ag (Ry HCL HE HA2 HT2 HR2 (Int.not_le.2 H6) H7).symm,HB7⟩
         have H7:Hid (Bc x ci b.name x.copies.length+y.room≤b.room):=by show _≤_;have:=hRR.out;omega
         by_cases hh:b.hold<H
         ·have H8:Hid (b.hold<Bg x ci b.name x.copies.length+y.hold):=by show _<_;have:=hHH.out;omega
          go_wp2_with fail;go_ret;exact ⟨Ag (Rh HCL HE HA2 HT2 HR2 (Int.not_le.2 H6) (Int.not_lt.2 H7) H8).symm,HB7⟩
         have H8:Hid (Bg x ci b.name x.copies.length+y.hold≤b.hold):=by show _≤_;have:=hHH.out;omega
         go_wp2_with fail;go_ret;exact ⟨Ag (Rc HCL HE HA2 HT2 HR2 (Int.not_le.2 H6) (Int.not_lt.2 H7) (Int.not_lt.2 H8)).symm,HB7⟩
     ·have t1:=Az hfx
      have t2:=Fj hfx;by_cases hfn:y.fixed=b.name
      ·have t3:=Br hfn
       have HE:Hid (¬ (En y b=true)):=fun h=>by unfold En at h;rw [decide_eq_false (p:=¬ y.fixed=b.name) (fun k=>k hfn),Bool.and_false] at h;cases h
       clear hfx hfn;go_upto_region 16 with fail;clear t1 t2 t3 y10 zb0;have y6:wr.cell? ⟨w.heap.size+1,6,none⟩=some (.string y.select):=HI0.out.2.1.cell rfl;go_wp2_with (first | (refine wpList_load_mid rfl 52 _ rfl (w.heap.size+1+1) 0 (by first | rfl | (simp [go_sem];done)) (bbL b am cm) _ HI0.out.2.2.rangeA Tryz.underlying52 rfl Bj ?_) | (refine wpList_load_mid rfl 49 _ rfl (w.heap.size+1) 0 (by first | rfl | (simp [go_sem];done)) (ccL y a7 c7) _ HI0.out.2.1.rangeA Tryz.underlying49 rfl Bk ?_) | (refine wpList_load_mid rfl 35 _ rfl w.heap.size 0 (by first | rfl | (simp [go_sem];done)) (ffL x a1 c1 a2 c2 a3 c3) _ HI0.out.1.rangeA Tryz.underlying35 rfl Bh ?_));refine (Fi y.select b.name b.zone b.marks am cm lo b.room b.hold b.closed _ (NM.out.below StrC.holds HB0 nL) hml hz HS).mono ?_;rintro e w5 ⟨rfl,hb⟩;have HI5:=iH (HI0.out.below hb);have HB5:=qTH HB0 hb;clear hb;obtain ⟨q,hq⟩:∃ q,Pb y.select b.marks b.zone=q:=⟨_,rfl⟩;rw [hq];have HA:Hid (Ch y.select b.marks b.zone=q):=(Oa _ _ _).trans hq;clear hq
       cases q with
       | false =>
        go_wp2_with fail;go_ret;exact ⟨Ag (Rn HCL HE HA).symm,HB5⟩
       | true =>
        have HA2:Hid (¬ (Ch y.select b.marks b.zone=false)):=fun h=>by rw [HA.out] at h;cases h
        clear y6;go_wp2_with (first | (refine wpList_load_mid rfl 52 _ rfl (w.heap.size+1+1) 0 (by first | rfl | (simp [go_sem];done)) (bbL b am cm) _ HI5.out.2.2.rangeA Tryz.underlying52 rfl Bj ?_) | (refine wpList_load_mid rfl 49 _ rfl (w.heap.size+1) 0 (by first | rfl | (simp [go_sem];done)) (ccL y a7 c7) _ HI5.out.2.1.rangeA Tryz.underlying49 rfl Bk ?_) | (refine wpList_load_mid rfl 35 _ rfl w.heap.size 0 (by first | rfl | (simp [go_sem];done)) (ffL x a1 c1 a2 c2 a3 c3) _ HI5.out.1.rangeA Tryz.underlying35 rfl Bh ?_));refine (Ek lo ci x a1 c1 a2 c2 a3 c3 y a7 c7 b am cm _ (N1.out.below BrtC.holds HB5 nL) (N3.out.below CpyC.holds HB5 nL) HCI HV).mono ?_;rintro e w6 ⟨rfl,hb⟩;have HI6:=iH (HI5.out.below hb);have HB6:=qTH HB5 hb;clear hb;obtain ⟨q,hq⟩:∃ q,Es x ci y b=q:=⟨_,rfl⟩;rw [hq];have HT:=iH hq;clear hq
        cases q with
        | true =>
         go_wp2_with fail;go_ret;exact ⟨Ag (Qx HCL HE HA2 HT).symm,HB6⟩
        | false =>
         have HT2:Hid (¬ (Es x ci y b=true)):=fun h=>by rw [HT.out] at h;cases h
         go_wp2_with (first | (refine wpList_load_mid rfl 52 _ rfl (w.heap.size+1+1) 0 (by first | rfl | (simp [go_sem];done)) (bbL b am cm) _ HI6.out.2.2.rangeA Tryz.underlying52 rfl Bj ?_) | (refine wpList_load_mid rfl 49 _ rfl (w.heap.size+1) 0 (by first | rfl | (simp [go_sem];done)) (ccL y a7 c7) _ HI6.out.2.1.rangeA Tryz.underlying49 rfl Bk ?_) | (refine wpList_load_mid rfl 35 _ rfl w.heap.size 0 (by first | rfl | (simp [go_sem];done)) (ffL x a1 c1 a2 c2 a3 c3) _ HI6.out.1.rangeA Tryz.underlying35 rfl Bh ?_));refine (Il lo ci x a1 c1 a2 c2 a3 c3 y a7 c7 b am cm _ (N1.out.below BrtC.holds HB6 nL) (N3.out.below CpyC.holds HB6 nL) HCI HV).mono ?_;rintro e w7 ⟨rfl,hb⟩;have HI7:=iH (HI6.out.below hb);have HB7:=qTH HB6 hb;clear hb;obtain ⟨q,hq⟩:∃ q,Ej x ci y b=q:=⟨_,rfl⟩;rw [hq];have HR:=iH hq;clear hq
         cases q with
         | true =>
          go_wp2_with fail;go_ret;exact ⟨Ag (Rr HCL HE HA2 HT2 HR).symm,HB7⟩
         | false =>
          have HR2:Hid (¬ (Ej x ci y b=true)):=fun h=>by rw [HR.out] at h;cases h
          have zb3:w7.cell? ⟨w.heap.size+1+1,3,none⟩=some (.int .i64 b.room):=HI7.out.2.2.cell rfl;have zb4:w7.cell? ⟨w.heap.size+1+1,4,none⟩=some (.int .i64 b.hold):=HI7.out.2.2.cell rfl;by_cases hs:10≤S
          ·have H6:Hid (10≤Av x ci b.name x.copies.length):=by show _≤_;rw [← hS.out];exact hs
           go_wp2_with fail;go_ret;exact ⟨Ag (Rb HCL HE HA2 HT2 HR2 H6).symm,HB7⟩
          have H6:Hid (Av x ci b.name x.copies.length<10):=by show _<_;rw [← hS.out];omega
          by_cases hr:b.room<R
          ·have H7:Hid (b.room<Bc x ci b.name x.copies.length+y.room):=by show _<_;have:=hRR.out;omega
           go_wp2_with fail;go_ret;exact ⟨Ag (Ry HCL HE HA2 HT2 HR2 (Int.not_le.2 H6) H7).symm,HB7⟩
          have H7:Hid (Bc x ci b.name x.copies.length+y.room≤b.room):=by show _≤_;have:=hRR.out;omega
          by_cases hh:b.hold<H
          ·have H8:Hid (b.hold<Bg x ci b.name x.copies.length+y.hold):=by show _<_;have:=hHH.out;omega
           go_wp2_with fail;go_ret;exact ⟨Ag (Rh HCL HE HA2 HT2 HR2 (Int.not_le.2 H6) (Int.not_lt.2 H7) H8).symm,HB7⟩
          have H8:Hid (Bg x ci b.name x.copies.length+y.hold≤b.hold):=by show _≤_;have:=hHH.out;omega
          go_wp2_with fail;go_ret;exact ⟨Ag (Rc HCL HE HA2 HT2 HR2 (Int.not_le.2 H6) (Int.not_lt.2 H7) (Int.not_lt.2 H8)).symm,HB7⟩
      ·have t3:=Bz hfn
       have HE:Hid (En y b=true):=by show _=_;unfold En;rw [decide_eq_true hfx,decide_eq_true hfn];rfl
       clear hfx hfn;go_wp2_with fail;go_ret;exact ⟨Ag (kL HCL HE).symm,HB0⟩
end Go.Proofs.YtpidfnfilnkhkaaGreat
