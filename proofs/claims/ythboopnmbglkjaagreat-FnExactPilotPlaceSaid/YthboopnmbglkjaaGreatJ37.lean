import Derived.Test.YthboopnmbglkjaaGreatJ22
set_option maxHeartbeats 8000000
namespace Go.Proofs.YthboopnmbglkjaaGreat
open Tryz
set_option maxRecDepth 100000
open Go.RowKit Go.WideMaps Go.Maps Tryz
def L3In(B:Nat)(x:Flt)(a1:OA)(c1:Nat)(a2:OA)(c2:Nat)(a3:OA)(c3:Nat)(y:Cpy)(a7:OA)(c7:Nat)(b:Brt)(am:OA)(cm:Nat)(w:World):Prop :=
 Blk B (ffA x a1 c1 a2 c2 a3 c3) 32 w/\Blk (B+1) (ccA y a7 c7) 54 w/\Blk (B+1+1) (bbA b am cm) 92 w
theorem L3In.below{B:Nat}{x:Flt}{a1:OA}{c1:Nat}{a2:OA}{c2:Nat}{a3:OA}{c3:Nat}{y:Cpy}{a7:OA}{c7:Nat}{b:Brt}{am:OA}{cm:Nat}{w w':World}(h:L3In B x a1 c1 a2 c2 a3 c3 y a7 c7 b am cm w)(hb:bW w w'):L3In B x a1 c1 a2 c2 a3 c3 y a7 c7 b am cm w' :=
 ⟨h.1.below hb h.1.lt,h.2.1.below hb h.2.1.lt,h.2.2.below hb h.2.2.lt⟩
theorem L3In.drew{B:Nat}{x:Flt}{a1:OA}{c1:Nat}{a2:OA}{c2:Nat}{a3:OA}{c3:Nat}{y:Cpy}{a7:OA}{c7:Nat}{b:Brt}{am:OA}{cm:Nat}{w:World}(h:L3In B x a1 c1 a2 c2 a3 c3 y a7 c7 b am cm w):L3In B x a1 c1 a2 c2 a3 c3 y a7 c7 b am cm w.drew:=h
theorem L3In.flt{B:Nat}{x:Flt}{a1:OA}{c1:Nat}{a2:OA}{c2:Nat}{a3:OA}{c3:Nat}{y:Cpy}{a7:OA}{c7:Nat}{b:Brt}{am:OA}{cm:Nat}{w:World}(h:L3In B x a1 c1 a2 c2 a3 c3 y a7 c7 b am cm w):FltIn B x a1 c1 a2 c2 a3 c3 w:=⟨h.1.cell rfl,h.1.cell rfl,h.1.cell rfl,h.1.cell rfl⟩
theorem L3In.of(x:Flt)(a1:OA)(c1:Nat)(a2:OA)(c2:Nat)(a3:OA)(c3:Nat)(y:Cpy)(a7:OA)(c7:Nat)(b:Brt)(am:OA)(cm:Nat)(w:World):L3In w.heap.size x a1 c1 a2 c2 a3 c3 y a7 c7 b am cm (((w.alloc (Obj.cells (ffA x a1 c1 a2 c2 a3 c3) 32)).alloc (Obj.cells (ccA y a7 c7) 54)).alloc (Obj.cells (bbA b am cm) 92))/\bW w (((w.alloc (Obj.cells (ffA x a1 c1 a2 c2 a3 c3) 32)).alloc (Obj.cells (ccA y a7 c7) 54)).alloc (Obj.cells (bbA b am cm) 92)):=by
 have e0:=Blk.alloc w (ffA x a1 c1 a2 c2 a3 c3) 32;have e1:Blk (w.heap.size+1) (ccA y a7 c7) 54 ((w.alloc (Obj.cells (ffA x a1 c1 a2 c2 a3 c3) 32)).alloc (Obj.cells (ccA y a7 c7) 54)):=by
  have h:=Blk.alloc (w.alloc (Obj.cells (ffA x a1 c1 a2 c2 a3 c3) 32)) (ccA y a7 c7) 54;simpa using h
 have e2:Blk (w.heap.size+1+1) (bbA b am cm) 92 (((w.alloc (Obj.cells (ffA x a1 c1 a2 c2 a3 c3) 32)).alloc (Obj.cells (ccA y a7 c7) 54)).alloc (Obj.cells (bbA b am cm) 92)):=by
  have h:=Blk.alloc ((w.alloc (Obj.cells (ffA x a1 c1 a2 c2 a3 c3) 32)).alloc (Obj.cells (ccA y a7 c7) 54)) (bbA b am cm) 92;simpa using h
 have b1:=(Below.refl _ (w.alloc (Obj.cells (ffA x a1 c1 a2 c2 a3 c3) 32))).alloc nL (Obj.cells (ccA y a7 c7) 54);have b2:=(Below.refl _ ((w.alloc (Obj.cells (ffA x a1 c1 a2 c2 a3 c3) 32)).alloc (Obj.cells (ccA y a7 c7) 54))).alloc nL (Obj.cells (bbA b am cm) 92);exact⟨⟨(e0.below b1 e0.lt).below b2 (e0.below b1 e0.lt).lt,e1.below b2 e1.lt,e2⟩,by go_grown⟩
def L3T(B:Nat)(x:Flt)(a1:OA)(c1:Nat)(a2:OA)(c2:Nat)(a3:OA)(c3:Nat)(y:Cpy)(b:Brt)(g:Nat)(c:Cpy)(w:World):Prop :=
 FltIn B x a1 c1 a2 c2 a3 c3 w/\w.cell? (E g 11)=some (Y c.at_)/\w.cell? (E g 8)=some (X c.apart)/\w.cell? (E (B+1) 8)=some (X y.apart)/\w.cell? (E (B+1+1) 1)=some (Y b.zone)
theorem L3In.t{B:Nat}{x:Flt}{a1:OA}{c1:Nat}{a2:OA}{c2:Nat}{a3:OA}{c3:Nat}{y:Cpy}{a7:OA}{c7:Nat}{b:Brt}{am:OA}{cm:Nat}{w:World}(h:L3In B x a1 c1 a2 c2 a3 c3 y a7 c7 b am cm w){g:Nat}{c:Cpy}(h1:w.cell? (E g 11)=some (Y c.at_))(h2:w.cell? (E g 8)=some (X c.apart)):L3T B x a1 c1 a2 c2 a3 c3 y b g c w :=
 ⟨h.flt,h1,h2,h.2.1.cell rfl,h.2.2.cell rfl⟩
theorem Tm{a c:Int}{hb hz:Bool}(h1:¬(hb=true/\(a≠0\/c≠0)))(h2:¬(hz=true/\(a=2\/c=2))):¬Ls a c hb hz=true:=by
 unfold Ls;simp only[Bool.or_eq_true,Bool.and_eq_true,decide_eq_true_eq];rintro(h|h)
 .exact h1 h
 exact h2 h
theorem Yz{a c:Int}{hb hz:Bool}(h:hb=true)(h1:a≠0\/c≠0):Ls a c hb hz=true:=by
 unfold Ls;simp only[Bool.or_eq_true,Bool.and_eq_true,decide_eq_true_eq];exact Or.inl ⟨h,h1⟩
theorem Zu{a c:Int}{hb hz:Bool}(h:hz=true)(h1:a=2\/c=2):Ls a c hb hz=true:=by
 unfold Ls;simp only[Bool.or_eq_true,Bool.and_eq_true,decide_eq_true_eq];exact Or.inr ⟨h,h1⟩
theorem Je{s:BA}(h:s=⟨#[]⟩):s.toList.isEmpty=true:=by rw[Cz h];rfl
theorem Fz{s:BA}(h:¬s=⟨#[]⟩):s.toList.isEmpty=false:=by
 cases e:s.toList with
 |nil=>exact absurd e (Bt h)
 |cons a l=>rfl
theorem Xd(lo ci:Nat)(x:Flt)(a1:OA)(c1:Nat)(a2:OA)(c2:Nat)(a3:OA)(c3:Nat)(y:Cpy)(a7:OA)(c7:Nat)(b:Brt)(am:OA)(cm:Nat)(w:World)(n1:sB lo w a1 x.berths)(n3:sC lo w a3 x.copies)(hci:x.copies[ci]?=some y)(hv:Bb x=true) :
  Calls prog 121 #[.agg (ffA x a1 c1 a2 c2 a3 c3),.agg (ccA y a7 c7),.agg (bbA b am cm)] w (Rt (.bool (Jr x ci y b)) w):=by
 have N1:=iH n1;have N3:=iH n3;have HCI:=iH hci;obtain⟨l2,l3,_,hcN,_,_⟩:=Bh hv;have l1:=(Au hv).1;have HCN:=iH hcN;clear n1 n3 hci hcN;clear hv;obtain⟨CY,hCY⟩:∃CY:Array Value,CY=(ccA y a7 c7):=⟨_,rfl⟩;have HCY:=iH hCY;rw[<-hCY];clear hCY;go_enter func121,ntmps121;go_wp2_with fail;have HI0:Hid (L3In w.heap.size x a1 c1 a2 c2 a3 c3 y a7 c7 b am cm (((w.alloc (Obj.cells (ffA x a1 c1 a2 c2 a3 c3) 32)).alloc (Obj.cells CY 54)).alloc (Obj.cells (bbA b am cm) 92))):=by
  rw[HCY.out];exact(L3In.of x a1 c1 a2 c2 a3 c3 y a7 c7 b am cm w).1
 have HB0:Hid (bW w (((w.alloc (Obj.cells (ffA x a1 c1 a2 c2 a3 c3) 32)).alloc (Obj.cells CY 54)).alloc (Obj.cells (bbA b am cm) 92))):=by
  rw[HCY.out];exact(L3In.of x a1 c1 a2 c2 a3 c3 y a7 c7 b am cm w).2
 generalize(((w.alloc (Obj.cells (ffA x a1 c1 a2 c2 a3 c3) 32)).alloc (Obj.cells CY 54)).alloc (Obj.cells (bbA b am cm) 92))=w0 at *;go_loopw [7] (λi wr=>∃k:Nat,k<=x.copies.length/\i=X k/\Hid (Cy (Ov x ci y b) k=false)/\Hid (L3In w.heap.size x a1 c1 a2 c2 a3 c3 y a7 c7 b am cm wr)/\Hid (bW w wr)) (λi _=>x.copies.length-(intOf i).toNat)
 case atStart=>exact⟨0,zL,rfl,rfl,HI0,HB0⟩
 clear HI0 HB0;obtain⟨k,hk,rfl,hT,hI,hB⟩:=hrel;have p3:wr.cell? (E w.heap.size 3)=some (.slice a3 x.copies.length c3):=hI.out.1.cell rfl;by_cases hlt:k<x.copies.length
 .skip
  obtain⟨c,hck⟩:=gXe hlt;obtain⟨cb,co,rfl,_,_,hc⟩:=(N3.out.below CpyC.holds hB.out nL).at hck;obtain⟨a8,c8,q0,q1,q2,q3,q4,q5,q6,q7,q8,q9,q10,q11,z0,z1,z6,z9,z10,z11,z7⟩:=hc;simp only[Nat.add_zero]at q0 q1 q2 q3 q4 q5 q6 q7 q8 q9 q10 q11;have HRA:Hid (wr.rangeAt cb (co+k*12) (ccL c a8 c8)):=Aa q0 (Aa q1 (Aa q2 (Aa q3 (Aa q4 (Aa q5 (Aa q6 (Aa q7 (Aa q8 (Aa q9 (Aa q10 (Aa q11 (Am _ _ _))))))))))));have HX:=iH hck;have HSM:Hid (k=ci↔c.name=y.name):=by
   constructor
   .rintro rfl
    have:=HCI.out;rw[hck]at this;cases this
    rfl
   intro e;exact HCN.out.inj (Fl (f:=(·.name)) hck) (by rw[Fl (f:=(·.name)) HCI.out,e])
  clear hck q0 q1 q2 q3 q4 q5 q6 q7 q8 q9 q10 q11 z0 z1 z6 z7 z9 z10 z11;go_upto_region 5 with(first|(refine qLr Hb HRA ?_));have hbx:=(Below.refl _ wr).alloc nL (Obj.cells (ccA c a8 c8) 54);have HX4:=iH (Blk.alloc wr (ccA c a8 c8) 54);have HI4:=iH (hI.out.below hbx);have HB4:=qTH hB hbx;have hbk:w.heap.size+1+1<wr.heap.size:=hI.out.2.2.lt;clear HRA hbx hI hB p3;generalize(wr.alloc (Obj.cells (ccA c a8 c8) 54))=w4 at *;have y0:w4.cell? (E (w.heap.size+1) 0)=some (Y y.name):=HI4.out.2.1.cell rfl;have y1:w4.cell? (E (w.heap.size+1) 1)=some (Y y.service):=HI4.out.2.1.cell rfl;have y8:w4.cell? (E (w.heap.size+1) 8)=some (X y.apart):=HI4.out.2.1.cell rfl;have y9:w4.cell? (E (w.heap.size+1) 9)=some (Y y.near):=HI4.out.2.1.cell rfl;have zb0:w4.cell? (E (w.heap.size+1+1) 0)=some (Y b.name):=HI4.out.2.2.cell rfl;have g0:w4.cell? (E wr.heap.size 0)=some (Y c.name):=HX4.out.cell rfl;have g1:w4.cell? (E wr.heap.size 1)=some (Y c.service):=HX4.out.cell rfl;have g4:w4.cell? (E wr.heap.size 4)=some (X c.room):=HX4.out.cell rfl;have g5:w4.cell? (E wr.heap.size 5)=some (X c.hold):=HX4.out.cell rfl;have g8:w4.cell? (E wr.heap.size 8)=some (X c.apart):=HX4.out.cell rfl;have g11:w4.cell? (E wr.heap.size 11)=some (Y c.at_):=HX4.out.cell rfl;by_cases hnm:c.name=y.name
  .have htn:=Bm hnm
   have hkc:=HSM.out.2 hnm;have HTE:Hid (Cy (Ov x ci y b) (k+1)=false):=(Bu (Jo HX (λh=>h.1 hkc))).trans hT.out;clear hnm hkc
   go_wp2
   go_roundw
   case rel=>first|exact⟨k+1,by omega,by go_num,HTE,HI4,HB4⟩|((repeat apply Exists.intro);exact⟨⟨k+1,by omega,by go_num,HTE,HI4,HB4⟩,rfl⟩)
   simp[intOf];omega
  have htn:=Bn hnm;have hkc:k≠ci:=λh=>hnm (HSM.out.1 h)
  clear hnm;by_cases hsv:c.service=y.service
  rotate_left
  .have hts:=Bn hsv
   have HTE:Hid (Cy (Ov x ci y b) (k+1)=false):=(Bu (Jo HX (λh=>hsv h.2.1))).trans hT.out;clear hsv hkc
   go_wp2
   go_roundw
   case rel=>first|exact⟨k+1,by omega,by go_num,HTE,HI4,HB4⟩|((repeat apply Exists.intro);exact⟨⟨k+1,by omega,by go_num,HTE,HI4,HB4⟩,rfl⟩)
   simp[intOf];omega
  have hts:=Bm hsv;have HSV:=iH hsv;clear hsv;by_cases hat:c.at_=⟨#[]⟩
  .have hte:=Cz hat
   have hte2:=Je hat;have HTE:Hid (Cy (Ov x ci y b) (k+1)=false):=(Bu (Jo HX (λh=>h.2.2.1 hat))).trans hT.out;clear hat hkc
   go_wp2
   go_roundw
   case rel=>first|exact⟨k+1,by omega,by go_num,HTE,HI4,HB4⟩|((repeat apply Exists.intro);exact⟨⟨k+1,by omega,by go_num,HTE,HI4,HB4⟩,rfl⟩)
   simp[intOf];omega
  have hte:=Bt hat;have hte2:=Fz hat;have HAT:=iH hat;clear hat;by_cases hab:c.at_=b.name
  .have hta:=Bm hab
   have HAB:=iH hab;clear hab;by_cases hca:c.apart=0
   .by_cases hya:y.apart=0
    .have HNH:Hid (¬(decide (c.at_=b.name)=true/\(c.apart≠0\/y.apart≠0))):=λk=>k.2.elim (λh=>h hca) (λh=>h hya)
     obtain⟨zz,hzz⟩:∃zz,((Cu x.berths c.at_).toList==b.zone.toList)=zz:=⟨_,rfl⟩;go_upto_region 8 with fail;clear y0 y1 y8 y9 zb0 g0 g1 g4 g5 g8 g11;refine wp_region_held_drew (S:=L3T w.heap.size x a1 c1 a2 c2 (O cb co) c3 y b wr.heap.size c) (by kernel_rfl) (HI4.out.drew.t (HX4.out.drew.cell rfl) (HX4.out.drew.cell rfl)) (λhS=>?_);refine x0 0 53 (.agg (ffA x a1 c1 a2 c2 (O cb co) c3)) ?_;refine x0 1 54 (pP wr.heap.size 11) ?_;refine x0 2 55 (Y c.at_) ?_;refine x0 4 57 (pP (w.heap.size+1+1) 1) ?_;refine x0 5 58 (Y b.zone) ?_;refine rd1 3 ⟨some 56,_,_,_,_,none⟩ rfl (λK hK=>?_);go_simp;refine(Ig x a1 c1 a2 c2 (O cb co) c3 lo c.at_ _ (N1.out.below BrtC.holds HB4.out.drew nL) (by omega)).mono ?_;rintro e w7⟨rfl,hb7⟩;have hd7:bW w4 w7:=(Below.refl _ w4).drew.trans hb7;have HB7:=qTH HB4 hd7;have HI7:=iH (HI4.out.below hd7);have HX7:=qBk HX4 hd7;refine hK.out _ _ (HI7.out.t (HX7.out.cell rfl) (HX7.out.cell rfl)) (λhS=>?_);clear hK K hb7 hd7;refine x0 6 59 (.bool zz) ?_;refine x0 7 60 (.bool zz) ?_
     cases zz with
     |false =>
      have hzo:¬Cu x.berths c.at_=b.zone:=λh=>by rw[Bm h]at hzz;cases hzz
      refine ts 8 61 ?_;refine ts 9 62 ?_;refine ts 10 63 ?_;refine ts 11 64 ?_;refine ts 12 65 ?_;refine ts 13 66 ?_;refine ts 14 67 ?_;refine ts 15 68 ?_;refine x0 16 69 (.bool false) ?_;refine td ?_;clear hS;have HTE:Hid (Cy (Ov x ci y b) (k+1)=false):=(Bu (Jo HX (λh=>Tm HNH (λk=>hzo (of_decide_eq_true k.1)) h.2.2.2))).trans hT.out;clear hzo hzz
      go_wp2
      go_roundw
      case rel=>first|exact⟨k+1,by omega,by go_num,HTE,HI7,HB7⟩|((repeat apply Exists.intro);exact⟨⟨k+1,by omega,by go_num,HTE,HI7,HB7⟩,rfl⟩)
      simp[intOf];omega
     | true =>
      have hzo:Cu x.berths c.at_=b.zone:=Classical.byContradiction λh=>by rw[Bn h]at hzz;cases hzz
      have HZO:=iH hzo;clear hzo hzz;refine x0 8 61 (pP wr.heap.size 8) ?_;refine x0 9 62 (X c.apart) ?_;have hc2:¬c.apart=2:=by omega
      have hy2:¬y.apart=2:=by omega
      refine ty 10 ⟨some 63,_,_,_,_,some (7,true)⟩ (.bool false) ?_ ?_
      .intro wy hy
       obtain⟨⟨y0,y1,y2,y3⟩,u1,u2,u3,u4⟩:=hy;have e2:¬c.apart=2:=hc2;go_simp
      refine x0 11 64 (.bool false) ?_;refine x0 12 65 (pP (w.heap.size+1) 8) ?_;refine x0 13 66 (X y.apart) ?_;refine ty 14 ⟨some 67,_,_,_,_,some (11,false)⟩ (.bool false) ?_ ?_
      .intro wy hy
       obtain⟨⟨y0,y1,y2,y3⟩,u1,u2,u3,u4⟩:=hy;have e3:¬y.apart=2:=hy2;go_simp
      refine x0 15 68 (.bool false) ?_;refine x0 16 69 (.bool false) ?_;refine td ?_;clear hS;have HTE:Hid (Cy (Ov x ci y b) (k+1)=false):=(Bu (Jo HX (λh=>Tm HNH (λk=>k.2.elim hc2 hy2) h.2.2.2))).trans hT.out;skip
      go_wp2
      go_roundw
      case rel=>first|exact⟨k+1,by omega,by go_num,HTE,HI7,HB7⟩|((repeat apply Exists.intro);exact⟨⟨k+1,by omega,by go_num,HTE,HI7,HB7⟩,rfl⟩)
      simp[intOf];omega
    .skip
     have HTE:Hid (Jr x ci y b=true):=Et _ (show k+1<=x.copies.length by omega) (Ew (Pp HX hkc HSV HAT (Yz (decide_eq_true HAB) (Or.inr hya))));skip
     go_wp2
     go_ret;exact⟨Ab HTE.out.symm,HB4⟩
   .skip
    have HTE:Hid (Jr x ci y b=true):=Et _ (show k+1<=x.copies.length by omega) (Ew (Pp HX hkc HSV HAT (Yz (decide_eq_true HAB) (Or.inl hca))));skip
    go_wp2
    go_ret;exact⟨Ab HTE.out.symm,HB4⟩
  have hta:=Bn hab;have HNH:Hid (¬(decide (c.at_=b.name)=true/\(c.apart≠0\/y.apart≠0))):=λk=>hab (of_decide_eq_true k.1)
  clear hab;obtain⟨zz,hzz⟩:∃zz,((Cu x.berths c.at_).toList==b.zone.toList)=zz:=⟨_,rfl⟩;go_upto_region 8 with fail;clear y0 y1 y8 y9 zb0 g0 g1 g4 g5 g8 g11;refine wp_region_held_drew (S:=L3T w.heap.size x a1 c1 a2 c2 (O cb co) c3 y b wr.heap.size c) (by kernel_rfl) (HI4.out.drew.t (HX4.out.drew.cell rfl) (HX4.out.drew.cell rfl)) (λhS=>?_);refine x0 0 53 (.agg (ffA x a1 c1 a2 c2 (O cb co) c3)) ?_;refine x0 1 54 (pP wr.heap.size 11) ?_;refine x0 2 55 (Y c.at_) ?_;refine x0 4 57 (pP (w.heap.size+1+1) 1) ?_;refine x0 5 58 (Y b.zone) ?_;refine rd1 3 ⟨some 56,_,_,_,_,none⟩ rfl (λK hK=>?_);go_simp;refine(Ig x a1 c1 a2 c2 (O cb co) c3 lo c.at_ _ (N1.out.below BrtC.holds HB4.out.drew nL) (by omega)).mono ?_;rintro e w7⟨rfl,hb7⟩;have hd7:bW w4 w7:=(Below.refl _ w4).drew.trans hb7;have HB7:=qTH HB4 hd7;have HI7:=iH (HI4.out.below hd7);have HX7:=qBk HX4 hd7;refine hK.out _ _ (HI7.out.t (HX7.out.cell rfl) (HX7.out.cell rfl)) (λhS=>?_);clear hK K hb7 hd7;refine x0 6 59 (.bool zz) ?_;refine x0 7 60 (.bool zz) ?_
  cases zz with
  |false =>
   have hzo:¬Cu x.berths c.at_=b.zone:=λh=>by rw[Bm h]at hzz;cases hzz
   refine ts 8 61 ?_;refine ts 9 62 ?_;refine ts 10 63 ?_;refine ts 11 64 ?_;refine ts 12 65 ?_;refine ts 13 66 ?_;refine ts 14 67 ?_;refine ts 15 68 ?_;refine x0 16 69 (.bool false) ?_;refine td ?_;clear hS;have HTE:Hid (Cy (Ov x ci y b) (k+1)=false):=(Bu (Jo HX (λh=>Tm HNH (λk=>hzo (of_decide_eq_true k.1)) h.2.2.2))).trans hT.out;clear hzo hzz
   go_wp2
   go_roundw
   case rel=>first|exact⟨k+1,by omega,by go_num,HTE,HI7,HB7⟩|((repeat apply Exists.intro);exact⟨⟨k+1,by omega,by go_num,HTE,HI7,HB7⟩,rfl⟩)
   simp[intOf];omega
  | true =>
   have hzo:Cu x.berths c.at_=b.zone:=Classical.byContradiction λh=>by rw[Bn h]at hzz;cases hzz
   have HZO:=iH hzo;clear hzo hzz;refine x0 8 61 (pP wr.heap.size 8) ?_;refine x0 9 62 (X c.apart) ?_;by_cases hc2:c.apart=2
   .skip
    refine ty 10 ⟨some 63,_,_,_,_,some (7,true)⟩ (.bool true) ?_ ?_
    .intro wy hy
     obtain⟨⟨y0,y1,y2,y3⟩,u1,u2,u3,u4⟩:=hy;have e2:=hc2;go_simp
    refine x0 11 64 (.bool true) ?_;refine ts 12 65 ?_;refine ts 13 66 ?_;refine ts 14 67 ?_;refine x0 15 68 (.bool true) ?_;refine x0 16 69 (.bool true) ?_;refine td ?_;clear hS;have HTE:Hid (Jr x ci y b=true):=Et _ (show k+1<=x.copies.length by omega) (Ew (Pp HX hkc HSV HAT (Zu (decide_eq_true HZO) (Or.inl hc2))));skip
    go_wp2
    go_ret;exact⟨Ab HTE.out.symm,HB7⟩
   .skip
    refine ty 10 ⟨some 63,_,_,_,_,some (7,true)⟩ (.bool false) ?_ ?_
    .intro wy hy
     obtain⟨⟨y0,y1,y2,y3⟩,u1,u2,u3,u4⟩:=hy;have e2:¬c.apart=2:=hc2;go_simp
    refine x0 11 64 (.bool false) ?_;refine x0 12 65 (pP (w.heap.size+1) 8) ?_;refine x0 13 66 (X y.apart) ?_;by_cases hy2:y.apart=2
    .skip
     refine ty 14 ⟨some 67,_,_,_,_,some (11,false)⟩ (.bool true) ?_ ?_
     .intro wy hy
      obtain⟨⟨y0,y1,y2,y3⟩,u1,u2,u3,u4⟩:=hy;have e3:y.apart=2:=hy2;go_simp
     refine x0 15 68 (.bool true) ?_;refine x0 16 69 (.bool true) ?_;refine td ?_;clear hS;have HTE:Hid (Jr x ci y b=true):=Et _ (show k+1<=x.copies.length by omega) (Ew (Pp HX hkc HSV HAT (Zu (decide_eq_true HZO) (Or.inr hy2))));skip
     go_wp2
     go_ret;exact⟨Ab HTE.out.symm,HB7⟩
    .skip
     refine ty 14 ⟨some 67,_,_,_,_,some (11,false)⟩ (.bool false) ?_ ?_
     .intro wy hy
      obtain⟨⟨y0,y1,y2,y3⟩,u1,u2,u3,u4⟩:=hy;have e3:¬y.apart=2:=hy2;go_simp
     refine x0 15 68 (.bool false) ?_;refine x0 16 69 (.bool false) ?_;refine td ?_;clear hS;have HTE:Hid (Cy (Ov x ci y b) (k+1)=false):=(Bu (Jo HX (λh=>Tm HNH (λk=>k.2.elim hc2 hy2) h.2.2.2))).trans hT.out;skip
     go_wp2
     go_roundw
     case rel=>first|exact⟨k+1,by omega,by go_num,HTE,HI7,HB7⟩|((repeat apply Exists.intro);exact⟨⟨k+1,by omega,by go_num,HTE,HI7,HB7⟩,rfl⟩)
     simp[intOf];omega
 have hke:k=x.copies.length:=by omega
 subst hke;have HTE:Hid (Jr x ci y b=false):=hT.out
 go_wp2
 go_ret;exact⟨Ab HTE.out.symm,hB.out⟩
theorem oK(lo ci:Nat)(x:Flt)(a1:OA)(c1:Nat)(a2:OA)(c2:Nat)(a3:OA)(c3:Nat)(y:Cpy)(a7:OA)(c7:Nat)(b:Brt)(am:OA)(cm:Nat)(w:World)(n1:sB lo w a1 x.berths)(n3:sC lo w a3 x.copies)(hci:x.copies[ci]?=some y)(hv:Bb x=true) :
  Calls prog 122 #[.agg (ffA x a1 c1 a2 c2 a3 c3),.agg (ccA y a7 c7),.agg (bbA b am cm)] w (Rt (.bool (Ib x ci y b)) w):=by
 have N1:=iH n1;have N3:=iH n3;have HCI:=iH hci;obtain⟨l2,l3,_,hcN,_,_⟩:=Bh hv;have l1:=(Au hv).1;have HCN:=iH hcN;clear n1 n3 hci hcN;clear hv;go_enter func122,ntmps122;go_upto_region 1 with fail;have HI0:=iH (L3In.of x a1 c1 a2 c2 a3 c3 y a7 c7 b am cm w).1;have HB0:=iH (L3In.of x a1 c1 a2 c2 a3 c3 y a7 c7 b am cm w).2;generalize(((w.alloc (Obj.cells (ffA x a1 c1 a2 c2 a3 c3) 32)).alloc (Obj.cells (ccA y a7 c7) 54)).alloc (Obj.cells (bbA b am cm) 92))=w0 at *;have y9:w0.cell? (E (w.heap.size+1) 9)=some (Y y.near):=HI0.out.2.1.cell rfl;by_cases hne:y.near=⟨#[]⟩
 .have t1:=Cz hne
  have t2:=Je hne;have HT:=iH (mC (x:=x) (ci:=ci) (b:=b) hne);clear hne
  go_wp2
  go_ret;exact⟨Ab HT.out.symm,HB0⟩
 have t1:=Bt hne;have t2:=Fz hne;have HNE:=iH hne;clear hne
 go_wp2
 go_loopw [7,8] (λs i wr=>∃(k:Nat)(q:Bool),k<=x.copies.length/\s=.bool q/\i=X k/\Hid (q=Cy (stF x ci y.near) k)/\Hid (Cy (znF x ci y.near b.zone) k=false)/\Hid (L3In w.heap.size x a1 c1 a2 c2 a3 c3 y a7 c7 b am cm wr)/\Hid (bW w wr)) (λ_ i _=>x.copies.length-(intOf i).toNat)
 case atStart=>exact⟨0,false,zL,rfl,rfl,rfl,rfl,HI0,HB0⟩
 clear HI0 HB0 y9;obtain⟨k,q,hk,rfl,rfl,hQ,hZ,hI,hB⟩:=hrel;have p3:wr.cell? (E w.heap.size 3)=some (.slice a3 x.copies.length c3):=hI.out.1.cell rfl;by_cases hlt:k<x.copies.length
 .skip
  obtain⟨c,hck⟩:=gXe hlt;obtain⟨cb,co,rfl,_,_,hc⟩:=(N3.out.below CpyC.holds hB.out nL).at hck;obtain⟨a8,c8,q0,q1,q2,q3,q4,q5,q6,q7,q8,q9,q10,q11,z0,z1,z6,z9,z10,z11,z7⟩:=hc;simp only[Nat.add_zero]at q0 q1 q2 q3 q4 q5 q6 q7 q8 q9 q10 q11;have HRA:Hid (wr.rangeAt cb (co+k*12) (ccL c a8 c8)):=Aa q0 (Aa q1 (Aa q2 (Aa q3 (Aa q4 (Aa q5 (Aa q6 (Aa q7 (Aa q8 (Aa q9 (Aa q10 (Aa q11 (Am _ _ _))))))))))));have HX:=iH hck;have HSM:Hid (k=ci↔c.name=y.name):=by
   constructor
   .rintro rfl
    have:=HCI.out;rw[hck]at this;cases this
    rfl
   intro e;exact HCN.out.inj (Fl (f:=(·.name)) hck) (by rw[Fl (f:=(·.name)) HCI.out,e])
  clear hck q0 q1 q2 q3 q4 q5 q6 q7 q8 q9 q10 q11 z0 z1 z6 z7 z9 z10 z11;go_upto_region 8 with(first|(refine qLr Hb HRA ?_));have hbx:=(Below.refl _ wr).alloc nL (Obj.cells (ccA c a8 c8) 54);have HX4:=iH (Blk.alloc wr (ccA c a8 c8) 54);have HI4:=iH (hI.out.below hbx);have HB4:=qTH hB hbx;have hbk:w.heap.size+1+1<wr.heap.size:=hI.out.2.2.lt;clear HRA hbx hI hB p3;generalize(wr.alloc (Obj.cells (ccA c a8 c8) 54))=w4 at *;have y0:w4.cell? (E (w.heap.size+1) 0)=some (Y y.name):=HI4.out.2.1.cell rfl;have y1:w4.cell? (E (w.heap.size+1) 1)=some (Y y.service):=HI4.out.2.1.cell rfl;have y8:w4.cell? (E (w.heap.size+1) 8)=some (X y.apart):=HI4.out.2.1.cell rfl;have y9:w4.cell? (E (w.heap.size+1) 9)=some (Y y.near):=HI4.out.2.1.cell rfl;have zb0:w4.cell? (E (w.heap.size+1+1) 0)=some (Y b.name):=HI4.out.2.2.cell rfl;have g0:w4.cell? (E wr.heap.size 0)=some (Y c.name):=HX4.out.cell rfl;have g1:w4.cell? (E wr.heap.size 1)=some (Y c.service):=HX4.out.cell rfl;have g4:w4.cell? (E wr.heap.size 4)=some (X c.room):=HX4.out.cell rfl;have g5:w4.cell? (E wr.heap.size 5)=some (X c.hold):=HX4.out.cell rfl;have g8:w4.cell? (E wr.heap.size 8)=some (X c.apart):=HX4.out.cell rfl;have g11:w4.cell? (E wr.heap.size 11)=some (Y c.at_):=HX4.out.cell rfl;by_cases hnm:c.name=y.name
  .have htn:=Bm hnm
   have hkc:=HSM.out.2 hnm;have HQE:Hid (q=Cy (stF x ci y.near) (k+1)):=hQ.out.trans (Bu (eU HX (λh=>h.1 hkc))).symm;have HZE:Hid (Cy (znF x ci y.near b.zone) (k+1)=false):=(Bu (Hm HX (λh=>h.1 hkc))).trans hZ.out;clear hnm hkc
   go_wp2
   go_roundw
   case rel=>first|exact⟨k+1,q,by omega,rfl,by go_num,HQE,HZE,HI4,HB4⟩|((repeat apply Exists.intro);exact⟨⟨k+1,q,by omega,rfl,by go_num,HQE,HZE,HI4,HB4⟩,rfl⟩)
   simp[intOf];omega
  have htn:=Bn hnm;have hkc:k≠ci:=λh=>hnm (HSM.out.1 h)
  clear hnm;by_cases hsv:c.service=y.near
  rotate_left
  .have hts:=Bn hsv
   have HQE:Hid (q=Cy (stF x ci y.near) (k+1)):=hQ.out.trans (Bu (eU HX (λh=>hsv h.2.1))).symm;have HZE:Hid (Cy (znF x ci y.near b.zone) (k+1)=false):=(Bu (Hm HX (λh=>hsv h.2.1))).trans hZ.out;clear hsv hkc
   go_wp2
   go_roundw
   case rel=>first|exact⟨k+1,q,by omega,rfl,by go_num,HQE,HZE,HI4,HB4⟩|((repeat apply Exists.intro);exact⟨⟨k+1,q,by omega,rfl,by go_num,HQE,HZE,HI4,HB4⟩,rfl⟩)
   simp[intOf];omega
  have hts:=Bm hsv;have HSV:=iH hsv;clear hsv;by_cases hat:c.at_=⟨#[]⟩
  .have hte:=Cz hat
   have hte2:=Je hat;have HQE:Hid (q=Cy (stF x ci y.near) (k+1)):=hQ.out.trans (Bu (eU HX (λh=>h.2.2 hat))).symm;have HZE:Hid (Cy (znF x ci y.near b.zone) (k+1)=false):=(Bu (Hm HX (λh=>h.2.2.1 hat))).trans hZ.out;clear hat hkc
   go_wp2
   go_roundw
   case rel=>first|exact⟨k+1,q,by omega,rfl,by go_num,HQE,HZE,HI4,HB4⟩|((repeat apply Exists.intro);exact⟨⟨k+1,q,by omega,rfl,by go_num,HQE,HZE,HI4,HB4⟩,rfl⟩)
   simp[intOf];omega
  have hte:=Bt hat;have hte2:=Fz hat;have HAT:=iH hat;clear hat;obtain⟨zz,hzz⟩:∃zz,((Cu x.berths c.at_).toList==b.zone.toList)=zz:=⟨_,rfl⟩;go_upto_region 10 with fail;clear y0 y1 y8 y9 zb0 g0 g1 g4 g5 g8 g11;refine wp_region_held_drew (S:=L3T w.heap.size x a1 c1 a2 c2 (O cb co) c3 y b wr.heap.size c) (by kernel_rfl) (HI4.out.drew.t (HX4.out.drew.cell rfl) (HX4.out.drew.cell rfl)) (λhS=>?_);refine x0 0 42 (.agg (ffA x a1 c1 a2 c2 (O cb co) c3)) ?_;refine x0 1 43 (pP wr.heap.size 11) ?_;refine x0 2 44 (Y c.at_) ?_;refine x0 4 46 (pP (w.heap.size+1+1) 1) ?_;refine x0 5 47 (Y b.zone) ?_;refine rd1 3 ⟨some 45,_,_,_,_,none⟩ rfl (λK hK=>?_);go_simp;refine(Ig x a1 c1 a2 c2 (O cb co) c3 lo c.at_ _ (N1.out.below BrtC.holds HB4.out.drew nL) (by omega)).mono ?_;rintro e w7⟨rfl,hb7⟩;have hd7:bW w4 w7:=(Below.refl _ w4).drew.trans hb7;have HB7:=qTH HB4 hd7;have HI7:=iH (HI4.out.below hd7);have HX7:=qBk HX4 hd7;refine hK.out _ _ (HI7.out.t (HX7.out.cell rfl) (HX7.out.cell rfl)) (λhS=>?_);clear hK K hb7 hd7;refine x0 6 48 (.bool zz) ?_;refine td ?_;clear hS
  cases zz with
  |false =>
   have hzo:¬Cu x.berths c.at_=b.zone:=λh=>by rw[Bm h]at hzz;cases hzz
   have HQE:Hid (true=Cy (stF x ci y.near) (k+1)):=(Ew (tH HX hkc HSV HAT)).symm;have HZE:Hid (Cy (znF x ci y.near b.zone) (k+1)=false):=(Bu (Hm HX (λh=>hzo h.2.2.2))).trans hZ.out;clear hzo hzz
   go_wp2
   go_roundw
   case rel=>first|exact⟨k+1,true,by omega,rfl,by go_num,HQE,HZE,HI7,HB7⟩|((repeat apply Exists.intro);exact⟨⟨k+1,true,by omega,rfl,by go_num,HQE,HZE,HI7,HB7⟩,rfl⟩)
   simp[intOf];omega
  |true =>
   have hzo:Cu x.berths c.at_=b.zone:=Classical.byContradiction λh=>by rw[Bn h]at hzz;cases hzz
   have HTE:Hid (Ib x ci y b=false):=nC (Et _ (show k+1<=x.copies.length by omega) (Ew (Uf HX hkc HSV HAT hzo)));clear hzo hzz
   go_wp2
   go_ret;exact⟨Ab HTE.out.symm,HB7⟩
 have hke:k=x.copies.length:=by omega
 subst hke;have y1:wr.cell? (E (w.heap.size+1) 1)=some (Y y.service):=hI.out.2.1.cell rfl;have y9:wr.cell? (E (w.heap.size+1) 9)=some (Y y.near):=hI.out.2.1.cell rfl;by_cases hns:y.near=y.service
 .have tns:=Bm hns
  have HT:Hid (Ib x ci y b=(false||q)):=jB HNE hZ.out hQ.out.symm (by rw[decide_eq_false (λk=>k hns)]);clear hns;cases q
  all_goals
   go_wp2
   go_ret;exact⟨Ab HT.out.symm,hB.out⟩
 have tns:=Bn hns;have HT:Hid (Ib x ci y b=(true||q)):=jB HNE hZ.out hQ.out.symm (by rw[decide_eq_true hns]);clear hns;cases q
 all_goals
  go_wp2
  go_ret;exact⟨Ab HT.out.symm,hB.out⟩
theorem zG{x:Flt}{ci:Nat}{y:Cpy}{b:Brt}{op:Bool}(h1:(b.closed&&!op)=true):Cs x ci y b op=1:=by
 unfold Cs;rw[if_pos h1]
theorem AM{x:Flt}{ci:Nat}{y:Cpy}{b:Brt}{op:Bool}(h1:¬((b.closed&&!op)=true))(h2:Ir y b=true):Cs x ci y b op=2:=by
 unfold Cs;rw[if_neg h1,if_pos h2]
theorem AQ{x:Flt}{ci:Nat}{y:Cpy}{b:Brt}{op:Bool}(h1:¬((b.closed&&!op)=true))(h2:¬(Ir y b=true))(h3:Ch y.select b.marks b.zone=false):Cs x ci y b op=3:=by
 unfold Cs;rw[if_neg h1,if_neg h2,if_pos h3]
theorem AJ{x:Flt}{ci:Nat}{y:Cpy}{b:Brt}{op:Bool}(h1:¬((b.closed&&!op)=true))(h2:¬(Ir y b=true))(h3:¬(Ch y.select b.marks b.zone=false))(h4:Jr x ci y b=true):Cs x ci y b op=4:=by
 unfold Cs;rw[if_neg h1,if_neg h2,if_neg h3,if_pos h4]
theorem zJ{x:Flt}{ci:Nat}{y:Cpy}{b:Brt}{op:Bool}(h1:¬((b.closed&&!op)=true))(h2:¬(Ir y b=true))(h3:¬(Ch y.select b.marks b.zone=false))(h4:¬(Jr x ci y b=true))(h5:Ib x ci y b=true):Cs x ci y b op=5:=by
 unfold Cs;rw[if_neg h1,if_neg h2,if_neg h3,if_neg h4,if_pos h5]
theorem zW{x:Flt}{ci:Nat}{y:Cpy}{b:Brt}{op:Bool}(h1:¬((b.closed&&!op)=true))(h2:¬(Ir y b=true))(h3:¬(Ch y.select b.marks b.zone=false))(h4:¬(Jr x ci y b=true))(h5:¬(Ib x ci y b=true))(h6:10<=Bg x ci b.name x.copies.length):Cs x ci y b op=6:=by
 unfold Cs;rw[if_neg h1,if_neg h2,if_neg h3,if_neg h4,if_neg h5,if_pos h6]
theorem zD{x:Flt}{ci:Nat}{y:Cpy}{b:Brt}{op:Bool}(h1:¬((b.closed&&!op)=true))(h2:¬(Ir y b=true))(h3:¬(Ch y.select b.marks b.zone=false))(h4:¬(Jr x ci y b=true))(h5:¬(Ib x ci y b=true))(h6:¬(10<=Bg x ci b.name x.copies.length))(h7:b.room<Bl x ci b.name x.copies.length+y.room):Cs x ci y b op=7:=by
 unfold Cs;rw[if_neg h1,if_neg h2,if_neg h3,if_neg h4,if_neg h5,if_neg h6,if_pos h7]
theorem zP{x:Flt}{ci:Nat}{y:Cpy}{b:Brt}{op:Bool}(h1:¬((b.closed&&!op)=true))(h2:¬(Ir y b=true))(h3:¬(Ch y.select b.marks b.zone=false))(h4:¬(Jr x ci y b=true))(h5:¬(Ib x ci y b=true))(h6:¬(10<=Bg x ci b.name x.copies.length))(h7:¬(b.room<Bl x ci b.name x.copies.length+y.room))(h8:b.hold<Ca x ci b.name x.copies.length+y.hold):Cs x ci y b op=8:=by
 unfold Cs;rw[if_neg h1,if_neg h2,if_neg h3,if_neg h4,if_neg h5,if_neg h6,if_neg h7,if_pos h8]
theorem AP{x:Flt}{ci:Nat}{y:Cpy}{b:Brt}{op:Bool}(h1:¬((b.closed&&!op)=true))(h2:¬(Ir y b=true))(h3:¬(Ch y.select b.marks b.zone=false))(h4:¬(Jr x ci y b=true))(h5:¬(Ib x ci y b=true))(h6:¬(10<=Bg x ci b.name x.copies.length))(h7:¬(b.room<Bl x ci b.name x.copies.length+y.room))(h8:¬(b.hold<Ca x ci b.name x.copies.length+y.hold)):Cs x ci y b op=0:=by
 unfold Cs;rw[if_neg h1,if_neg h2,if_neg h3,if_neg h4,if_neg h5,if_neg h6,if_neg h7,if_neg h8]
theorem jO(lo ci bi:Nat)(x:Flt)(a1:OA)(c1:Nat)(a2:OA)(c2:Nat)(a3:OA)(c3:Nat)(y:Cpy)(a7:OA)(c7:Nat)(b:Brt)(am:OA)(cm:Nat)(op:Bool)(w:World)(n1:sB lo w a1 x.berths)(n3:sC lo w a3 x.copies)(nm:sX lo w am b.marks)(hci:x.copies[ci]?=some y)(hbi:x.berths[bi]?=some b)(hv:Bb x=true)(hsel:y.select.size<=maxLen)(hop:op=false) :
  Calls prog 83 #[.agg (ffA x a1 c1 a2 c2 a3 c3),.agg (ccA y a7 c7),.agg (bbA b am cm),.bool op] w (Rt (X (Cs x ci y b op)) w):=by
 subst hop;obtain⟨hyr,_,_⟩:=(Au hv).2.2.2 ci y hci;have hyh:=((Dw hv).1 ci y hci).1;obtain⟨_,hbz,_,hmk⟩:=(Au hv).2.2.1 bi b hbi;have hml:=Kq hmk;have hz:=Co hbz;have NM:=iH nm;have HV:=iH hv;have HS:=iH hsel;have HCP:Hid (∀(k:Nat)(c:Cpy),x.copies[k]?=some c->0<=c.room/\c.room<=1000):=λk c h=>((Au hv).2.2.2 k c h).1
 have HCH:Hid (∀(k:Nat)(c:Cpy),x.copies[k]?=some c->0<=c.hold/\c.hold<=1000):=λk c h=>((Dw hv).1 k c h).1
 obtain⟨hy0,hy1⟩:=hyr;obtain⟨hh0,hh1⟩:=hyh;have N1:=iH n1;have N3:=iH n3;have HCI:=iH hci;obtain⟨l2,l3,_,hcN,_,_⟩:=Bh hv;have l1:=(Au hv).1;have HCN:=iH hcN;clear n1 n3 hci hcN;clear hv hbi hbz hmk nm hsel;go_enter func83,ntmps83;go_upto_region 1 with fail;have HI0:=iH (L3In.of x a1 c1 a2 c2 a3 c3 y a7 c7 b am cm w).1;have HB0:=iH (L3In.of x a1 c1 a2 c2 a3 c3 y a7 c7 b am cm w).2;generalize(((w.alloc (Obj.cells (ffA x a1 c1 a2 c2 a3 c3) 32)).alloc (Obj.cells (ccA y a7 c7) 54)).alloc (Obj.cells (bbA b am cm) 92))=w0 at *;have y4:w0.cell? (E (w.heap.size+1) 4)=some (X y.room):=HI0.out.2.1.cell rfl;have y5:w0.cell? (E (w.heap.size+1) 5)=some (X y.hold):=HI0.out.2.1.cell rfl
 go_wp2
 go_loopw [9,10,11,12] (λsr sh ss i wr=>∃(k:Nat)(R H S:Int),k<=x.copies.length/\sr=X R/\sh=X H/\ss=X S/\i=X k/\0<=R/\R<=1000+1000*k/\0<=H/\H<=1000+1000*k/\0<=S/\S<=k/\Hid (R=y.room+Bl x ci b.name k)/\Hid (H=y.hold+Ca x ci b.name k)/\Hid (S=Bg x ci b.name k)/\Hid (L3In w.heap.size x a1 c1 a2 c2 a3 c3 y a7 c7 b am cm wr)/\Hid (bW w wr)) (λ_ _ _ i _=>x.copies.length-(intOf i).toNat)
 case atStart=>exact⟨0,y.room,y.hold,0,zL,rfl,rfl,rfl,rfl,hy0,by omega,hh0,by omega,by omega,by omega,by show _=_;simp[Bl],by show _=_;simp[Ca],rfl,HI0,HB0⟩
 clear HI0 HB0 y4 y5;obtain⟨k,R,H,S,hk,rfl,rfl,rfl,rfl,hR0,hR1,hH0,hH1,hS0,hS1,hRR,hHH,hS,hI,hB⟩:=hrel;have p3:wr.cell? (E w.heap.size 3)=some (.slice a3 x.copies.length c3):=hI.out.1.cell rfl;by_cases hlt:k<x.copies.length
 .skip
  obtain⟨c,hck⟩:=gXe hlt;obtain⟨cb,co,rfl,_,_,hc⟩:=(N3.out.below CpyC.holds hB.out nL).at hck;obtain⟨a8,c8,q0,q1,q2,q3,q4,q5,q6,q7,q8,q9,q10,q11,z0,z1,z6,z9,z10,z11,z7⟩:=hc;simp only[Nat.add_zero]at q0 q1 q2 q3 q4 q5 q6 q7 q8 q9 q10 q11;have HRA:Hid (wr.rangeAt cb (co+k*12) (ccL c a8 c8)):=Aa q0 (Aa q1 (Aa q2 (Aa q3 (Aa q4 (Aa q5 (Aa q6 (Aa q7 (Aa q8 (Aa q9 (Aa q10 (Aa q11 (Am _ _ _))))))))))));have HX:=iH hck;have HSM:Hid (k=ci↔c.name=y.name):=by
   constructor
   .rintro rfl
    have:=HCI.out;rw[hck]at this;cases this
    rfl
   intro e;exact HCN.out.inj (Fl (f:=(·.name)) hck) (by rw[Fl (f:=(·.name)) HCI.out,e])
  obtain⟨hcr0,hcr1⟩:=HCP.out k c hck;obtain⟨hch0,hch1⟩:=HCH.out k c hck;clear hck q0 q1 q2 q3 q4 q5 q6 q7 q8 q9 q10 q11 z0 z1 z6 z7 z9 z10 z11;go_upto_region 8 with(first|(refine qLr Hb HRA ?_));have hbx:=(Below.refl _ wr).alloc nL (Obj.cells (ccA c a8 c8) 54);have HX4:=iH (Blk.alloc wr (ccA c a8 c8) 54);have HI4:=iH (hI.out.below hbx);have HB4:=qTH hB hbx;have hbk:w.heap.size+1+1<wr.heap.size:=hI.out.2.2.lt;clear HRA hbx hI hB p3;generalize(wr.alloc (Obj.cells (ccA c a8 c8) 54))=w4 at *;have y0:w4.cell? (E (w.heap.size+1) 0)=some (Y y.name):=HI4.out.2.1.cell rfl;have y1:w4.cell? (E (w.heap.size+1) 1)=some (Y y.service):=HI4.out.2.1.cell rfl;have y8:w4.cell? (E (w.heap.size+1) 8)=some (X y.apart):=HI4.out.2.1.cell rfl;have y9:w4.cell? (E (w.heap.size+1) 9)=some (Y y.near):=HI4.out.2.1.cell rfl;have zb0:w4.cell? (E (w.heap.size+1+1) 0)=some (Y b.name):=HI4.out.2.2.cell rfl;have g0:w4.cell? (E wr.heap.size 0)=some (Y c.name):=HX4.out.cell rfl;have g1:w4.cell? (E wr.heap.size 1)=some (Y c.service):=HX4.out.cell rfl;have g4:w4.cell? (E wr.heap.size 4)=some (X c.room):=HX4.out.cell rfl;have g5:w4.cell? (E wr.heap.size 5)=some (X c.hold):=HX4.out.cell rfl;have g8:w4.cell? (E wr.heap.size 8)=some (X c.apart):=HX4.out.cell rfl;have g11:w4.cell? (E wr.heap.size 11)=some (Y c.at_):=HX4.out.cell rfl;by_cases hnm:c.name=y.name
  .have htn:=Bm hnm
   have hkc:=HSM.out.2 hnm;have HRE:Hid (R=y.room+Bl x ci b.name (k+1)):=by show _=_;rw[Ij HX.out (λh=>h.2 hkc),hRR.out]
   have HHE:Hid (H=y.hold+Ca x ci b.name (k+1)):=by show _=_;rw[Wz HX.out (λh=>h.2 hkc),hHH.out]
   have HSE:Hid (S=Bg x ci b.name (k+1)):=by show _=_;rw[Sf HX.out (λh=>h.2 hkc),hS.out]
   clear hnm hkc
   go_wp2
   go_roundw
   case rel=>first|exact⟨k+1,R,H,S,by omega,rfl,rfl,rfl,by go_num,by omega,by omega,by omega,by omega,by omega,by omega,HRE,HHE,HSE,HI4,HB4⟩|((repeat apply Exists.intro);exact⟨⟨k+1,R,H,S,by omega,rfl,rfl,rfl,by go_num,by omega,by omega,by omega,by omega,by omega,by omega,HRE,HHE,HSE,HI4,HB4⟩,rfl⟩)
   simp[intOf];omega
  have htn:=Bn hnm;have hkc:k≠ci:=λh=>hnm (HSM.out.1 h)
  clear hnm;by_cases hab:c.at_=b.name
  .have hta:=Bm hab
   have HAB:=iH hab;clear hab;have HRE:Hid (R+c.room=y.room+Bl x ci b.name (k+1)):=by show _=_;rw[Ys HX.out HAB.out hkc,hRR.out];omega
   have HHE:Hid (H+c.hold=y.hold+Ca x ci b.name (k+1)):=by show _=_;rw[qQ HX.out HAB.out hkc,hHH.out];omega
   have HSE:Hid (S+1=Bg x ci b.name (k+1)):=by show _=_;rw[iG HX.out HAB.out hkc,hS.out]
   clear HAB hkc
   go_wp2
   go_roundw
   case rel=>first|exact⟨k+1,R+c.room,H+c.hold,S+1,by omega,rfl,rfl,rfl,by go_num,by omega,by omega,by omega,by omega,by omega,by omega,HRE,HHE,HSE,HI4,HB4⟩|((repeat apply Exists.intro);exact⟨⟨k+1,R+c.room,H+c.hold,S+1,by omega,rfl,rfl,rfl,by go_num,by omega,by omega,by omega,by omega,by omega,by omega,HRE,HHE,HSE,HI4,HB4⟩,rfl⟩)
   simp[intOf];omega
  have hta:=Bn hab;have HRE:Hid (R=y.room+Bl x ci b.name (k+1)):=by show _=_;rw[Ij HX.out (λh=>hab h.1),hRR.out]
  have HHE:Hid (H=y.hold+Ca x ci b.name (k+1)):=by show _=_;rw[Wz HX.out (λh=>hab h.1),hHH.out]
  have HSE:Hid (S=Bg x ci b.name (k+1)):=by show _=_;rw[Sf HX.out (λh=>hab h.1),hS.out]
  clear hab hkc
  go_wp2
  go_roundw
  case rel=>first|exact⟨k+1,R,H,S,by omega,rfl,rfl,rfl,by go_num,by omega,by omega,by omega,by omega,by omega,by omega,HRE,HHE,HSE,HI4,HB4⟩|((repeat apply Exists.intro);exact⟨⟨k+1,R,H,S,by omega,rfl,rfl,rfl,by go_num,by omega,by omega,by omega,by omega,by omega,by omega,HRE,HHE,HSE,HI4,HB4⟩,rfl⟩)
  simp[intOf];omega
 have hke:k=x.copies.length:=by omega
 subst hke;have HI0:=hI;have HB0:=hB;clear hI hB;have zb5:wr.cell? (E (w.heap.size+1+1) 5)=some (.bool b.closed):=HI0.out.2.2.cell rfl
 try unfold bbA ccA ffA
 cases hcl:b.closed with
 |true =>
  have HCL:Hid ((b.closed&&!false)=true):=by show _=_;rw[hcl];rfl
  go_wp2
  go_ret;exact⟨Al (zG HCL).symm,HB0⟩
 | false =>
  have HCL:Hid (¬((b.closed&&!false)=true)):=by show ¬_;rw[hcl];simp
  go_upto_region 14 with fail;clear hcl zb5;have y10:wr.cell? (E (w.heap.size+1) 10)=some (Y y.fixed):=HI0.out.2.1.cell rfl;have zb0:wr.cell? (E (w.heap.size+1+1) 0)=some (Y b.name):=HI0.out.2.2.cell rfl;by_cases hel:Ir y b=true
  .have hfx:¬y.fixed=⟨#[]⟩:=λk=>by unfold Ir at hel;rw[decide_eq_false (λh=>h k)]at hel;cases hel
   have hfn:¬y.fixed=b.name:=λk=>by unfold Ir at hel;rw[decide_eq_false (p:=¬y.fixed=b.name) (λh=>h k),Bool.and_false]at hel;cases hel
   have t1:=Bt hfx;have t2:=Fz hfx;have t3:=Bn hfn;have HE:=iH hel;clear hfx hfn hel
   go_wp2
   go_ret;exact⟨Al (AM HCL HE).symm,HB0⟩
  have HE:=iH hel;by_cases hfx:y.fixed=⟨#[]⟩
  case' pos =>
   have t1:=Cz hfx;have t2:=Je hfx;clear hfx hel;go_upto_region 16 with fail;clear t1 t2
  case' neg =>
   have hfn:y.fixed=b.name:=Classical.byContradiction λk=>hel (by unfold Ir;rw[decide_eq_true hfx,decide_eq_true k];rfl)
   have t1:=Bt hfx;have t2:=Fz hfx;have t3:=Bm hfn;clear hfx hfn hel;go_upto_region 16 with fail;clear t1 t2 t3
  all_goals
   clear y10 zb0;have y6:wr.cell? (E (w.heap.size+1) 6)=some (Y y.select):=HI0.out.2.1.cell rfl;go_wp2_with(first|(refine wpList_load_mid rfl 92 _ rfl (w.heap.size+1+1) 0 (by first|rfl|(simp[go_sem];done)) (bbL b am cm) _ HI0.out.2.2.rangeA underlying92 rfl Cg ?_)|(refine wpList_load_mid rfl 54 _ rfl (w.heap.size+1) 0 (by first|rfl|(simp[go_sem];done)) (ccL y a7 c7) _ HI0.out.2.1.rangeA underlying54 rfl Bz ?_)|(refine wpList_load_mid rfl 32 _ rfl w.heap.size 0 (by first|rfl|(simp[go_sem];done)) (ffL x a1 c1 a2 c2 a3 c3) _ HI0.out.1.rangeA underlying32 rfl Cf ?_));refine(Qn y.select b.name b.zone b.marks am cm lo b.room b.hold b.closed _ (NM.out.below StrC.holds HB0 nL) hml hz HS).mono ?_;rintro e w5⟨rfl,hb⟩;have HI5:=iH (HI0.out.below hb);have HB5:=qTH HB0 hb;clear hb;obtain⟨q,hq⟩:∃q,Il y.select b.marks b.zone=q:=⟨_,rfl⟩;rw[hq];have HA:Hid (Ch y.select b.marks b.zone=q):=(bJ _ _ _).trans hq;clear hq
   cases q with
   |false =>
    go_wp2
    go_ret;exact⟨Al (AQ HCL HE HA).symm,HB5⟩
   | true =>
    have HA2:Hid (¬(Ch y.select b.marks b.zone=false)):=λh=>by rw[HA.out]at h;cases h
    clear y6;go_wp2_with(first|(refine wpList_load_mid rfl 92 _ rfl (w.heap.size+1+1) 0 (by first|rfl|(simp[go_sem];done)) (bbL b am cm) _ HI5.out.2.2.rangeA underlying92 rfl Cg ?_)|(refine wpList_load_mid rfl 54 _ rfl (w.heap.size+1) 0 (by first|rfl|(simp[go_sem];done)) (ccL y a7 c7) _ HI5.out.2.1.rangeA underlying54 rfl Bz ?_)|(refine wpList_load_mid rfl 32 _ rfl w.heap.size 0 (by first|rfl|(simp[go_sem];done)) (ffL x a1 c1 a2 c2 a3 c3) _ HI5.out.1.rangeA underlying32 rfl Cf ?_));refine(Xd lo ci x a1 c1 a2 c2 a3 c3 y a7 c7 b am cm _ (N1.out.below BrtC.holds HB5 nL) (N3.out.below CpyC.holds HB5 nL) HCI HV).mono ?_;rintro e w6⟨rfl,hb⟩;have HI6:=iH (HI5.out.below hb);have HB6:=qTH HB5 hb;clear hb;obtain⟨q,hq⟩:∃q,Jr x ci y b=q:=⟨_,rfl⟩;rw[hq];have HT:=iH hq;clear hq
    cases q with
    |true =>
     go_wp2
     go_ret;exact⟨Al (AJ HCL HE HA2 HT).symm,HB6⟩
    | false =>
     have HT2:Hid (¬(Jr x ci y b=true)):=λh=>by rw[HT.out]at h;cases h
     go_wp2_with(first|(refine wpList_load_mid rfl 92 _ rfl (w.heap.size+1+1) 0 (by first|rfl|(simp[go_sem];done)) (bbL b am cm) _ HI6.out.2.2.rangeA underlying92 rfl Cg ?_)|(refine wpList_load_mid rfl 54 _ rfl (w.heap.size+1) 0 (by first|rfl|(simp[go_sem];done)) (ccL y a7 c7) _ HI6.out.2.1.rangeA underlying54 rfl Bz ?_)|(refine wpList_load_mid rfl 32 _ rfl w.heap.size 0 (by first|rfl|(simp[go_sem];done)) (ffL x a1 c1 a2 c2 a3 c3) _ HI6.out.1.rangeA underlying32 rfl Cf ?_));refine(oK lo ci x a1 c1 a2 c2 a3 c3 y a7 c7 b am cm _ (N1.out.below BrtC.holds HB6 nL) (N3.out.below CpyC.holds HB6 nL) HCI HV).mono ?_;rintro e w7⟨rfl,hb⟩;have HI7:=iH (HI6.out.below hb);have HB7:=qTH HB6 hb;clear hb;obtain⟨q,hq⟩:∃q,Ib x ci y b=q:=⟨_,rfl⟩;rw[hq];have HR:=iH hq;clear hq
     cases q with
     |true =>
      go_wp2
      go_ret;exact⟨Al (zJ HCL HE HA2 HT2 HR).symm,HB7⟩
     | false =>
      have HR2:Hid (¬(Ib x ci y b=true)):=λh=>by rw[HR.out]at h;cases h
      have zb3:w7.cell? (E (w.heap.size+1+1) 3)=some (X b.room):=HI7.out.2.2.cell rfl;have zb4:w7.cell? (E (w.heap.size+1+1) 4)=some (X b.hold):=HI7.out.2.2.cell rfl;by_cases hs:10<=S
      .have H6:Hid (10<=Bg x ci b.name x.copies.length):=by show _<=_;rw[<-hS.out];exact hs
       go_wp2
       go_ret;exact⟨Al (zW HCL HE HA2 HT2 HR2 H6).symm,HB7⟩
      have H6:Hid (Bg x ci b.name x.copies.length<10):=by show _<_;rw[<-hS.out];omega
      by_cases hr:b.room<R
      .have H7:Hid (b.room<Bl x ci b.name x.copies.length+y.room):=by show _<_;have:=hRR.out;omega
       go_wp2
       go_ret;exact⟨Al (zD HCL HE HA2 HT2 HR2 (Int.not_le.2 H6) H7).symm,HB7⟩
      have H7:Hid (Bl x ci b.name x.copies.length+y.room<=b.room):=by show _<=_;have:=hRR.out;omega
      by_cases hh:b.hold<H
      .have H8:Hid (b.hold<Ca x ci b.name x.copies.length+y.hold):=by show _<_;have:=hHH.out;omega
       go_wp2
       go_ret;exact⟨Al (zP HCL HE HA2 HT2 HR2 (Int.not_le.2 H6) (Int.not_lt.2 H7) H8).symm,HB7⟩
      have H8:Hid (Ca x ci b.name x.copies.length+y.hold<=b.hold):=by show _<=_;have:=hHH.out;omega
      go_wp2
      go_ret;exact⟨Al (AP HCL HE HA2 HT2 HR2 (Int.not_le.2 H6) (Int.not_lt.2 H7) (Int.not_lt.2 H8)).symm,HB7⟩
end Go.Proofs.YthboopnmbglkjaaGreat
