import Derived.Test.YtpidfnfilnkhkaaGreatJ47
import Derived.Test.YtpidfnfilnkhkaaGreatHr1
import Derived.Test.YtpidfnfilnkhkaaGreatSmg
set_option maxHeartbeats 8000000
set_option maxRecDepth 100000
namespace Go.Proofs.YtpidfnfilnkhkaaGreat
open Go.RowKit Go.WideMaps Go.Maps Tryz
theorem oW(lo ci:Nat)(x:Flt)(a1:OA)(c1:Nat)(a2:OA)(c2:Nat)(a3:OA)(c3:Nat)(y:Cpy)(a7:OA)(c7:Nat)(b:Brt)(am:OA)(cm:Nat)(w:World)(n1:SliceC BrtC 6 lo w a1 x.berths)(n3:SliceC CpyC 12 lo w a3 x.copies)(hci:x.copies[ci]?=some y)(hv:Au x=true) :
  Calls prog 71 #[.agg (ffA x a1 c1 a2 c2 a3 c3),.agg (ccA y a7 c7),.agg (bbA b am cm)] w (Rt (.bool (Fq x ci y b)) w):=by
 have N1:=iH n1;have N3:=iH n3;have HCI:=iH hci;obtain⟨l2,l3,_,hcN,_,_⟩:=Aw hv;have l1:=(Bb hv).1;have HCN:=iH hcN;clear n1 n3 hci hcN;clear hv;go_enter func71,ntmps71;go_upto_region 1 with fail;have HI0:=iH (L3In.of x a1 c1 a2 c2 a3 c3 y a7 c7 b am cm w).1;have HB0:=iH (L3In.of x a1 c1 a2 c2 a3 c3 y a7 c7 b am cm w).2;generalize(((w.alloc (Obj.cells (ffA x a1 c1 a2 c2 a3 c3) 35)).alloc (Obj.cells (ccA y a7 c7) 49)).alloc (Obj.cells (bbA b am cm) 52))=w0 at *;have y9:w0.cell? ⟨w.heap.size+1,9,none⟩=some (.string y.near):=HI0.out.2.1.cell rfl;by_cases hne:y.near=⟨#[]⟩
 .have t1:=Bj hne
  have t2:=Jh hne;have HT:=iH (kZ (x:=x) (ci:=ci) (b:=b) hne);clear hne
  go_wp2
  go_ret;exact⟨Ab HT.out.symm,HB0⟩
 have t1:=Ay hne;have t2:=Gj hne;have HNE:=iH hne;clear hne
 go_wp2
 go_loopw [7,8] (λs i wr=>∃(k:Nat)(q:Bool),k<=x.copies.length/\s=.bool q/\i=.int .i64 k/\Hid (q=Cd (stF x ci y.near) k)/\Hid (Cd (znF x ci y.near b.zone) k=false)/\Hid (L3In w.heap.size x a1 c1 a2 c2 a3 c3 y a7 c7 b am cm wr)/\Hid (Below w.heap.size w wr)) (λ_ i _=>x.copies.length-(intOf i).toNat)
 case atStart=>exact⟨0,false,zL,rfl,rfl,rfl,rfl,HI0,HB0⟩
 case round =>
  clear HI0 HB0 y9;obtain⟨k,q,hk,rfl,rfl,hQ,hZ,hI,hB⟩:=hrel;have p3:wr.cell? ⟨w.heap.size,3,none⟩=some (.slice a3 x.copies.length c3):=hI.out.1.cell rfl;by_cases hlt:k<x.copies.length
  .skip
   obtain⟨c,hck⟩:=gXe hlt;obtain⟨cb,co,rfl,_,_,hc⟩:=(N3.out.below CpyC.holds hB.out nL).at hck;obtain⟨a8,c8,q0,q1,q2,q3,q4,q5,q6,q7,q8,q9,q10,q11,z0,z1,z6,z9,z10,z11,z7⟩:=hc;simp only[Nat.add_zero]at q0 q1 q2 q3 q4 q5 q6 q7 q8 q9 q10 q11;have HRA:Hid (wr.rangeAt cb (co+k*12) (ccL c a8 c8)):=Aa q0 (Aa q1 (Aa q2 (Aa q3 (Aa q4 (Aa q5 (Aa q6 (Aa q7 (Aa q8 (Aa q9 (Aa q10 (Aa q11 (Ao _ _ _))))))))))));have HX:=iH hck;have HSM:Hid (k=ci↔c.name=y.name):=by
    constructor
    .rintro rfl
     have:=HCI.out;rw[hck]at this;cases this
     rfl
    .intro e
     exact HCN.out.inj (Cl (f:=(·.name)) hck) (by rw[Cl (f:=(·.name)) HCI.out,e])
   clear hck q0 q1 q2 q3 q4 q5 q6 q7 q8 q9 q10 q11 z0 z1 z6 z7 z9 z10 z11;go_upto_region 8 with(first|(refine qLr Jg HRA ?_));have hbx:=(Below.refl _ wr).alloc nL (Obj.cells (ccA c a8 c8) 49);have HX4:=iH (Blk.alloc wr (ccA c a8 c8) 49);have HI4:=iH (hI.out.below hbx);have HB4:=qTH hB hbx;have hbk:w.heap.size+1+1<wr.heap.size:=hI.out.2.2.lt;clear HRA hbx hI hB p3;generalize(wr.alloc (Obj.cells (ccA c a8 c8) 49))=w4 at *;have y0:w4.cell? ⟨w.heap.size+1,0,none⟩=some (.string y.name):=HI4.out.2.1.cell rfl;have y1:w4.cell? ⟨w.heap.size+1,1,none⟩=some (.string y.service):=HI4.out.2.1.cell rfl;have y8:w4.cell? ⟨w.heap.size+1,8,none⟩=some (.int .i64 y.apart):=HI4.out.2.1.cell rfl;have y9:w4.cell? ⟨w.heap.size+1,9,none⟩=some (.string y.near):=HI4.out.2.1.cell rfl;have zb0:w4.cell? ⟨w.heap.size+1+1,0,none⟩=some (.string b.name):=HI4.out.2.2.cell rfl;have g0:w4.cell? ⟨wr.heap.size,0,none⟩=some (.string c.name):=HX4.out.cell rfl;have g1:w4.cell? ⟨wr.heap.size,1,none⟩=some (.string c.service):=HX4.out.cell rfl;have g4:w4.cell? ⟨wr.heap.size,4,none⟩=some (.int .i64 c.room):=HX4.out.cell rfl;have g5:w4.cell? ⟨wr.heap.size,5,none⟩=some (.int .i64 c.hold):=HX4.out.cell rfl;have g8:w4.cell? ⟨wr.heap.size,8,none⟩=some (.int .i64 c.apart):=HX4.out.cell rfl;have g11:w4.cell? ⟨wr.heap.size,11,none⟩=some (.string c.at_):=HX4.out.cell rfl;by_cases hnm:c.name=y.name
   .have htn:=Br hnm
    have hkc:=HSM.out.2 hnm;have HQE:Hid (q=Cd (stF x ci y.near) (k+1)):=hQ.out.trans (Bg (eH HX (λh=>h.1 hkc))).symm;have HZE:Hid (Cd (znF x ci y.near b.zone) (k+1)=false):=(Bg (Th HX (λh=>h.1 hkc))).trans hZ.out;clear hnm hkc
    go_wp2
    go_roundw
    case rel=>first|exact⟨k+1,q,by omega,rfl,by go_num,HQE,HZE,HI4,HB4⟩|((repeat apply Exists.intro);exact⟨⟨k+1,q,by omega,rfl,by go_num,HQE,HZE,HI4,HB4⟩,rfl⟩)
    case measure=>simp[intOf];omega
   have htn:=Bu hnm;have hkc:k≠ci:=λh=>hnm (HSM.out.1 h)
   clear hnm;by_cases hsv:c.service=y.near
   rotate_left
   .have hts:=Bu hsv
    have HQE:Hid (q=Cd (stF x ci y.near) (k+1)):=hQ.out.trans (Bg (eH HX (λh=>hsv h.2.1))).symm;have HZE:Hid (Cd (znF x ci y.near b.zone) (k+1)=false):=(Bg (Th HX (λh=>hsv h.2.1))).trans hZ.out;clear hsv hkc
    go_wp2
    go_roundw
    case rel=>first|exact⟨k+1,q,by omega,rfl,by go_num,HQE,HZE,HI4,HB4⟩|((repeat apply Exists.intro);exact⟨⟨k+1,q,by omega,rfl,by go_num,HQE,HZE,HI4,HB4⟩,rfl⟩)
    case measure=>simp[intOf];omega
   have hts:=Br hsv;have HSV:=iH hsv;clear hsv;by_cases hat:c.at_=⟨#[]⟩
   .have hte:=Bj hat
    have hte2:=Jh hat;have HQE:Hid (q=Cd (stF x ci y.near) (k+1)):=hQ.out.trans (Bg (eH HX (λh=>h.2.2 hat))).symm;have HZE:Hid (Cd (znF x ci y.near b.zone) (k+1)=false):=(Bg (Th HX (λh=>h.2.2.1 hat))).trans hZ.out;clear hat hkc
    go_wp2
    go_roundw
    case rel=>first|exact⟨k+1,q,by omega,rfl,by go_num,HQE,HZE,HI4,HB4⟩|((repeat apply Exists.intro);exact⟨⟨k+1,q,by omega,rfl,by go_num,HQE,HZE,HI4,HB4⟩,rfl⟩)
    case measure=>simp[intOf];omega
   have hte:=Ay hat;have hte2:=Gj hat;have HAT:=iH hat;clear hat;obtain⟨zz,hzz⟩:∃zz,((Dc x.berths c.at_).toList==b.zone.toList)=zz:=⟨_,rfl⟩;go_upto_region 10 with fail;clear y0 y1 y8 y9 zb0 g0 g1 g4 g5 g8 g11;refine wp_region_held_drew (S:=L3T w.heap.size x a1 c1 a2 c2 (some ⟨cb,co,none⟩) c3 y b wr.heap.size c) (by kernel_rfl) (HI4.out.drew.t (HX4.out.drew.cell rfl) (HX4.out.drew.cell rfl)) (λhS=>?_);refine x2 0 42 (.agg (ffA x a1 c1 a2 c2 (some ⟨cb,co,none⟩) c3)) ?_;refine x2 1 43 (.pointer (some ⟨wr.heap.size,11,none⟩)) ?_;refine x2 2 44 (.string c.at_) ?_;refine x2 4 46 (.pointer (some ⟨w.heap.size+1+1,1,none⟩)) ?_;refine x2 5 47 (.string b.zone) ?_;refine rd1 3 ⟨some 45,_,_,_,_,none⟩ rfl (λK hK=>?_);go_simp;refine(Ov x a1 c1 a2 c2 (some ⟨cb,co,none⟩) c3 lo c.at_ _ (N1.out.below BrtC.holds HB4.out.drew nL) (by omega)).mono ?_;rintro e w7⟨rfl,hb7⟩;have hd7:Below w4.heap.size w4 w7:=(Below.refl _ w4).drew.trans hb7;have HB7:=qTH HB4 hd7;have HI7:=iH (HI4.out.below hd7);have HX7:=qBk HX4 hd7;refine hK.out _ _ (HI7.out.t (HX7.out.cell rfl) (HX7.out.cell rfl)) (λhS=>?_);clear hK K hb7 hd7;refine x2 6 48 (.bool zz) ?_;refine td ?_;clear hS
   cases zz with
   |false =>
    have hzo:¬Dc x.berths c.at_=b.zone:=λh=>by rw[Br h]at hzz;cases hzz
    have HQE:Hid (true=Cd (stF x ci y.near) (k+1)):=(Fb (sR HX hkc HSV HAT)).symm;have HZE:Hid (Cd (znF x ci y.near b.zone) (k+1)=false):=(Bg (Th HX (λh=>hzo h.2.2.2))).trans hZ.out;clear hzo hzz
    go_wp2
    go_roundw
    case rel=>first|exact⟨k+1,true,by omega,rfl,by go_num,HQE,HZE,HI7,HB7⟩|((repeat apply Exists.intro);exact⟨⟨k+1,true,by omega,rfl,by go_num,HQE,HZE,HI7,HB7⟩,rfl⟩)
    case measure=>simp[intOf];omega
   |true =>
    have hzo:Dc x.berths c.at_=b.zone:=Classical.byContradiction λh=>by rw[Bu h]at hzz;cases hzz
    have HTE:Hid (Fq x ci y b=false):=mK (Et _ (show k+1<=x.copies.length by omega) (Fb (iZ HX hkc HSV HAT hzo)));clear hzo hzz
    go_wp2
    go_ret;exact⟨Ab HTE.out.symm,HB7⟩
  .have hke:k=x.copies.length:=by omega
   subst hke;have y1:wr.cell? ⟨w.heap.size+1,1,none⟩=some (.string y.service):=hI.out.2.1.cell rfl;have y9:wr.cell? ⟨w.heap.size+1,9,none⟩=some (.string y.near):=hI.out.2.1.cell rfl;by_cases hns:y.near=y.service
   .have tns:=Br hns
    have HT:Hid (Fq x ci y b=(false||q)):=kE HNE hZ.out hQ.out.symm (by rw[decide_eq_false (λk=>k hns)]);clear hns;cases q
    all_goals
     go_wp2
     go_ret;exact⟨Ab HT.out.symm,hB.out⟩
   .have tns:=Bu hns
    have HT:Hid (Fq x ci y b=(true||q)):=kE HNE hZ.out hQ.out.symm (by rw[decide_eq_true hns]);clear hns;cases q
    all_goals
     go_wp2
     go_ret;exact⟨Ab HT.out.symm,hB.out⟩
theorem yJ{x:Flt}{ci:Nat}{y:Cpy}{b:Brt}{op:Bool}(h1:(b.closed&&!op)=true):Ed x ci y b op=1:=by
 unfold Ed;rw[if_pos h1]
theorem AC{x:Flt}{ci:Nat}{y:Cpy}{b:Brt}{op:Bool}(h1:¬((b.closed&&!op)=true))(h2:Hn y b=true):Ed x ci y b op=2:=by
 unfold Ed;rw[if_neg h1,if_pos h2]
theorem zF{x:Flt}{ci:Nat}{y:Cpy}{b:Brt}{op:Bool}(h1:¬((b.closed&&!op)=true))(h2:¬(Hn y b=true))(h3:Dg y.select b.marks b.zone=false):Ed x ci y b op=3:=by
 unfold Ed;rw[if_neg h1,if_neg h2,if_pos h3]
theorem zI{x:Flt}{ci:Nat}{y:Cpy}{b:Brt}{op:Bool}(h1:¬((b.closed&&!op)=true))(h2:¬(Hn y b=true))(h3:¬(Dg y.select b.marks b.zone=false))(h4:Gn x ci y b=true):Ed x ci y b op=4:=by
 unfold Ed;rw[if_neg h1,if_neg h2,if_neg h3,if_pos h4]
theorem yY{x:Flt}{ci:Nat}{y:Cpy}{b:Brt}{op:Bool}(h1:¬((b.closed&&!op)=true))(h2:¬(Hn y b=true))(h3:¬(Dg y.select b.marks b.zone=false))(h4:¬(Gn x ci y b=true))(h5:Fq x ci y b=true):Ed x ci y b op=5:=by
 unfold Ed;rw[if_neg h1,if_neg h2,if_neg h3,if_neg h4,if_pos h5]
theorem yZ{x:Flt}{ci:Nat}{y:Cpy}{b:Brt}{op:Bool}(h1:¬((b.closed&&!op)=true))(h2:¬(Hn y b=true))(h3:¬(Dg y.select b.marks b.zone=false))(h4:¬(Gn x ci y b=true))(h5:¬(Fq x ci y b=true))(h6:10<=Ba x ci b.name x.copies.length):Ed x ci y b op=6:=by
 unfold Ed;rw[if_neg h1,if_neg h2,if_neg h3,if_neg h4,if_neg h5,if_pos h6]
theorem zK{x:Flt}{ci:Nat}{y:Cpy}{b:Brt}{op:Bool}(h1:¬((b.closed&&!op)=true))(h2:¬(Hn y b=true))(h3:¬(Dg y.select b.marks b.zone=false))(h4:¬(Gn x ci y b=true))(h5:¬(Fq x ci y b=true))(h6:¬(10<=Ba x ci b.name x.copies.length))(h7:b.room<Bn x ci b.name x.copies.length+y.room):Ed x ci y b op=7:=by
 unfold Ed;rw[if_neg h1,if_neg h2,if_neg h3,if_neg h4,if_neg h5,if_neg h6,if_pos h7]
theorem yX{x:Flt}{ci:Nat}{y:Cpy}{b:Brt}{op:Bool}(h1:¬((b.closed&&!op)=true))(h2:¬(Hn y b=true))(h3:¬(Dg y.select b.marks b.zone=false))(h4:¬(Gn x ci y b=true))(h5:¬(Fq x ci y b=true))(h6:¬(10<=Ba x ci b.name x.copies.length))(h7:¬(b.room<Bn x ci b.name x.copies.length+y.room))(h8:b.hold<Bq x ci b.name x.copies.length+y.hold):Ed x ci y b op=8:=by
 unfold Ed;rw[if_neg h1,if_neg h2,if_neg h3,if_neg h4,if_neg h5,if_neg h6,if_neg h7,if_pos h8]
theorem zN{x:Flt}{ci:Nat}{y:Cpy}{b:Brt}{op:Bool}(h1:¬((b.closed&&!op)=true))(h2:¬(Hn y b=true))(h3:¬(Dg y.select b.marks b.zone=false))(h4:¬(Gn x ci y b=true))(h5:¬(Fq x ci y b=true))(h6:¬(10<=Ba x ci b.name x.copies.length))(h7:¬(b.room<Bn x ci b.name x.copies.length+y.room))(h8:¬(b.hold<Bq x ci b.name x.copies.length+y.hold)):Ed x ci y b op=0:=by
 unfold Ed;rw[if_neg h1,if_neg h2,if_neg h3,if_neg h4,if_neg h5,if_neg h6,if_neg h7,if_neg h8]
theorem jD(lo ci bi:Nat)(x:Flt)(a1:OA)(c1:Nat)(a2:OA)(c2:Nat)(a3:OA)(c3:Nat)(y:Cpy)(a7:OA)(c7:Nat)(b:Brt)(am:OA)(cm:Nat)(op:Bool)(w:World)(n1:SliceC BrtC 6 lo w a1 x.berths)(n3:SliceC CpyC 12 lo w a3 x.copies)(nm:SliceC StrC 1 lo w am b.marks)(hci:x.copies[ci]?=some y)(hbi:x.berths[bi]?=some b)(hv:Au x=true)(hsel:y.select.size<=maxLen)(hop:op=false) :
  Calls prog 48 #[.agg (ffA x a1 c1 a2 c2 a3 c3),.agg (ccA y a7 c7),.agg (bbA b am cm),.bool op] w (Rt (.int .i64 (Ed x ci y b op)) w):=by
 subst hop;obtain⟨hyr,_,_⟩:=(Bb hv).2.2.2 ci y hci;have hyh:=((De hv).1 ci y hci).1;obtain⟨_,hbz,_,hmk⟩:=(Bb hv).2.2.1 bi b hbi;have hml:=Xh hmk;have hz:=Ou hbz;have NM:=iH nm;have HV:=iH hv;have HS:=iH hsel;have HCP:Hid (∀(k:Nat)(c:Cpy),x.copies[k]?=some c->0<=c.room/\c.room<=1000):=λk c h=>((Bb hv).2.2.2 k c h).1
 have HCH:Hid (∀(k:Nat)(c:Cpy),x.copies[k]?=some c->0<=c.hold/\c.hold<=1000):=λk c h=>((De hv).1 k c h).1
 obtain⟨hy0,hy1⟩:=hyr;obtain⟨hh0,hh1⟩:=hyh;have N1:=iH n1;have N3:=iH n3;have HCI:=iH hci;obtain⟨l2,l3,_,hcN,_,_⟩:=Aw hv;have l1:=(Bb hv).1;have HCN:=iH hcN;clear n1 n3 hci hcN;clear hv hbi hbz hmk nm hsel;go_enter func48,ntmps48;go_upto_region 1 with fail;have HI0:=iH (L3In.of x a1 c1 a2 c2 a3 c3 y a7 c7 b am cm w).1;have HB0:=iH (L3In.of x a1 c1 a2 c2 a3 c3 y a7 c7 b am cm w).2;generalize(((w.alloc (Obj.cells (ffA x a1 c1 a2 c2 a3 c3) 35)).alloc (Obj.cells (ccA y a7 c7) 49)).alloc (Obj.cells (bbA b am cm) 52))=w0 at *;have y4:w0.cell? ⟨w.heap.size+1,4,none⟩=some (.int .i64 y.room):=HI0.out.2.1.cell rfl;have y5:w0.cell? ⟨w.heap.size+1,5,none⟩=some (.int .i64 y.hold):=HI0.out.2.1.cell rfl
 go_wp2
 go_loopw [9,10,11,12] (λsr sh ss i wr=>∃(k:Nat)(R H S:Int),k<=x.copies.length/\sr=.int .i64 R/\sh=.int .i64 H/\ss=.int .i64 S/\i=.int .i64 k/\0<=R/\R<=1000+1000*k/\0<=H/\H<=1000+1000*k/\0<=S/\S<=k/\Hid (R=y.room+Bn x ci b.name k)/\Hid (H=y.hold+Bq x ci b.name k)/\Hid (S=Ba x ci b.name k)/\Hid (L3In w.heap.size x a1 c1 a2 c2 a3 c3 y a7 c7 b am cm wr)/\Hid (Below w.heap.size w wr)) (λ_ _ _ i _=>x.copies.length-(intOf i).toNat)
 case atStart=>exact⟨0,y.room,y.hold,0,zL,rfl,rfl,rfl,rfl,hy0,by omega,hh0,by omega,by omega,by omega,by show _=_;simp[Bn],by show _=_;simp[Bq],rfl,HI0,HB0⟩
 case round =>
  clear HI0 HB0 y4 y5;obtain⟨k,R,H,S,hk,rfl,rfl,rfl,rfl,hR0,hR1,hH0,hH1,hS0,hS1,hRR,hHH,hS,hI,hB⟩:=hrel;have p3:wr.cell? ⟨w.heap.size,3,none⟩=some (.slice a3 x.copies.length c3):=hI.out.1.cell rfl;by_cases hlt:k<x.copies.length
  .skip
   obtain⟨c,hck⟩:=gXe hlt;obtain⟨cb,co,rfl,_,_,hc⟩:=(N3.out.below CpyC.holds hB.out nL).at hck;obtain⟨a8,c8,q0,q1,q2,q3,q4,q5,q6,q7,q8,q9,q10,q11,z0,z1,z6,z9,z10,z11,z7⟩:=hc;simp only[Nat.add_zero]at q0 q1 q2 q3 q4 q5 q6 q7 q8 q9 q10 q11;have HRA:Hid (wr.rangeAt cb (co+k*12) (ccL c a8 c8)):=Aa q0 (Aa q1 (Aa q2 (Aa q3 (Aa q4 (Aa q5 (Aa q6 (Aa q7 (Aa q8 (Aa q9 (Aa q10 (Aa q11 (Ao _ _ _))))))))))));have HX:=iH hck;have HSM:Hid (k=ci↔c.name=y.name):=by
    constructor
    .rintro rfl
     have:=HCI.out;rw[hck]at this;cases this
     rfl
    .intro e
     exact HCN.out.inj (Cl (f:=(·.name)) hck) (by rw[Cl (f:=(·.name)) HCI.out,e])
   obtain⟨hcr0,hcr1⟩:=HCP.out k c hck;obtain⟨hch0,hch1⟩:=HCH.out k c hck;clear hck q0 q1 q2 q3 q4 q5 q6 q7 q8 q9 q10 q11 z0 z1 z6 z7 z9 z10 z11;go_upto_region 8 with(first|(refine qLr Jg HRA ?_));have hbx:=(Below.refl _ wr).alloc nL (Obj.cells (ccA c a8 c8) 49);have HX4:=iH (Blk.alloc wr (ccA c a8 c8) 49);have HI4:=iH (hI.out.below hbx);have HB4:=qTH hB hbx;have hbk:w.heap.size+1+1<wr.heap.size:=hI.out.2.2.lt;clear HRA hbx hI hB p3;generalize(wr.alloc (Obj.cells (ccA c a8 c8) 49))=w4 at *;have y0:w4.cell? ⟨w.heap.size+1,0,none⟩=some (.string y.name):=HI4.out.2.1.cell rfl;have y1:w4.cell? ⟨w.heap.size+1,1,none⟩=some (.string y.service):=HI4.out.2.1.cell rfl;have y8:w4.cell? ⟨w.heap.size+1,8,none⟩=some (.int .i64 y.apart):=HI4.out.2.1.cell rfl;have y9:w4.cell? ⟨w.heap.size+1,9,none⟩=some (.string y.near):=HI4.out.2.1.cell rfl;have zb0:w4.cell? ⟨w.heap.size+1+1,0,none⟩=some (.string b.name):=HI4.out.2.2.cell rfl;have g0:w4.cell? ⟨wr.heap.size,0,none⟩=some (.string c.name):=HX4.out.cell rfl;have g1:w4.cell? ⟨wr.heap.size,1,none⟩=some (.string c.service):=HX4.out.cell rfl;have g4:w4.cell? ⟨wr.heap.size,4,none⟩=some (.int .i64 c.room):=HX4.out.cell rfl;have g5:w4.cell? ⟨wr.heap.size,5,none⟩=some (.int .i64 c.hold):=HX4.out.cell rfl;have g8:w4.cell? ⟨wr.heap.size,8,none⟩=some (.int .i64 c.apart):=HX4.out.cell rfl;have g11:w4.cell? ⟨wr.heap.size,11,none⟩=some (.string c.at_):=HX4.out.cell rfl;by_cases hnm:c.name=y.name
   .have htn:=Br hnm
    have hkc:=HSM.out.2 hnm;have HRE:Hid (R=y.room+Bn x ci b.name (k+1)):=by show _=_;rw[Vf HX.out (λh=>h.2 hkc),hRR.out]
    have HHE:Hid (H=y.hold+Bq x ci b.name (k+1)):=by show _=_;rw[Uk HX.out (λh=>h.2 hkc),hHH.out]
    have HSE:Hid (S=Ba x ci b.name (k+1)):=by show _=_;rw[Sa HX.out (λh=>h.2 hkc),hS.out]
    clear hnm hkc
    go_wp2
    go_roundw
    case rel=>first|exact⟨k+1,R,H,S,by omega,rfl,rfl,rfl,by go_num,by omega,by omega,by omega,by omega,by omega,by omega,HRE,HHE,HSE,HI4,HB4⟩|((repeat apply Exists.intro);exact⟨⟨k+1,R,H,S,by omega,rfl,rfl,rfl,by go_num,by omega,by omega,by omega,by omega,by omega,by omega,HRE,HHE,HSE,HI4,HB4⟩,rfl⟩)
    case measure=>simp[intOf];omega
   have htn:=Bu hnm;have hkc:k≠ci:=λh=>hnm (HSM.out.1 h)
   clear hnm;by_cases hab:c.at_=b.name
   .have hta:=Br hab
    have HAB:=iH hab;clear hab;have HRE:Hid (R+c.room=y.room+Bn x ci b.name (k+1)):=by show _=_;rw[oS HX.out HAB.out hkc,hRR.out];omega
    have HHE:Hid (H+c.hold=y.hold+Bq x ci b.name (k+1)):=by show _=_;rw[pR HX.out HAB.out hkc,hHH.out];omega
    have HSE:Hid (S+1=Ba x ci b.name (k+1)):=by show _=_;rw[kI HX.out HAB.out hkc,hS.out]
    clear HAB hkc
    go_wp2
    go_roundw
    case rel=>first|exact⟨k+1,R+c.room,H+c.hold,S+1,by omega,rfl,rfl,rfl,by go_num,by omega,by omega,by omega,by omega,by omega,by omega,HRE,HHE,HSE,HI4,HB4⟩|((repeat apply Exists.intro);exact⟨⟨k+1,R+c.room,H+c.hold,S+1,by omega,rfl,rfl,rfl,by go_num,by omega,by omega,by omega,by omega,by omega,by omega,HRE,HHE,HSE,HI4,HB4⟩,rfl⟩)
    case measure=>simp[intOf];omega
   .have hta:=Bu hab
    have HRE:Hid (R=y.room+Bn x ci b.name (k+1)):=by show _=_;rw[Vf HX.out (λh=>hab h.1),hRR.out]
    have HHE:Hid (H=y.hold+Bq x ci b.name (k+1)):=by show _=_;rw[Uk HX.out (λh=>hab h.1),hHH.out]
    have HSE:Hid (S=Ba x ci b.name (k+1)):=by show _=_;rw[Sa HX.out (λh=>hab h.1),hS.out]
    clear hab hkc
    go_wp2
    go_roundw
    case rel=>first|exact⟨k+1,R,H,S,by omega,rfl,rfl,rfl,by go_num,by omega,by omega,by omega,by omega,by omega,by omega,HRE,HHE,HSE,HI4,HB4⟩|((repeat apply Exists.intro);exact⟨⟨k+1,R,H,S,by omega,rfl,rfl,rfl,by go_num,by omega,by omega,by omega,by omega,by omega,by omega,HRE,HHE,HSE,HI4,HB4⟩,rfl⟩)
    case measure=>simp[intOf];omega
  ·have hke:k=x.copies.length:=by omega
   subst hke;have HI0:=hI;have HB0:=hB;clear hI hB;have zb5:wr.cell? ⟨w.heap.size+1+1,5,none⟩=some (.bool b.closed):=HI0.out.2.2.cell rfl
   try unfold bbA ccA ffA
   cases hcl:b.closed with
   |true =>
    have HCL:Hid ((b.closed&&!false)=true):=by show _=_;rw[hcl];rfl
    go_wp2
    go_ret;exact⟨Am (yJ HCL).symm,HB0⟩
   | false =>
    have HCL:Hid (¬((b.closed&&!false)=true)):=by show ¬_;rw[hcl];simp
    go_upto_region 14 with fail;clear hcl zb5;have y10:wr.cell? ⟨w.heap.size+1,10,none⟩=some (.string y.fixed):=HI0.out.2.1.cell rfl;have zb0:wr.cell? ⟨w.heap.size+1+1,0,none⟩=some (.string b.name):=HI0.out.2.2.cell rfl;by_cases hel:Hn y b=true
    .have hfx:¬y.fixed=⟨#[]⟩:=λk=>by unfold Hn at hel;rw[decide_eq_false (λh=>h k)]at hel;cases hel
     have hfn:¬y.fixed=b.name:=λk=>by unfold Hn at hel;rw[decide_eq_false (p:=¬y.fixed=b.name) (λh=>h k),Bool.and_false]at hel;cases hel
     have t1:=Ay hfx;have t2:=Gj hfx;have t3:=Bu hfn;have HE:=iH hel;clear hfx hfn hel
     go_wp2
     go_ret;exact⟨Am (AC HCL HE).symm,HB0⟩
    have HE:=iH hel;by_cases hfx:y.fixed=⟨#[]⟩
    case' pos =>
     have t1:=Bj hfx;have t2:=Jh hfx;clear hfx hel;go_upto_region 16 with fail;clear t1 t2
    case' neg =>
     have hfn:y.fixed=b.name:=Classical.byContradiction λk=>hel (by unfold Hn;rw[decide_eq_true hfx,decide_eq_true k];rfl)
     have t1:=Ay hfx;have t2:=Gj hfx;have t3:=Br hfn;clear hfx hfn hel;go_upto_region 16 with fail;clear t1 t2 t3
    all_goals
     clear y10 zb0;have y6:wr.cell? ⟨w.heap.size+1,6,none⟩=some (.string y.select):=HI0.out.2.1.cell rfl;go_wp2_with(first|(refine wpList_load_mid rfl 52 _ rfl (w.heap.size+1+1) 0 (by first|rfl|(simp[go_sem];done)) (bbL b am cm) _ HI0.out.2.2.rangeA underlying52 rfl Dl ?_)|(refine wpList_load_mid rfl 49 _ rfl (w.heap.size+1) 0 (by first|rfl|(simp[go_sem];done)) (ccL y a7 c7) _ HI0.out.2.1.rangeA underlying49 rfl Dk ?_)|(refine wpList_load_mid rfl 35 _ rfl w.heap.size 0 (by first|rfl|(simp[go_sem];done)) (ffL x a1 c1 a2 c2 a3 c3) _ HI0.out.1.rangeA underlying35 rfl Ea ?_));refine(aF y.select b.name b.zone b.marks am cm lo b.room b.hold b.closed _ (NM.out.below StrC.holds HB0 nL) hml hz HS).mono ?_;rintro e w5⟨rfl,hb⟩;have HI5:=iH (HI0.out.below hb);have HB5:=qTH HB0 hb;clear hb;obtain⟨q,hq⟩:∃q,Wp y.select b.marks b.zone=q:=⟨_,rfl⟩;rw[hq];have HA:Hid (Dg y.select b.marks b.zone=q):=(wM _ _ _).trans hq;clear hq
     cases q with
     |false =>
      go_wp2
      go_ret;exact⟨Am (zF HCL HE HA).symm,HB5⟩
     | true =>
      have HA2:Hid (¬(Dg y.select b.marks b.zone=false)):=λh=>by rw[HA.out]at h;cases h
      clear y6;go_wp2_with(first|(refine wpList_load_mid rfl 52 _ rfl (w.heap.size+1+1) 0 (by first|rfl|(simp[go_sem];done)) (bbL b am cm) _ HI5.out.2.2.rangeA underlying52 rfl Dl ?_)|(refine wpList_load_mid rfl 49 _ rfl (w.heap.size+1) 0 (by first|rfl|(simp[go_sem];done)) (ccL y a7 c7) _ HI5.out.2.1.rangeA underlying49 rfl Dk ?_)|(refine wpList_load_mid rfl 35 _ rfl w.heap.size 0 (by first|rfl|(simp[go_sem];done)) (ffL x a1 c1 a2 c2 a3 c3) _ HI5.out.1.rangeA underlying35 rfl Ea ?_));refine(Wi lo ci x a1 c1 a2 c2 a3 c3 y a7 c7 b am cm _ (N1.out.below BrtC.holds HB5 nL) (N3.out.below CpyC.holds HB5 nL) HCI HV).mono ?_;rintro e w6⟨rfl,hb⟩;have HI6:=iH (HI5.out.below hb);have HB6:=qTH HB5 hb;clear hb;obtain⟨q,hq⟩:∃q,Gn x ci y b=q:=⟨_,rfl⟩;rw[hq];have HT:=iH hq;clear hq
      cases q with
      |true =>
       go_wp2
       go_ret;exact⟨Am (zI HCL HE HA2 HT).symm,HB6⟩
      | false =>
       have HT2:Hid (¬(Gn x ci y b=true)):=λh=>by rw[HT.out]at h;cases h
       go_wp2_with(first|(refine wpList_load_mid rfl 52 _ rfl (w.heap.size+1+1) 0 (by first|rfl|(simp[go_sem];done)) (bbL b am cm) _ HI6.out.2.2.rangeA underlying52 rfl Dl ?_)|(refine wpList_load_mid rfl 49 _ rfl (w.heap.size+1) 0 (by first|rfl|(simp[go_sem];done)) (ccL y a7 c7) _ HI6.out.2.1.rangeA underlying49 rfl Dk ?_)|(refine wpList_load_mid rfl 35 _ rfl w.heap.size 0 (by first|rfl|(simp[go_sem];done)) (ffL x a1 c1 a2 c2 a3 c3) _ HI6.out.1.rangeA underlying35 rfl Ea ?_));refine(oW lo ci x a1 c1 a2 c2 a3 c3 y a7 c7 b am cm _ (N1.out.below BrtC.holds HB6 nL) (N3.out.below CpyC.holds HB6 nL) HCI HV).mono ?_;rintro e w7⟨rfl,hb⟩;have HI7:=iH (HI6.out.below hb);have HB7:=qTH HB6 hb;clear hb;obtain⟨q,hq⟩:∃q,Fq x ci y b=q:=⟨_,rfl⟩;rw[hq];have HR:=iH hq;clear hq
       cases q with
       |true =>
        go_wp2
        go_ret;exact⟨Am (yY HCL HE HA2 HT2 HR).symm,HB7⟩
       | false =>
        have HR2:Hid (¬(Fq x ci y b=true)):=λh=>by rw[HR.out]at h;cases h
        have zb3:w7.cell? ⟨w.heap.size+1+1,3,none⟩=some (.int .i64 b.room):=HI7.out.2.2.cell rfl;have zb4:w7.cell? ⟨w.heap.size+1+1,4,none⟩=some (.int .i64 b.hold):=HI7.out.2.2.cell rfl;by_cases hs:10<=S
        .have H6:Hid (10<=Ba x ci b.name x.copies.length):=by show _<=_;rw[<-hS.out];exact hs
         go_wp2
         go_ret;exact⟨Am (yZ HCL HE HA2 HT2 HR2 H6).symm,HB7⟩
        have H6:Hid (Ba x ci b.name x.copies.length<10):=by show _<_;rw[<-hS.out];omega
        by_cases hr:b.room<R
        .have H7:Hid (b.room<Bn x ci b.name x.copies.length+y.room):=by show _<_;have:=hRR.out;omega
         go_wp2
         go_ret;exact⟨Am (zK HCL HE HA2 HT2 HR2 (Int.not_le.2 H6) H7).symm,HB7⟩
        have H7:Hid (Bn x ci b.name x.copies.length+y.room<=b.room):=by show _<=_;have:=hRR.out;omega
        by_cases hh:b.hold<H
        .have H8:Hid (b.hold<Bq x ci b.name x.copies.length+y.hold):=by show _<_;have:=hHH.out;omega
         go_wp2
         go_ret;exact⟨Am (yX HCL HE HA2 HT2 HR2 (Int.not_le.2 H6) (Int.not_lt.2 H7) H8).symm,HB7⟩
        have H8:Hid (Bq x ci b.name x.copies.length+y.hold<=b.hold):=by show _<=_;have:=hHH.out;omega
        go_wp2
        go_ret;exact⟨Am (zN HCL HE HA2 HT2 HR2 (Int.not_le.2 H6) (Int.not_lt.2 H7) (Int.not_lt.2 H8)).symm,HB7⟩
def Ct(x:Flt)(l:List Nat):List BA:=l.map (Lv x.copies)
theorem Da(x:Flt)(l:List Nat):(Ct x l).length=l.length:=List.length_map _
def InV(x:Flt)(l:List Nat):Prop:=l.Pairwise (·<·)/\∀t∈l,∃c,x.copies[t]?=some c/\¬c.at_=⟨#[]⟩
theorem InV.of{x:Flt}(hv:Au x=true){y:Cpy}{b:Brt}{bi:Nat}(hb:x.berths[bi]?=some b){l:List Nat}(h:l.Sublist (Bc x y b)):InV x l:=by
 refine⟨(Jj x y b).sublist h,λt ht=>?_⟩;obtain⟨c,hc,h1,_⟩:=Gf (h.subset ht);exact⟨c,hc,λe=>Iy ((Bb hv).2.2.1 bi b hb).1 (h1.symm.trans e)⟩
theorem aQ{x:Flt}(hv:Au x=true){t:Nat}{c:Cpy}(hc:x.copies[t]?=some c):Ei x.copies (Lv x.copies t)=(t:Int):=by
 obtain⟨_,_,_,hcN,_,_⟩:=Aw hv;rw[Gz hc];exact(Hz hcN (AscN.last hcN (Cl (f:=(·.name)) hc) (Ac hc))).1
theorem aS{x:Flt}{l:List Nat}{j:Nat}{g:BA}(h:(Ct x l)[j]?=some g):∃t,l[j]?=some t/\g=Lv x.copies t:=by
 unfold Ct at h;rw[List.getElem?_map]at h;obtain⟨t,h1,h2⟩:=Option.map_eq_some_iff.1 h;exact⟨t,h1,h2.symm⟩
theorem tE{x:Flt}(hv:Au x=true){l:List Nat}(h:InV x l):Jn x (Ct x l)=l:=by
 unfold Jn Ct;rw[List.map_map];have:∀t∈l,((λg=>(Ei x.copies g).toNat)∘Lv x.copies) t=t:=by
  intro t ht;obtain⟨c,hc,_⟩:=h.2 t ht;show(Ei x.copies (Lv x.copies t)).toNat=t
  rw[aQ hv hc];rfl
 exact(List.map_congr_left this).trans (List.map_id' l)
theorem oZ{x:Flt}(hv:Au x=true){l:List Nat}(h:InV x l):tI x (Ct x l) (Ct x l).length:=by
 intro j g _ hg;obtain⟨t,h1,rfl⟩:=aS hg;obtain⟨c,hc,_⟩:=h.2 t (List.mem_of_getElem? h1);rw[aQ hv hc];omega
theorem mP{x:Flt}(hv:Au x=true){l:List Nat}(h:InV x l):∀(k:Nat) g,(Ct x l)[k]?=some g->∃t:Nat,Ei x.copies g=(t:Int)/\t<x.copies.length:=by
 intro k g hg;obtain⟨t,h1,rfl⟩:=aS hg;obtain⟨c,hc,_⟩:=h.2 t (List.mem_of_getElem? h1);exact⟨t,aQ hv hc,Ac hc⟩
theorem yK{x:Flt}(hv:Au x=true){l:List Nat}(h:InV x l):PlOk (cpN x) (Ct x l) (Ct x l).length l:=by
 obtain⟨_,_,_,hcN,_,_⟩:=Aw hv;refine⟨(Da x l).symm,λj g _ hg=>?_⟩;obtain⟨t,h1,rfl⟩:=aS hg;obtain⟨c,hc,_⟩:=h.2 t (List.mem_of_getElem? h1);refine⟨t,h1,?_⟩;rw[Gz hc];refine AscN.last hcN (Cl (f:=(·.name)) hc) ?_;have:=Ac hc;simpa using this
theorem vG{x:Flt}(hv:Au x=true){l:List Nat}(h:InV x l):May x (Ct x l)↔Ft x l:=by
 have hi:=oR hv (yK hv h);have ha:bL x l l.length:=by
  refine⟨λj p _ hj=>h.2 p (List.mem_of_getElem? hj),λj q p _ hq hp=>?_⟩;have h1:=Ac hp;have h2:=Ac hq;have h3:=List.pairwise_iff_getElem.1 h.1 j (j+1) h2 h1 (Nat.lt_succ_self j);rw[gE h1]at hp;rw[gE h2]at hq;cases hp
  cases hq
  exact h3
 exact⟨λhm=>(hi.2 hm).2,λhl=>hi.1 ⟨ha,hl⟩⟩
theorem sQ{x:Flt}(hv:Au x=true){l:List Nat}(h:InV x l):eZ ((Ct x l).map (Wy x))=Bo (rkV x) l:=by
 have h1:(Ct x l).map (Wy x)=l.map (rkV x):=by
  unfold Ct;rw[List.map_map];refine List.map_congr_left λt ht=>?_
  obtain⟨c,hc,_⟩:=h.2 t ht;show Wy x (Lv x.copies t)=rkV x t
  unfold Wy rkV;rw[aQ hv hc];rfl
 rw[h1];obtain⟨h2,h3⟩:=lS (l.map (rkV x)) [] List.Pairwise.nil;rw[List.append_nil]at h3;unfold Bo;exact Vy h2 (Na _) (h3.trans (Kg _).symm)
theorem cR{α β:Type}[DecidableEq α][DecidableEq β]{lt:α->α->Bool}{lt':β->β->Bool}{f:α->β}:∀{a b:List α},(∀u∈a,∀v∈b,lt' (f u) (f v)=lt u v/\(f u=f v->u=v))->Cf lt' (a.map f) (b.map f)=Cf lt a b
 |[],[],_=>rfl
 |[],_::_,_=>rfl
 |_::_,[],_=>rfl
 | u::a,v::b,h=>by
  obtain⟨h1,h2⟩:=h u List.mem_cons_self v List.mem_cons_self;have ih:=cR (a:=a) (b:=b) (lt:=lt) (lt':=lt') (f:=f) λs hs t ht=>h s (List.mem_cons_of_mem _ hs) t (List.mem_cons_of_mem _ ht)
  simp only[List.map_cons,Cf];by_cases e:u=v
  .subst e
   rw[if_pos rfl,if_pos rfl,ih]
  .rw[if_neg (λq=>e (h2 q)),if_neg e,h1]
theorem uS{x:Flt}(hv:Au x=true){a b:List Nat}(ha:InV x a)(hb:InV x b):nmL (Ct x a) (Ct x b)=Cf ltP a b:=by
 obtain⟨_,_,_,hcN,_,_⟩:=Aw hv;refine cR λu hu v hv'=>?_
 obtain⟨c,hc,_⟩:=ha.2 u hu;obtain⟨d,hd,_⟩:=hb.2 v hv';rw[Gz hc,Gz hd];have hc':(cpN x)[u]?=some c.name:=Cl (f:=(·.name)) hc;have hd':(cpN x)[v]?=some d.name:=Cl (f:=(·.name)) hd;have hi:=AscN.less_iff hcN hc' hd';refine⟨?_,λe=>AscN.inj hcN hc' (by rw[e];exact hd')⟩;unfold ltP;rw[Bool.eq_iff_iff,decide_eq_true_eq];exact hi.symm
theorem uD{r:Nat->Int}{g b:List Nat}(h:(Cf ltI (Bo r b) (Bo r g)||(!Cf ltI (Bo r g) (Bo r b)&&!Cf ltP g b))=true):hLt r g b=false:=by
 have T:=Cr Gy;unfold hLt;simp only[Bool.or_eq_true,Bool.and_eq_true,Bool.not_eq_true']at h;rcases h with h|⟨h1,h2⟩
 .rw[T.asym h,Bool.false_or]
  have:¬Bo r g=Bo r b:=λe=>by rw[e,T.irr]at h;cases h
  rw[decide_eq_false this,Bool.false_and]
 .rw[h1,h2,Bool.and_false,Bool.or_false]
theorem xD{r:Nat->Int}{g b:List Nat}(h:(Cf ltI (Bo r b) (Bo r g)||(!Cf ltI (Bo r g) (Bo r b)&&!Cf ltP g b))=false):hLt r b g=false:=by
 have T:=Cr Gy;have TP:=Cr Ji;unfold hLt;simp only[Bool.or_eq_false_iff,Bool.and_eq_false_iff,Bool.not_eq_false']at h;obtain⟨h1,h2⟩:=h;rw[h1,Bool.false_or];by_cases e:Bo r b=Bo r g
 .rcases h2 with h2|h2
  .rw[e,T.irr]at h2;cases h2
  .rw[TP.asym h2,Bool.and_false]
 .rw[decide_eq_false e,Bool.false_and]
def Ih(x:Flt)(y:Cpy)(b:Brt)(k:Nat):List Nat:=(List.range k).filter (onV x y b)
theorem nS(x:Flt)(y:Cpy)(b:Brt)(k:Nat):(Ih x y b k).length<=k:=by
 have:=List.length_filter_le (onV x y b) (List.range k)
 rwa [List.length_range]at this
theorem nG{x:Flt}{y:Cpy}{b:Brt}{k:Nat}{c:Cpy}(hc:x.copies[k]?=some c)(h1:c.at_=b.name)(h2:c.rank<y.rank):Ct x (Ih x y b (k+1))=Ct x (Ih x y b k)++[c.name]:=by
 have h:onV x y b k=true:=by unfold onV;rw[hc];simp[h1,h2]
 unfold Ih Ct;rw[List.range_succ,List.filter_append,List.filter_cons,List.filter_nil,h,List.map_append];simp[Gz hc]
theorem dB{x:Flt}{y:Cpy}{b:Brt}{k:Nat}{c:Cpy}(hc:x.copies[k]?=some c)(h1:¬(c.at_=b.name/\c.rank<y.rank)):Ih x y b (k+1)=Ih x y b k:=by
 have h:onV x y b k=false:=by unfold onV;rw[hc];simpa using h1
 unfold Ih;rw[List.range_succ,List.filter_append,List.filter_cons,List.filter_nil,h];simp
def Ef(may:List Nat)(s k:Nat):List Nat:=((List.range k).filter λi=>s.testBit i).map λi=>may.getD i 0
theorem iP(may:List Nat)(s k:Nat):(Ef may s k).length<=k:=by
 unfold Ef;rw[List.length_map];have:=List.length_filter_le (λi=>s.testBit i) (List.range k)
 rwa [List.length_range]at this
theorem gQ{may:List Nat}{s k t:Nat}(ht:may[k]?=some t)(h:s.testBit k=true):Ef may s (k+1)=Ef may s k++[t]:=by
 unfold Ef;rw[List.range_succ,List.filter_append,List.filter_cons,List.filter_nil,h,List.map_append];simp[ht]
theorem nT{may:List Nat}{s k:Nat}(h:s.testBit k=false):Ef may s (k+1)=Ef may s k:=by
 unfold Ef;rw[List.range_succ,List.filter_append,List.filter_cons,List.filter_nil,h];simp
theorem BU(s k:Nat):Int.tmod (((s:Nat):Int)/2^k) 2=1↔s.testBit k=true:=by
 rw[Nat.testBit_eq_decide_div_mod_eq,decide_eq_true_eq];have e:((s:Nat):Int)/2^k=((s/2^k:Nat):Int):=by push_cast;rfl
 rw[e];rw[show(2:Int)=((2:Nat):Int)from rfl,<-Int.ofNat_tmod];omega
theorem AB{x:Flt}{l:List Nat}{ci:Nat}{y:Cpy}(hy:x.copies[ci]?=some y)(hat:y.at_=⟨#[]⟩):(woF x l).copies[ci]?=some y:=by
 show(atP l ⟨#[]⟩ x.copies)[ci]?=some y
 rw[Cu,hy,Option.map_some]
 congr 1
 split
 .rw[<-hat]
 .rfl
theorem Xi{x:Flt}(hv:Au x=true){l:List Nat}(hin:InV x l)(a1:OA)(c1:Nat)(a2:OA)(c2:Nat)(a3:OA)(c3:Nat)(lo:Nat)(ga:OA)(gc lo2:Nat)(w:World)(n3:SliceC CpyC 12 lo w a3 x.copies)(hg:SliceC StrC 1 lo2 w ga (Ct x l))(hsm:l.length<=10) :
  Calls prog 44 #[.agg (ffA x a1 c1 a2 c2 a3 c3),.slice ga l.length gc] w λe w'=>∃d q,e=.returned (.slice d (Bo (rkV x) l).length q)/\SliceC IntC 1 w.heap.size w' d (Bo (rkV x) l)/\Below w.heap.size w w':=by
 have h:=jP x a1 c1 a2 c2 a3 c3 lo (Ct x l) ga gc lo2 w n3 hg (by rw[Da];omega) (Aw hv).2.1 (oZ hv hin);rw[Da,sQ hv hin]at h;have hl:(Bo (rkV x) l).length=l.length:=by
  unfold Bo;rw[(Kg _).length_eq,List.length_map]
 refine h.mono ?_;rintro e w' ⟨g,q,rfl,ho,hb⟩;obtain⟨a,c,e1,hs⟩:=Xk (is:=Bo (rkV x) l) (by rw[hl];exact ho) (by rw[hl];unfold maxLen;omega);refine⟨a,c,by rw[e1],hs.keep IntC.holds (Keeps.refl _ _) (by omega),hb⟩
theorem oP{x:Flt}(hv:Au x=true){l:List Nat}(hin:InV x l)(a1:OA)(c1:Nat)(a2:OA)(c2:Nat)(a3:OA)(c3:Nat)(lo:Nat)(ga:OA)(gc lo2:Nat)(w:World)(n2:SliceC SvcC 2 lo w a2 x.services)(n3:SliceC CpyC 12 lo w a3 x.copies)(hg:SliceC StrC 1 lo2 w ga (Ct x l))(hsm:l.length<=10) :
  Calls prog 47 #[.agg (ffA x a1 c1 a2 c2 a3 c3),.slice ga l.length gc] w λe w'=>∃t,e=.returned (.bool t)/\(t=true↔Ft x l)/\Below w.heap.size w w':=by
 obtain⟨k2,k3,_,_,hsp,_⟩:=Aw hv;have h:=dP x a1 c1 a2 c2 a3 c3 lo (Ct x l) ga gc lo2 w n2 n3 hg (by rw[Da];omega) k2 k3 hsp;rw[Da]at h;refine h.mono ?_;rintro e w' ⟨⟨t,rfl,ht⟩,hb⟩;exact⟨t,rfl,ht.trans (vG hv hin),hb⟩
theorem oY{x:Flt}(hv:Au x=true){l m:List Nat}(hl:InV x l)(hm:InV x m)(a a':OA)(cap cap' lo lo':Nat)(w:World)(hg:SliceC StrC 1 lo w a (Ct x l))(hh:SliceC StrC 1 lo' w a' (Ct x m)) :
  Calls prog 46 #[.slice a l.length cap,.slice a' m.length cap'] w (Rt (.bool (Cf ltP l m)) w):=by
 have h:=oM (Ct x l) (Ct x m) a a' cap cap' lo lo' w hg hh;rw[Da,Da,uS hv hl hm]at h;exact h
theorem Zk(xs ys:List Int)(a a':OA)(cap cap' lo lo':Nat)(w:World)(hg:SliceC IntC 1 lo w a xs)(hh:SliceC IntC 1 lo' w a' ys) :
  Calls prog 45 #[.slice a xs.length cap,.slice a' ys.length cap'] w (Rt (.bool (Cf ltI xs ys)) w):=by
 have h:=aR xs ys a a' cap cap' lo lo' w hg hh;rw[Ri]at h;exact h
theorem vS{x:Flt}(hv:Au x=true){l:List Nat}(hin:InV x l)(a1:OA)(c1 b2 o2 c2:Nat)(a3:OA)(c3:Nat)(ga:OA)(gc lo lo2:Nat)(w:World)(n1:SliceC BrtC 6 lo w a1 x.berths)(n2:SliceC SvcC 2 lo w (some ⟨b2,o2,none⟩) x.services)(n3:SliceC CpyC 12 lo w a3 x.copies)(hg:SliceC StrC 1 lo2 w ga (Ct x l))(hsm:l.length<=10)(hmk:∀y∈x.berths,y.marks.length<=1048576)(hlk:∀y∈x.copies,y.likes.length<=1048576)(hne:x.copies≠[]) :
  Calls prog 49 #[.agg (ffA x a1 c1 (some ⟨b2,o2,none⟩) c2 a3 c3),.slice ga l.length gc] w λe w'=>∃(e1:OA)(q1:Nat)(e2:OA)(q2:Nat)(e3:OA)(q3:Nat),e=.returned (.agg (ffA x e1 q1 e2 q2 e3 q3))/\SliceC BrtC 6 0 w' e1 x.berths/\SliceC CpyC 12 0 w' e3 (woF x l).copies/\Below w.heap.size w w':=by
 obtain⟨k2,k3,_,_,_,_⟩:=Aw hv;have k1:=(Bb hv).1;have hz:=Qs n3;have h:=dU x a1 c1 b2 o2 c2 a3 c3 (Ct x l) ga gc 0 w (n1.keep BrtC.holds (Keeps.refl _ _) (zL)) (n2.keep SvcC.holds (Keeps.refl _ _) (zL)) (n3.keep CpyC.holds (Keeps.refl _ _) (zL)) (hg.keep StrC.holds (Keeps.refl _ _) (zL)) (by rw[Da];omega) (by omega) (by omega) (by omega) hmk hlk hne (mP hv hin);rw[Da,tE hv hin]at h;refine h.mono ?_;rintro e w' ⟨e1,q1,g2,q2,G,q3,bs,rfl,hbs,⟨H,wB,hH,hbr,hwb,hkp⟩,hsv,hg2,hbG,hoc,hb⟩;refine⟨e1,q1,_,q2,_,q3,rfl,hbr.keep BrtC.holds hkp (zL),?_,hb⟩;rw[show Value.slice (some ⟨G,0,none⟩) x.copies.length q3=.slice (some ⟨G,0,none⟩) (atP l ⟨#[]⟩ x.copies).length q3 by rw[Bz]]at hoc;exact(OwnN.copies hoc (aB hz) (by rw[Bz];unfold maxLen;omega)).keep CpyC.holds (Keeps.refl _ _) (zL)
theorem tO{x:Flt}(hv:Au x=true)(l:List Nat)(ci bi:Nat)(a1:OA)(c1:Nat)(a2:OA)(c2:Nat)(a3:OA)(c3:Nat)(y:Cpy)(a7:OA)(c7:Nat)(b:Brt)(am:OA)(cm lo:Nat)(w:World)(n1:SliceC BrtC 6 0 w a1 x.berths)(n3:SliceC CpyC 12 0 w a3 (woF x l).copies)(nm:SliceC StrC 1 lo w am b.marks)(hci:x.copies[ci]?=some y)(hbi:x.berths[bi]?=some b)(hat:y.at_=⟨#[]⟩)(hsel:y.select.size<=maxLen) :
  Calls prog 48 #[.agg (ffA x a1 c1 a2 c2 a3 c3),.agg (ccA y a7 c7),.agg (bbA b am cm),.bool false] w (Rt (.int .i64 (Ed (woF x l) ci y b false)) w):=by
 have h:=jD 0 ci bi (woF x l) a1 c1 a2 c2 a3 c3 y a7 c7 b am cm false w n1 n3 (nm.keep StrC.holds (Keeps.refl _ _) (zL)) (AB hci hat) hbi (cG hv l) hsel rfl
 (try unfold ffA at h);rw[show(woF x l).copies.length=x.copies.length from Bz _ _ _]at h
 exact h
end Go.Proofs.YtpidfnfilnkhkaaGreat
