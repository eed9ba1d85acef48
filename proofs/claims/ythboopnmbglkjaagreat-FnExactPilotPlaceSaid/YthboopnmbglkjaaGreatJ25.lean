import Derived.Test.YthboopnmbglkjaaGreatL4s
import Derived.Test.YthboopnmbglkjaaGreatSp3
set_option maxHeartbeats 4000000
set_option maxRecDepth 100000
namespace Go.Proofs.YthboopnmbglkjaaGreat
open Go.RowKit Go.WideMaps Go.Maps Tryz
def Found(p m1 m2 m3 m4:Nat)(x:Flt)(a1:OA)(c1:Nat)(a2:OA)(c2:Nat)(a3:OA)(c3:Nat)(w:World):Prop :=
 w.rangeAt p 0 (wT x a1 c1 a2 c2 a3 c3 m1 m2 m3 m4)/\p<w.heap.size/\w.ownsMap prog 9 (plainElem prog 3) m1 x.berths.length (Aj (x.berths.map (·.name)) x.berths.length)/\w.ownsMap prog 9 (plainElem prog 3) m2 x.services.length (Aj (x.services.map (·.name)) x.services.length)/\w.ownsMap prog 9 (plainElem prog 3) m3 x.copies.length (Aj (x.copies.map (·.name)) x.copies.length)/\w.heap[m4]?=some (Obj.map #[] 0)
theorem Found.below{p m1 m2 m3 m4:Nat}{x:Flt}{a1:OA}{c1:Nat}{a2:OA}{c2:Nat}{a3:OA}{c3:Nat}{w w':World}(h:Found p m1 m2 m3 m4 x a1 c1 a2 c2 a3 c3 w)(hb:bW w w'):Found p m1 m2 m3 m4 x a1 c1 a2 c2 a3 c3 w' :=
 ⟨Ac h.1 hb h.2.1,lL h.2.1 hb.size,Ag h.2.2.1 hb h.2.2.1.lt,Ag h.2.2.2.1 hb h.2.2.2.1.lt,Ag h.2.2.2.2.1 hb h.2.2.2.2.1.lt,(hb.block m4 (Array.getElem?_eq_some_iff.1 h.2.2.2.2.2).1).trans h.2.2.2.2.2⟩
theorem Found.ins{p m1 m2 m3 m4:Nat}{x:Flt}{a1:OA}{c1:Nat}{a2:OA}{c2:Nat}{a3:OA}{c3:Nat}{w:World}(h:Found p m1 m2 m3 m4 x a1 c1 a2 c2 a3 c3 w):FndIn p x a1 c1 a2 c2 a3 c3 w :=
 ⟨h.1 1 _ rfl,h.1 2 _ rfl,h.1 3 _ rfl⟩
theorem Wi:(prog.info? 201).map (·.size)=some 24:=by kernel_rfl
theorem CO:Po 201 24:=⟨_,underlying201,rfl,Wi⟩
def SptS(p q r o:Nat)(v:Value)(cs bs:List Value)(w:World):Prop:=w.cell? (E p 3)=some v/\w.rangeAt r o cs/\w.rangeAt q 0 bs
theorem SptS.below{p q r o:Nat}{v:Value}{cs bs:List Value}{w w':World}(h:SptS p q r o v cs bs w)(hb:bW w w')(hr:r<w.heap.size)(hq:q<w.heap.size):SptS p q r o v cs bs w' :=
 ⟨(hb.cell (p:=(E p 3)) (block_lt_of_cell h.1)).trans h.1,Ac h.2.1 hb hr,Ac h.2.2 hb hq⟩
theorem La{w w':World}{g o n B:Nat}(h:w.there g o n)(hb:Below B w w')(hB:g<B):w'.there g o n:=by
 intro j hj;rw[hb.cell (p:=⟨g,_,none⟩) hB,hb.frozen (p:=⟨g,_,none⟩) hB];exact h j hj
theorem jM(p:Nat)(x:Flt)(a1:OA)(c1:Nat)(a2:OA)(c2:Nat)(a3:OA)(c3:Nat)(lo ci bi:Nat)(y:Cpy)(b:Brt)(w:World)(hp:FndIn p x a1 c1 a2 c2 a3 c3 w)(n1:sB lo w a1 x.berths)(n3:sC lo w a3 x.copies)(l3:x.copies.length<=1048576)(hy:x.copies[ci]?=some y)(hb:x.berths[bi]?=some b) :
  Calls prog 144 #[pP p 0,X ci,X bi] w λe w'=>∃a7 c7 am cm,e=.returned (.agg #[pP p 0,X ci,Y y.name,Y y.service,X y.rank,X y.born,X y.room,X y.hold,Y y.select,.slice a7 y.likes.length c7,X y.apart,Y y.near,Y y.fixed,Y y.at_,X bi,Y b.name,Y b.zone,.slice am b.marks.length cm,X b.room,X b.hold,.bool b.closed,X (Bd x.copies b.name ci x.copies.length).1,X (Bd x.copies b.name ci x.copies.length).2.1,X (Bd x.copies b.name ci x.copies.length).2.2])/\sK lo w a7 y.likes/\sX lo w am b.marks/\(∃cb co bb bo,a3=(O cb co)/\a1=(O bb bo)/\w.cell? (E cb (co+ci*12+7))=some (.slice a7 y.likes.length c7)/\w.cell? (E bb (bo+bi*6+2))=some (.slice am b.marks.length cm))/\bW w w':=by
 obtain⟨p1,p2,p3⟩:=hp;have hci:=Af hy;have hbi:=Af hb;obtain⟨by_,oy,rfl,_,hyl,hcy⟩:=n3.at hy;obtain⟨bb,ob,rfl,_,hbl,hcb⟩:=n1.at hb;obtain⟨a7,c7,q0,q1,q2,q3,q4,q5,q6,q7,q8,q9,q10,q11,_,_,_,_,_,_,n7⟩:=hcy;obtain⟨am,cm,r0,r1,r2,r3,r4,r5,_,_,nm⟩:=hcb;simp only[Nat.add_zero]at q0 r0;have N3:=iH n3;have N7:=iH n7;have HAT:Hid (∃cb co bb' bo,((O by_ oy):OA)=(O cb co)/\((O bb ob):OA)=(O bb' bo)/\w.cell? (E cb (co+ci*12+7))=some (.slice a7 y.likes.length c7)/\w.cell? (E bb' (bo+bi*6+2))=some (.slice am b.marks.length cm)):=⟨by_,oy,bb,ob,rfl,rfl,q7,r2⟩;have NM:=iH nm;have HRB:Hid (w.rangeAt bb (ob+bi*6) (bbL b am cm)):=Aa r0 (Aa r1 (Aa r2 (Aa r3 (Aa r4 (Aa r5 (Am _ _ _))))));have HRC:Hid (w.rangeAt by_ (oy+ci*12) (ccL y a7 c7)):=Aa q0 (Aa q1 (Aa q2 (Aa q3 (Aa q4 (Aa q5 (Aa q6 (Aa q7 (Aa q8 (Aa q9 (Aa q10 (Aa q11 (Am _ _ _))))))))))));clear n1 n3 n7 nm hy hb q0 q1 q2 q3 q4 q5 q6 q7 q8 q9 q10 q11 r0 r1 r2 r3 r4 r5;go_enter func144,ntmps144;go_upto_region 1 with fail;have hal:=(Below.refl _ w).alloc nL (Obj.cells #[.pointer none,X 0,Y ⟨#[]⟩,Y ⟨#[]⟩,X 0,X 0,X 0,X 0,Y ⟨#[]⟩,.slice none 0 0,X 0,Y ⟨#[]⟩,Y ⟨#[]⟩,Y ⟨#[]⟩,X 0,Y ⟨#[]⟩,Y ⟨#[]⟩,.slice none 0 0,X 0,X 0,.bool false,X 0,X 0,X 0] 201);have HT1:Hid ((w.alloc (Obj.cells #[.pointer none,X 0,Y ⟨#[]⟩,Y ⟨#[]⟩,X 0,X 0,X 0,X 0,Y ⟨#[]⟩,.slice none 0 0,X 0,Y ⟨#[]⟩,Y ⟨#[]⟩,Y ⟨#[]⟩,X 0,Y ⟨#[]⟩,Y ⟨#[]⟩,.slice none 0 0,X 0,X 0,.bool false,X 0,X 0,X 0] 201)).there w.heap.size 0 24):=Ah (by simp;rfl) (by simp) (Ah (by simp;rfl) (by simp) (Ah (by simp;rfl) (by simp) (Ah (by simp;rfl) (by simp) (Ah (by simp;rfl) (by simp) (Ah (by simp;rfl) (by simp) (Ah (by simp;rfl) (by simp) (Ah (by simp;rfl) (by simp) (Ah (by simp;rfl) (by simp) (Ah (by simp;rfl) (by simp) (Ah (by simp;rfl) (by simp) (Ah (by simp;rfl) (by simp) (Ah (by simp;rfl) (by simp) (Ah (by simp;rfl) (by simp) (Ah (by simp;rfl) (by simp) (Ah (by simp;rfl) (by simp) (Ah (by simp;rfl) (by simp) (Ah (by simp;rfl) (by simp) (Ah (by simp;rfl) (by simp) (Ah (by simp;rfl) (by simp) (Ah (by simp;rfl) (by simp) (Ah (by simp;rfl) (by simp) (Ah (by simp;rfl) (by simp) (Ah (by simp;rfl) (by simp) (Fa _ _ _))))))))))))))))))))))));have HB1:=iH hal;have HRB1:=iH (Ac HRB hal hbl);have hs1:(w.alloc (Obj.cells #[.pointer none,X 0,Y ⟨#[]⟩,Y ⟨#[]⟩,X 0,X 0,X 0,X 0,Y ⟨#[]⟩,.slice none 0 0,X 0,Y ⟨#[]⟩,Y ⟨#[]⟩,Y ⟨#[]⟩,X 0,Y ⟨#[]⟩,Y ⟨#[]⟩,.slice none 0 0,X 0,X 0,.bool false,X 0,X 0,X 0] 201)).heap.size=w.heap.size+1:=by simp
 have p1':(w.alloc (Obj.cells #[.pointer none,X 0,Y ⟨#[]⟩,Y ⟨#[]⟩,X 0,X 0,X 0,X 0,Y ⟨#[]⟩,.slice none 0 0,X 0,Y ⟨#[]⟩,Y ⟨#[]⟩,Y ⟨#[]⟩,X 0,Y ⟨#[]⟩,Y ⟨#[]⟩,.slice none 0 0,X 0,X 0,.bool false,X 0,X 0,X 0] 201)).cell? (E p 1)=some (sP bb ob x.berths.length c1):=(hal.cell (p:=(E p 1)) (block_lt_of_cell p1)).trans p1;have P3:=iH p3;clear hal HRB p2 p1 p3;generalize(w.alloc (Obj.cells #[.pointer none,X 0,Y ⟨#[]⟩,Y ⟨#[]⟩,X 0,X 0,X 0,X 0,Y ⟨#[]⟩,.slice none 0 0,X 0,Y ⟨#[]⟩,Y ⟨#[]⟩,Y ⟨#[]⟩,X 0,Y ⟨#[]⟩,Y ⟨#[]⟩,.slice none 0 0,X 0,X 0,.bool false,X 0,X 0,X 0] 201))=w1 at *;go_upto_region 2 with(first|(refine qLr Ki HRB1 ?_));have hal:=(Below.refl _ w1).alloc nL (Obj.cells (bbA b am cm) 92);have HB2:=qTH HB1 hal;have HT2:Hid ((w1.alloc (Obj.cells (bbA b am cm) 92)).there w.heap.size 0 24):=La HT1 hal (by omega);have HRX:Hid ((w1.alloc (Obj.cells (bbA b am cm) 92)).rangeAt (w.heap.size+1) 0 (bbL b am cm)):=by
  rw[<-hs1];exact Aa (by simp) (Aa (by simp) (Aa (by simp) (Aa (by simp) (Aa (by simp) (Aa (by simp) (Am _ _ _))))))
 have hs2:(w1.alloc (Obj.cells (bbA b am cm) 92)).heap.size=w.heap.size+2:=by simp;omega
 have HSS:Hid (SptS p (w.heap.size+1) by_ (oy+ci*12) (sP by_ oy x.copies.length c3) (ccL y a7 c7) (bbL b am cm) (w1.alloc (Obj.cells (bbA b am cm) 92))):=⟨(HB2.out.cell (p:=(E p 3)) (block_lt_of_cell P3)).trans P3,Ac HRC HB2 hyl,HRX⟩;have N3':Hid (sC lo (w1.alloc (Obj.cells (bbA b am cm) 92)).drew (O by_ oy) x.copies):=(N3.out.below CpyC.holds HB2 nL).below CpyC.holds ((Below.refl _ (w1.alloc (Obj.cells (bbA b am cm) 92))).drew) nL;have HT3:Hid ((w1.alloc (Obj.cells (bbA b am cm) 92)).drew.there w.heap.size 0 24):=La HT2 ((Below.refl (w1.alloc (Obj.cells (bbA b am cm) 92)).heap.size (w1.alloc (Obj.cells (bbA b am cm) 92))).drew) (by omega);have HB3:Hid (bW w (w1.alloc (Obj.cells (bbA b am cm) 92)).drew):=HB2.out.drew;have HSD:Hid (SptS p (w.heap.size+1) by_ (oy+ci*12) (sP by_ oy x.copies.length c3) (ccL y a7 c7) (bbL b am cm) (w1.alloc (Obj.cells (bbA b am cm) 92)).drew):=HSS.out.below ((Below.refl _ (w1.alloc (Obj.cells (bbA b am cm) 92))).drew) (by omega) (by omega);have hs3:(w1.alloc (Obj.cells (bbA b am cm) 92)).drew.heap.size=w.heap.size+2:=by rw[<-hs2];simp
 clear hal HB1 HB2 HT1 HT2 HRX HRB1 p1' hs1 hs2 HSS;refine wp_region_held_drew (S:=SptS p (w.heap.size+1) by_ (oy+ci*12) (sP by_ oy x.copies.length c3) (ccL y a7 c7) (bbL b am cm)) (by kernel_rfl) HSD (λhS=>?_);clear HSD;generalize(w1.alloc (Obj.cells (bbA b am cm) 92)).drew=w3 at *;refine x4 0 16 (pP p 0) ?_;refine x4 1 17 (X ci) ?_;refine x4 2 18 (pP p 0) ?_;refine x4 3 19 (pP p 0) ?_;refine x4 4 20 (pP p 0) ?_;refine x4 5 21 (pP p 3) ?_;refine x4 6 22 (sP by_ oy x.copies.length c3) ?_;refine x4 7 23 (X ci) ?_;refine x4 8 24 (pP by_ (oy+ci*12)) ?_;refine tk 9 ⟨some 25,_,_,_,_,none⟩ (.agg (ccA y a7 c7)) rfl (yieldsIf_load_mid rfl 54 (.tmp 24) rfl by_ (oy+ci*12) rfl (ccL y a7 c7) _ (λ_ h=>h.2.1) underlying54 rfl Bz) hS ?_;refine x4 10 26 (X bi) ?_;refine tk 11 ⟨some 27,_,_,_,_,none⟩ (.agg (bbA b am cm)) rfl (yieldsIf_load_mid rfl 92 (.tmp 7) rfl (w.heap.size+1) (0) rfl (bbL b am cm) _ (λ_ h=>h.2.2) underlying92 rfl Cg) hS ?_;refine x4 12 28 (pP p 0) ?_;refine x4 13 29 (pP (w.heap.size+1) 0) ?_;refine x4 14 30 (Y b.name) ?_;refine x4 15 31 (X ci) ?_;refine rd1 16 ⟨some 32,_,_,_,_,none⟩ rfl (λK hK=>?_);go_simp;refine(dW p x.copies (O by_ oy) c3 lo b.name ci _ hS.1 N3'.out l3).mono ?_;rintro e w4⟨rfl,hb4⟩;have HT4:Hid (w4.there w.heap.size 0 24):=La HT3 hb4 (by omega);have HB4:=qTH HB3 hb4;have hs4:w.heap.size+2<=w4.heap.size:=by have:=hb4.size;omega
 refine hK.out _ _ (hS.below hb4 (by omega) (by omega)) (λhS=>?_);clear hb4 HT3 HB3 N3' hK K hs3;obtain⟨V,hV⟩:∃V,V=(Bd x.copies b.name ci x.copies.length):=⟨_,rfl⟩;have HV:=iH hV;rw[<-hV];clear hV;refine tz 17 33 (.agg #[pP p 0,X ci,Y y.name,Y y.service,X y.rank,X y.born,X y.room,X y.hold,Y y.select,.slice a7 y.likes.length c7,X y.apart,Y y.near,Y y.fixed,Y y.at_,X bi,Y b.name,Y b.zone,.slice am b.marks.length cm,X b.room,X b.hold,.bool b.closed,X V.1,X V.2.1,X V.2.2]) ?_;refine rd1 18 ⟨none,_,_,_,_,none⟩ rfl (λK hK=>?_);rw[if_pos (by rfl)];refine wp_store_mid 201 (.tmp 6) (.tmp 33) (by rfl) w.heap.size 0 #[pP p 0,X ci,Y y.name,Y y.service,X y.rank,X y.born,X y.room,X y.hold,Y y.select,.slice a7 y.likes.length c7,X y.apart,Y y.near,Y y.fixed,Y y.at_,X bi,Y b.name,Y b.zone,.slice am b.marks.length cm,X b.room,X b.hold,.bool b.closed,X V.1,X V.2.1,X V.2.2] (by rfl) (by rfl) HT4 Wi (by simp[Value.oneCell']) ?_;have HB5:Hid (bW w (w4.setCells w.heap.size 0 [pP p 0,X ci,Y y.name,Y y.service,X y.rank,X y.born,X y.room,X y.hold,Y y.select,.slice a7 y.likes.length c7,X y.apart,Y y.near,Y y.fixed,Y y.at_,X bi,Y b.name,Y b.zone,.slice am b.marks.length cm,X b.room,X b.hold,.bool b.closed,X V.1,X V.2.1,X V.2.2])):=Ae nL _ _ _ HB4;have HR5:Hid ((w4.setCells w.heap.size 0 [pP p 0,X ci,Y y.name,Y y.service,X y.rank,X y.born,X y.room,X y.hold,Y y.select,.slice a7 y.likes.length c7,X y.apart,Y y.near,Y y.fixed,Y y.at_,X bi,Y b.name,Y b.zone,.slice am b.marks.length cm,X b.room,X b.hold,.bool b.closed,X V.1,X V.2.1,X V.2.2]).rangeAt w.heap.size 0 [pP p 0,X ci,Y y.name,Y y.service,X y.rank,X y.born,X y.room,X y.hold,Y y.select,.slice a7 y.likes.length c7,X y.apart,Y y.near,Y y.fixed,Y y.at_,X bi,Y b.name,Y b.zone,.slice am b.marks.length cm,X b.room,X b.hold,.bool b.closed,X V.1,X V.2.1,X V.2.2]):=World.rangeAt_setCells_same _ _ _ _ HT4;have hSn:SptS p (w.heap.size+1) by_ (oy+ci*12) (sP by_ oy x.copies.length c3) (ccL y a7 c7) (bbL b am cm) (w4.setCells w.heap.size 0 [pP p 0,X ci,Y y.name,Y y.service,X y.rank,X y.born,X y.room,X y.hold,Y y.select,.slice a7 y.likes.length c7,X y.apart,Y y.near,Y y.fixed,Y y.at_,X bi,Y b.name,Y b.zone,.slice am b.marks.length cm,X b.room,X b.hold,.bool b.closed,X V.1,X V.2.1,X V.2.2]):=⟨(HB5.out.cell (p:=(E p 3)) (block_lt_of_cell P3)).trans P3,Ac HRC HB5 hyl,World.rangeAt_setCells_apart hS.2.2 w.heap.size 0 _ (.inl (by omega))⟩;refine hK.out _ _ hSn (λhS=>?_);clear hSn hK K HT4 HB4;generalize w4.setCells w.heap.size 0 [pP p 0,X ci,Y y.name,Y y.service,X y.rank,X y.born,X y.room,X y.hold,Y y.select,.slice a7 y.likes.length c7,X y.apart,Y y.near,Y y.fixed,Y y.at_,X bi,Y b.name,Y b.zone,.slice am b.marks.length cm,X b.room,X b.hold,.bool b.closed,X V.1,X V.2.1,X V.2.2]=w5 at *
 refine td ?_;go_wp2_with fail;exact bodyPost_ret (Ay rfl _ _ w.heap.size [pP p 0,X ci,Y y.name,Y y.service,X y.rank,X y.born,X y.room,X y.hold,Y y.select,.slice a7 y.likes.length c7,X y.apart,Y y.near,Y y.fixed,Y y.at_,X bi,Y b.name,Y b.zone,.slice am b.marks.length cm,X b.room,X b.hold,.bool b.closed,X V.1,X V.2.1,X V.2.2] _ rfl HR5 underlying201 rfl Wi) rfl ⟨a7,c7,am,cm,by rw[<-HV.out],N7,NM,HAT,HB5⟩
def sW(x:Flt)(ci:Nat)(y:Cpy)(b:Brt):Array Value:=#[X (Ct (λt=>Ch t b.marks b.zone) y.likes y.likes.length),X ((Fc (znF x ci y.service b.zone) x.copies.length:Nat):Int),X ((Fc (Tc x ci y.service b.name) x.copies.length:Nat):Int),X (b.room-y.room-Bl x ci b.name x.copies.length)]
def Cl(a0 a1 a2 a3 b0 b1 b2 b3:Int)(pack:Bool):Bool :=
 if a0≠b0 then decide (b0<a0)else if a1≠b1 then decide (a1<b1)else if a2≠b2 then decide (a2<b2)else if pack then decide (a3<b3)else decide (b3<a3)
def Lv(a b:Int):Int:=if a<b then -1 else if b<a then 1 else 0
theorem Oc(a:Int)(w:World) :
  Calls prog 160 #[X a] w λe w'=>e=.returned (.bool false)/\w'=w:=by
 go_enter func160,ntmps160
 go_wp2
 go_ret;exact⟨rfl,rfl⟩
theorem Dy(a b:Int)(w:World) :
  Calls prog 137 #[X a,X b] w λe w'=>e=.returned (X (Lv a b))/\w'=w:=by
 by_cases h1:a<b
 .go_enter func137,ntmps137
  go_wp2_with(first|(go_at_call 160;refine(Oc _ _).mono ?_;rintro e w' ⟨rfl,rfl⟩));go_ret;exact⟨Al (by unfold Lv;rw[if_pos h1]),rfl⟩
 by_cases h2:b<a
 .go_enter func137,ntmps137
  go_wp2_with(first|(go_at_call 160;refine(Oc _ _).mono ?_;rintro e w' ⟨rfl,rfl⟩));go_ret;exact⟨Al (by unfold Lv;rw[if_neg (by omega),if_pos h2]),rfl⟩
 go_enter func137,ntmps137;go_wp2_with(first|(go_at_call 160;refine(Oc _ _).mono ?_;rintro e w' ⟨rfl,rfl⟩));go_ret;exact⟨Al (by unfold Lv;rw[if_neg (by omega),if_neg (by omega)]),rfl⟩
theorem Xm(a b c d:Int)(w:World) :
  Calls prog 141 #[.agg #[X a,X b,X c,X d]] w λe w'=>e=.returned (.agg #[X a,X b,X c,X d])/\w'=(w.alloc (.cells #[X a,X b,X c,X d] 134)).alloc (.cells #[X a,X b,X c,X d] 195):=by
 go_enter func141,ntmps141
 go_wp2
 go_returns
 exact⟨rfl,rfl⟩
theorem Ul(a0 a1 a2 a3 b0 b1 b2 b3:Int)(pack:Bool)(w:World) :
  Calls prog 84 #[.agg #[X a0,X a1,X a2,X a3],.agg #[X b0,X b1,X b2,X b3],.bool pack] w (Rt (.bool (Cl a0 a1 a2 a3 b0 b1 b2 b3 pack)) w):=by
 unfold Cl;by_cases h0:a0=b0
 .subst h0
  by_cases h1:a1=b1
  .subst h1
   by_cases h2:a2=b2
   .subst h2
    cases pack
    all_goals
     go_enter func84,ntmps84
     go_wp2
     go_ret;exact⟨Ab (by simp),by go_grown⟩
   go_enter func84,ntmps84
   go_wp2
   go_ret;exact⟨Ab (by simp),by go_grown⟩
  go_enter func84,ntmps84
  go_wp2
  go_ret;exact⟨Ab (by simp),by go_grown⟩
 go_enter func84,ntmps84
 go_wp2
 go_ret;exact⟨Ab (by simp),by go_grown⟩
def Four(b:Nat)(v0 v1 v2 v3:Int)(w:World):Prop :=
 w.cell? (E b 0)=some (X v0)/\w.cell? (E b 1)=some (X v1)/\w.cell? (E b 2)=some (X v2)/\w.cell? (E b 3)=some (X v3)
theorem Four.below{b:Nat}{v0 v1 v2 v3:Int}{w w':World}{B:Nat}(h:Four b v0 v1 v2 v3 w)(k:Below B w w')(hb:b<B):Four b v0 v1 v2 v3 w' :=
 ⟨(k.cell (p:=(E b 0)) hb).trans h.1,(k.cell (p:=(E b 1)) hb).trans h.2.1,(k.cell (p:=(E b 2)) hb).trans h.2.2.1,(k.cell (p:=(E b 3)) hb).trans h.2.2.2⟩
theorem Iv{a b:Int}(h:a<b):Lv a b=-1:=by unfold Lv;rw[if_pos h]
theorem Jj{a b:Int}(h:b<a):Lv a b=1:=by unfold Lv;rw[if_neg (by omega),if_pos h]
theorem Jg{a b:Int}(h:¬a<b)(h':¬b<a):Lv a b=0:=by unfold Lv;rw[if_neg h,if_neg h']
theorem Qa{a0 a1 a2 a3 b0 b1 b2 b3:Int}{pack:Bool}(e0:a0=b0)(e1:a1=b1)(e2:a2=b2)(e3:a3=b3):Cl a0 a1 a2 a3 b0 b1 b2 b3 pack=false:=by
 subst e0 e1 e2 e3;unfold Cl;cases pack<;>simp
theorem Vq(a0 a1 a2 a3 b0 b1 b2 b3:Int)(pack:Bool)(w:World) :
  Calls prog 112 #[.agg #[X a0,X a1,X a2,X a3],.agg #[X b0,X b1,X b2,X b3],.bool pack] w (Rt (.bool (Cl a0 a1 a2 a3 b0 b1 b2 b3 pack)) w):=by
 cases pack
 .go_enter func112,ntmps112
  go_wp2_with fail
  go_cut [8,9]from 15 to 18 (λl r wx=>∃p q:Nat,l=pP p 0/\r=pP q 0/\Hid (Four p a0 a1 a2 a3 wx)/\Hid (Four q b0 b1 b2 b3 wx)/\Hid (Four (w.heap.size+2) 1 (-1) (-1) 1 wx)/\Hid (bW w wx))
  case first =>
   go_region_held3 (λw'=>w'.cell? (E w.heap.size 0)=some (X a0)/\w'.cell? (E w.heap.size 1)=some (X a1)/\w'.cell? (E w.heap.size 2)=some (X a2)/\w'.cell? (E w.heap.size 3)=some (X a3)/\w'.cell? (E (w.heap.size+1) 0)=some (X b0)/\w'.cell? (E (w.heap.size+1) 1)=some (X b1)/\w'.cell? (E (w.heap.size+1) 2)=some (X b2)/\w'.cell? (E (w.heap.size+1) 3)=some (X b3)) (simp[go_sem])
    (first|(go_at_call 141;refine(Xm _ _ _ _ _).mono ?_;rintro e w' ⟨rfl,rfl⟩))
   all_goals
    rename_i hHeld
    clear hHeld
    go_wp2
    go_meet;exact⟨_,_,rfl,rfl,⟨by simp[go_sem],by simp[go_sem],by simp[go_sem],by simp[go_sem]⟩,⟨by simp[go_sem],by simp[go_sem],by simp[go_sem],by simp[go_sem]⟩,⟨by simp[go_sem],by simp[go_sem],by simp[go_sem],by simp[go_sem]⟩,by show Below _ _ _;go_grown⟩
  obtain⟨p,q,rfl,rfl,hp,hq,hr,hb⟩:=hcut
  go_wp2
  go_loopw [19] (λi wr=>∃k:Nat,k<=4/\i=X k/\Hid ((0<k->a0=b0)/\(1<k->a1=b1)/\(2<k->a2=b2)/\(3<k->a3=b3))/\Hid (Four p a0 a1 a2 a3 wr)/\Hid (Four q b0 b1 b2 b3 wr)/\Hid (Four (w.heap.size+2) 1 (-1) (-1) 1 wr)/\Hid (bW w wr)) (λi _=>4-(intOf i).toNat)
  case atStart=>exact⟨0,by omega,rfl,⟨by omega,by omega,by omega,by omega⟩,hp,hq,hr,hb⟩
  clear hp hq hr hb;obtain⟨k,hk,rfl,he,hp,hq,hr,hb⟩:=hrel;have hk':k=0\/k=1\/k=2\/k=3\/k=4:=by omega
  rcases hk' with rfl|rfl|rfl|rfl|rfl
  .obtain⟨p0,p1,p2,p3⟩:=hp.out
   obtain⟨q0,q1,q2,q3⟩:=hq.out;have cE:∀d os,Calls prog 137 #[X a0,X b0] (Sort.grow (redrawn wr d) os) λe w''=>e=.returned (X (Lv a0 b0))/\∃p:Regrown,w''=Sort.grow (redrawn wr p.d) p.os:=λd os=>Calls.regrown_of ((Dy a0 b0 _).mono (λ_ _ h=>⟨h.1,by rw[h.2];exact Below.refl _ _⟩))
   have pk:=cell_regrown p0;have qk:=cell_regrown q0;clear p0 p1 p2 p3 q0 q1 q2 q3;go_wp2_with fail;refine wp_region_quiet_below (by kernel_rfl) (by kernel_rfl) ?_
   repeat(quiet_step (first|exact cE _ _))
   refine wpQuiet_nil ?_;intro _ hw';obtain⟨⟨dq,osq⟩,hw''⟩:=hw';have hB:=below_regrown wr dq osq;simp only[]at hw'';rw[<-hw'']at hB;clear hw'' cE pk qk;have HP:Hid (Four p a0 a1 a2 a3 _):=hp.out.below hB (block_lt_of_cell hp.out.1);have HQ:Hid (Four q b0 b1 b2 b3 _):=hq.out.below hB (block_lt_of_cell hq.out.1);have HR:Hid (Four (w.heap.size+2) 1 (-1) (-1) 1 _):=hr.out.below hB (block_lt_of_cell hr.out.1);have HB:=qTH hb hB;clear hp hq hr hb hB;by_cases hlt:a0<b0
   .rw[Iv hlt]
    obtain⟨r0,r1,r2,r3⟩:=HR.out
    go_wp2
    go_ret;refine⟨Ab ?_,HB⟩;have HE:=he.out;unfold Cl;rw[if_pos (by omega)];simp<;>omega
   by_cases hgt:b0<a0
   .rw[Jj hgt]
    obtain⟨r0,r1,r2,r3⟩:=HR.out
    go_wp2
    go_ret;refine⟨Ab ?_,HB⟩;have HE:=he.out;unfold Cl;rw[if_pos (by omega)];simp<;>omega
   rw[Jg hlt hgt]
   go_wp2
   go_roundw
   case rel=>exact⟨1,by omega,by go_num,by have HE:=he.out;exact⟨λ_=>by omega,λ_=>by omega,λ_=>by omega,λ_=>by omega⟩,HP,HQ,HR,HB⟩
   simp[intOf]
  .obtain⟨p0,p1,p2,p3⟩:=hp.out
   obtain⟨q0,q1,q2,q3⟩:=hq.out;have cE:∀d os,Calls prog 137 #[X a1,X b1] (Sort.grow (redrawn wr d) os) λe w''=>e=.returned (X (Lv a1 b1))/\∃p:Regrown,w''=Sort.grow (redrawn wr p.d) p.os:=λd os=>Calls.regrown_of ((Dy a1 b1 _).mono (λ_ _ h=>⟨h.1,by rw[h.2];exact Below.refl _ _⟩))
   have pk:=cell_regrown p1;have qk:=cell_regrown q1;clear p0 p1 p2 p3 q0 q1 q2 q3;go_wp2_with fail;refine wp_region_quiet_below (by kernel_rfl) (by kernel_rfl) ?_
   repeat(quiet_step (first|exact cE _ _))
   refine wpQuiet_nil ?_;intro _ hw';obtain⟨⟨dq,osq⟩,hw''⟩:=hw';have hB:=below_regrown wr dq osq;simp only[]at hw'';rw[<-hw'']at hB;clear hw'' cE pk qk;have HP:Hid (Four p a0 a1 a2 a3 _):=hp.out.below hB (block_lt_of_cell hp.out.1);have HQ:Hid (Four q b0 b1 b2 b3 _):=hq.out.below hB (block_lt_of_cell hq.out.1);have HR:Hid (Four (w.heap.size+2) 1 (-1) (-1) 1 _):=hr.out.below hB (block_lt_of_cell hr.out.1);have HB:=qTH hb hB;clear hp hq hr hb hB;by_cases hlt:a1<b1
   .rw[Iv hlt]
    obtain⟨r0,r1,r2,r3⟩:=HR.out
    go_wp2
    go_ret;refine⟨Ab ?_,HB⟩;have HE:=he.out;unfold Cl;rw[if_neg (by have:=HE.1;intro h;exact h (this (by omega)))];rw[if_pos (by omega)];simp<;>omega
   by_cases hgt:b1<a1
   .rw[Jj hgt]
    obtain⟨r0,r1,r2,r3⟩:=HR.out
    go_wp2
    go_ret;refine⟨Ab ?_,HB⟩;have HE:=he.out;unfold Cl;rw[if_neg (by have:=HE.1;intro h;exact h (this (by omega)))];rw[if_pos (by omega)];simp<;>omega
   rw[Jg hlt hgt]
   go_wp2
   go_roundw
   case rel=>exact⟨2,by omega,by go_num,by have HE:=he.out;exact⟨λ_=>by omega,λ_=>by omega,λ_=>by omega,λ_=>by omega⟩,HP,HQ,HR,HB⟩
   simp[intOf]
  .obtain⟨p0,p1,p2,p3⟩:=hp.out
   obtain⟨q0,q1,q2,q3⟩:=hq.out;have cE:∀d os,Calls prog 137 #[X a2,X b2] (Sort.grow (redrawn wr d) os) λe w''=>e=.returned (X (Lv a2 b2))/\∃p:Regrown,w''=Sort.grow (redrawn wr p.d) p.os:=λd os=>Calls.regrown_of ((Dy a2 b2 _).mono (λ_ _ h=>⟨h.1,by rw[h.2];exact Below.refl _ _⟩))
   have pk:=cell_regrown p2;have qk:=cell_regrown q2;clear p0 p1 p2 p3 q0 q1 q2 q3;go_wp2_with fail;refine wp_region_quiet_below (by kernel_rfl) (by kernel_rfl) ?_
   repeat(quiet_step (first|exact cE _ _))
   refine wpQuiet_nil ?_;intro _ hw';obtain⟨⟨dq,osq⟩,hw''⟩:=hw';have hB:=below_regrown wr dq osq;simp only[]at hw'';rw[<-hw'']at hB;clear hw'' cE pk qk;have HP:Hid (Four p a0 a1 a2 a3 _):=hp.out.below hB (block_lt_of_cell hp.out.1);have HQ:Hid (Four q b0 b1 b2 b3 _):=hq.out.below hB (block_lt_of_cell hq.out.1);have HR:Hid (Four (w.heap.size+2) 1 (-1) (-1) 1 _):=hr.out.below hB (block_lt_of_cell hr.out.1);have HB:=qTH hb hB;clear hp hq hr hb hB;by_cases hlt:a2<b2
   .rw[Iv hlt]
    obtain⟨r0,r1,r2,r3⟩:=HR.out
    go_wp2
    go_ret;refine⟨Ab ?_,HB⟩;have HE:=he.out;unfold Cl;rw[if_neg (by have:=HE.1;intro h;exact h (this (by omega)))];rw[if_neg (by have:=HE.2.1;intro h;exact h (this (by omega)))];rw[if_pos (by omega)];simp<;>omega
   by_cases hgt:b2<a2
   .rw[Jj hgt]
    obtain⟨r0,r1,r2,r3⟩:=HR.out
    go_wp2
    go_ret;refine⟨Ab ?_,HB⟩;have HE:=he.out;unfold Cl;rw[if_neg (by have:=HE.1;intro h;exact h (this (by omega)))];rw[if_neg (by have:=HE.2.1;intro h;exact h (this (by omega)))];rw[if_pos (by omega)];simp<;>omega
   rw[Jg hlt hgt]
   go_wp2
   go_roundw
   case rel=>exact⟨3,by omega,by go_num,by have HE:=he.out;exact⟨λ_=>by omega,λ_=>by omega,λ_=>by omega,λ_=>by omega⟩,HP,HQ,HR,HB⟩
   simp[intOf]
  .obtain⟨p0,p1,p2,p3⟩:=hp.out
   obtain⟨q0,q1,q2,q3⟩:=hq.out;have cE:∀d os,Calls prog 137 #[X a3,X b3] (Sort.grow (redrawn wr d) os) λe w''=>e=.returned (X (Lv a3 b3))/\∃p:Regrown,w''=Sort.grow (redrawn wr p.d) p.os:=λd os=>Calls.regrown_of ((Dy a3 b3 _).mono (λ_ _ h=>⟨h.1,by rw[h.2];exact Below.refl _ _⟩))
   have pk:=cell_regrown p3;have qk:=cell_regrown q3;clear p0 p1 p2 p3 q0 q1 q2 q3;go_wp2_with fail;refine wp_region_quiet_below (by kernel_rfl) (by kernel_rfl) ?_
   repeat(quiet_step (first|exact cE _ _))
   refine wpQuiet_nil ?_;intro _ hw';obtain⟨⟨dq,osq⟩,hw''⟩:=hw';have hB:=below_regrown wr dq osq;simp only[]at hw'';rw[<-hw'']at hB;clear hw'' cE pk qk;have HP:Hid (Four p a0 a1 a2 a3 _):=hp.out.below hB (block_lt_of_cell hp.out.1);have HQ:Hid (Four q b0 b1 b2 b3 _):=hq.out.below hB (block_lt_of_cell hq.out.1);have HR:Hid (Four (w.heap.size+2) 1 (-1) (-1) 1 _):=hr.out.below hB (block_lt_of_cell hr.out.1);have HB:=qTH hb hB;clear hp hq hr hb hB;by_cases hlt:a3<b3
   .rw[Iv hlt]
    obtain⟨r0,r1,r2,r3⟩:=HR.out
    go_wp2
    go_ret;refine⟨Ab ?_,HB⟩;have HE:=he.out;unfold Cl;rw[if_neg (by have:=HE.1;intro h;exact h (this (by omega)))];rw[if_neg (by have:=HE.2.1;intro h;exact h (this (by omega)))];rw[if_neg (by have:=HE.2.2.1;intro h;exact h (this (by omega)))];simp<;>omega
   by_cases hgt:b3<a3
   .rw[Jj hgt]
    obtain⟨r0,r1,r2,r3⟩:=HR.out
    go_wp2
    go_ret;refine⟨Ab ?_,HB⟩;have HE:=he.out;unfold Cl;rw[if_neg (by have:=HE.1;intro h;exact h (this (by omega)))];rw[if_neg (by have:=HE.2.1;intro h;exact h (this (by omega)))];rw[if_neg (by have:=HE.2.2.1;intro h;exact h (this (by omega)))];simp<;>omega
   rw[Jg hlt hgt]
   go_wp2
   go_roundw
   case rel=>exact⟨4,by omega,by go_num,by have HE:=he.out;exact⟨λ_=>by omega,λ_=>by omega,λ_=>by omega,λ_=>by omega⟩,HP,HQ,HR,HB⟩
   simp[intOf]
  go_wp2
  go_ret;refine⟨Ab ?_,hb.out⟩;obtain⟨e0,e1,e2,e3⟩:=he.out;rw[Qa (e0 (by omega)) (e1 (by omega)) (e2 (by omega)) (e3 (by omega))]
 go_enter func112,ntmps112;go_wp2_with fail
 go_cut [8,9]from 15 to 18 (λl r wx=>∃p q:Nat,l=pP p 0/\r=pP q 0/\Hid (Four p a0 a1 a2 a3 wx)/\Hid (Four q b0 b1 b2 b3 wx)/\Hid (Four (w.heap.size+2) 1 (-1) (-1) (-1) wx)/\Hid (bW w wx))
 case first =>
  go_region_held3 (λw'=>w'.cell? (E w.heap.size 0)=some (X a0)/\w'.cell? (E w.heap.size 1)=some (X a1)/\w'.cell? (E w.heap.size 2)=some (X a2)/\w'.cell? (E w.heap.size 3)=some (X a3)/\w'.cell? (E (w.heap.size+1) 0)=some (X b0)/\w'.cell? (E (w.heap.size+1) 1)=some (X b1)/\w'.cell? (E (w.heap.size+1) 2)=some (X b2)/\w'.cell? (E (w.heap.size+1) 3)=some (X b3)) (simp[go_sem])
   (first|(go_at_call 141;refine(Xm _ _ _ _ _).mono ?_;rintro e w' ⟨rfl,rfl⟩))
  all_goals
   rename_i hHeld
   clear hHeld
   go_wp2
   go_meet;exact⟨_,_,rfl,rfl,⟨by simp[go_sem],by simp[go_sem],by simp[go_sem],by simp[go_sem]⟩,⟨by simp[go_sem],by simp[go_sem],by simp[go_sem],by simp[go_sem]⟩,⟨by simp[go_sem],by simp[go_sem],by simp[go_sem],by simp[go_sem]⟩,by show Below _ _ _;go_grown⟩
 obtain⟨p,q,rfl,rfl,hp,hq,hr,hb⟩:=hcut
 go_wp2
 go_loopw [19] (λi wr=>∃k:Nat,k<=4/\i=X k/\Hid ((0<k->a0=b0)/\(1<k->a1=b1)/\(2<k->a2=b2)/\(3<k->a3=b3))/\Hid (Four p a0 a1 a2 a3 wr)/\Hid (Four q b0 b1 b2 b3 wr)/\Hid (Four (w.heap.size+2) 1 (-1) (-1) (-1) wr)/\Hid (bW w wr)) (λi _=>4-(intOf i).toNat)
 case atStart=>exact⟨0,by omega,rfl,⟨by omega,by omega,by omega,by omega⟩,hp,hq,hr,hb⟩
 clear hp hq hr hb;obtain⟨k,hk,rfl,he,hp,hq,hr,hb⟩:=hrel;have hk':k=0\/k=1\/k=2\/k=3\/k=4:=by omega
 rcases hk' with rfl|rfl|rfl|rfl|rfl
 .obtain⟨p0,p1,p2,p3⟩:=hp.out
  obtain⟨q0,q1,q2,q3⟩:=hq.out;have cE:∀d os,Calls prog 137 #[X a0,X b0] (Sort.grow (redrawn wr d) os) λe w''=>e=.returned (X (Lv a0 b0))/\∃p:Regrown,w''=Sort.grow (redrawn wr p.d) p.os:=λd os=>Calls.regrown_of ((Dy a0 b0 _).mono (λ_ _ h=>⟨h.1,by rw[h.2];exact Below.refl _ _⟩))
  have pk:=cell_regrown p0;have qk:=cell_regrown q0;clear p0 p1 p2 p3 q0 q1 q2 q3;go_wp2_with fail;refine wp_region_quiet_below (by kernel_rfl) (by kernel_rfl) ?_
  repeat(quiet_step (first|exact cE _ _))
  refine wpQuiet_nil ?_;intro _ hw';obtain⟨⟨dq,osq⟩,hw''⟩:=hw';have hB:=below_regrown wr dq osq;simp only[]at hw'';rw[<-hw'']at hB;clear hw'' cE pk qk;have HP:Hid (Four p a0 a1 a2 a3 _):=hp.out.below hB (block_lt_of_cell hp.out.1);have HQ:Hid (Four q b0 b1 b2 b3 _):=hq.out.below hB (block_lt_of_cell hq.out.1);have HR:Hid (Four (w.heap.size+2) 1 (-1) (-1) (-1) _):=hr.out.below hB (block_lt_of_cell hr.out.1);have HB:=qTH hb hB;clear hp hq hr hb hB;by_cases hlt:a0<b0
  .rw[Iv hlt]
   obtain⟨r0,r1,r2,r3⟩:=HR.out
   go_wp2
   go_ret;refine⟨Ab ?_,HB⟩;have HE:=he.out;unfold Cl;rw[if_pos (by omega)];simp<;>omega
  by_cases hgt:b0<a0
  .rw[Jj hgt]
   obtain⟨r0,r1,r2,r3⟩:=HR.out
   go_wp2
   go_ret;refine⟨Ab ?_,HB⟩;have HE:=he.out;unfold Cl;rw[if_pos (by omega)];simp<;>omega
  rw[Jg hlt hgt]
  go_wp2
  go_roundw
  case rel=>exact⟨1,by omega,by go_num,by have HE:=he.out;exact⟨λ_=>by omega,λ_=>by omega,λ_=>by omega,λ_=>by omega⟩,HP,HQ,HR,HB⟩
  simp[intOf]
 .obtain⟨p0,p1,p2,p3⟩:=hp.out
  obtain⟨q0,q1,q2,q3⟩:=hq.out;have cE:∀d os,Calls prog 137 #[X a1,X b1] (Sort.grow (redrawn wr d) os) λe w''=>e=.returned (X (Lv a1 b1))/\∃p:Regrown,w''=Sort.grow (redrawn wr p.d) p.os:=λd os=>Calls.regrown_of ((Dy a1 b1 _).mono (λ_ _ h=>⟨h.1,by rw[h.2];exact Below.refl _ _⟩))
  have pk:=cell_regrown p1;have qk:=cell_regrown q1;clear p0 p1 p2 p3 q0 q1 q2 q3;go_wp2_with fail;refine wp_region_quiet_below (by kernel_rfl) (by kernel_rfl) ?_
  repeat(quiet_step (first|exact cE _ _))
  refine wpQuiet_nil ?_;intro _ hw';obtain⟨⟨dq,osq⟩,hw''⟩:=hw';have hB:=below_regrown wr dq osq;simp only[]at hw'';rw[<-hw'']at hB;clear hw'' cE pk qk;have HP:Hid (Four p a0 a1 a2 a3 _):=hp.out.below hB (block_lt_of_cell hp.out.1);have HQ:Hid (Four q b0 b1 b2 b3 _):=hq.out.below hB (block_lt_of_cell hq.out.1);have HR:Hid (Four (w.heap.size+2) 1 (-1) (-1) (-1) _):=hr.out.below hB (block_lt_of_cell hr.out.1);have HB:=qTH hb hB;clear hp hq hr hb hB;by_cases hlt:a1<b1
  .rw[Iv hlt]
   obtain⟨r0,r1,r2,r3⟩:=HR.out
   go_wp2
   go_ret;refine⟨Ab ?_,HB⟩;have HE:=he.out;unfold Cl;rw[if_neg (by have:=HE.1;intro h;exact h (this (by omega)))];rw[if_pos (by omega)];simp<;>omega
  by_cases hgt:b1<a1
  .rw[Jj hgt]
   obtain⟨r0,r1,r2,r3⟩:=HR.out
   go_wp2
   go_ret;refine⟨Ab ?_,HB⟩;have HE:=he.out;unfold Cl;rw[if_neg (by have:=HE.1;intro h;exact h (this (by omega)))];rw[if_pos (by omega)];simp<;>omega
  rw[Jg hlt hgt]
  go_wp2
  go_roundw
  case rel=>exact⟨2,by omega,by go_num,by have HE:=he.out;exact⟨λ_=>by omega,λ_=>by omega,λ_=>by omega,λ_=>by omega⟩,HP,HQ,HR,HB⟩
  simp[intOf]
 .obtain⟨p0,p1,p2,p3⟩:=hp.out
  obtain⟨q0,q1,q2,q3⟩:=hq.out;have cE:∀d os,Calls prog 137 #[X a2,X b2] (Sort.grow (redrawn wr d) os) λe w''=>e=.returned (X (Lv a2 b2))/\∃p:Regrown,w''=Sort.grow (redrawn wr p.d) p.os:=λd os=>Calls.regrown_of ((Dy a2 b2 _).mono (λ_ _ h=>⟨h.1,by rw[h.2];exact Below.refl _ _⟩))
  have pk:=cell_regrown p2;have qk:=cell_regrown q2;clear p0 p1 p2 p3 q0 q1 q2 q3;go_wp2_with fail;refine wp_region_quiet_below (by kernel_rfl) (by kernel_rfl) ?_
  repeat(quiet_step (first|exact cE _ _))
  refine wpQuiet_nil ?_;intro _ hw';obtain⟨⟨dq,osq⟩,hw''⟩:=hw';have hB:=below_regrown wr dq osq;simp only[]at hw'';rw[<-hw'']at hB;clear hw'' cE pk qk;have HP:Hid (Four p a0 a1 a2 a3 _):=hp.out.below hB (block_lt_of_cell hp.out.1);have HQ:Hid (Four q b0 b1 b2 b3 _):=hq.out.below hB (block_lt_of_cell hq.out.1);have HR:Hid (Four (w.heap.size+2) 1 (-1) (-1) (-1) _):=hr.out.below hB (block_lt_of_cell hr.out.1);have HB:=qTH hb hB;clear hp hq hr hb hB;by_cases hlt:a2<b2
  .rw[Iv hlt]
   obtain⟨r0,r1,r2,r3⟩:=HR.out
   go_wp2
   go_ret;refine⟨Ab ?_,HB⟩;have HE:=he.out;unfold Cl;rw[if_neg (by have:=HE.1;intro h;exact h (this (by omega)))];rw[if_neg (by have:=HE.2.1;intro h;exact h (this (by omega)))];rw[if_pos (by omega)];simp<;>omega
  by_cases hgt:b2<a2
  .rw[Jj hgt]
   obtain⟨r0,r1,r2,r3⟩:=HR.out
   go_wp2
   go_ret;refine⟨Ab ?_,HB⟩;have HE:=he.out;unfold Cl;rw[if_neg (by have:=HE.1;intro h;exact h (this (by omega)))];rw[if_neg (by have:=HE.2.1;intro h;exact h (this (by omega)))];rw[if_pos (by omega)];simp<;>omega
  rw[Jg hlt hgt]
  go_wp2
  go_roundw
  case rel=>exact⟨3,by omega,by go_num,by have HE:=he.out;exact⟨λ_=>by omega,λ_=>by omega,λ_=>by omega,λ_=>by omega⟩,HP,HQ,HR,HB⟩
  simp[intOf]
 .obtain⟨p0,p1,p2,p3⟩:=hp.out
  obtain⟨q0,q1,q2,q3⟩:=hq.out;have cE:∀d os,Calls prog 137 #[X a3,X b3] (Sort.grow (redrawn wr d) os) λe w''=>e=.returned (X (Lv a3 b3))/\∃p:Regrown,w''=Sort.grow (redrawn wr p.d) p.os:=λd os=>Calls.regrown_of ((Dy a3 b3 _).mono (λ_ _ h=>⟨h.1,by rw[h.2];exact Below.refl _ _⟩))
  have pk:=cell_regrown p3;have qk:=cell_regrown q3;clear p0 p1 p2 p3 q0 q1 q2 q3;go_wp2_with fail;refine wp_region_quiet_below (by kernel_rfl) (by kernel_rfl) ?_
  repeat(quiet_step (first|exact cE _ _))
  refine wpQuiet_nil ?_;intro _ hw';obtain⟨⟨dq,osq⟩,hw''⟩:=hw';have hB:=below_regrown wr dq osq;simp only[]at hw'';rw[<-hw'']at hB;clear hw'' cE pk qk;have HP:Hid (Four p a0 a1 a2 a3 _):=hp.out.below hB (block_lt_of_cell hp.out.1);have HQ:Hid (Four q b0 b1 b2 b3 _):=hq.out.below hB (block_lt_of_cell hq.out.1);have HR:Hid (Four (w.heap.size+2) 1 (-1) (-1) (-1) _):=hr.out.below hB (block_lt_of_cell hr.out.1);have HB:=qTH hb hB;clear hp hq hr hb hB;by_cases hlt:a3<b3
  .rw[Iv hlt]
   obtain⟨r0,r1,r2,r3⟩:=HR.out
   go_wp2
   go_ret;refine⟨Ab ?_,HB⟩;have HE:=he.out;unfold Cl;rw[if_neg (by have:=HE.1;intro h;exact h (this (by omega)))];rw[if_neg (by have:=HE.2.1;intro h;exact h (this (by omega)))];rw[if_neg (by have:=HE.2.2.1;intro h;exact h (this (by omega)))];simp<;>omega
  by_cases hgt:b3<a3
  .rw[Jj hgt]
   obtain⟨r0,r1,r2,r3⟩:=HR.out
   go_wp2
   go_ret;refine⟨Ab ?_,HB⟩;have HE:=he.out;unfold Cl;rw[if_neg (by have:=HE.1;intro h;exact h (this (by omega)))];rw[if_neg (by have:=HE.2.1;intro h;exact h (this (by omega)))];rw[if_neg (by have:=HE.2.2.1;intro h;exact h (this (by omega)))];simp<;>omega
  rw[Jg hlt hgt]
  go_wp2
  go_roundw
  case rel=>exact⟨4,by omega,by go_num,by have HE:=he.out;exact⟨λ_=>by omega,λ_=>by omega,λ_=>by omega,λ_=>by omega⟩,HP,HQ,HR,HB⟩
  simp[intOf]
 go_wp2
 go_ret;refine⟨Ab ?_,hb.out⟩;obtain⟨e0,e1,e2,e3⟩:=he.out;rw[Qa (e0 (by omega)) (e1 (by omega)) (e2 (by omega)) (e3 (by omega))]
end Go.Proofs.YthboopnmbglkjaaGreat
