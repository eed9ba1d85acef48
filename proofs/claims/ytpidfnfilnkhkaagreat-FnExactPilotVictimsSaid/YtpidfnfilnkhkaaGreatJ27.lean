import Derived.Test.YtpidfnfilnkhkaaGreatJ26
set_option maxHeartbeats 4000000
set_option maxRecDepth 100000
namespace Go.Proofs.YtpidfnfilnkhkaaGreat
open Go.RowKit Tryz
theorem Tz:(prog.info? 60).map (·.size)=some 24:=by kernel_rfl
theorem BZ:Qo 60 24:=⟨_,underlying60,rfl,Tz⟩
def SptS(p q r o:Nat)(v:Value)(cs bs:List Value)(w:World):Prop:=w.cell? ⟨p,3,none⟩=some v/\w.rangeAt r o cs/\w.rangeAt q 0 bs
theorem SptS.below{p q r o:Nat}{v:Value}{cs bs:List Value}{w w':World}(h:SptS p q r o v cs bs w)(hb:Below w.heap.size w w')(hr:r<w.heap.size)(hq:q<w.heap.size):SptS p q r o v cs bs w' :=
 ⟨(hb.cell (p:=⟨p,3,none⟩) (block_lt_of_cell h.1)).trans h.1,Ae h.2.1 hb hr,Ae h.2.2 hb hq⟩
theorem Kx{w w':World}{g o n B:Nat}(h:w.there g o n)(hb:Below B w w')(hB:g<B):w'.there g o n:=by
 intro j hj;rw[hb.cell (p:=⟨g,_,none⟩) hB,hb.frozen (p:=⟨g,_,none⟩) hB];exact h j hj
theorem Uf(p:Nat)(x:Flt)(a1:OA)(c1:Nat)(a2:OA)(c2:Nat)(a3:OA)(c3:Nat)(lo ci bi:Nat)(y:Cpy)(b:Brt)(w:World)(hp:FndIn p x a1 c1 a2 c2 a3 c3 w)(n1:SliceC BrtC 6 lo w a1 x.berths)(n3:SliceC CpyC 12 lo w a3 x.copies)(l3:x.copies.length<=1048576)(hy:x.copies[ci]?=some y)(hb:x.berths[bi]?=some b) :
  Calls prog 54 #[.pointer (some ⟨p,0,none⟩),.int .i64 ci,.int .i64 bi] w λe w'=>∃a7 c7 am cm,e=.returned (.agg #[.pointer (some ⟨p,0,none⟩),.int .i64 ci,.string y.name,.string y.service,.int .i64 y.rank,.int .i64 y.born,.int .i64 y.room,.int .i64 y.hold,.string y.select,.slice a7 y.likes.length c7,.int .i64 y.apart,.string y.near,.string y.fixed,.string y.at_,.int .i64 bi,.string b.name,.string b.zone,.slice am b.marks.length cm,.int .i64 b.room,.int .i64 b.hold,.bool b.closed,.int .i64 (Ap x.copies b.name ci x.copies.length).1,.int .i64 (Ap x.copies b.name ci x.copies.length).2.1,.int .i64 (Ap x.copies b.name ci x.copies.length).2.2])/\SliceC LikC 2 lo w a7 y.likes/\SliceC StrC 1 lo w am b.marks/\(∃cb co bb bo,a3=some ⟨cb,co,none⟩/\a1=some ⟨bb,bo,none⟩/\w.cell? ⟨cb,co+ci*12+7,none⟩=some (.slice a7 y.likes.length c7)/\w.cell? ⟨bb,bo+bi*6+2,none⟩=some (.slice am b.marks.length cm))/\Below w.heap.size w w':=by
 obtain⟨p1,p2,p3⟩:=hp;have hci:=Ac hy;have hbi:=Ac hb;obtain⟨by_,oy,rfl,_,hyl,hcy⟩:=n3.at hy;obtain⟨bb,ob,rfl,_,hbl,hcb⟩:=n1.at hb;obtain⟨a7,c7,q0,q1,q2,q3,q4,q5,q6,q7,q8,q9,q10,q11,_,_,_,_,_,_,n7⟩:=hcy;obtain⟨am,cm,r0,r1,r2,r3,r4,r5,_,_,nm⟩:=hcb;simp only[Nat.add_zero]at q0 r0;have N3:=iH n3;have N7:=iH n7;have HAT:Hid (∃cb co bb' bo,(some ⟨by_,oy,none⟩:OA)=some ⟨cb,co,none⟩/\(some ⟨bb,ob,none⟩:OA)=some ⟨bb',bo,none⟩/\w.cell? ⟨cb,co+ci*12+7,none⟩=some (.slice a7 y.likes.length c7)/\w.cell? ⟨bb',bo+bi*6+2,none⟩=some (.slice am b.marks.length cm)):=⟨by_,oy,bb,ob,rfl,rfl,q7,r2⟩;have NM:=iH nm;have HRB:Hid (w.rangeAt bb (ob+bi*6) (bbL b am cm)):=Aa r0 (Aa r1 (Aa r2 (Aa r3 (Aa r4 (Aa r5 (Ao _ _ _))))));have HRC:Hid (w.rangeAt by_ (oy+ci*12) (ccL y a7 c7)):=Aa q0 (Aa q1 (Aa q2 (Aa q3 (Aa q4 (Aa q5 (Aa q6 (Aa q7 (Aa q8 (Aa q9 (Aa q10 (Aa q11 (Ao _ _ _))))))))))));clear n1 n3 n7 nm hy hb q0 q1 q2 q3 q4 q5 q6 q7 q8 q9 q10 q11 r0 r1 r2 r3 r4 r5;go_enter func54,ntmps54;go_upto_region 1 with fail;have hal:=(Below.refl _ w).alloc nL (Obj.cells #[.pointer none,.int .i64 0,.string ⟨#[]⟩,.string ⟨#[]⟩,.int .i64 0,.int .i64 0,.int .i64 0,.int .i64 0,.string ⟨#[]⟩,.slice none 0 0,.int .i64 0,.string ⟨#[]⟩,.string ⟨#[]⟩,.string ⟨#[]⟩,.int .i64 0,.string ⟨#[]⟩,.string ⟨#[]⟩,.slice none 0 0,.int .i64 0,.int .i64 0,.bool false,.int .i64 0,.int .i64 0,.int .i64 0] 60);have HT1:Hid ((w.alloc (Obj.cells #[.pointer none,.int .i64 0,.string ⟨#[]⟩,.string ⟨#[]⟩,.int .i64 0,.int .i64 0,.int .i64 0,.int .i64 0,.string ⟨#[]⟩,.slice none 0 0,.int .i64 0,.string ⟨#[]⟩,.string ⟨#[]⟩,.string ⟨#[]⟩,.int .i64 0,.string ⟨#[]⟩,.string ⟨#[]⟩,.slice none 0 0,.int .i64 0,.int .i64 0,.bool false,.int .i64 0,.int .i64 0,.int .i64 0] 60)).there w.heap.size 0 24):=Ag (by simp;rfl) (by simp) (Ag (by simp;rfl) (by simp) (Ag (by simp;rfl) (by simp) (Ag (by simp;rfl) (by simp) (Ag (by simp;rfl) (by simp) (Ag (by simp;rfl) (by simp) (Ag (by simp;rfl) (by simp) (Ag (by simp;rfl) (by simp) (Ag (by simp;rfl) (by simp) (Ag (by simp;rfl) (by simp) (Ag (by simp;rfl) (by simp) (Ag (by simp;rfl) (by simp) (Ag (by simp;rfl) (by simp) (Ag (by simp;rfl) (by simp) (Ag (by simp;rfl) (by simp) (Ag (by simp;rfl) (by simp) (Ag (by simp;rfl) (by simp) (Ag (by simp;rfl) (by simp) (Ag (by simp;rfl) (by simp) (Ag (by simp;rfl) (by simp) (Ag (by simp;rfl) (by simp) (Ag (by simp;rfl) (by simp) (Ag (by simp;rfl) (by simp) (Ag (by simp;rfl) (by simp) (Ez _ _ _))))))))))))))))))))))));have HB1:=iH hal;have HRB1:=iH (Ae HRB hal hbl);have hs1:(w.alloc (Obj.cells #[.pointer none,.int .i64 0,.string ⟨#[]⟩,.string ⟨#[]⟩,.int .i64 0,.int .i64 0,.int .i64 0,.int .i64 0,.string ⟨#[]⟩,.slice none 0 0,.int .i64 0,.string ⟨#[]⟩,.string ⟨#[]⟩,.string ⟨#[]⟩,.int .i64 0,.string ⟨#[]⟩,.string ⟨#[]⟩,.slice none 0 0,.int .i64 0,.int .i64 0,.bool false,.int .i64 0,.int .i64 0,.int .i64 0] 60)).heap.size=w.heap.size+1:=by simp
 have p1':(w.alloc (Obj.cells #[.pointer none,.int .i64 0,.string ⟨#[]⟩,.string ⟨#[]⟩,.int .i64 0,.int .i64 0,.int .i64 0,.int .i64 0,.string ⟨#[]⟩,.slice none 0 0,.int .i64 0,.string ⟨#[]⟩,.string ⟨#[]⟩,.string ⟨#[]⟩,.int .i64 0,.string ⟨#[]⟩,.string ⟨#[]⟩,.slice none 0 0,.int .i64 0,.int .i64 0,.bool false,.int .i64 0,.int .i64 0,.int .i64 0] 60)).cell? ⟨p,1,none⟩=some (.slice (some ⟨bb,ob,none⟩) x.berths.length c1):=(hal.cell (p:=⟨p,1,none⟩) (block_lt_of_cell p1)).trans p1;have P3:=iH p3;clear hal HRB p2 p1 p3;generalize(w.alloc (Obj.cells #[.pointer none,.int .i64 0,.string ⟨#[]⟩,.string ⟨#[]⟩,.int .i64 0,.int .i64 0,.int .i64 0,.int .i64 0,.string ⟨#[]⟩,.slice none 0 0,.int .i64 0,.string ⟨#[]⟩,.string ⟨#[]⟩,.string ⟨#[]⟩,.int .i64 0,.string ⟨#[]⟩,.string ⟨#[]⟩,.slice none 0 0,.int .i64 0,.int .i64 0,.bool false,.int .i64 0,.int .i64 0,.int .i64 0] 60))=w1 at *;go_upto_region 2 with(first|(refine qLr Nz HRB1 ?_));have hal:=(Below.refl _ w1).alloc nL (Obj.cells (bbA b am cm) 52);have HB2:=qTH HB1 hal;have HT2:Hid ((w1.alloc (Obj.cells (bbA b am cm) 52)).there w.heap.size 0 24):=Kx HT1 hal (by omega);have HRX:Hid ((w1.alloc (Obj.cells (bbA b am cm) 52)).rangeAt (w.heap.size+1) 0 (bbL b am cm)):=by
  rw[<-hs1];exact Aa (by simp) (Aa (by simp) (Aa (by simp) (Aa (by simp) (Aa (by simp) (Aa (by simp) (Ao _ _ _))))))
 have hs2:(w1.alloc (Obj.cells (bbA b am cm) 52)).heap.size=w.heap.size+2:=by simp;omega
 have HSS:Hid (SptS p (w.heap.size+1) by_ (oy+ci*12) (.slice (some ⟨by_,oy,none⟩) x.copies.length c3) (ccL y a7 c7) (bbL b am cm) (w1.alloc (Obj.cells (bbA b am cm) 52))):=⟨(HB2.out.cell (p:=⟨p,3,none⟩) (block_lt_of_cell P3)).trans P3,Ae HRC HB2 hyl,HRX⟩;have N3':Hid (SliceC CpyC 12 lo (w1.alloc (Obj.cells (bbA b am cm) 52)).drew (some ⟨by_,oy,none⟩) x.copies):=(N3.out.below CpyC.holds HB2 nL).below CpyC.holds ((Below.refl _ (w1.alloc (Obj.cells (bbA b am cm) 52))).drew) nL;have HT3:Hid ((w1.alloc (Obj.cells (bbA b am cm) 52)).drew.there w.heap.size 0 24):=Kx HT2 ((Below.refl (w1.alloc (Obj.cells (bbA b am cm) 52)).heap.size (w1.alloc (Obj.cells (bbA b am cm) 52))).drew) (by omega);have HB3:Hid (Below w.heap.size w (w1.alloc (Obj.cells (bbA b am cm) 52)).drew):=HB2.out.drew;have HSD:Hid (SptS p (w.heap.size+1) by_ (oy+ci*12) (.slice (some ⟨by_,oy,none⟩) x.copies.length c3) (ccL y a7 c7) (bbL b am cm) (w1.alloc (Obj.cells (bbA b am cm) 52)).drew):=HSS.out.below ((Below.refl _ (w1.alloc (Obj.cells (bbA b am cm) 52))).drew) (by omega) (by omega);have hs3:(w1.alloc (Obj.cells (bbA b am cm) 52)).drew.heap.size=w.heap.size+2:=by rw[<-hs2];simp
 clear hal HB1 HB2 HT1 HT2 HRX HRB1 p1' hs1 hs2 HSS;refine wp_region_held_drew (S:=SptS p (w.heap.size+1) by_ (oy+ci*12) (.slice (some ⟨by_,oy,none⟩) x.copies.length c3) (ccL y a7 c7) (bbL b am cm)) (by kernel_rfl) HSD (λhS=>?_);clear HSD;generalize(w1.alloc (Obj.cells (bbA b am cm) 52)).drew=w3 at *;refine x4 0 16 (.pointer (some ⟨p,0,none⟩)) ?_;refine x4 1 17 (.int .i64 ci) ?_;refine x4 2 18 (.pointer (some ⟨p,0,none⟩)) ?_;refine x4 3 19 (.pointer (some ⟨p,0,none⟩)) ?_;refine x4 4 20 (.pointer (some ⟨p,0,none⟩)) ?_;refine x4 5 21 (.pointer (some ⟨p,3,none⟩)) ?_;refine x4 6 22 (.slice (some ⟨by_,oy,none⟩) x.copies.length c3) ?_;refine x4 7 23 (.int .i64 ci) ?_;refine x4 8 24 (.pointer (some ⟨by_,oy+ci*12,none⟩)) ?_;refine tk 9 ⟨some 25,_,_,_,_,none⟩ (.agg (ccA y a7 c7)) rfl (yieldsIf_load_mid rfl 49 (.tmp 24) rfl by_ (oy+ci*12) rfl (ccL y a7 c7) _ (λ_ h=>h.2.1) underlying49 rfl Dk) hS ?_;refine x4 10 26 (.int .i64 bi) ?_;refine tk 11 ⟨some 27,_,_,_,_,none⟩ (.agg (bbA b am cm)) rfl (yieldsIf_load_mid rfl 52 (.tmp 7) rfl (w.heap.size+1) (0) rfl (bbL b am cm) _ (λ_ h=>h.2.2) underlying52 rfl Dl) hS ?_;refine x4 12 28 (.pointer (some ⟨p,0,none⟩)) ?_;refine x4 13 29 (.pointer (some ⟨w.heap.size+1,0,none⟩)) ?_;refine x4 14 30 (.string b.name) ?_;refine x4 15 31 (.int .i64 ci) ?_;refine rd1 16 ⟨some 32,_,_,_,_,none⟩ rfl (λK hK=>?_);go_simp;refine(bS p x.copies (some ⟨by_,oy,none⟩) c3 lo b.name ci _ hS.1 N3'.out l3).mono ?_;rintro e w4⟨rfl,hb4⟩;have HT4:Hid (w4.there w.heap.size 0 24):=Kx HT3 hb4 (by omega);have HB4:=qTH HB3 hb4;have hs4:w.heap.size+2<=w4.heap.size:=by have:=hb4.size;omega
 refine hK.out _ _ (hS.below hb4 (by omega) (by omega)) (λhS=>?_);clear hb4 HT3 HB3 N3' hK K hs3;obtain⟨V,hV⟩:∃V,V=(Ap x.copies b.name ci x.copies.length):=⟨_,rfl⟩;have HV:=iH hV;rw[<-hV];clear hV;refine tz 17 33 (.agg #[.pointer (some ⟨p,0,none⟩),.int .i64 ci,.string y.name,.string y.service,.int .i64 y.rank,.int .i64 y.born,.int .i64 y.room,.int .i64 y.hold,.string y.select,.slice a7 y.likes.length c7,.int .i64 y.apart,.string y.near,.string y.fixed,.string y.at_,.int .i64 bi,.string b.name,.string b.zone,.slice am b.marks.length cm,.int .i64 b.room,.int .i64 b.hold,.bool b.closed,.int .i64 V.1,.int .i64 V.2.1,.int .i64 V.2.2]) ?_;refine rd1 18 ⟨none,_,_,_,_,none⟩ rfl (λK hK=>?_);rw[if_pos (by rfl)];refine wp_store_mid 60 (.tmp 6) (.tmp 33) (by rfl) w.heap.size 0 #[.pointer (some ⟨p,0,none⟩),.int .i64 ci,.string y.name,.string y.service,.int .i64 y.rank,.int .i64 y.born,.int .i64 y.room,.int .i64 y.hold,.string y.select,.slice a7 y.likes.length c7,.int .i64 y.apart,.string y.near,.string y.fixed,.string y.at_,.int .i64 bi,.string b.name,.string b.zone,.slice am b.marks.length cm,.int .i64 b.room,.int .i64 b.hold,.bool b.closed,.int .i64 V.1,.int .i64 V.2.1,.int .i64 V.2.2] (by rfl) (by rfl) HT4 Tz (by simp[Value.oneCell']) ?_;have HB5:Hid (Below w.heap.size w (w4.setCells w.heap.size 0 [.pointer (some ⟨p,0,none⟩),.int .i64 ci,.string y.name,.string y.service,.int .i64 y.rank,.int .i64 y.born,.int .i64 y.room,.int .i64 y.hold,.string y.select,.slice a7 y.likes.length c7,.int .i64 y.apart,.string y.near,.string y.fixed,.string y.at_,.int .i64 bi,.string b.name,.string b.zone,.slice am b.marks.length cm,.int .i64 b.room,.int .i64 b.hold,.bool b.closed,.int .i64 V.1,.int .i64 V.2.1,.int .i64 V.2.2])):=Aj nL _ _ _ HB4;have HR5:Hid ((w4.setCells w.heap.size 0 [.pointer (some ⟨p,0,none⟩),.int .i64 ci,.string y.name,.string y.service,.int .i64 y.rank,.int .i64 y.born,.int .i64 y.room,.int .i64 y.hold,.string y.select,.slice a7 y.likes.length c7,.int .i64 y.apart,.string y.near,.string y.fixed,.string y.at_,.int .i64 bi,.string b.name,.string b.zone,.slice am b.marks.length cm,.int .i64 b.room,.int .i64 b.hold,.bool b.closed,.int .i64 V.1,.int .i64 V.2.1,.int .i64 V.2.2]).rangeAt w.heap.size 0 [.pointer (some ⟨p,0,none⟩),.int .i64 ci,.string y.name,.string y.service,.int .i64 y.rank,.int .i64 y.born,.int .i64 y.room,.int .i64 y.hold,.string y.select,.slice a7 y.likes.length c7,.int .i64 y.apart,.string y.near,.string y.fixed,.string y.at_,.int .i64 bi,.string b.name,.string b.zone,.slice am b.marks.length cm,.int .i64 b.room,.int .i64 b.hold,.bool b.closed,.int .i64 V.1,.int .i64 V.2.1,.int .i64 V.2.2]):=World.rangeAt_setCells_same _ _ _ _ HT4;have hSn:SptS p (w.heap.size+1) by_ (oy+ci*12) (.slice (some ⟨by_,oy,none⟩) x.copies.length c3) (ccL y a7 c7) (bbL b am cm) (w4.setCells w.heap.size 0 [.pointer (some ⟨p,0,none⟩),.int .i64 ci,.string y.name,.string y.service,.int .i64 y.rank,.int .i64 y.born,.int .i64 y.room,.int .i64 y.hold,.string y.select,.slice a7 y.likes.length c7,.int .i64 y.apart,.string y.near,.string y.fixed,.string y.at_,.int .i64 bi,.string b.name,.string b.zone,.slice am b.marks.length cm,.int .i64 b.room,.int .i64 b.hold,.bool b.closed,.int .i64 V.1,.int .i64 V.2.1,.int .i64 V.2.2]):=⟨(HB5.out.cell (p:=⟨p,3,none⟩) (block_lt_of_cell P3)).trans P3,Ae HRC HB5 hyl,World.rangeAt_setCells_apart hS.2.2 w.heap.size 0 _ (.inl (by omega))⟩
 refine hK.out _ _ hSn (λhS=>?_);clear hSn hK K HT4 HB4;generalize w4.setCells w.heap.size 0 [.pointer (some ⟨p,0,none⟩),.int .i64 ci,.string y.name,.string y.service,.int .i64 y.rank,.int .i64 y.born,.int .i64 y.room,.int .i64 y.hold,.string y.select,.slice a7 y.likes.length c7,.int .i64 y.apart,.string y.near,.string y.fixed,.string y.at_,.int .i64 bi,.string b.name,.string b.zone,.slice am b.marks.length cm,.int .i64 b.room,.int .i64 b.hold,.bool b.closed,.int .i64 V.1,.int .i64 V.2.1,.int .i64 V.2.2]=w5 at *;refine td ?_;go_wp2_with fail;exact bodyPost_ret (Bi rfl _ _ w.heap.size [.pointer (some ⟨p,0,none⟩),.int .i64 ci,.string y.name,.string y.service,.int .i64 y.rank,.int .i64 y.born,.int .i64 y.room,.int .i64 y.hold,.string y.select,.slice a7 y.likes.length c7,.int .i64 y.apart,.string y.near,.string y.fixed,.string y.at_,.int .i64 bi,.string b.name,.string b.zone,.slice am b.marks.length cm,.int .i64 b.room,.int .i64 b.hold,.bool b.closed,.int .i64 V.1,.int .i64 V.2.1,.int .i64 V.2.2] _ rfl HR5 underlying60 rfl Tz) rfl ⟨a7,c7,am,cm,by rw[<-HV.out],N7,NM,HAT,HB5⟩
open Go.WideMaps Go.Maps Tryz
theorem Le{a b:Int}(h:(DataW.lit (Lit.int .i64 a):DataW Unit)=.lit (.int .i64 b)):a=b:=by
 injection h with h;injection h
theorem Bk:(prog.info? 60).map (·.size)=some 24:=by kernel_rfl
theorem CF:Qo 60 24:=⟨_,underlying60,rfl,Bk⟩
abbrev Bh:Array Value:=#[.pointer none,.int .i64 0,.string ⟨#[]⟩,.string ⟨#[]⟩,.int .i64 0,.int .i64 0,.int .i64 0,.int .i64 0,.string ⟨#[]⟩,.slice none 0 0,.int .i64 0,.string ⟨#[]⟩,.string ⟨#[]⟩,.string ⟨#[]⟩,.int .i64 0,.string ⟨#[]⟩,.string ⟨#[]⟩,.slice none 0 0,.int .i64 0,.int .i64 0,.bool false,.int .i64 0,.int .i64 0,.int .i64 0]
theorem Eb{g k:Nat}(h:k≠g):∀(vs:List Value)(o:Nat)(w:World),(w.setCells g o vs).heap[k]?=w.heap[k]?
 |[],_,_=>rfl
 |v::r,o,w=>(Eb h r (o+1) _).trans (Below.heap_setCell w ⟨g,o,none⟩ v k h)
theorem Jr{H:Type}{P:Program}{k:TypeId}{R:Value->Option (DataW H×List MemPlace)}{m n:Nat}{D:DataW H}{w:World}(h:w.ownsMap P k R m n D){g:Nat}{cs:Array Value}{t:TypeId}(hz:Blk g cs t w)(o:Nat)(vs:List Value):(w.setCells g o vs).ownsMap P k R m n D:=by
 obtain⟨es,clock,h1,h2,h3,h4⟩:=h;have hne:m≠g:=by
  rintro rfl;have:=h1.symm.trans (show w.heap[m]?=_ from hz);cases this
 exact⟨es,clock,(Eb hne vs o w).trans h1,h2,h3,h4⟩
theorem Found.cells{p m1 m2 m3 m4:Nat}{x:Flt}{a1:OA}{c1:Nat}{a2:OA}{c2:Nat}{a3:OA}{c3:Nat}{w:World}(h:Found p m1 m2 m3 m4 x a1 c1 a2 c2 a3 c3 w){g:Nat}{cs:Array Value}{t:TypeId}(hz:Blk g cs t w)(hp:p≠g)(o:Nat)(vs:List Value):Found p m1 m2 m3 m4 x a1 c1 a2 c2 a3 c3 (w.setCells g o vs):=by
 refine⟨λj v hj=>?_,by rw[Az];exact h.2.1,Jr h.2.2.1 hz o vs,Jr h.2.2.2.1 hz o vs,Jr h.2.2.2.2.1 hz o vs,?_⟩
 .rw[World.cell?_of_block (w:=w) (a:=⟨p,0+j,none⟩) (Eb hp vs o w)]
  exact h.1 j v hj
 .rw[Eb ?_ vs o w]
  .exact h.2.2.2.2.2
  .rintro rfl
   have:=h.2.2.2.2.2.symm.trans (show w.heap[m4]?=_ from hz);cases this
theorem Jk{P:Program}{fn:Func}{p q:Tmp}{ty:TypeId}(h:fn.results=#[.cell p ty,.tmp q])(tmps:Array Value)(w:World)(g:Nat)(cs:List Value)(d:TypeDesc)(hp:tmps.getD p undef=.pointer (some ⟨g,0,none⟩))(hc:w.rangeAt g 0 cs)(hu:P.underlying ty=some d)(hd:d.isRow=true)(hi:(P.info? ty).map (·.size)=some cs.length) :
  (results fn tmps).run P w=.ok (.tuple #[.agg cs.toArray,tmps.getD q undef]) w:=by
 have hp':tmps[p]?.getD undef=.pointer (some ⟨g,0,none⟩):=by simpa using hp
 simp[results,h,hp',asAddr,run_loadVar_mid w g 0 ty cs d hc hu hd hi]
def SpotK(W:World)(lo ci bi:Nat)(x:Flt)(a1 a3:OA)(y:Cpy)(a7:OA)(b:Brt)(am:OA):Prop :=
 SliceC BrtC 6 lo W a1 x.berths/\SliceC CpyC 12 lo W a3 x.copies/\SliceC LikC 2 lo W a7 y.likes/\SliceC StrC 1 lo W am b.marks/\Au x=true/\x.copies[ci]?=some y/\x.berths[bi]?=some b
theorem Zf{m4 lo:Nat}{n n':BA×Nat}{bs bs':List Brt}{w w':World}(hb:But m4 w.heap.size w w')(h:MemoAt m4 n bs w)(h':MemoAt m4 n' bs' w'):Keeps lo w w':=by
 obtain⟨_,_,_,⟨es,cl,g1,_⟩,_⟩:=h;obtain⟨_,_,_,⟨es',cl',g2,_⟩,_⟩:=h';refine⟨hb.size,λb o _ hl=>?_⟩;by_cases e:b=m4
 .subst e
  simp[World.cell?,World.frozen?,g1,g2]
 .have h9:=hb.block b hl e
  simp[World.cell?,World.frozen?,h9]
theorem SpotK.keep{lo ci bi:Nat}{x:Flt}{a1 a3:OA}{y:Cpy}{a7:OA}{b:Brt}{am:OA}{w w':World}(h:SpotK w lo ci bi x a1 a3 y a7 b am)(k:Keeps lo w w'):SpotK w' lo ci bi x a1 a3 y a7 b am :=
 ⟨h.1.keep BrtC.holds k nL,h.2.1.keep CpyC.holds k nL,h.2.2.1.keep LikC.holds k nL,h.2.2.2.1.keep StrC.holds k nL,h.2.2.2.2⟩
def mU(f:Nat)(t:Bool)(W:World)(p m1 m2 m3 m4 ci bi:Nat)(x:Flt)(a1:OA)(c1:Nat)(a2:OA)(c2:Nat)(a3:OA)(c3:Nat)(y:Cpy)(a7:OA)(c7:Nat)(b:Brt)(am:OA)(cm:Nat)(u1 u2 u3:Int):Prop :=
 ∀(w:World),Below W.heap.size W w->FoundM p m1 m2 m3 m4 (y.select,bi) x a1 c1 a2 c2 a3 c3 w->Calls prog f #[.agg (Ai p ci bi y a7 c7 b am cm u1 u2 u3)] w λe w'=>e=.returned (.bool t)/\MemoAt m4 (y.select,bi) x.berths w'/\But m4 w.heap.size w w'
theorem jX(p ci bi:Nat)(y:Cpy)(a7:OA)(c7:Nat)(b:Brt)(am:OA)(cm:Nat)(u1 u2 u3:Int)(w:World) :
  Calls prog 117 #[.agg (Ai p ci bi y a7 c7 b am cm u1 u2 u3)] w (Rt (.bool b.closed) w):=by
 go_enter func117,ntmps117
 go_wp2
 go_ret;exact⟨rfl,by go_grown⟩
theorem Va{s:BA}(h:s=⟨#[]⟩):s.toList.isEmpty=true:=by rw[Bj h];rfl
theorem Se{s:BA}(h:¬s=⟨#[]⟩):s.toList.isEmpty=false:=by
 cases e:s.toList with
 |nil=>exact absurd e (Ay h)
 |cons a l=>rfl
theorem Ws(p ci bi:Nat)(y:Cpy)(a7:OA)(c7:Nat)(b:Brt)(am:OA)(cm:Nat)(u1 u2 u3:Int)(w:World) :
  Calls prog 137 #[.agg (Ai p ci bi y a7 c7 b am cm u1 u2 u3)] w (Rt (.bool (Hn y b)) w):=by
 by_cases h1:y.fixed=⟨#[]⟩
 .have HE:Hid (Hn y b=false):=by show _=_;unfold Hn;rw[decide_eq_false (λh=>h h1)];rfl
  have t1:=Bj h1;have t2:=Va h1;clear h1;go_enter func137,ntmps137
  go_wp2
  go_ret;exact⟨Ab HE.out.symm,by go_grown⟩
 .have t1:=Ay h1
  have t2:=Se h1;by_cases h2:y.fixed=b.name
  .have HE:Hid (Hn y b=false):=by show _=_;unfold Hn;rw[decide_eq_false (p:=¬y.fixed=b.name) (λh=>h h2),Bool.and_false]
   have t3:=Br h2;clear h1 h2;go_enter func137,ntmps137
   go_wp2
   go_ret;exact⟨Ab HE.out.symm,by go_grown⟩
  .have HE:Hid (Hn y b=true):=by show _=_;unfold Hn;rw[decide_eq_true h1,decide_eq_true h2];rfl
   have t3:=Bu h2;clear h1 h2;go_enter func137,ntmps137
   go_wp2
   go_ret;exact⟨Ab HE.out.symm,by go_grown⟩
theorem uR(p ci bi:Nat)(y:Cpy)(a7:OA)(c7:Nat)(b:Brt)(am:OA)(cm:Nat)(u1 u2 u3:Int)(w:World) :
  Calls prog 141 #[.agg (Ai p ci bi y a7 c7 b am cm u1 u2 u3)] w (Rt (.bool (decide (10<=u1))) w):=by
 by_cases h:10<=u1
 .rw[decide_eq_true h]
  go_enter func141,ntmps141
  go_wp2
  go_ret;exact⟨rfl,by go_grown⟩
 .rw[decide_eq_false h]
  go_enter func141,ntmps141
  go_wp2
  go_ret;exact⟨rfl,by go_grown⟩
theorem aH(p ci bi:Nat)(y:Cpy)(a7:OA)(c7:Nat)(b:Brt)(am:OA)(cm:Nat)(u1 u2 u3:Int)(w:World)(h0:0<=u2)(h1:u2<=60000)(h2:0<=y.room)(h3:y.room<=1000) :
  Calls prog 142 #[.agg (Ai p ci bi y a7 c7 b am cm u1 u2 u3)] w (Rt (.bool (decide (b.room<u2+y.room))) w):=by
 by_cases h:b.room<u2+y.room
 .rw[decide_eq_true h]
  go_enter func142,ntmps142
  go_wp2
  go_ret;exact⟨rfl,by go_grown⟩
 .rw[decide_eq_false h]
  go_enter func142,ntmps142
  go_wp2
  go_ret;exact⟨rfl,by go_grown⟩
theorem bK(p ci bi:Nat)(y:Cpy)(a7:OA)(c7:Nat)(b:Brt)(am:OA)(cm:Nat)(u1 u2 u3:Int)(w:World)(h0:0<=u3)(h1:u3<=60000)(h2:0<=y.hold)(h3:y.hold<=1000) :
  Calls prog 143 #[.agg (Ai p ci bi y a7 c7 b am cm u1 u2 u3)] w (Rt (.bool (decide (b.hold<u3+y.hold))) w):=by
 by_cases h:b.hold<u3+y.hold
 .rw[decide_eq_true h]
  go_enter func143,ntmps143
  go_wp2
  go_ret;exact⟨rfl,by go_grown⟩
 .rw[decide_eq_false h]
  go_enter func143,ntmps143
  go_wp2
  go_ret;exact⟨rfl,by go_grown⟩
theorem jW(W:World)(lo p m1 m2 m3 m4 ci bi:Nat)(x:Flt)(a1:OA)(c1:Nat)(a2:OA)(c2:Nat)(a3:OA)(c3:Nat)(y:Cpy)(a7:OA)(c7:Nat)(b:Brt)(am:OA)(cm:Nat)(u1 u2 u3:Int)(hK:SpotK W lo ci bi x a1 a3 y a7 b am)(hsel:y.select.size<=maxLen) :
  mU 138 (!Dg y.select b.marks b.zone) W p m1 m2 m3 m4 ci bi x a1 c1 a2 c2 a3 c3 y a7 c7 b am cm u1 u2 u3:=by
 intro w hW hF;obtain⟨_,_,_,nm,hv,_,hb⟩:=hK;obtain⟨l1,_,hbr,_⟩:=Bb hv;obtain⟨_,hbz,_,hmk⟩:=hbr bi b hb;have hbi:bi<=1048576:=by have:=Ac hb;omega
 have hml:=Xh hmk;have hz:=Ou hbz;have NM:=iH nm;have HB:=iH hb;have HW:=iH hW;have HF:=iH hF;have HS:=iH hsel;clear hv hbr hbz hmk nm hb hW hF hsel;go_enter func138,ntmps138;go_upto_region 1 with fail;have hb0:=(Below.refl _ w).alloc nL (Obj.cells (Ai p ci bi y a7 c7 b am cm u1 u2 u3) 60);have HX:=iH (Blk.alloc w (Ai p ci bi y a7 c7 b am cm u1 u2 u3) 60);have HF0:=iH (HF.out.below hb0);have HW0:=qTH HW hb0;have HB0:=iH hb0;have s8:(w.alloc (Obj.cells (Ai p ci bi y a7 c7 b am cm u1 u2 u3) 60)).cell? ⟨w.heap.size,8,none⟩=some (.string y.select):=HX.out.cell rfl;generalize w.alloc (Obj.cells (Ai p ci bi y a7 c7 b am cm u1 u2 u3) 60)=w0 at *;clear hb0;go_wp2_with(first|(refine wpList_load_mid rfl 60 _ rfl w.heap.size 0 (by first|rfl|(simp[go_sem];done)) (Ai p ci bi y a7 c7 b am cm u1 u2 u3).toList _ HX.out.rangeA underlying60 rfl Bk ?_));obtain⟨n',D,⟨hn',hn2⟩,o4,hm⟩:=HF0.out.memo;refine(wQ p m4 ci bi n' y a7 c7 b am cm u1 u2 u3 x.berths D y.select lo _ (HF0.out.1 7 _ rfl) o4 hm HB hbi (by omega) (NM.out.below StrC.holds HW0 nL) hml hz HS).mono ?_;rintro e w5⟨rfl,n5,D5,ho5,hm5,hq5,hb5⟩
 have HM5:Hid (MemoAt m4 (y.select,bi) x.berths w5):=⟨n5,D5,⟨by
  by_cases e1:n'=1
  .obtain⟨l,hl⟩:=AM y.select bi HS hbi
   have:=(hq5.2 l hl).2 (hn2 e1 l hl);omega
  .have:=hq5.1
   omega,λ_ l hl=>(hq5.2 l hl).1⟩,ho5,hm5⟩
 have HB5:Hid (But m4 w.heap.size w w5):=(But.of_below HB0).trans (hb5.mono HB0.out.size);clear o4 hm ho5 hm5 hq5 hb5 hn2;obtain⟨q,hq⟩:∃q,Dg y.select b.marks b.zone=q:=⟨_,rfl⟩;have HQ:=iH hq;rw[hq];clear hq;cases q
 all_goals
  go_wp2
  go_ret;exact⟨Ab (by rw[HQ.out];rfl),HM5,HB5⟩
end Go.Proofs.YtpidfnfilnkhkaaGreat
