import Derived.Test.YthboopnmbglkjaaGreatJ40
set_option maxHeartbeats 2000000
set_option maxRecDepth 100000
namespace Go.Proofs.YthboopnmbglkjaaGreat
open Go.RowKit Go.WideMaps Go.Maps Tryz
attribute [local go_sem] Oper.semAt_some
def Qh(w:World)(h:Nat):World:={w with heap:=w.heap.take h}
theorem Ez{w:World}{h:Nat}(hl:h<=w.heap.size):(Qh w h).heap.size=h:=by
 show(w.heap.take h).size=h
 simp;omega
theorem Tl{w:World}{h k:Nat}(hk:k<h):(Qh w h).heap[k]?=w.heap[k]?:=by
 show(w.heap.extract 0 h)[k]?=w.heap[k]?
 rw[Array.getElem?_extract]
 split
 .simp
 rename_i hn
 rw[Array.getElem?_eq_none (by omega)]
theorem Uc{w:World}{h:Nat}(hl:h<=w.heap.size):Below (Qh w h).heap.size (Qh w h) w where
 os:=rfl
 tape:=rfl
 output:=rfl
 size:=by rw[Ez hl];exact hl
 block:=λk hk=>by rw[Ez hl]at hk;exact(Tl hk).symm
theorem Keeps.cut{lo h:Nat}{W w:World}(k:Keeps lo W w)(h1:W.heap.size<=h)(hl:h<=w.heap.size):Keeps lo W (Qh w h):=by
 refine⟨by rw[Ez hl];exact h1,λb o b1 b2=>?_⟩;have e:=Tl (w:=w) (h:=h) (k:=b) (by omega);exact⟨(World.cell?_of_block (a:=(E b o)) e).trans (k.2 b o b1 b2).1,(World.frozen?_of_block (a:=(E b o)) e).trans (k.2 b o b1 b2).2⟩
theorem Yp{P:Program}{c:Code}{Q:Exit->Act->World->Prop}{a:Act}{w:World}(h:c.wp P (λe a' w'=>e=Exit.normal/\Q Exit.normal a' w') a w):c.wp P Q a w :=
 Code.wp_mono (by rintro e a w⟨rfl,h⟩;exact h) h
abbrev zI(L0 f:Int)(z nm:BA)(xs:List StX):Array Value:=#[X L0,X ((Nw z xs:Nat):Int),X ((Ny nm xs:Nat):Int),X f]
abbrev brA(s:StX):Array Value:=#[Y s.b.name,Y s.b.zone,.slice s.am s.b.marks.length s.cm,X s.b.room,X s.b.hold,.bool s.b.closed]
theorem oJ(p m1 m2 m3 m4 ci bi:Nat)(x:Flt)(a1:OA)(c1:Nat)(a2:OA)(c2:Nat)(a3:OA)(c3:Nat)(y:Cpy)(a7:OA)(c7:Nat)(b:Brt)(am:OA)(cm:Nat)(u1 u2 u3:Int)(lo:Nat)(W w:World)(hW:bW W w)(n:Nat)(hn:n<=8000000)(hf:FoundM p m1 m2 m3 m4 n x a1 c1 a2 c2 a3 c3 w)(n1:sB lo W a1 x.berths)(n3:sC lo W a3 x.copies)(n7:sK lo W a7 y.likes)(nm:sX lo W am b.marks)(hv:Bb x=true)(hy:x.copies[ci]?=some y)(hb:x.berths[bi]?=some b)(hu:u2=Bl x ci b.name x.copies.length) :
  Calls prog 146 #[.agg (An p ci bi y a7 c7 b am cm u1 u2 u3)] w λe w'=>e=.returned (.agg (sW x ci y b))/\MemoAt m4 (n+5) x.berths w'/\But m4 w.heap.size w w':=by
 obtain⟨_,l3,_,_,_,_⟩:=Bh hv;obtain⟨_,_,hbr,hcp⟩:=Au hv;have hrb:=Jt ci b.name (λk c h=>(hcp k c h).1) x.copies.length;obtain⟨hu0,hu1⟩:0<=u2/\u2<=60000:=by rw[hu];omega
 obtain⟨⟨hy0,hy1⟩,hlk,_⟩:=hcp ci y hy;obtain⟨hll,hlw⟩:=Sn hlk;obtain⟨hbn,hbz,⟨hb0,hb1⟩,hmk⟩:=hbr bi b hb;have HBN:=iH (Gx hbn);have HW:=iH hW;have HF:=iH hf;have N1:=iH n1;have N3:=iH n3;have N7:=iH n7;have NM:=iH nm;have HV:=iH hv;have HY:=iH hy;have HB:=iH hb;have HU:=iH hu;have HLW:=iH hlw;have HZ:=iH (Co hbz);have HMK:=iH (Kq hmk);clear hbn;clear hW hf n1 n3 n7 nm hv hy hb hu hlw hbz hmk hbr hcp hrb hlk;refine(callsIn_wide (n:=7)).1 ?_;refine callsIn_of_wp_marks func146 rfl trivial ?_ rfl;refine wpIn_wide.2 ?_;simp only[ntmps146,List.size_toArray,List.length_cons,List.length_nil,Nat.reduceAdd,Nat.reduceSub,Array.replicate_succ,Array.replicate_zero,List.push_toArray,List.append_toArray,List.nil_append,List.cons_append];go_upto_region 1 with fail;have e0:Blk w.heap.size (An p ci bi y a7 c7 b am cm u1 u2 u3) 201 ((w.alloc (Obj.cells (An p ci bi y a7 c7 b am cm u1 u2 u3) 201)).alloc (Obj.cells #[X 0,X 0,X 0,X 0] 134)):=(Blk.alloc w (An p ci bi y a7 c7 b am cm u1 u2 u3) 201).below ((Below.refl _ _).alloc nL _) (Blk.alloc w (An p ci bi y a7 c7 b am cm u1 u2 u3) 201).lt;have e1:Blk (w.heap.size+1) #[X 0,X 0,X 0,X 0] 134 ((w.alloc (Obj.cells (An p ci bi y a7 c7 b am cm u1 u2 u3) 201)).alloc (Obj.cells #[X 0,X 0,X 0,X 0] 134)):=by
  have h:=Blk.alloc (w.alloc (Obj.cells (An p ci bi y a7 c7 b am cm u1 u2 u3) 201)) #[X 0,X 0,X 0,X 0] 134;simpa using h
 have e2:bW w ((w.alloc (Obj.cells (An p ci bi y a7 c7 b am cm u1 u2 u3) 201)).alloc (Obj.cells #[X 0,X 0,X 0,X 0] 134)):=((Below.refl _ w).alloc nL _).alloc (by simp) _;have HS1:=iH e0;have HZ1:=iH e1;have HB1:=iH e2;clear e0 e1 e2;generalize((w.alloc (Obj.cells (An p ci bi y a7 c7 b am cm u1 u2 u3) 201)).alloc (Obj.cells #[X 0,X 0,X 0,X 0] 134))=w1 at *;have hm4w:m4<w.heap.size:=HF.out.memo.lt;have hpm:p≠m4:=HF.out.2.2.2.2.2.2.1;have hbi:bi<=1048576:=by have:=Af HB;have:=(Au HV).1;omega
 have HF1:=iH (HF.out.below HB1);have HW1:=iH (HW.out.trans (HB1.out.mono HW.out.size));have hsz1:w.heap.size+1<w1.heap.size:=HZ1.out.lt;obtain⟨L0,hL0⟩:∃L0,L0=(Ct (λt=>Ch t b.marks b.zone) y.likes y.likes.length):=⟨_,rfl⟩;have HL0:=iH hL0;clear hL0;refine Yp ?_;refine wp_region_held_drew (S:=λwy=>wy.rangeAt w.heap.size 0 (An p ci bi y a7 c7 b am cm u1 u2 u3).toList) (by kernel_rfl) (Bk HS1.out.rangeA) (λhS=>?_);refine tz 0 6 (pP w.heap.size 2) ?_;refine tz 1 7 (pP w.heap.size 9) ?_;refine ty 2 ⟨some 8,_,_,_,_,none⟩ (.slice a7 y.likes.length c7) ?_ ?_
 .intro wy hy
  have c9:wy.cell? (E w.heap.size 9)=some (.slice a7 y.likes.length c7):=by simpa using hy 9 _ rfl
  clear hy;go_simp
 refine tk 3 ⟨some 9,_,_,_,_,none⟩ (.agg (An p ci bi y a7 c7 b am cm u1 u2 u3)) rfl (yieldsIf_load_mid rfl 201 (.tmp 1) rfl w.heap.size 0 rfl (An p ci bi y a7 c7 b am cm u1 u2 u3).toList _ (λ_ h=>h) underlying201 rfl Es) hS ?_;refine tz 4 10 (.func (.func 166) #[.agg (An p ci bi y a7 c7 b am cm u1 u2 u3)] #[]) ?_;refine ty 6 ⟨some 12,_,_,_,_,none⟩ (pP w.heap.size 15) ?_ ?_
 .intro wy hy
  have c18:wy.cell? (E w.heap.size 18)=some (X b.room):=by simpa using hy 18 _ rfl
  have c22:wy.cell? (E w.heap.size 22)=some (X u2):=by simpa using hy 22 _ rfl
  have c6:wy.cell? (E w.heap.size 6)=some (X y.room):=by simpa using hy 6 _ rfl
  clear hy;go_simp
 refine ty 7 ⟨some 13,_,_,_,_,none⟩ (pP w.heap.size 18) ?_ ?_
 .intro wy hy
  have c18:wy.cell? (E w.heap.size 18)=some (X b.room):=by simpa using hy 18 _ rfl
  have c22:wy.cell? (E w.heap.size 22)=some (X u2):=by simpa using hy 22 _ rfl
  have c6:wy.cell? (E w.heap.size 6)=some (X y.room):=by simpa using hy 6 _ rfl
  clear hy;go_simp
 refine ty 8 ⟨some 14,_,_,_,_,none⟩ (X b.room) ?_ ?_
 .intro wy hy
  have c18:wy.cell? (E w.heap.size 18)=some (X b.room):=by simpa using hy 18 _ rfl
  have c22:wy.cell? (E w.heap.size 22)=some (X u2):=by simpa using hy 22 _ rfl
  have c6:wy.cell? (E w.heap.size 6)=some (X y.room):=by simpa using hy 6 _ rfl
  clear hy;go_simp
 refine ty 9 ⟨some 15,_,_,_,_,none⟩ (pP w.heap.size 21) ?_ ?_
 .intro wy hy
  have c18:wy.cell? (E w.heap.size 18)=some (X b.room):=by simpa using hy 18 _ rfl
  have c22:wy.cell? (E w.heap.size 22)=some (X u2):=by simpa using hy 22 _ rfl
  have c6:wy.cell? (E w.heap.size 6)=some (X y.room):=by simpa using hy 6 _ rfl
  clear hy;go_simp
 refine ty 10 ⟨some 16,_,_,_,_,none⟩ (pP w.heap.size 22) ?_ ?_
 .intro wy hy
  have c18:wy.cell? (E w.heap.size 18)=some (X b.room):=by simpa using hy 18 _ rfl
  have c22:wy.cell? (E w.heap.size 22)=some (X u2):=by simpa using hy 22 _ rfl
  have c6:wy.cell? (E w.heap.size 6)=some (X y.room):=by simpa using hy 6 _ rfl
  clear hy;go_simp
 refine ty 11 ⟨some 17,_,_,_,_,none⟩ (X u2) ?_ ?_
 .intro wy hy
  have c18:wy.cell? (E w.heap.size 18)=some (X b.room):=by simpa using hy 18 _ rfl
  have c22:wy.cell? (E w.heap.size 22)=some (X u2):=by simpa using hy 22 _ rfl
  have c6:wy.cell? (E w.heap.size 6)=some (X y.room):=by simpa using hy 6 _ rfl
  clear hy;go_simp
 refine ty 12 ⟨some 18,_,_,_,_,none⟩ (X (b.room-u2)) ?_ ?_
 .intro wy hy
  have c18:wy.cell? (E w.heap.size 18)=some (X b.room):=by simpa using hy 18 _ rfl
  have c22:wy.cell? (E w.heap.size 22)=some (X u2):=by simpa using hy 22 _ rfl
  have c6:wy.cell? (E w.heap.size 6)=some (X y.room):=by simpa using hy 6 _ rfl
  clear hy;go_simp;rw[IntKind.wrap_i64];omega
 refine ty 13 ⟨some 19,_,_,_,_,none⟩ (pP w.heap.size 2) ?_ ?_
 .intro wy hy
  have c18:wy.cell? (E w.heap.size 18)=some (X b.room):=by simpa using hy 18 _ rfl
  have c22:wy.cell? (E w.heap.size 22)=some (X u2):=by simpa using hy 22 _ rfl
  have c6:wy.cell? (E w.heap.size 6)=some (X y.room):=by simpa using hy 6 _ rfl
  clear hy;go_simp
 refine ty 14 ⟨some 20,_,_,_,_,none⟩ (pP w.heap.size 6) ?_ ?_
 .intro wy hy
  have c18:wy.cell? (E w.heap.size 18)=some (X b.room):=by simpa using hy 18 _ rfl
  have c22:wy.cell? (E w.heap.size 22)=some (X u2):=by simpa using hy 22 _ rfl
  have c6:wy.cell? (E w.heap.size 6)=some (X y.room):=by simpa using hy 6 _ rfl
  clear hy;go_simp
 refine ty 15 ⟨some 21,_,_,_,_,none⟩ (X y.room) ?_ ?_
 .intro wy hy
  have c18:wy.cell? (E w.heap.size 18)=some (X b.room):=by simpa using hy 18 _ rfl
  have c22:wy.cell? (E w.heap.size 22)=some (X u2):=by simpa using hy 22 _ rfl
  have c6:wy.cell? (E w.heap.size 6)=some (X y.room):=by simpa using hy 6 _ rfl
  clear hy;go_simp
 refine ty 16 ⟨some 22,_,_,_,_,none⟩ (X (b.room-u2-y.room)) ?_ ?_
 .intro wy hy
  have c18:wy.cell? (E w.heap.size 18)=some (X b.room):=by simpa using hy 18 _ rfl
  have c22:wy.cell? (E w.heap.size 22)=some (X u2):=by simpa using hy 22 _ rfl
  have c6:wy.cell? (E w.heap.size 6)=some (X y.room):=by simpa using hy 6 _ rfl
  clear hy;go_simp;rw[IntKind.wrap_i64];omega
 refine wpAnyH_ready (rs:=[5,18]) (by kernel_rfl) (by simp) (AllReadyH.cons (o:=⟨some 11,_,_,_,_,none⟩) rfl (λK hK=>?_) (AllReadyH.cons (o:=⟨some 3,_,_,_,_,none⟩) rfl (λK hK=>?_) AllReadyH.nil))
 case' _ =>
  go_simp;refine(Ze p m4 ci bi n y a7 c7 b am cm u1 u2 u3 x.berths lo W _ (Keeps.of_below HW1.out.drew nL lo) (by simpa using HF1.out.1 7 _ rfl) hpm HF1.out.memo.drew HB hbi (by omega) NM N7 HMK HZ hll HLW).mono ?_;rintro e w2⟨rfl,hmm,hbt⟩;rw[<-HL0.out];have hr2:w2.rangeAt w.heap.size 0 (An p ci bi y a7 c7 b am cm u1 u2 u3).toList:=λj v hj=>(hbt.cell (a:=(E w.heap.size (0+j))) (by show w.heap.size<w1.heap.size;omega) (by show w.heap.size≠m4;omega)).trans (HS1.out.rangeA j v hj)
  refine hK.out _ _ hr2 (λhS=>?_);clear hK K hr2;refine tz 17 23 (.agg #[X L0,X 0,X 0,X (b.room-u2-y.room)]) ?_;refine rd1 18 ⟨some 3,_,_,_,_,none⟩ rfl (λK hK=>?_);go_simp;have hba:=(Below.refl _ w2).alloc nL (Obj.cells #[X 0,X 0,X 0,X 0] 134);have hs2:w1.heap.size<=w2.heap.size:=hbt.size;refine hK.out _ _ (Ac hS hba (by omega)) (λhS=>?_);clear hK K;have HG3:=iH (Blk.alloc w2 #[X 0,X 0,X 0,X 0] 134);have HMM:Hid (MemoAt m4 (n+5) x.berths (w2.alloc (Obj.cells #[X 0,X 0,X 0,X 0] 134))):=hmm.below hba (by omega);clear hmm;have HT3:Hid (But m4 w1.heap.size w1 (w2.alloc (Obj.cells #[X 0,X 0,X 0,X 0] 134))):=((But.refl m4 w1.heap.size w1).drew.trans hbt).trans (But.of_below (hba.mono hs2));obtain⟨g,hg⟩:∃g,g=w2.heap.size:=⟨_,rfl⟩;have hg1:w1.heap.size<=g:=by omega
  generalize w2.alloc (Obj.cells #[X 0,X 0,X 0,X 0] 134)=w3 at *;rw[<-hg]at HG3⊢;clear hg hba hbt hs2
 rotate_left
 case' _ =>
  go_simp;have hba:bW w1 (w1.alloc (Obj.cells #[X 0,X 0,X 0,X 0] 134)).drew:=((Below.refl _ w1).alloc nL _).drew;refine hK.out _ _ (Ac HS1.out.rangeA hba (by omega)) (λhS=>?_);clear hK K;have HG2:Hid (Blk w1.heap.size #[X 0,X 0,X 0,X 0] 134 (w1.alloc (Obj.cells #[X 0,X 0,X 0,X 0] 134)).drew):=(Blk.alloc w1 _ _).drew;have HF2:=iH (HF1.out.below hba);have HW2:=qTH HW1 hba;have hs2:w1.heap.size<(w1.alloc (Obj.cells #[X 0,X 0,X 0,X 0] 134)).drew.heap.size:=HG2.out.lt;generalize(w1.alloc (Obj.cells #[X 0,X 0,X 0,X 0] 134)).drew=w2 at *;refine rd1 5 ⟨some 11,_,_,_,_,none⟩ rfl (λK hK=>?_);go_simp;refine(Ze p m4 ci bi n y a7 c7 b am cm u1 u2 u3 x.berths lo W _ (Keeps.of_below HW2 nL lo) (HF2.out.1 7 _ rfl) hpm HF2.out.memo HB hbi (by omega) NM N7 HMK HZ hll HLW).mono ?_;rintro e w3⟨rfl,hmm,hbt⟩;rw[<-HL0.out];have hr3:w3.rangeAt w.heap.size 0 (An p ci bi y a7 c7 b am cm u1 u2 u3).toList:=λj v hj=>(hbt.cell (a:=(E w.heap.size (0+j))) (by show w.heap.size<w2.heap.size;omega) (by show w.heap.size≠m4;omega)).trans (hS j v hj)
  refine hK.out _ _ hr3 (λhS=>?_);clear hK K hr3;refine tz 17 23 (.agg #[X L0,X 0,X 0,X (b.room-u2-y.room)]) ?_;have HMM:=iH hmm;clear hmm;have HT3:Hid (But m4 w1.heap.size w1 w3):=(But.of_below hba).trans (hbt.mono (by omega));have HG3:Hid (Blk w1.heap.size #[X 0,X 0,X 0,X 0] 134 w3):=(hbt.block w1.heap.size hs2 (by omega)).trans HG2;obtain⟨g,hg⟩:∃g,g=w1.heap.size:=⟨_,rfl⟩;have hg1:w1.heap.size<=g:=by omega
  simp only[<-hg]at HG3⊢;clear hg hba hbt hs2 HG2 HF2 HW2
 rotate_left
 all_goals
  refine rd1 19 ⟨none,_,_,_,_,none⟩ rfl (λK hK=>?_);rw[if_pos (by rfl)];refine wp_store_mid 134 (.tmp 3) (.tmp 23) (by rfl) g 0 #[X L0,X 0,X 0,X (b.room-u2-y.room)] (by rfl) (by rfl) HG3.out.there Fr (by simp[Value.oneCell']) ?_;have HG5:Hid (Blk g #[X L0,X 0,X 0,X (b.room-u2-y.room)] 134 (w3.setCells g 0 [X L0,X 0,X 0,X (b.room-u2-y.room)])):=(((HG3.out.set 0 _).set 1 _).set 2 _).set 3 _;have HT5:Hid (But m4 w1.heap.size w1 (w3.setCells g 0 [X L0,X 0,X 0,X (b.room-u2-y.room)])):=HT3.out.trans (But.of_below (Ae hg1 _ _ _ (Below.refl _ _)));have hrs:(w3.setCells g 0 [X L0,X 0,X 0,X (b.room-u2-y.room)]).rangeAt w.heap.size 0 (An p ci bi y a7 c7 b am cm u1 u2 u3).toList:=Ac hS (Ae (B:=w1.heap.size) hg1 _ _ _ (Below.refl _ _)) (by omega);have HM5:Hid (MemoAt m4 (n+5) x.berths (w3.setCells g 0 [X L0,X 0,X 0,X (b.room-u2-y.room)])):=HMM.out.below (Ae (B:=w1.heap.size) hg1 _ _ _ (Below.refl _ _)) (by omega);refine hK.out _ _ hrs (λhS=>?_);clear hK K hrs HT3 HG3 HMM;generalize w3.setCells g 0 [X L0,X 0,X 0,X (b.room-u2-y.room)]=w5 at *;refine td ?_;refine⟨rfl,?_⟩;clear hS;have hgl:g<w5.heap.size:=HG5.out.lt;have hpl:p<w.heap.size:=HF.out.2.1;have hm1w:m1<w.heap.size:=HF.out.2.2.1.lt;have hm14:m1≠m4:=HF.out.2.2.2.2.2.2.2.1 (λe=>by have:=HB.out;rw[e]at this;cases this);have HS5:Hid (Blk w.heap.size (An p ci bi y a7 c7 b am cm u1 u2 u3) 201 w5):=(HT5.out.block w.heap.size (by omega) (by omega)).trans HS1;have HZ5:Hid (Blk (w.heap.size+1) #[X 0,X 0,X 0,X 0] 134 w5):=(HT5.out.block (w.heap.size+1) (by omega) (by omega)).trans HZ1;have HW5:Hid (Keeps lo W w5):=(Keeps.of_below HW1 nL lo).trans (Gv HT5 HF1.out.memo HM5);have HP1:Hid (w5.cell? (E p 1)=some (.slice a1 x.berths.length c1)):=(HT5.out.cell (a:=(E p 1)) (by show p<_;omega) hpm).trans (HF1.out.1 1 _ rfl);have HP3:Hid (w5.cell? (E p 3)=some (.slice a3 x.copies.length c3)):=(HT5.out.cell (a:=(E p 3)) (by show p<_;omega) hpm).trans (HF1.out.1 3 _ rfl);have HP4:Hid (w5.cell? (E p 4)=some (.map (some m1))):=(HT5.out.cell (a:=(E p 4)) (by show p<_;omega) hpm).trans (HF1.out.1 4 _ rfl);have HM1:Hid (w5.ownsMap prog 9 (plainElem prog 3) m1 x.berths.length (Aj (brN x) x.berths.length)):=by
   obtain⟨es,clock,q1,q2,q3,q4⟩:=HF1.out.2.2.1;exact⟨es,clock,(HT5.out.block m1 (by omega) hm14).trans q1,q2,q3,q4⟩
  have s3:w5.cell? (E w.heap.size 3)=some (Y y.service):=HS5.out.cell rfl;have hw15:w1.heap.size<=w5.heap.size:=HT5.out.size;have HBW5:Hid (But m4 w.heap.size w w5):=(But.of_below HB1).trans (HT5.out.mono HB1.out.size);have hw01:w.heap.size<=w1.heap.size:=HB1.out.size;clear HT5 HF1 HS1 HZ1 HW1;go_wp2_with(first|(refine wpList_load_mid rfl 201 _ rfl w.heap.size 0 (by first|rfl|(simp[go_sem];done)) (An p ci bi y a7 c7 b am cm u1 u2 u3).toList _ HS5.out.rangeA underlying201 rfl Es ?_));refine(Lc (An p ci bi y a7 c7 b am cm u1 u2 u3) y.service _).mono ?_;rintro e w6⟨rfl,hw6⟩;have hb6:bW w5 w6:=by rw[hw6];exact((Below.refl _ w5).alloc nL _).alloc (by simp) _
  have HX6:Hid (Blk w5.heap.size (An p ci bi y a7 c7 b am cm u1 u2 u3) 201 w6):=by
   rw[hw6];exact(Blk.alloc w5 _ _).below ((Below.refl _ _).alloc nL _) (Blk.alloc w5 _ _).lt
  have HV6:Hid (Blk (w5.heap.size+1) #[Y y.service] 9 w6):=by
   rw[hw6];have h:=Blk.alloc (w5.alloc (Obj.cells (An p ci bi y a7 c7 b am cm u1 u2 u3) 201)) #[Y y.service] 9;show Blk _ _ _ _
   simpa using h
  have HIT:Hid (ItIn p m1 w5.heap.size (w5.heap.size+1) ci x a1 c1 a3 c3 y.service w6):=⟨HX6.out.cell rfl,HX6.out.cell rfl,HV6.out.cell rfl,(hb6.cell (p:=(E p 1)) (by show p<_;omega)).trans HP1,(hb6.cell (p:=(E p 3)) (by show p<_;omega)).trans HP3,(hb6.cell (p:=(E p 4)) (by show p<_;omega)).trans HP4,Ag HM1 hb6 (by omega)⟩;have HQ6:Hid (Below w1.heap.size w5 w6):=hb6.mono hw15;have hw16:w1.heap.size<=w6.heap.size:=lT hw15 hb6.size;have HG6:Hid (Blk g #[X L0,X 0,X 0,X (b.room-u2-y.room)] 134 w6):=HG5.out.below hb6 hgl;have HS6:Hid (Blk w.heap.size (An p ci bi y a7 c7 b am cm u1 u2 u3) 201 w6):=HS5.out.below hb6 HS5.out.lt;have HZ6:Hid (Blk (w.heap.size+1) #[X 0,X 0,X 0,X 0] 134 w6):=HZ5.out.below hb6 HZ5.out.lt;have HW6:Hid (Keeps lo W w6):=HW5.out.trans (Keeps.of_below hb6 nL lo);have hs6:w5.heap.size+1<w6.heap.size:=HV6.out.lt;clear hw6 hb6 HG5 HS5 HZ5 HW5 HP1 HP3 HP4 HM1 HX6 HV6 s3;go_wp2_with fail
  refine wpIn_wide.1 (wpIn_rangeFunc_ownH (F:=Fence.wide) (n:=6) rfl (by omega) (gf:=188) (lb:=#[pP w5.heap.size 0,pP (w5.heap.size+1) 0]) rfl trivial (enters_of func188 (by kernel_rfl) rfl)
   (Hz p m1 w5.heap.size (w5.heap.size+1) ci g w6.heap.size x a1 c1 a3 c3 y.service lo (Qh w6 w.heap.size) w6 (Uc (by omega)) (N1.out.keep BrtC.holds (HW6.out.cut HW.out.size (by omega)) nL) (N3.out.keep CpyC.holds (HW6.out.cut HW.out.size (by omega)) nL) HIT l3 (by rw[Ez (by omega)];omega) (by rw[Ez (by omega)];omega) nL ⟨by omega,by omega⟩ ⟨by omega,by omega⟩ ⟨by omega,by omega⟩ ⟨by omega,by omega⟩)
   (λh1 h2=>h1.trans h2) (λW' l' o o' hl _ _ _=>⟨rfl,rfl,rfl,(grownBy_putObj' W' l' o').size,λk hk _=>World.putObj_heap_other (by omega)⟩) (Below.refl _ _) (λ_=>rfl)
   (λpre W'=>Blk g (zI L0 (b.room-u2-y.room) b.zone b.name pre) 134 W'/\Blk w.heap.size (An p ci bi y a7 c7 b am cm u1 u2 u3) 201 W'/\Blk (w.heap.size+1) #[X 0,X 0,X 0,X 0] 134 W'/\Below w1.heap.size w5 W'/\w6.heap.size<=W'.heap.size)
   (λ_ _ _=>False) ?_ ?_ ?_ (λs a' W'=>∃Bx,w6.heap.size<=Bx/\Blk Bx (brA s) 92 W'/\a'={tmps:=#[.agg (An p ci bi y a7 c7 b am cm u1 u2 u3),pP w.heap.size 0,pP (w.heap.size+1) 0,pP g 0,undef,pP Bx 0,pP w.heap.size 2,pP w.heap.size 9,.slice a7 y.likes.length c7,.agg (An p ci bi y a7 c7 b am cm u1 u2 u3),.func (.func 166) #[.agg (An p ci bi y a7 c7 b am cm u1 u2 u3)] #[],X L0,pP w.heap.size 15,pP w.heap.size 18,X b.room,pP w.heap.size 21,pP w.heap.size 22,X u2,X (b.room-u2),pP w.heap.size 2,pP w.heap.size 6,X y.room,X (b.room-u2-y.room),.agg #[X L0,X 0,X 0,X (b.room-u2-y.room)],.agg (An p ci bi y a7 c7 b am cm u1 u2 u3),pP w.heap.size 2,pP w.heap.size 3,Y y.service,.func (.func 188) #[] #[pP w5.heap.size 0,pP (w5.heap.size+1) 0],(Sl s)[0],(Sl s)[1],undef,undef,undef,undef,undef,undef,undef,undef,undef,undef,undef,undef,undef,undef,undef,undef,undef,undef,undef,undef,undef],defers:=[]}) ?_ ?_ ?_ ?_ ?_)
  .rintro s A B row⟨h1,h2,h3,h4,h5⟩hgr hr
   have hne:∀k,k<w6.heap.size->some k≠row:=λk hk e=>by have:=(hr _ e.symm).1;omega
   exact⟨h1.grown hgr (hne _ (by omega)),h2.grown hgr (hne _ (by omega)),h3.grown hgr (hne _ (by omega)),h4.grown hgr (lT hw15 h4.size) (λk e=>lT hw16 (hr k e).1),lT h5 hgr.size⟩
  .intro c s A B row h
   exact h.elim
  .exact⟨HG6,HS6,HZ6,HQ6,Nat.le_refl _⟩
  .rintro s a' _ A B row⟨Bx,h1,h2,h3⟩hgr hr
   refine⟨Bx,h1,h2.grown hgr (λe=>?_),h3⟩;obtain⟨_,o,ho,hc⟩:=hr _ e.symm;rw[show A.heap[Bx]?=_ from h2]at ho;cases ho
   cases hc
  .rintro l' pre s W' K⟨h1,h2,h3,h4,h5⟩hK
   have hKK:=iH hK;clear hK
   gi_wp2
   exact hKK.out _ _ ((KeepsOthers.alloc _ _).from _) (But.of_below ((Below.refl _ W').alloc h5 _)) ⟨h1.below ((Below.refl _ W').alloc nL _) h1.lt,h2.below ((Below.refl _ W').alloc nL _) h2.lt,h3.below ((Below.refl _ W').alloc nL _) h3.lt,h4.alloc (lT hw15 h4.size) _,by simp;omega⟩ ⟨W'.heap.size,h5,Blk.alloc _ _ _,rfl⟩
  .rintro l' pre s a' W' hl' ⟨r',hr'⟩⟨h1,h2,h3,h4,h5⟩⟨Bx,hBx,hbx,rfl⟩hlt'
   have hZn:Nw b.zone pre<=60:=lT List.countP_le_length (by omega);have hNn:Ny b.name pre<=60:=lT List.countP_le_length (by omega);have H1:=iH h1;have H2:=iH h2;have H3:=iH h3;have H4:=iH h4;have H5:=iH h5;obtain⟨Z,hZe⟩:∃Z:Int,((Nw b.zone pre:Nat):Int)=Z:=⟨_,rfl⟩;obtain⟨N,hNe⟩:∃N:Int,((Ny b.name pre:Nat):Int)=N:=⟨_,rfl⟩;unfold zI at H1;rw[hZe,hNe]at H1;have hZ0:0<=Z/\Z<=60:=by omega
   have hN0:0<=N/\N<=60:=by omega
   have c0:W'.cell? (E Bx 0)=some (Y s.b.name):=hbx.cell rfl;have c1:W'.cell? (E Bx 1)=some (Y s.b.zone):=hbx.cell rfl;have d0:W'.cell? (E w.heap.size 15)=some (Y b.name):=h2.cell rfl;have d1:W'.cell? (E w.heap.size 16)=some (Y b.zone):=h2.cell rfl;have o1:W'.cell? (E g 1)=some (X Z):=H1.out.cell rfl;have o2:W'.cell? (E g 2)=some (X N):=H1.out.cell rfl;have v1:W'.frozen? (E g 1)=false:=H1.out.frozen 1;have v2:W'.frozen? (E g 2)=false:=H1.out.frozen 2;have hx1:=H1.out.set 1 (X (Z+1));have c0':(W'.setCell (E g 1) (X (Z+1))).cell? (E Bx 0)=some (Y s.b.name):=(hbx.other (a:=(E g 1)) (by show Bx≠g;omega) _).cell rfl;have d0':(W'.setCell (E g 1) (X (Z+1))).cell? (E w.heap.size 15)=some (Y b.name):=(h2.other (a:=(E g 1)) (by show w.heap.size≠g;omega) _).cell rfl;have o2':(W'.setCell (E g 1) (X (Z+1))).cell? (E g 2)=some (X N):=hx1.cell rfl;have v2':(W'.setCell (E g 1) (X (Z+1))).frozen? (E g 2)=false:=hx1.frozen 2;have hWg:W.heap.size<=g:=by have:=HW.out.size;omega
   obtain⟨hZ0,hZ1⟩:=hZ0;obtain⟨hN0,hN1⟩:=hN0;clear h1 h2 h3 h4 h5 hx1 hr';by_cases hz':s.b.zone=b.zone
   .by_cases hn':s.b.name=b.name
    .skip
     have tz:=Bm hz';have tn:=Bm hn';have ez:((Nw b.zone (pre++[s]):Nat):Int)=Z+1:=by rw[Kk,if_pos hz',<-hZe];omega
     have en:((Ny b.name (pre++[s]):Nat):Int)=N+1:=by rw[Kt,if_pos hn',<-hNe];omega
     have EZ:=iH ez;have EN:=iH en;clear hz' hn' ez en
     gi_wp2
     refine⟨((KeepsOthers.setCell _ _ _).trans (KeepsOthers.setCell _ _ _)).from _,((But.refl g w6.heap.size W').set 1 _).set 2 _,?_,((H2.out.other (a:=(E g 1)) (by show w.heap.size≠g;omega) _).other (a:=(E g 2)) (by show w.heap.size≠g;omega) _),((H3.out.other (a:=(E g 1)) (by show w.heap.size+1≠g;omega) _).other (a:=(E g 2)) (by show w.heap.size+1≠g;omega) _),((H4.out.setCell (p:=(E g 1)) (by show w1.heap.size<=g;omega) _).setCell (p:=(E g 2)) (by show w1.heap.size<=g;omega) _),by simp[World.setCell];exact H5.out⟩;show Blk g #[X L0,X ((Nw b.zone (pre++[s]):Nat):Int),X ((Ny b.name (pre++[s]):Nat):Int),X (b.room-u2-y.room)] _ _
     rw[EZ.out,EN.out];exact((H1.out.set 1 (X (Z+1))).set 2 (X (N+1)))
    .skip
     have tz:=Bm hz';have tn:=Bn hn';have ez:((Nw b.zone (pre++[s]):Nat):Int)=Z+1:=by rw[Kk,if_pos hz',<-hZe];omega
     have en:((Ny b.name (pre++[s]):Nat):Int)=N:=by rw[Kt,if_neg hn',<-hNe];omega
     have EZ:=iH ez;have EN:=iH en;clear hz' hn' ez en
     gi_wp2
     refine⟨(KeepsOthers.setCell _ _ _).from _,(But.refl g w6.heap.size W').set 1 _,?_,(H2.out.other (a:=(E g 1)) (by show w.heap.size≠g;omega) _),(H3.out.other (a:=(E g 1)) (by show w.heap.size+1≠g;omega) _),(H4.out.setCell (p:=(E g 1)) (by show w1.heap.size<=g;omega) _),by simp[World.setCell];exact H5.out⟩;show Blk g #[X L0,X ((Nw b.zone (pre++[s]):Nat):Int),X ((Ny b.name (pre++[s]):Nat):Int),X (b.room-u2-y.room)] _ _
     rw[EZ.out,EN.out];exact(H1.out.set 1 (X (Z+1)))
   by_cases hn':s.b.name=b.name
   .skip
    have tz:=Bn hz';have tn:=Bm hn';have ez:((Nw b.zone (pre++[s]):Nat):Int)=Z:=by rw[Kk,if_neg hz',<-hZe];omega
    have en:((Ny b.name (pre++[s]):Nat):Int)=N+1:=by rw[Kt,if_pos hn',<-hNe];omega
    have EZ:=iH ez;have EN:=iH en;clear hz' hn' ez en
    gi_wp2
    refine⟨(KeepsOthers.setCell _ _ _).from _,(But.refl g w6.heap.size W').set 2 _,?_,(H2.out.other (a:=(E g 2)) (by show w.heap.size≠g;omega) _),(H3.out.other (a:=(E g 2)) (by show w.heap.size+1≠g;omega) _),(H4.out.setCell (p:=(E g 2)) (by show w1.heap.size<=g;omega) _),by simp[World.setCell];exact H5.out⟩;show Blk g #[X L0,X ((Nw b.zone (pre++[s]):Nat):Int),X ((Ny b.name (pre++[s]):Nat):Int),X (b.room-u2-y.room)] _ _
    rw[EZ.out,EN.out];exact(H1.out.set 2 (X (N+1)))
   .skip
    have tz:=Bn hz';have tn:=Bn hn';have ez:((Nw b.zone (pre++[s]):Nat):Int)=Z:=by rw[Kk,if_neg hz',<-hZe];omega
    have en:((Ny b.name (pre++[s]):Nat):Int)=N:=by rw[Kt,if_neg hn',<-hNe];omega
    have EZ:=iH ez;have EN:=iH en;clear hz' hn' ez en
    gi_wp2
    refine⟨(KeepsOthers.refl W').from _,But.refl g w6.heap.size W',?_,H2,H3,H4,H5⟩;show Blk g #[X L0,X ((Nw b.zone (pre++[s]):Nat):Int),X ((Ny b.name (pre++[s]):Nat):Int),X (b.room-u2-y.room)] _ _
    rw[EZ.out,EN.out];exact H1.out
  .rintro D xs W' hD hcame⟨h1,h2,h3,h4,h5⟩hK
   obtain⟨q1,q2⟩:=Hf HV ci y.service b.zone b.name HBN x.copies.length xs hcame;obtain⟨Z,hZe⟩:∃Z:Int,((Nw b.zone xs:Nat):Int)=Z:=⟨_,rfl⟩;obtain⟨N,hNe⟩:∃N:Int,((Ny b.name xs:Nat):Int)=N:=⟨_,rfl⟩;have H1:=iH h1;unfold zI at H1;rw[hZe,hNe]at H1;rw[q1]at hZe;rw[q2]at hNe;have HZE:=iH hZe;have HNE:=iH hNe;have HT:=iH h3.there;have hR10:=World.rangeAt_setCells_same W' (w.heap.size+1) 0 [X L0,X Z,X N,X (b.room-u2-y.room)] h3.there;have hbs:Below w.heap.size W' (W'.setCells (w.heap.size+1) 0 [X L0,X Z,X N,X (b.room-u2-y.room)]):=Ae (by omega) _ _ _ (Below.refl _ _);have hB10:But m4 w.heap.size w (W'.setCells (w.heap.size+1) 0 [X L0,X Z,X N,X (b.room-u2-y.room)]):=(HBW5.out.trans (But.of_below (h4.mono hw01))).trans (But.of_below hbs);have hM10:MemoAt m4 (n+5) x.berths (W'.setCells (w.heap.size+1) 0 [X L0,X Z,X N,X (b.room-u2-y.room)]):=(HM5.out.below h4 (by omega)).below hbs hm4w;have hsz10:w.heap.size<=(W'.setCells (w.heap.size+1) 0 [X L0,X Z,X N,X (b.room-u2-y.room)]).heap.size:=hB10.size;have hK10:(W'.setCells (w.heap.size+1) 0 [X L0,X Z,X N,X (b.room-u2-y.room)]).heap[D]?=some (.deferred (some [])):=(Aw (by omega) _ _ _).trans hK;obtain⟨w10,HW10⟩:∃w10,Hid (w10=W'.setCells (w.heap.size+1) 0 [X L0,X Z,X N,X (b.room-u2-y.room)]):=⟨_,rfl⟩;rw[<-HW10.out]at hR10 hB10 hK10 hM10 hsz10;have HM10:=iH hM10;have HSZ10:=iH hsz10;have HR10:=iH hR10;have HB10:=iH hB10;have HK10:=iH hK10;have o0:W'.cell? (E g 0)=some (X L0):=H1.out.cell rfl;have o1:W'.cell? (E g 1)=some (X Z):=H1.out.cell rfl;have o2:W'.cell? (E g 2)=some (X N):=H1.out.cell rfl;have o3:W'.cell? (E g 3)=some (X (b.room-u2-y.room)):=H1.out.cell rfl;clear hR10 hB10 hK10 hM10 hsz10 hbs h1 h2 h3 h4 h5 hZe hNe q1 q2 hcame hK;go_wp2_with(first|(refine Ai rfl 134 _ _ rfl (w.heap.size+1) 0 #[X L0,X Z,X N,X (b.room-u2-y.room)] rfl rfl HT Fr (by simp[Value.oneCell']) w10 HW10 ?_));refine⟨by simp,.inl ⟨_,_,rfl,run_takeDeferred HK10,?_⟩⟩;refine⟨_,Ay rfl _ _ (w.heap.size+1) [X L0,X Z,X N,X (b.room-u2-y.room)] _ rfl ?_ underlying134 rfl Fr,?_⟩
   .intro j v hj
    rw[World.cell?_of_block (w:=w10) (a:=(E (w.heap.size+1) (0+j))) (World.putObj_heap_other (by show w.heap.size+1≠D;omega))];exact HR10.out j v hj
   have hbp:∀o,Below w.heap.size w10 (w10.putObj D o):=λo=>(Below.refl w.heap.size w10).grown (grownBy_putObj' w10 D _) HSZ10 (λk e=>by cases e;omega)
   exact⟨iB HL0 HZE.out.symm HNE.out.symm (by rw[HU.out];omega),HM10.out.below (hbp _) hm4w,HB10.out.trans (But.of_below (hbp _))⟩
  .intro D c pre W' _ _ h
   exact h.elim
end Go.Proofs.YthboopnmbglkjaaGreat
