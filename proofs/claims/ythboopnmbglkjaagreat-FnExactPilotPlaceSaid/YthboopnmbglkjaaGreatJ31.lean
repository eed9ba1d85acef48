import Derived.Test.YthboopnmbglkjaaGreatJ30
set_option maxHeartbeats 8000000
namespace Go.Proofs.YthboopnmbglkjaaGreat
open Tryz
set_option maxRecDepth 100000
open Go.RowKit Tryz
theorem Ot{base:Nat}{e:TypeId}{size:Nat}{v:Value}{n:Nat}{xs:List Value}{w:World}(h:w.ownsRow base e size v n xs)(a:Addr)(ha:a.block<base)(u:Value):(w.setCell a u).ownsRow base e size v n xs:=by
 refine⟨h.1,?_⟩;rcases h.2 with h1|⟨g,cap,cur,h1,h2,h3,h4⟩
 .exact .inl h1
 exact .inr ⟨g,cap,cur,h1,h2,(Below.heap_setCell w a u g (by omega)).trans h3,h4⟩
theorem My{base:Nat}{e:TypeId}{size:Nat}{v:Value}{n:Nat}{xs:List Value}{b:Nat}(hb:b<base):∀(vs:List Value)(o:Nat)(w:World),w.ownsRow base e size v n xs->(w.setCells b o vs).ownsRow base e size v n xs
 |[],_,_,h=>h
 |u::r,o,_,h=>My hb r (o+1) _ (Ot h (E b o) hb u)
theorem aC{base base':Nat}{e:TypeId}{size:Nat}{v:Value}{n:Nat}{xs:List Value}{w:World}(h:w.ownsRow base e size v n xs)(hb:base'<=base):w.ownsRow base' e size v n xs:=by
 refine⟨h.1,?_⟩;rcases h.2 with h1|⟨g,cap,cur,h1,h2,h3⟩
 .exact .inl h1
 exact .inr ⟨g,cap,cur,h1,lT hb h2,h3⟩
theorem oN(x:Brt)(a2:OA)(c2 lo:Nat)(w:World)(n2:sX lo w a2 x.marks)(hl:x.marks.length<=1048576)(hz:Zx x.marks 1048576)(z0:x.name.size<=1048576)(z1:x.zone.size<=1048576) :
  Calls prog 62 #[.agg (bbA x a2 c2)] w λe w'=>∃g q,e=.returned (.agg (bbA x g q))/\w'.ownsRow w.heap.size 9 1 (.slice g x.marks.length q) x.marks.length (Fb x.marks)/\bW w w':=by
 have HN2:=iH n2;have HSZ:=iH hz;clear n2 hz;have hB3:=bl2 w (bbA x a2 c2) 92 BbA 92;have h1:=Blk.alloc w (bbA x a2 c2) 92;have HX:=iH (h1.below ((Below.refl _ _).alloc nL (Obj.cells BbA 92)) h1.lt);have HZ:=al2 w (bbA x a2 c2) 92 BbA 92;clear h1;go_enter func62,ntmps62;go_upto_region 1 with fail;generalize((w.alloc (Obj.cells (bbA x a2 c2) 92)).alloc (Obj.cells BbA 92))=w3 at *;refine wp_region_held_drew (S:=λwy=>Blk w.heap.size (bbA x a2 c2) 92 wy/\Blk (w.heap.size+1) BbA 92 wy) (by kernel_rfl) ⟨HX.out.drew,HZ.out.drew⟩ (λhS=>?_);refine tz 0 3 (pP w.heap.size 0) ?_;refine ty 1 ⟨some 4,_,_,_,_,none⟩ (Y x.name) ?_ ?_
 .intro wy hy
  have h0:=hy.1.cell (o:=0) (v:=Y x.name) rfl;clear hy;go_simp
 refine tz 3 6 (pP w.heap.size 1) ?_;refine ty 4 ⟨some 7,_,_,_,_,none⟩ (Y x.zone) ?_ ?_
 .intro wy hy
  have h0:=hy.1.cell (o:=1) (v:=Y x.zone) rfl;clear hy;go_simp
 refine rd1 2 ⟨some 5,_,_,_,_,none⟩ rfl (λK hK=>?_);go_simp;refine(Ek x.name _ z0).mono ?_;rintro e w4⟨rfl,hb4⟩;have hB4:=hB3.trans ((((Below.refl w3.heap.size w3).drew).trans hb4).mono hB3.size);refine hK.out _ _ ⟨hS.1.below hb4 hS.1.lt,hS.2.below hb4 hS.2.lt⟩ (λhS=>?_);clear hK K;clear hb4;refine tz 6 9 (pP w.heap.size 0) ?_;refine rd1 5 ⟨some 8,_,_,_,_,none⟩ rfl (λK hK=>?_);go_simp;refine(Ek x.zone _ z1).mono ?_;rintro e w5⟨rfl,hb5⟩;have hB5:=qTr hB4 hb5;refine hK.out _ _ ⟨hS.1.below hb5 hS.1.lt,hS.2.below hb5 hS.2.lt⟩ (λhS=>?_);clear hK K;clear hb5;have kk:w5.cell? (E w.heap.size 0)=some (Y x.name):=hS.1.cell rfl;have ff:w5.frozen? (E w.heap.size 0)=false:=hS.1.frozen _;refine rd1 7 ⟨none,_,_,_,_,none⟩ rfl (λK hK=>?_);go_simp;have hX6:Blk w.heap.size (bbA x a2 c2) 92 (w5.setCell (E w.heap.size 0) (Y x.name)):=hS.1.set 0 _;have hZ6:Blk (w.heap.size+1) BbA 92 (w5.setCell (E w.heap.size 0) (Y x.name)):=hS.2.other (by simp) _;have hB6:bW w (w5.setCell (E w.heap.size 0) (Y x.name)):=hB5.setCell (p:=(E w.heap.size 0)) nL _;refine hK.out _ _ ⟨hX6,hZ6⟩ (λhS=>?_);clear hK K kk ff hX6 hZ6;generalize w5.setCell (E w.heap.size 0) (Y x.name)=w6 at *;refine tz 8 10 (pP w.heap.size 1) ?_;have kk:w6.cell? (E w.heap.size 1)=some (Y x.zone):=hS.1.cell rfl;have ff:w6.frozen? (E w.heap.size 1)=false:=hS.1.frozen _;refine rd1 9 ⟨none,_,_,_,_,none⟩ rfl (λK hK=>?_);go_simp;have hX7:Blk w.heap.size (bbA x a2 c2) 92 (w6.setCell (E w.heap.size 1) (Y x.zone)):=hS.1.set 1 _;have hZ7:Blk (w.heap.size+1) BbA 92 (w6.setCell (E w.heap.size 1) (Y x.zone)):=hS.2.other (by simp) _;have hB7:bW w (w6.setCell (E w.heap.size 1) (Y x.zone)):=hB6.setCell (p:=(E w.heap.size 1)) nL _;refine hK.out _ _ ⟨hX7,hZ7⟩ (λhS=>?_);clear hK K kk ff hX7 hZ7;generalize w6.setCell (E w.heap.size 1) (Y x.zone)=w7 at *;have HX7:=iH hS.1;have HZ7:=iH hS.2;refine td ?_;clear hS;have k2:w7.cell? (E w.heap.size 2)=some (.slice a2 x.marks.length c2):=HX7.out.cell rfl;go_wp2_with fail;refine(gY x.marks a2 c2 lo _ (HN2.out.below StrC.holds hB7 nL) hl HSZ).mono ?_;rintro e w8⟨g,q,rfl,hO8,hb8⟩;have HO8:=iH hO8;have HX8:=qBk HX7 hb8;have HZ8:=qBk HZ7 hb8;have hB8:=qTr hB7 hb8;have hl7:w.heap.size+1<w7.heap.size:=HZ7.out.lt;have c8:w8.cell? (E w.heap.size 2)=some (.slice a2 x.marks.length c2):=HX8.out.cell rfl;have f8:=HX8.out.frozen 2;have HX9:Hid (Blk w.heap.size (bbA x g q) 92 (w8.setCell (E w.heap.size 2) (.slice g x.marks.length q))):=HX8.out.set 2 _;have HZ9:Hid (Blk (w.heap.size+1) BbA 92 (w8.setCell (E w.heap.size 2) (.slice g x.marks.length q))):=HZ8.out.other (a:=(E w.heap.size 2)) (show w.heap.size+1≠w.heap.size by omega) _;have hB9:bW w (w8.setCell (E w.heap.size 2) (.slice g x.marks.length q)):=hB8.setCell (p:=(E w.heap.size 2)) nL _;have HO9:Hid ((w8.setCell (E w.heap.size 2) (.slice g x.marks.length q)).ownsRow w7.heap.size 9 1 (.slice g x.marks.length q) x.marks.length (Fb x.marks)):=Ot HO8 _ (show w.heap.size<w7.heap.size by omega) _
 clear HX7 HZ7 hB7 hb8 hO8 k2;go_upto_region 3 with fail;clear c8 f8 HX8 HZ8 hB8 HO8;generalize w8.setCell (E w.heap.size 2) (.slice g x.marks.length q)=w9 at *;obtain⟨wf,HE⟩:∃wf,Hid (wf=w9.setCells (w.heap.size+1) 0 (bbL x g q)):=⟨_,rfl⟩;have HT:Hid (w9.there (w.heap.size+1) 0 6):=HZ9.out.there;have HR8:Hid (wf.rangeAt (w.heap.size+1) 0 (bbL x g q)):=by
  show World.rangeAt _ _ _ _
  rw[HE.out];exact World.rangeAt_setCells_same _ _ _ _ HT
 have hBf:bW w wf:=by
  rw[HE.out];exact Ae (by omega) _ _ _ hB9
 have HOf:Hid (wf.ownsRow w7.heap.size 9 1 (.slice g x.marks.length q) x.marks.length (Fb x.marks)):=by
  show World.ownsRow _ _ _ _ _ _ _
  rw[HE.out];exact My hl7 _ _ _ HO9
 clear hB9 HZ9 HO9;go_wp2_with(first|(refine qLk Ki HX9 ?_)|(refine Ai rfl 92 _ _ rfl (w.heap.size+1) 0 (bbA x g q) rfl rfl HT Cg (by simp[Value.oneCell']) wf HE ?_));exact bodyPost_ret (Ay rfl _ _ (w.heap.size+1) (bbL x g q) _ rfl HR8 underlying92 rfl Cg) rfl ⟨g,q,rfl,aC HOf (by omega),hBf⟩
theorem pM(x:Cpy)(a2:OA)(c2 lo:Nat)(w:World)(n2:sK lo w a2 x.likes)(hl:x.likes.length<=1048576)(hz:Yy x.likes 1048576)(z0:x.name.size<=1048576)(z1:x.service.size<=1048576)(z6:x.select.size<=1048576)(z9:x.near.size<=1048576)(z10:x.fixed.size<=1048576)(z11:x.at_.size<=1048576) :
  Calls prog 66 #[.agg (ccA x a2 c2)] w λe w'=>∃g q,e=.returned (.agg (ccA x g q))/\w'.ownsRow w.heap.size 129 2 (.slice g x.likes.length q) x.likes.length (Ed x.likes)/\bW w w':=by
 have HN2:=iH n2;have HSZ:=iH hz;clear n2 hz;have hB3:=bl2 w (ccA x a2 c2) 54 CcA 54;have h1:=Blk.alloc w (ccA x a2 c2) 54;have HX:=iH (h1.below ((Below.refl _ _).alloc nL (Obj.cells CcA 54)) h1.lt);have HZ:=al2 w (ccA x a2 c2) 54 CcA 54;clear h1;go_enter func66,ntmps66;go_upto_region 1 with fail;generalize((w.alloc (Obj.cells (ccA x a2 c2) 54)).alloc (Obj.cells CcA 54))=w3 at *;have hba:=(Below.refl _ w3).alloc nL (Obj.cells #[pP w.heap.size 0,pP w.heap.size 1,pP w.heap.size 6,pP w.heap.size 9,pP w.heap.size 10,pP w.heap.size 11] 149);have HP4:=iH (Blk.alloc w3 #[pP w.heap.size 0,pP w.heap.size 1,pP w.heap.size 6,pP w.heap.size 9,pP w.heap.size 10,pP w.heap.size 11] 149);have HX4:=qBk HX hba;have HZ4:=qBk HZ hba;have hB4:=qTr hB3 hba;have hgp:w.heap.size+1<w3.heap.size:=HZ.out.lt;clear HX HZ hB3 hba;go_upto_region 2 with fail;generalize(w3.alloc (Obj.cells #[pP w.heap.size 0,pP w.heap.size 1,pP w.heap.size 6,pP w.heap.size 9,pP w.heap.size 10,pP w.heap.size 11] 149))=w4 at *;generalize w3.heap.size=gp at *;go_loopw [13] (λi wr=>∃k:Nat,k<=6/\i=X k/\Hid (Blk w.heap.size (ccA x a2 c2) 54 wr)/\Hid (Blk (w.heap.size+1) CcA 54 wr)/\Hid (Blk gp #[pP w.heap.size 0,pP w.heap.size 1,pP w.heap.size 6,pP w.heap.size 9,pP w.heap.size 10,pP w.heap.size 11] 149 wr)/\bW w wr) (λi _=>6-(intOf i).toNat)
 case atStart=>exact⟨0,by omega,rfl,HX4,HZ4,HP4,hB4⟩
 clear HX4 HZ4 HP4 hB4;obtain⟨k,hk,rfl,HX,HZ,HP,hB⟩:=hrel;rcases(by omega:k=0\/k=1\/k=2\/k=3\/k=4\/k=5\/k=6)with rfl|rfl|rfl|rfl|rfl|rfl|rfl
 .have d0:wr.cell? (E gp 0)=some (pP w.heap.size 0):=HP.out.cell rfl
  have k0:wr.cell? (E w.heap.size 0)=some (Y x.name):=HX.out.cell rfl;go_wp2_with fail;refine(Ek x.name _ z0).mono ?_;rintro e w5⟨rfl,hb5⟩;have HX5:=qBk HX hb5;have c5:w5.cell? (E w.heap.size 0)=some (Y x.name):=HX5.out.cell rfl;have f5:=HX5.out.frozen 0;have HX6:Hid (Blk w.heap.size (ccA x a2 c2) 54 (w5.setCell (E w.heap.size 0) (Y x.name))):=HX5.out.set 0 _;have HZ6:Hid (Blk (w.heap.size+1) CcA 54 (w5.setCell (E w.heap.size 0) (Y x.name))):=(HZ.out.below hb5 HZ.out.lt).other (a:=(E w.heap.size 0)) (show w.heap.size+1≠w.heap.size by omega) _;have HP6:Hid (Blk gp #[pP w.heap.size 0,pP w.heap.size 1,pP w.heap.size 6,pP w.heap.size 9,pP w.heap.size 10,pP w.heap.size 11] 149 (w5.setCell (E w.heap.size 0) (Y x.name))):=(HP.out.below hb5 HP.out.lt).other (a:=(E w.heap.size 0)) (show gp≠w.heap.size by omega) _;have hB6:bW w (w5.setCell (E w.heap.size 0) (Y x.name)):=(qTr hB hb5).setCell (p:=(E w.heap.size 0)) nL _;clear HX HZ HP hB hb5 d0 k0 HX5
  go_wp2
  go_roundw
  case rel=>exact⟨0+1,by omega,by go_num,HX6,HZ6,HP6,hB6⟩
  simp[intOf]
 .have d0:wr.cell? (E gp 1)=some (pP w.heap.size 1):=HP.out.cell rfl
  have k0:wr.cell? (E w.heap.size 1)=some (Y x.service):=HX.out.cell rfl;go_wp2_with fail;refine(Ek x.service _ z1).mono ?_;rintro e w5⟨rfl,hb5⟩;have HX5:=qBk HX hb5;have c5:w5.cell? (E w.heap.size 1)=some (Y x.service):=HX5.out.cell rfl;have f5:=HX5.out.frozen 1;have HX6:Hid (Blk w.heap.size (ccA x a2 c2) 54 (w5.setCell (E w.heap.size 1) (Y x.service))):=HX5.out.set 1 _;have HZ6:Hid (Blk (w.heap.size+1) CcA 54 (w5.setCell (E w.heap.size 1) (Y x.service))):=(HZ.out.below hb5 HZ.out.lt).other (a:=(E w.heap.size 1)) (show w.heap.size+1≠w.heap.size by omega) _;have HP6:Hid (Blk gp #[pP w.heap.size 0,pP w.heap.size 1,pP w.heap.size 6,pP w.heap.size 9,pP w.heap.size 10,pP w.heap.size 11] 149 (w5.setCell (E w.heap.size 1) (Y x.service))):=(HP.out.below hb5 HP.out.lt).other (a:=(E w.heap.size 1)) (show gp≠w.heap.size by omega) _;have hB6:bW w (w5.setCell (E w.heap.size 1) (Y x.service)):=(qTr hB hb5).setCell (p:=(E w.heap.size 1)) nL _;clear HX HZ HP hB hb5 d0 k0 HX5
  go_wp2
  go_roundw
  case rel=>exact⟨1+1,by omega,by go_num,HX6,HZ6,HP6,hB6⟩
  simp[intOf]
 .have d0:wr.cell? (E gp 2)=some (pP w.heap.size 6):=HP.out.cell rfl
  have k0:wr.cell? (E w.heap.size 6)=some (Y x.select):=HX.out.cell rfl;go_wp2_with fail;refine(Ek x.select _ z6).mono ?_;rintro e w5⟨rfl,hb5⟩;have HX5:=qBk HX hb5;have c5:w5.cell? (E w.heap.size 6)=some (Y x.select):=HX5.out.cell rfl;have f5:=HX5.out.frozen 6;have HX6:Hid (Blk w.heap.size (ccA x a2 c2) 54 (w5.setCell (E w.heap.size 6) (Y x.select))):=HX5.out.set 6 _;have HZ6:Hid (Blk (w.heap.size+1) CcA 54 (w5.setCell (E w.heap.size 6) (Y x.select))):=(HZ.out.below hb5 HZ.out.lt).other (a:=(E w.heap.size 6)) (show w.heap.size+1≠w.heap.size by omega) _;have HP6:Hid (Blk gp #[pP w.heap.size 0,pP w.heap.size 1,pP w.heap.size 6,pP w.heap.size 9,pP w.heap.size 10,pP w.heap.size 11] 149 (w5.setCell (E w.heap.size 6) (Y x.select))):=(HP.out.below hb5 HP.out.lt).other (a:=(E w.heap.size 6)) (show gp≠w.heap.size by omega) _;have hB6:bW w (w5.setCell (E w.heap.size 6) (Y x.select)):=(qTr hB hb5).setCell (p:=(E w.heap.size 6)) nL _;clear HX HZ HP hB hb5 d0 k0 HX5
  go_wp2
  go_roundw
  case rel=>exact⟨2+1,by omega,by go_num,HX6,HZ6,HP6,hB6⟩
  simp[intOf]
 .have d0:wr.cell? (E gp 3)=some (pP w.heap.size 9):=HP.out.cell rfl
  have k0:wr.cell? (E w.heap.size 9)=some (Y x.near):=HX.out.cell rfl;go_wp2_with fail;refine(Ek x.near _ z9).mono ?_;rintro e w5⟨rfl,hb5⟩;have HX5:=qBk HX hb5;have c5:w5.cell? (E w.heap.size 9)=some (Y x.near):=HX5.out.cell rfl;have f5:=HX5.out.frozen 9;have HX6:Hid (Blk w.heap.size (ccA x a2 c2) 54 (w5.setCell (E w.heap.size 9) (Y x.near))):=HX5.out.set 9 _;have HZ6:Hid (Blk (w.heap.size+1) CcA 54 (w5.setCell (E w.heap.size 9) (Y x.near))):=(HZ.out.below hb5 HZ.out.lt).other (a:=(E w.heap.size 9)) (show w.heap.size+1≠w.heap.size by omega) _;have HP6:Hid (Blk gp #[pP w.heap.size 0,pP w.heap.size 1,pP w.heap.size 6,pP w.heap.size 9,pP w.heap.size 10,pP w.heap.size 11] 149 (w5.setCell (E w.heap.size 9) (Y x.near))):=(HP.out.below hb5 HP.out.lt).other (a:=(E w.heap.size 9)) (show gp≠w.heap.size by omega) _;have hB6:bW w (w5.setCell (E w.heap.size 9) (Y x.near)):=(qTr hB hb5).setCell (p:=(E w.heap.size 9)) nL _;clear HX HZ HP hB hb5 d0 k0 HX5
  go_wp2
  go_roundw
  case rel=>exact⟨3+1,by omega,by go_num,HX6,HZ6,HP6,hB6⟩
  simp[intOf]
 .have d0:wr.cell? (E gp 4)=some (pP w.heap.size 10):=HP.out.cell rfl
  have k0:wr.cell? (E w.heap.size 10)=some (Y x.fixed):=HX.out.cell rfl;go_wp2_with fail;refine(Ek x.fixed _ z10).mono ?_;rintro e w5⟨rfl,hb5⟩;have HX5:=qBk HX hb5;have c5:w5.cell? (E w.heap.size 10)=some (Y x.fixed):=HX5.out.cell rfl;have f5:=HX5.out.frozen 10;have HX6:Hid (Blk w.heap.size (ccA x a2 c2) 54 (w5.setCell (E w.heap.size 10) (Y x.fixed))):=HX5.out.set 10 _;have HZ6:Hid (Blk (w.heap.size+1) CcA 54 (w5.setCell (E w.heap.size 10) (Y x.fixed))):=(HZ.out.below hb5 HZ.out.lt).other (a:=(E w.heap.size 10)) (show w.heap.size+1≠w.heap.size by omega) _;have HP6:Hid (Blk gp #[pP w.heap.size 0,pP w.heap.size 1,pP w.heap.size 6,pP w.heap.size 9,pP w.heap.size 10,pP w.heap.size 11] 149 (w5.setCell (E w.heap.size 10) (Y x.fixed))):=(HP.out.below hb5 HP.out.lt).other (a:=(E w.heap.size 10)) (show gp≠w.heap.size by omega) _;have hB6:bW w (w5.setCell (E w.heap.size 10) (Y x.fixed)):=(qTr hB hb5).setCell (p:=(E w.heap.size 10)) nL _;clear HX HZ HP hB hb5 d0 k0 HX5
  go_wp2
  go_roundw
  case rel=>exact⟨4+1,by omega,by go_num,HX6,HZ6,HP6,hB6⟩
  simp[intOf]
 .have d0:wr.cell? (E gp 5)=some (pP w.heap.size 11):=HP.out.cell rfl
  have k0:wr.cell? (E w.heap.size 11)=some (Y x.at_):=HX.out.cell rfl;go_wp2_with fail;refine(Ek x.at_ _ z11).mono ?_;rintro e w5⟨rfl,hb5⟩;have HX5:=qBk HX hb5;have c5:w5.cell? (E w.heap.size 11)=some (Y x.at_):=HX5.out.cell rfl;have f5:=HX5.out.frozen 11;have HX6:Hid (Blk w.heap.size (ccA x a2 c2) 54 (w5.setCell (E w.heap.size 11) (Y x.at_))):=HX5.out.set 11 _;have HZ6:Hid (Blk (w.heap.size+1) CcA 54 (w5.setCell (E w.heap.size 11) (Y x.at_))):=(HZ.out.below hb5 HZ.out.lt).other (a:=(E w.heap.size 11)) (show w.heap.size+1≠w.heap.size by omega) _;have HP6:Hid (Blk gp #[pP w.heap.size 0,pP w.heap.size 1,pP w.heap.size 6,pP w.heap.size 9,pP w.heap.size 10,pP w.heap.size 11] 149 (w5.setCell (E w.heap.size 11) (Y x.at_))):=(HP.out.below hb5 HP.out.lt).other (a:=(E w.heap.size 11)) (show gp≠w.heap.size by omega) _;have hB6:bW w (w5.setCell (E w.heap.size 11) (Y x.at_)):=(qTr hB hb5).setCell (p:=(E w.heap.size 11)) nL _;clear HX HZ HP hB hb5 d0 k0 HX5
  go_wp2
  go_roundw
  case rel=>exact⟨5+1,by omega,by go_num,HX6,HZ6,HP6,hB6⟩
  simp[intOf]
 have HX7:=HX;have HZ7:=HZ;have hB7:=hB;generalize wr=w7 at *;clear HX HZ hB HP;have k2:w7.cell? (E w.heap.size 7)=some (.slice a2 x.likes.length c2):=HX7.out.cell rfl;go_wp2_with fail;refine(eS x.likes a2 c2 lo _ (HN2.out.below LikC.holds hB7 nL) hl HSZ).mono ?_;rintro e w8⟨g,q,rfl,hO8,hb8⟩;have HO8:=iH hO8;have HX8:=qBk HX7 hb8;have HZ8:=qBk HZ7 hb8;have hB8:=qTr hB7 hb8;have hl7:w.heap.size+1<w7.heap.size:=HZ7.out.lt;have c8:w8.cell? (E w.heap.size 7)=some (.slice a2 x.likes.length c2):=HX8.out.cell rfl;have f8:=HX8.out.frozen 7;have HX9:Hid (Blk w.heap.size (ccA x g q) 54 (w8.setCell (E w.heap.size 7) (.slice g x.likes.length q))):=HX8.out.set 7 _;have HZ9:Hid (Blk (w.heap.size+1) CcA 54 (w8.setCell (E w.heap.size 7) (.slice g x.likes.length q))):=HZ8.out.other (a:=(E w.heap.size 7)) (show w.heap.size+1≠w.heap.size by omega) _;have hB9:bW w (w8.setCell (E w.heap.size 7) (.slice g x.likes.length q)):=hB8.setCell (p:=(E w.heap.size 7)) nL _;have HO9:Hid ((w8.setCell (E w.heap.size 7) (.slice g x.likes.length q)).ownsRow w7.heap.size 129 2 (.slice g x.likes.length q) x.likes.length (Ed x.likes)):=Ot HO8 _ (show w.heap.size<w7.heap.size by omega) _;clear HX7 HZ7 hB7 hb8 hO8 k2;go_upto_region 7 with fail;clear c8 f8 HX8 HZ8 hB8 HO8;generalize w8.setCell (E w.heap.size 7) (.slice g x.likes.length q)=w9 at *;obtain⟨wf,HE⟩:∃wf,Hid (wf=w9.setCells (w.heap.size+1) 0 (ccL x g q)):=⟨_,rfl⟩;have HT:Hid (w9.there (w.heap.size+1) 0 12):=HZ9.out.there;have HR8:Hid (wf.rangeAt (w.heap.size+1) 0 (ccL x g q)):=by
  show World.rangeAt _ _ _ _
  rw[HE.out];exact World.rangeAt_setCells_same _ _ _ _ HT
 have hBf:bW w wf:=by
  rw[HE.out];exact Ae (by omega) _ _ _ hB9
 have HOf:Hid (wf.ownsRow w7.heap.size 129 2 (.slice g x.likes.length q) x.likes.length (Ed x.likes)):=by
  show World.ownsRow _ _ _ _ _ _ _
  rw[HE.out];exact My hl7 _ _ _ HO9
 clear hB9 HZ9 HO9;go_wp2_with(first|(refine qLk Hb HX9 ?_)|(refine Ai rfl 54 _ _ rfl (w.heap.size+1) 0 (ccA x g q) rfl rfl HT Bz (by simp[Value.oneCell']) wf HE ?_));exact bodyPost_ret (Ay rfl _ _ (w.heap.size+1) (ccL x g q) _ rfl HR8 underlying54 rfl Bz) rfl ⟨g,q,rfl,aC HOf (by omega),hBf⟩
theorem fE(x:Brt)(a2:OA)(c2 lo:Nat)(w:World)(n2:sX lo w a2 x.marks)(hl:x.marks.length<=1048576) :
  Calls prog 52 #[.agg (bbA x a2 c2)] w λe w'=>∃g q,e=.returned (.agg (bbA x (O g 0) q))/\sX w.heap.size w' (O g 0) x.marks/\w.heap.size<=g/\g<w'.heap.size/\bW w w':=by
 obtain⟨i0,hi,hz0,hz1,hz2⟩:=info_parts Hc;have HI:=iH n2;clear n2;have h1:=Blk.alloc w (bbA x a2 c2) 92;have HZ2:=al2 w (bbA x a2 c2) 92 BbA 92;have HK2:=iH (h1.below ((Below.refl _ _).alloc nL (Obj.cells BbA 92)) h1.lt);have hB2:=bl2 w (bbA x a2 c2) 92 BbA 92;clear h1;go_enter func52,ntmps52;go_upto_region 1 with fail;generalize((w.alloc (Obj.cells (bbA x a2 c2) 92)).alloc (Obj.cells BbA 92))=w2 at *;have k5:(w2.alloc (Obj.cells #[] 9)).cell? (E w.heap.size 2)=some (.slice a2 x.marks.length c2):=(World.cell?_alloc_lt _ _ _ HK2.out.lt).trans (HK2.out.cell rfl);have hba:=(Below.refl _ w2).alloc nL (Obj.cells #[] 9);have HS5:=iH (HI.out.below StrC.holds (qTr hB2 hba) nL);have hgl:w.heap.size+1<w2.heap.size:=HZ2.out.lt;clear hba;go_upto_region 2 with(at_builtin;refine Lt rfl _ _ 47 rfl w2.heap.size 9 i0 _ 1 16 underlying47 hi hz0 hz1 hz2 rfl (by decide) _ _ _ rfl (World.ownsRow_made w2 #[] 0 nL (zL) rfl) a2 x.marks.length c2 (Fb x.marks) rfl HS5.out.nilD (by rw[aG]) (fJ HS5) (Za x.marks) (by unfold maxLen;omega) (by omega) (by simp) ?_;intro v' w3 hown hgrow hnil;have hv:v'≠.slice none 0 0:=(λe=>by have h9:=(hnil.1 e).1;cases h9);have hown':w3.ownsRow w2.heap.size 9 1 v' x.marks.length (Fb x.marks):=(by simpa using hown);obtain⟨g,q,rfl⟩:=Yc hown' hv;have HOW:=iH hown';have HBB:Hid (bW w2 w3):=((Below.refl _ w2).alloc nL _).grown hgrow (by simp) (by intro k hk;cases hk;exact Nat.le_refl _);have HK3:=iH (HK2.out.below HBB HK2.out.lt);have kx:w3.cell? (E w.heap.size 2)=some (.slice a2 x.marks.length c2):=HK3.out.cell rfl;have fx:=HK3.out.frozen 2;clear hown hown' hgrow hnil hv);clear kx fx k5 HS5;obtain⟨h5,hh5⟩:∃h,h=w2.heap.size:=⟨_,rfl⟩;have P5:Hid (sX h5 w3 (O g 0) x.marks):=by rw[hh5];exact fN HOW hl (St HI)
 have hlt5:w.heap.size+1<h5:=by rw[hh5];exact hgl
 have hgg:=HOW.out.lt g rfl;have hg5:h5<=g:=by rw[hh5];exact hgg.1
 have HZ3:=iH (HZ2.out.below HBB HZ2.out.lt);have hB3:=hB2.trans (HBB.out.mono hB2.size);clear HOW HBB HK2 HZ2 hB2 hgl hh5;have HK4:Hid (Blk w.heap.size (bbA x (O g 0) q) 92 (w3.setCell (E w.heap.size 2) (sP g 0 x.marks.length q))):=HK3.out.set 2 _;have HZ4:Hid (Blk (w.heap.size+1) BbA 92 (w3.setCell (E w.heap.size 2) (sP g 0 x.marks.length q))):=HZ3.out.other (a:=(E w.heap.size 2)) (show w.heap.size+1≠w.heap.size by omega) _;have hB4:bW w (w3.setCell (E w.heap.size 2) (sP g 0 x.marks.length q)):=hB3.setCell (p:=(E w.heap.size 2)) nL _;replace P5:Hid (sX h5 (w3.setCell (E w.heap.size 2) (sP g 0 x.marks.length q)) (O g 0) x.marks):=P5.out.keep StrC.holds (Keeps.set (a:=(E w.heap.size 2)) (show w.heap.size<h5 by omega) _) nL;have hsz:(w3.setCell (E w.heap.size 2) (sP g 0 x.marks.length q)).heap.size=w3.heap.size:=by simp[World.setCell]
 have hgs:g<(w3.setCell (E w.heap.size 2) (sP g 0 x.marks.length q)).heap.size:=by rw[hsz];exact hgg.2
 clear HK3 HZ3 hB3 hsz hgg;generalize(w3.setCell (E w.heap.size 2) (sP g 0 x.marks.length q))=w4 at *;obtain⟨wf,HE⟩:∃wf,Hid (wf=w4.setCells (w.heap.size+1) 0 (bbL x (O g 0) q)):=⟨_,rfl⟩;have HTS:Hid (w4.there (w.heap.size+1) 0 6):=HZ4.out.there;have HRf:Hid (wf.rangeAt (w.heap.size+1) 0 (bbL x (O g 0) q)):=by
  show World.rangeAt _ _ _ _
  rw[HE.out];exact World.rangeAt_setCells_same w4 (w.heap.size+1) 0 _ HTS
 have hBf:bW w wf:=by
  rw[HE.out];exact Ae (by omega) _ _ _ hB4
 replace P5:Hid (sX h5 wf (O g 0) x.marks):=by
  show SliceC _ _ _ _ _ _
  rw[HE.out];exact P5.out.keep StrC.holds (Keeps.setCells (show w.heap.size+1<h5 by omega) _ _ _) nL
 have hgf:g<wf.heap.size:=by rw[HE.out,Be];exact hgs
 clear hB4 HZ4 hgs;go_wp2_with(first|(refine qLk Ki HK4 ?_)|(refine Ai rfl 92 _ _ rfl (w.heap.size+1) 0 (bbA x (O g 0) q) rfl rfl HTS Cg (by simp[Value.oneCell']) wf HE ?_));exact bodyPost_ret (Ay rfl _ _ (w.heap.size+1) (bbL x (O g 0) q) _ rfl HRf underlying92 rfl Cg) rfl ⟨g,q,rfl,P5.out.keep StrC.holds (Keeps.refl _ _) (by omega),by omega,hgf,hBf⟩
theorem kF(x:Cpy)(a2:OA)(c2 lo:Nat)(w:World)(n2:sK lo w a2 x.likes)(hl:x.likes.length<=1048576) :
  Calls prog 53 #[.agg (ccA x a2 c2)] w λe w'=>∃g q,e=.returned (.agg (ccA x (O g 0) q))/\sK w.heap.size w' (O g 0) x.likes/\w.heap.size<=g/\g<w'.heap.size/\bW w w':=by
 obtain⟨i0,hi,hz0,hz1,hz2⟩:=info_parts Xl;have HI:=iH n2;clear n2;have h1:=Blk.alloc w (ccA x a2 c2) 54;have HZ2:=al2 w (ccA x a2 c2) 54 CcA 54;have HK2:=iH (h1.below ((Below.refl _ _).alloc nL (Obj.cells CcA 54)) h1.lt);have hB2:=bl2 w (ccA x a2 c2) 54 CcA 54;clear h1;go_enter func53,ntmps53;go_upto_region 1 with fail;generalize((w.alloc (Obj.cells (ccA x a2 c2) 54)).alloc (Obj.cells CcA 54))=w2 at *;have k5:(w2.alloc (Obj.cells #[] 129)).cell? (E w.heap.size 7)=some (.slice a2 x.likes.length c2):=(World.cell?_alloc_lt _ _ _ HK2.out.lt).trans (HK2.out.cell rfl);have hba:=(Below.refl _ w2).alloc nL (Obj.cells #[] 129);have HS5:=iH (HI.out.below LikC.holds (qTr hB2 hba) nL);have hgl:w.heap.size+1<w2.heap.size:=HZ2.out.lt;clear hba;go_upto_region 2 with(at_builtin;refine Lt rfl _ _ 52 rfl w2.heap.size 129 i0 _ 2 24 underlying52 hi hz0 hz1 hz2 rfl (by decide) _ _ _ rfl (World.ownsRow_made w2 #[] 0 nL (zL) rfl) a2 x.likes.length c2 (Ed x.likes) rfl HS5.out.nilD (by rw[Km]) (fH HS5) (Rx x.likes) (by unfold maxLen;omega) (by omega) (by simp) ?_;intro v' w3 hown hgrow hnil;have hv:v'≠.slice none 0 0:=(λe=>by have h9:=(hnil.1 e).1;cases h9);have hown':w3.ownsRow w2.heap.size 129 2 v' x.likes.length (Ed x.likes):=(by simpa using hown);obtain⟨g,q,rfl⟩:=Yc hown' hv;have HOW:=iH hown';have HBB:Hid (bW w2 w3):=((Below.refl _ w2).alloc nL _).grown hgrow (by simp) (by intro k hk;cases hk;exact Nat.le_refl _);have HK3:=iH (HK2.out.below HBB HK2.out.lt);have kx:w3.cell? (E w.heap.size 7)=some (.slice a2 x.likes.length c2):=HK3.out.cell rfl;have fx:=HK3.out.frozen 7;clear hown hown' hgrow hnil hv);clear kx fx k5 HS5;obtain⟨h5,hh5⟩:∃h,h=w2.heap.size:=⟨_,rfl⟩;have P5:Hid (sK h5 w3 (O g 0) x.likes):=by rw[hh5];exact eP HOW hl (Sy HI)
 have hlt5:w.heap.size+1<h5:=by rw[hh5];exact hgl
 have hgg:=HOW.out.lt g rfl;have hg5:h5<=g:=by rw[hh5];exact hgg.1
 have HZ3:=iH (HZ2.out.below HBB HZ2.out.lt);have hB3:=hB2.trans (HBB.out.mono hB2.size);clear HOW HBB HK2 HZ2 hB2 hgl hh5;have HK4:Hid (Blk w.heap.size (ccA x (O g 0) q) 54 (w3.setCell (E w.heap.size 7) (sP g 0 x.likes.length q))):=HK3.out.set 7 _;have HZ4:Hid (Blk (w.heap.size+1) CcA 54 (w3.setCell (E w.heap.size 7) (sP g 0 x.likes.length q))):=HZ3.out.other (a:=(E w.heap.size 7)) (show w.heap.size+1≠w.heap.size by omega) _;have hB4:bW w (w3.setCell (E w.heap.size 7) (sP g 0 x.likes.length q)):=hB3.setCell (p:=(E w.heap.size 7)) nL _;replace P5:Hid (sK h5 (w3.setCell (E w.heap.size 7) (sP g 0 x.likes.length q)) (O g 0) x.likes):=P5.out.keep LikC.holds (Keeps.set (a:=(E w.heap.size 7)) (show w.heap.size<h5 by omega) _) nL;have hsz:(w3.setCell (E w.heap.size 7) (sP g 0 x.likes.length q)).heap.size=w3.heap.size:=by simp[World.setCell]
 have hgs:g<(w3.setCell (E w.heap.size 7) (sP g 0 x.likes.length q)).heap.size:=by rw[hsz];exact hgg.2
 clear HK3 HZ3 hB3 hsz hgg;generalize(w3.setCell (E w.heap.size 7) (sP g 0 x.likes.length q))=w4 at *;obtain⟨wf,HE⟩:∃wf,Hid (wf=w4.setCells (w.heap.size+1) 0 (ccL x (O g 0) q)):=⟨_,rfl⟩;have HTS:Hid (w4.there (w.heap.size+1) 0 12):=HZ4.out.there;have HRf:Hid (wf.rangeAt (w.heap.size+1) 0 (ccL x (O g 0) q)):=by
  show World.rangeAt _ _ _ _
  rw[HE.out];exact World.rangeAt_setCells_same w4 (w.heap.size+1) 0 _ HTS
 have hBf:bW w wf:=by
  rw[HE.out];exact Ae (by omega) _ _ _ hB4
 replace P5:Hid (sK h5 wf (O g 0) x.likes):=by
  show SliceC _ _ _ _ _ _
  rw[HE.out];exact P5.out.keep LikC.holds (Keeps.setCells (show w.heap.size+1<h5 by omega) _ _ _) nL
 have hgf:g<wf.heap.size:=by rw[HE.out,Be];exact hgs
 clear hB4 HZ4 hgs;go_wp2_with(first|(refine qLk Hb HK4 ?_)|(refine Ai rfl 54 _ _ rfl (w.heap.size+1) 0 (ccA x (O g 0) q) rfl rfl HTS Bz (by simp[Value.oneCell']) wf HE ?_));exact bodyPost_ret (Ay rfl _ _ (w.heap.size+1) (ccL x (O g 0) q) _ rfl HRf underlying54 rfl Bz) rfl ⟨g,q,rfl,P5.out.keep LikC.holds (Keeps.refl _ _) (by omega),by omega,hgf,hBf⟩
def FlatC{β:Type}(C:Eh β)(m:Nat):Prop:=∀(lo lo':Nat)(w w':World)(f g:Nat->Option Value)(x:β),(∀i,i<m->g i=f i)->C lo w f x->C lo' w' g x
theorem FlatC.holds{β:Type}{C:Eh β}{m:Nat}(h:FlatC C m):Eu C m:=λlo lo' w w' f g x hf _ _ hc=>h lo lo' w w' f g x hf hc
theorem StrC.flat:FlatC StrC 1:=λ_ _ _ _ _ _ _ h c=>⟨(h 0 (by omega)).trans c.1,c.2⟩
theorem LikC.flat:FlatC LikC 2:=λ_ _ _ _ _ _ _ h ⟨q0,q1,z⟩=>⟨(h 0 (by omega)).trans q0,(h 1 (by omega)).trans q1,z⟩
theorem Ck{β:Type}{C:Eh β}{m:Nat}(hC:FlatC C m){lo:Nat}{w w':World}{row:Option Nat}{a:OA}{l:List β}(h:SliceC C m lo w a l)(hg:w.grownBy w' row)(hne:∀b o,a=(O b o)->l≠[]->some b≠row):SliceC C m lo w' a l:=by
 obtain⟨h1,h2⟩:=h;rcases h2 with e|⟨b,o,ea,⟨hlo,hfz⟩,hbl,hc⟩
 .exact⟨h1,.inl e⟩
 by_cases hl:l=[]
 .exact⟨h1,.inl hl⟩
 have hn:=hne b o ea hl;exact⟨h1,.inr ⟨b,o,ea,⟨hlo,λhp p=>(hg.frozen_far (E b p) hbl hn).trans (hfz hp p)⟩,lL hbl hg.size,λj x hj=>hC lo lo w w' _ _ x (λi _=>hg.cell_far (E b (o+j*m+i)) hbl hn) (hc j x hj)⟩⟩
theorem Mz{base base':Nat}{e:TypeId}{size:Nat}{v:Value}{n:Nat}{xs:List Value}{w:World}(h:w.ownsRow base e size v n xs)(hb:base'<=base):w.ownsRow base' e size v n xs:=by
 refine⟨h.1,?_⟩;rcases h.2 with h1|⟨g,cap,cur,h1,h2,h3⟩
 .exact .inl h1
 exact .inr ⟨g,cap,cur,h1,lT hb h2,h3⟩
theorem Jn{P:Program}{op:Oper}{a:Act}{w:World}{K:Act->World->Prop}{Q:Exit->Act->World->Prop}(s x:Operand)(t:TypeId)(ho:op.op=.call {callee:=.builtin .append,args:=#[s,x],argTypes:=#[t,t]})(base:Nat)(e:TypeId)(i:TypeInfo)(z:Value)(size bytes:Nat)(ht:P.underlying t=some (.slice e))(hi:P.info? e=some i)(hz:i.zero=some z)(hsize:i.size=size)(hby:i.bytes=bytes)(hzs:z.cells.size=size)(hsz:0<size)(v:Value)(n:Nat)(xs:List Value)(hs:a.eval s=v)(hown:w.ownsRow base e size v n xs)(ad:Addr)(m c:Nat)(news:List Value)(hx:a.eval x=.slice (some ad) m c)(hl:news.length=m*size)(hnews:∀j u,news[j]?=some u->w.cell? (ad.add j)=some u)(h1:∀u∈news,u.oneCell'=true)(h63:n+m<=maxLen)(hbytes:(n+m)*bytes<=140737488355328)(hbase:base<=w.heap.size)(h:∀v' w',w'.ownsRow base e size v' (n+m) (xs++news)->w.grownBy w' v.ownBlock->(v'=.slice none 0 0↔v=.slice none 0 0/\m=0)->(v'.ownBlock=v.ownBlock\/v'.ownBlock=some w.heap.size)->K (a.put op.dst v') w'):op.wp P a w K Q:=by
 obtain⟨v',w',hr,h2,h3,h4,h5⟩:=run_append_own_at (P:=P) w base t op.type e i z size bytes ht hi hz hsize hby hzs hsz v n xs hown ad m c news hl hnews h1 h63 hbytes hbase;unfold Oper.wp;simp[execOp,ho,resolve,invoke,builtin,hs,hx,hr,Result.andThen];exact h v' w' h2 h3 h4 h5
theorem Dt(w:World)(a:Addr)(v:Value):w.grownBy (w.setCell a v) (some a.block) :=
 ⟨rfl,rfl,rfl,by simp[World.setCell],λk _ hn=>Below.heap_setCell w a v k (λe=>hn (by rw[e]))⟩
theorem Di{b:Nat}:∀(vs:List Value)(o:Nat)(w:World),w.grownBy (w.setCells b o vs) (some b)
 |[],_,_=>⟨rfl,rfl,rfl,Nat.le_refl _,λ_ _ _=>rfl⟩
 |v::r,o,w=>(Dt w (E b o) v).trans (Di r (o+1) _)
section
variable {α β:Type} {V:α->Value->List Value} {sub:α->List β} {C:Eh β} {m n:Nat}
def NAt(V:α->Value->List Value)(sub:α->List β)(C:Eh β)(m n base:Nat)(v:Value)(w:World)(cs:List Value)(l:List α):Prop :=
 ∀j x,l[j]?=some x->∃(ae:OA)(ce:Nat),(∀i u,(V x (.slice ae (sub x).length ce))[i]?=some u->cs[j*n+i]?=some u)/\SliceC C m base w ae (sub x)/\∀b o,ae=(O b o)->sub x≠[]->some b≠v.ownBlock/\b<w.heap.size
def OwnN(V:α->Value->List Value)(sub:α->List β)(C:Eh β)(m n:Nat)(T:TypeId)(base:Nat)(w:World)(v:Value)(l:List α):Prop :=
 ∃cs,w.ownsRow base T n v l.length cs/\NAt V sub C m n base v w cs l
theorem OwnN.nil{T:TypeId}{base:Nat}{w:World}:OwnN V sub C m n T base w (.slice none 0 0) []:=⟨[],World.ownsRow_nil _ _ _ _,λj x h=>by cases h⟩
theorem OwnN.below{T:TypeId}{base:Nat}{w w':World}{v:Value}{l:List α}(hC:Eu C m)(h:OwnN V sub C m n T base w v l)(hb:bW w w'):OwnN V sub C m n T base w' v l:=by
 obtain⟨cs,h1,h2⟩:=h;refine⟨cs,Ak h1 hb,λj x hj=>?_⟩;obtain⟨ae,ce,q1,q2,q3⟩:=h2 j x hj;exact⟨ae,ce,q1,q2.below hC hb nL,λb o e hn=>⟨(q3 b o e hn).1,lL (q3 b o e hn).2 hb.size⟩⟩
theorem OwnN.kept{T:TypeId}{base:Nat}{w w':World}{v:Value}{l:List α}{row:Option Nat}(hC:FlatC C m)(h:OwnN V sub C m n T base w v l)(hg:w.grownBy w' row)(hr:∀r,row=some r->r<base):OwnN V sub C m n T base w' v l:=by
 obtain⟨cs,h1,h2⟩:=h;have hv:v.ownBlock=none\/v.ownBlock≠row:=by
  cases e:v.ownBlock with
  |none=>exact .inl rfl
  |some k =>
   refine .inr (λe2=>?_);have:=(h1.lt k e).1;have:=hr k e2.symm;omega
 refine⟨cs,h1.kept hg hv,λj x hj=>?_⟩;obtain⟨ae,ce,q1,q2,q3⟩:=h2 j x hj;refine⟨ae,ce,q1,Ck hC q2 hg (λb o e hn e2=>?_),λb o e hn=>⟨(q3 b o e hn).1,lL (q3 b o e hn).2 hg.size⟩⟩;have hb:=hr b e2.symm;rcases q2.2 with h9|⟨b',o',e',⟨hlo,_⟩,_⟩
 .exact hn h9
 rw[e]at e';cases e'
 omega
theorem OwnN.mono{T:TypeId}{base base':Nat}{w:World}{v:Value}{l:List α}(hC:Eu C m)(h:OwnN V sub C m n T base w v l)(hb:base'<=base):OwnN V sub C m n T base' w v l:=by
 obtain⟨cs,h1,h2⟩:=h;refine⟨cs,Mz h1 hb,λj x hj=>?_⟩;obtain⟨ae,ce,q1,q2,q3⟩:=h2 j x hj;exact⟨ae,ce,q1,q2.keep hC (Keeps.refl _ _) hb,q3⟩
theorem OwnN.snoc{T:TypeId}{base:Nat}{w w':World}{v v':Value}{l:List α}{x:α}{ae:OA}{ce:Nat}{cs:List Value}(hC:FlatC C m)(h1:w.ownsRow base T n v l.length cs)(h2:NAt V sub C m n base v w cs l)(hV:∀x s,(V x s).length=n)(hs:SliceC C m base w ae (sub x))(hb:∀b o,ae=(O b o)->sub x≠[]->some b≠v.ownBlock/\b<w.heap.size)(ho:w'.ownsRow base T n v' (l.length+1) (cs++V x (.slice ae (sub x).length ce)))(hg:w.grownBy w' v.ownBlock)(hv:v'.ownBlock=v.ownBlock\/v'.ownBlock=some w.heap.size):OwnN V sub C m n T base w' v' (l++[x]):=by
 have far:∀b:Nat,some b≠v.ownBlock/\b<w.heap.size->some b≠v'.ownBlock/\b<w'.heap.size:=by
  intro b hb;refine⟨?_,lL hb.2 hg.size⟩;rcases hv with e|e
  .rw[e];exact hb.1
  rw[e];intro e2;cases e2;omega
 have hl:cs.length=l.length*n:=h1.1;refine⟨_,by simpa using ho,λj c hj=>?_⟩;by_cases hlt:j<l.length
 .rw[List.getElem?_append_left hlt]at hj
  obtain⟨ae',ce',q1,q2,q3⟩:=h2 j c hj;refine⟨ae',ce',λi u hu=>?_,Ck hC q2 hg (λb o e hn=>(q3 b o e hn).1),λb o e hn=>far b (q3 b o e hn)⟩;have hi:i<n:=by have:=Af hu;rwa [hV]at this
  have:(j+1)*n<=l.length*n:=Nat.mul_le_mul_right n (by omega);rw[Nat.add_mul]at this;rw[List.getElem?_append_left (by rw[hl];omega)];exact q1 i u hu
 have hje:j=l.length:=by have:=Af hj;simp at this;omega
 subst hje;simp at hj;subst hj;refine⟨ae,ce,λi u hu=>?_,Ck hC hs hg (λb o e hn=>(hb b o e hn).1),λb o e hn=>far b (hb b o e hn)⟩;rw[List.getElem?_append_right (by rw[hl];omega),hl,Nat.add_sub_cancel_left];exact hu
theorem OwnN.slice{XC:Eh α}{T:TypeId}{base:Nat}{w:World}{a:OA}{q:Nat}{l:List α}(h:OwnN V sub C m n T base w (.slice a l.length q) l)(hV:∀x s,(V x s).length=n)(hm:l.length<=maxLen)(hX:∀(f:Nat->Option Value) (x:α) (ae:OA) (ce:Nat),x∈l->(∀i u,(V x (.slice ae (sub x).length ce))[i]?=some u->f i=some u)->SliceC C m base w ae (sub x)->XC base w f x):SliceC XC n base w a l:=by
 obtain⟨cs,h1,h2⟩:=h;rcases h1.2 with⟨hv,_⟩|⟨g,cap,cur,hv,hb,hg,_⟩
 .have:l.length=0:=by injection hv
  rw[List.length_eq_zero_iff.1 this];exact SliceC.nil
 have ea:a=(O g 0):=by injection hv
 subst ea;refine⟨hm,.inr ⟨g,0,rfl,⟨hb,λ_ p=>h1.frozenAt p⟩,(Array.getElem?_eq_some_iff.1 hg).1,λj x hj=>?_⟩⟩;have hlt:=Af hj;obtain⟨ae,ce,q1,q2,_⟩:=h2 j x hj;refine hX _ x ae ce (List.mem_of_getElem? hj) (λi u hu=>?_) q2;have hi:i<n:=by have:=Af hu;rwa [hV]at this
 have hj2:(j+1)*n<=l.length*n:=Nat.mul_le_mul_right n (by omega);rw[Nat.add_mul]at hj2;have:=h1.cellAt (j*n+i) (by omega);rw[q1 i u hu]at this;simpa using this
end
def vBr(x:Brt)(s:Value):List Value:=[Y x.name,Y x.zone,s,X x.room,X x.hold,.bool x.closed]
def vCp(x:Cpy)(s:Value):List Value:=[Y x.name,Y x.service,X x.rank,X x.born,X x.room,X x.hold,Y x.select,s,X x.apart,Y x.near,Y x.fixed,Y x.at_]
theorem Pe(x:Brt)(s:Value):(vBr x s).length=6:=rfl
theorem Iz(x:Cpy)(s:Value):(vCp x s).length=12:=rfl
abbrev BI(base:Nat)(w:World)(v:Value)(l:List Brt):Prop:=OwnN vBr Brt.marks StrC 1 6 92 base w v l
abbrev Rr(base:Nat)(w:World)(v:Value)(l:List Cpy):Prop:=OwnN vCp Cpy.likes LikC 2 12 54 base w v l
def SzB(l:List Brt):Prop:=∀x∈l,x.name.size<=maxLen/\x.zone.size<=maxLen
def SzC(l:List Cpy):Prop:=∀x∈l,x.name.size<=maxLen/\x.service.size<=maxLen/\x.select.size<=maxLen/\x.near.size<=maxLen/\x.fixed.size<=maxLen/\x.at_.size<=maxLen
theorem SzB.of{lo:Nat}{w:World}{a:OA}{l:List Brt}(h:sB lo w a l):SzB l:=by
 intro x hx;obtain⟨j,hj⟩:=List.getElem?_of_mem hx;obtain⟨_,_,_,_,_,hc⟩:=h.at hj;obtain⟨_,_,_,_,_,_,_,_,z0,z1,_⟩:=hc;exact⟨z0,z1⟩
theorem SzC.of{lo:Nat}{w:World}{a:OA}{l:List Cpy}(h:sC lo w a l):SzC l:=by
 intro x hx;obtain⟨j,hj⟩:=List.getElem?_of_mem hx;obtain⟨_,_,_,_,_,hc⟩:=h.at hj;obtain⟨_,_,_,_,_,_,_,_,_,_,_,_,_,_,z0,z1,z6,z9,z10,z11,_⟩:=hc;exact⟨z0,z1,z6,z9,z10,z11⟩
theorem OwnN.berths{base:Nat}{w:World}{a:OA}{q:Nat}{l:List Brt}(h:BI base w (.slice a l.length q) l)(hz:SzB l)(hm:l.length<=maxLen):sB base w a l :=
 OwnN.slice h Pe hm (λ_ x ae ce hx hf hs=>⟨ae,ce,hf 0 _ rfl,hf 1 _ rfl,hf 2 _ rfl,hf 3 _ rfl,hf 4 _ rfl,hf 5 _ rfl,(hz x hx).1,(hz x hx).2,hs⟩)
theorem OwnN.copies{base:Nat}{w:World}{a:OA}{q:Nat}{l:List Cpy}(h:Rr base w (.slice a l.length q) l)(hz:SzC l)(hm:l.length<=maxLen):sC base w a l :=
 OwnN.slice h Iz hm (λ_ x ae ce hx hf hs=>⟨ae,ce,hf 0 _ rfl,hf 1 _ rfl,hf 2 _ rfl,hf 3 _ rfl,hf 4 _ rfl,hf 5 _ rfl,hf 6 _ rfl,hf 7 _ rfl,hf 8 _ rfl,hf 9 _ rfl,hf 10 _ rfl,hf 11 _ rfl,(hz x hx).1,(hz x hx).2.1,(hz x hx).2.2.1,(hz x hx).2.2.2.1,(hz x hx).2.2.2.2.1,(hz x hx).2.2.2.2.2,hs⟩)
section
variable {α β:Type} {V:α->Value->List Value} {sub:α->List β} {C:Eh β} {m n f:Nat}
def ApN(n f:Nat)(cs:List Value)(len:Nat):Prop :=
 ∀(i j b o k c b' o' k' c':Nat),i<j->j<len->cs[i*n+f]?=some (sP b o k c)->cs[j*n+f]?=some (sP b' o' k' c')->0<k->0<k'->b≠b'
structure PAt (V:α->Value->List Value) (sub:α->List β) (C:Eh β) (m n f base lo N g:Nat) (W w:World) (cs:List Value) (l:List α) (k:Nat):Prop where
 new:∀j x,j<k->l[j]?=some x->∃(ae:OA)(ce:Nat),(∀i u,(V x (.slice ae (sub x).length ce))[i]?=some u->cs[j*n+i]?=some u)/\SliceC C m base w ae (sub x)/\∀b o,ae=(O b o)->sub x≠[]->b≠g/\b<N
 old:∀j x,k<=j->l[j]?=some x->∃(ae:OA)(ce:Nat),(∀i u,(V x (.slice ae (sub x).length ce))[i]?=some u->cs[j*n+i]?=some u)/\SliceC C m lo W ae (sub x)
 apart:ApN n f cs k
theorem PAt.below{base lo N N' g:Nat}{W w w':World}{cs:List Value}{l:List α}{k:Nat}(hC:Eu C m)(h:PAt V sub C m n f base lo N g W w cs l k)(hb:bW w w')(hN:N<=N'):PAt V sub C m n f base lo N' g W w' cs l k:=by
 refine⟨λj x hj hx=>?_,h.old,h.apart⟩;obtain⟨ae,ce,q1,q2,q3⟩:=h.new j x hj hx;exact⟨ae,ce,q1,q2.below hC hb nL,λb o e hn=>⟨(q3 b o e hn).1,lL (q3 b o e hn).2 hN⟩⟩
theorem PAt.step{base lo N N' g:Nat}{W w:World}{cs:List Value}{l:List α}{k:Nat}{x:α}{ae:OA}{ce:Nat}(hC:FlatC C m)(hV:∀x s,(V x s).length=n)(hf:∀x s,(V x s)[f]?=some s)(h:PAt V sub C m n f base lo N g W w cs l k)(hx:l[k]?=some x)(hl:cs.length=l.length*n)(hs:SliceC C m base w ae (sub x))(hb:∀b o,ae=(O b o)->sub x≠[]->N<=b/\b≠g/\b<N')(hN:N<=N') :
  PAt V sub C m n f base lo N' g W (w.setCells g (k*n) (V x (.slice ae (sub x).length ce))) (Cv cs (k*n) (V x (.slice ae (sub x).length ce))) l (k+1):=by
 have hkl:=Af hx;have hn:f<n:=by have:=Af (hf x (.slice none 0 0));rwa [hV]at this
 have hkn:(k+1)*n<=l.length*n:=Nat.mul_le_mul_right n (by omega);rw[Nat.add_mul]at hkn;have out:∀j i,i<n->j≠k->(Cv cs (k*n) (V x (.slice ae (sub x).length ce)))[j*n+i]?=cs[j*n+i]?:=by
  intro j i hi hj;refine Ky _ _ _ _ ?_;rw[hV];rcases Nat.lt_or_ge j k with h1|h1
  .have:(j+1)*n<=k*n:=Nat.mul_le_mul_right n (by omega)
   rw[Nat.add_mul]at this;omega
  have:(k+1)*n<=j*n:=Nat.mul_le_mul_right n (by omega);rw[Nat.add_mul]at this;omega
 have inn:∀i,i<n->(Cv cs (k*n) (V x (.slice ae (sub x).length ce)))[k*n+i]?=(V x (.slice ae (sub x).length ce))[i]?:=by
  intro i hi;exact Sc _ _ _ _ (by rw[hV];omega) (by rw[hV];exact hi)
 refine⟨λj y hj hy=>?_,λj y hj hy=>?_,?_⟩
 .by_cases e:j=k
  .subst e
   rw[hx]at hy;cases hy
   refine⟨ae,ce,λi u hu=>?_,Ck hC hs (Di _ _ _) (λb o e hne e2=>by cases e2;exact(hb _ o e hne).2.1 rfl),λb o e hne=>⟨(hb b o e hne).2.1,(hb b o e hne).2.2⟩⟩;have hi:i<n:=by have:=Af hu;rwa [hV]at this
   rw[inn i hi];exact hu
  obtain⟨ae',ce',q1,q2,q3⟩:=h.new j y (by omega) hy;refine⟨ae',ce',λi u hu=>?_,Ck hC q2 (Di _ _ _) (λb o e hne e2=>by cases e2;exact(q3 _ o e hne).1 rfl),λb o e hne=>⟨(q3 b o e hne).1,lL (q3 b o e hne).2 hN⟩⟩;have hi:i<n:=by have:=Af hu;rwa [hV]at this
  rw[out j i hi e];exact q1 i u hu
 .obtain⟨ae',ce',q1,q2⟩:=h.old j y (by omega) hy
  refine⟨ae',ce',λi u hu=>?_,q2⟩;have hi:i<n:=by have:=Af hu;rwa [hV]at this
  rw[out j i hi (by omega)];exact q1 i u hu
 intro i j b o p c b' o' p' c' hij hj hci hcj hp hp';rw[out i f hn (by omega)]at hci;by_cases e:j=k
 .subst e
  rw[inn f hn,hf]at hcj;obtain⟨y,hy⟩:∃y,l[i]?=some y:=⟨l[i]'(by omega),gE (by omega)⟩;obtain⟨ae',ce',q1,_,q3⟩:=h.new i y hij hy;have h1:=q1 f _ (hf y _);rw[hci]at h1;cases h1
  cases hcj
  have h2:=(q3 b o rfl (λe=>by rw[e]at hp;cases hp)).2;have h3:=(hb b' o' rfl (λe=>by rw[e]at hp';cases hp')).1;omega
 rw[out j f hn e]at hcj;exact h.apart i j b o p c b' o' p' c' hij (by omega) hci hcj hp hp'
def OwnA(V:α->Value->List Value)(sub:α->List β)(C:Eh β)(m n f:Nat)(T:TypeId)(base:Nat)(w:World)(v:Value)(l:List α):Prop :=
 ∃cs,w.ownsRow base T n v l.length cs/\NAt V sub C m n base v w cs l/\ApN n f cs l.length
theorem OwnA.own{T:TypeId}{base:Nat}{w:World}{v:Value}{l:List α}(h:OwnA V sub C m n f T base w v l):OwnN V sub C m n T base w v l:=by
 obtain⟨cs,h1,h2,_⟩:=h;exact⟨cs,h1,h2⟩
theorem OwnA.nil{T:TypeId}{base:Nat}{w:World}:OwnA V sub C m n f T base w (.slice none 0 0) []:=⟨[],World.ownsRow_nil _ _ _ _,λj x h=>(by cases h),λi j _ _ _ _ _ _ _ _ _ h=>absurd h (Nat.not_lt_zero _)⟩
theorem OwnA.below{T:TypeId}{base:Nat}{w w':World}{v:Value}{l:List α}(hC:Eu C m)(h:OwnA V sub C m n f T base w v l)(hb:bW w w'):OwnA V sub C m n f T base w' v l:=by
 obtain⟨cs,h1,h2,h3⟩:=h;refine⟨cs,Ak h1 hb,λj x hj=>?_,h3⟩;obtain⟨ae,ce,q1,q2,q3⟩:=h2 j x hj;exact⟨ae,ce,q1,q2.below hC hb nL,λb o e hn=>⟨(q3 b o e hn).1,lL (q3 b o e hn).2 hb.size⟩⟩
theorem OwnA.mono{T:TypeId}{base base':Nat}{w:World}{v:Value}{l:List α}(hC:Eu C m)(h:OwnA V sub C m n f T base w v l)(hb:base'<=base):OwnA V sub C m n f T base' w v l:=by
 obtain⟨cs,h1,h2,h3⟩:=h;refine⟨cs,Mz h1 hb,λj x hj=>?_,h3⟩;obtain⟨ae,ce,q1,q2,q3⟩:=h2 j x hj;exact⟨ae,ce,q1,q2.keep hC (Keeps.refl _ _) hb,q3⟩
theorem PAt.done{base lo N g q:Nat}{W w:World}{cs:List Value}{l:List α}{T:TypeId}(h:PAt V sub C m n f base lo N g W w cs l l.length)(hN:N<=w.heap.size)(ho:w.ownsRow base T n (sP g 0 l.length q) l.length cs):OwnA V sub C m n f T base w (sP g 0 l.length q) l:=by
 refine⟨cs,ho,λj x hj=>?_,h.apart⟩;obtain⟨ae,ce,q1,q2,q3⟩:=h.new j x (Af hj) hj;exact⟨ae,ce,q1,q2,λb o e hn=>⟨λe2=>(q3 b o e hn).1 (by cases e2;rfl),lL (q3 b o e hn).2 hN⟩⟩
theorem gX{lo:Nat}{w:World}{ad:Addr}(hV:∀x s,(V x s).length=n)(hO:∀x a p c,∀u∈V x (.slice a p c),u.oneCell'=true)(l:List α)(h:∀j x,l[j]?=some x->∃(ae:OA) (ce:Nat),(∀i u,(V x (.slice ae (sub x).length ce))[i]?=some u->w.cell? (ad.add (j*n+i))=some u)/\SliceC C m lo w ae (sub x)) :
  ∃cs:List Value,cs.length=l.length*n/\(∀j u,cs[j]?=some u->w.cell? (ad.add j)=some u)/\(∀u∈cs,u.oneCell'=true)/\∀j x,l[j]?=some x->∃(ae:OA)(ce:Nat),(∀i u,(V x (.slice ae (sub x).length ce))[i]?=some u->cs[j*n+i]?=some u)/\SliceC C m lo w ae (sub x):=by
 suffices hk:∀k,k<=l.length->∃cs:List Value,cs.length=k*n/\(∀j u,cs[j]?=some u->w.cell? (ad.add j)=some u)/\(∀u∈cs,u.oneCell'=true)/\∀j x,j<k->l[j]?=some x->∃(ae:OA)(ce:Nat),(∀i u,(V x (.slice ae (sub x).length ce))[i]?=some u->cs[j*n+i]?=some u)/\SliceC C m lo w ae (sub x) by
  obtain⟨cs,h1,h2,h3,h4⟩:=hk l.length nL;exact⟨cs,h1,h2,h3,λj x hj=>h4 j x (Af hj) hj⟩
 intro k
 induction k with
 |zero=>exact λ_=>⟨[],by simp,λj u hu=>(by cases hu),λu hu=>(by cases hu),λj x hj=>absurd hj (Nat.not_lt_zero _)⟩
 | succ k ih =>
  intro hk;obtain⟨cs,h1,h2,h3,h4⟩:=ih (by omega);obtain⟨x,hx⟩:∃x,l[k]?=some x:=⟨l[k]'(by omega),gE (by omega)⟩;obtain⟨ae,ce,q1,q2⟩:=h k x hx;refine⟨cs++V x (.slice ae (sub x).length ce),by rw[List.length_append,h1,hV,Nat.add_mul];omega,λj u hu=>?_,λu hu=>?_,λj y hj hy=>?_⟩
  .by_cases hlt:j<cs.length
   .rw[List.getElem?_append_left hlt]at hu
    exact h2 j u hu
   rw[List.getElem?_append_right (by omega)]at hu;have:=q1 _ u hu
   rwa [show k*n+(j-cs.length)=j by omega]at this
  .rcases List.mem_append.1 hu with hu|hu
   .exact h3 u hu
   exact hO x ae _ ce u hu
  by_cases e:j=k
  .subst e
   rw[hx]at hy;cases hy
   refine⟨ae,ce,λi u hu=>?_,q2⟩;rw[List.getElem?_append_right (by omega),h1,Nat.add_sub_cancel_left];exact hu
  obtain⟨ae',ce',p1,p2⟩:=h4 j y (by omega) hy;refine⟨ae',ce',λi u hu=>?_,p2⟩;have hi:=Af (p1 i u hu);rw[List.getElem?_append_left hi];exact p1 i u hu
end
theorem sD(x:Brt)(s:Value):(vBr x s)[2]?=some s:=rfl
theorem uK(x:Cpy)(s:Value):(vCp x s)[7]?=some s:=rfl
theorem vK(x:Brt)(a:OA)(p c:Nat):∀u∈vBr x (.slice a p c),u.oneCell'=true:=by
 intro u hu;simp only[vBr,List.mem_cons,List.not_mem_nil,or_false]at hu;rcases hu with rfl|rfl|rfl|rfl|rfl|rfl<;>rfl
theorem xM(x:Cpy)(a:OA)(p c:Nat):∀u∈vCp x (.slice a p c),u.oneCell'=true:=by
 intro u hu;simp only[vCp,List.mem_cons,List.not_mem_nil,or_false]at hu;rcases hu with rfl|rfl|rfl|rfl|rfl|rfl|rfl|rfl|rfl|rfl|rfl|rfl<;>rfl
abbrev tY(base:Nat)(w:World)(v:Value)(l:List Brt):Prop:=OwnA vBr Brt.marks StrC 1 6 2 92 base w v l
abbrev Sj(base:Nat)(w:World)(v:Value)(l:List Cpy):Prop:=OwnA vCp Cpy.likes LikC 2 12 7 54 base w v l
theorem sS{lo:Nat}{w:World}{ad:Addr}{l:List Brt}(h:sB lo w (some ad) l):∃cs:List Value,cs.length=l.length*6/\(∀j u,cs[j]?=some u->w.cell? (ad.add j)=some u)/\(∀u∈cs,u.oneCell'=true)/\∀j x,l[j]?=some x->∃(ae:OA)(ce:Nat),(∀i u,(vBr x (.slice ae x.marks.length ce))[i]?=some u->cs[j*6+i]?=some u)/\sX lo w ae x.marks:=by
 refine gX Pe vK l (λj x hj=>?_);obtain⟨b,o,e,_,_,hc⟩:=h.at hj;cases e
 obtain⟨ae,ce,q0,q1,q2,q3,q4,q5,_,_,hs⟩:=hc;refine⟨ae,ce,λi u hu=>?_,hs⟩;have hi:i<6:=Af hu;rw[Addr.add_mid,<-Nat.add_assoc];rcases(by omega:i=0\/i=1\/i=2\/i=3\/i=4\/i=5)with rfl|rfl|rfl|rfl|rfl|rfl<;>(cases hu;assumption)
theorem tV{lo:Nat}{w:World}{ad:Addr}{l:List Cpy}(h:sC lo w (some ad) l):∃cs:List Value,cs.length=l.length*12/\(∀j u,cs[j]?=some u->w.cell? (ad.add j)=some u)/\(∀u∈cs,u.oneCell'=true)/\∀j x,l[j]?=some x->∃(ae:OA)(ce:Nat),(∀i u,(vCp x (.slice ae x.likes.length ce))[i]?=some u->cs[j*12+i]?=some u)/\sK lo w ae x.likes:=by
 refine gX Iz xM l (λj x hj=>?_);obtain⟨b,o,e,_,_,hc⟩:=h.at hj;cases e
 obtain⟨ae,ce,q0,q1,q2,q3,q4,q5,q6,q7,q8,q9,q10,q11,_,_,_,_,_,_,hs⟩:=hc;refine⟨ae,ce,λi u hu=>?_,hs⟩;have hi:i<12:=Af hu;rw[Addr.add_mid,<-Nat.add_assoc];rcases(by omega:i=0\/i=1\/i=2\/i=3\/i=4\/i=5\/i=6\/i=7\/i=8\/i=9\/i=10\/i=11)with rfl|rfl|rfl|rfl|rfl|rfl|rfl|rfl|rfl|rfl|rfl|rfl<;>(cases hu;assumption)
end Go.Proofs.YthboopnmbglkjaaGreat
