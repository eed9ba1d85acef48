import Derived.Test.YtjoeojhdkoidbaaGreatDp1
set_option maxHeartbeats 8000000
namespace Go.Proofs.YtjoeojhdkoidbaaGreat
open Tryz
set_option maxRecDepth 100000
open Go.RowKit Tryz
theorem Nl {base:Nat} {e:TypeId} {size:Nat} {v:Value} {n:Nat} {xs:List Value} {w:World} (h:w.ownsRow base e size v n xs) (a:Addr) (ha:a.block<base) (u:Value):(w.setCell a u).ownsRow base e size v n xs:=by
 refine ⟨h.1,?_⟩;rcases h.2 with h1 | ⟨g,cap,cur,h1,h2,h3,h4⟩
 ·exact .inl h1
 ·exact .inr ⟨g,cap,cur,h1,h2,(Below.heap_setCell w a u g (by omega)).trans h3,h4⟩
theorem Ky {base:Nat} {e:TypeId} {size:Nat} {v:Value} {n:Nat} {xs:List Value} {b:Nat} (hb:b<base):∀ (vs:List Value) (o:Nat) (w:World),w.ownsRow base e size v n xs→(w.setCells b o vs).ownsRow base e size v n xs
 | [],_,_,h=>h
 | u::r,o,_,h=>Ky hb r (o+1) _ (Nl h ⟨b,o,none⟩ hb u)
theorem Wt {base base':Nat} {e:TypeId} {size:Nat} {v:Value} {n:Nat} {xs:List Value} {w:World} (h:w.ownsRow base e size v n xs) (hb:base'≤base):w.ownsRow base' e size v n xs:=by
 refine ⟨h.1,?_⟩;rcases h.2 with h1 | ⟨g,cap,cur,h1,h2,h3⟩
 ·exact .inl h1
 ·exact .inr ⟨g,cap,cur,h1,lT hb h2,h3⟩
theorem mK (x:Brt) (a2:OA) (c2 lo:Nat) (w:World) (n2:SliceC StrC 1 lo w a2 x.marks) (hl:x.marks.length≤1048576) (hz:Xf x.marks 1048576) (z0:x.name.size≤1048576) (z1:x.zone.size≤1048576) :
  Calls prog 72 #[.agg (bbA x a2 c2)] w fun e w'=>∃ g q,e=.returned (.agg (bbA x g q))∧w'.ownsRow w.heap.size 9 1 (.slice g x.marks.length q) x.marks.length (Fc x.marks)∧Below w.heap.size w w':=by
 have HN2:=iH n2;have HSZ:=iH hz;clear n2 hz;have hB3:=bl2 w (bbA x a2 c2) 60 BbA 60;have h1:=Blk.alloc w (bbA x a2 c2) 60;have HX:=iH (h1.below ((Below.refl _ _).alloc nL (Obj.cells BbA 60)) h1.lt);have HZ:=al2 w (bbA x a2 c2) 60 BbA 60;clear h1;go_enter func72,ntmps72;go_upto_region 1 with fail;generalize ((w.alloc (Obj.cells (bbA x a2 c2) 60)).alloc (Obj.cells BbA 60))=w3 at *;refine wp_region_held_drew (S:=fun wy=>Blk w.heap.size (bbA x a2 c2) 60 wy∧Blk (w.heap.size+1) BbA 60 wy) (by kernel_rfl) ⟨HX.out.drew,HZ.out.drew⟩ (fun hS=>?_);refine tz 0 3 (.pointer (some ⟨w.heap.size,0,none⟩)) rfl hS ?_;simp only [pX];refine ty 1 ⟨some 4,_,_,_,_,none⟩ (.string x.name) rfl (by rfl) ?_ hS ?_
 ·intro wy hy
  have h0:=hy.1.cell (o:=0) (v:=.string x.name) rfl;clear hy;go_simp
 simp only [pX];refine tz 3 6 (.pointer (some ⟨w.heap.size,1,none⟩)) rfl hS ?_;simp only [pX];refine ty 4 ⟨some 7,_,_,_,_,none⟩ (.string x.zone) rfl (by rfl) ?_ hS ?_
 ·intro wy hy
  have h0:=hy.1.cell (o:=1) (v:=.string x.zone) rfl;clear hy;go_simp
 simp only [pX];refine rd1 2 ⟨some 5,_,_,_,_,none⟩ rfl (fun K hK=>?_);go_simp;refine (Ei x.name _ z0).mono ?_;rintro e w4 ⟨rfl,hb4⟩;have hB4:=hB3.trans ((((Below.refl w3.heap.size w3).drew).trans hb4).mono hB3.size);refine hK.out _ _ ⟨hS.1.below hb4 hS.1.lt,hS.2.below hb4 hS.2.lt⟩ (fun hS=>?_);clear hK K;clear hb4;refine tz 6 9 (.pointer (some ⟨w.heap.size,0,none⟩)) rfl hS ?_;simp only [pX];refine rd1 5 ⟨some 8,_,_,_,_,none⟩ rfl (fun K hK=>?_);go_simp;refine (Ei x.zone _ z1).mono ?_;rintro e w5 ⟨rfl,hb5⟩;have hB5:=qTr hB4 hb5;refine hK.out _ _ ⟨hS.1.below hb5 hS.1.lt,hS.2.below hb5 hS.2.lt⟩ (fun hS=>?_);clear hK K;clear hb5;have kk:w5.cell? ⟨w.heap.size,0,none⟩=some (.string x.name):=hS.1.cell rfl;have ff:w5.frozen? ⟨w.heap.size,0,none⟩=false:=hS.1.frozen _;refine rd1 7 ⟨none,_,_,_,_,none⟩ rfl (fun K hK=>?_);go_simp;have hX6:Blk w.heap.size (bbA x a2 c2) 60 (w5.setCell ⟨w.heap.size,0,none⟩ (.string x.name)):=hS.1.set 0 _;have hZ6:Blk (w.heap.size+1) BbA 60 (w5.setCell ⟨w.heap.size,0,none⟩ (.string x.name)):=hS.2.other (by simp) _;have hB6:Below w.heap.size w (w5.setCell ⟨w.heap.size,0,none⟩ (.string x.name)):=hB5.setCell (p:=⟨w.heap.size,0,none⟩) nL _;refine hK.out _ _ ⟨hX6,hZ6⟩ (fun hS=>?_);clear hK K kk ff hX6 hZ6;generalize w5.setCell ⟨w.heap.size,0,none⟩ (.string x.name)=w6 at *;refine tz 8 10 (.pointer (some ⟨w.heap.size,1,none⟩)) rfl hS ?_;simp only [pX];have kk:w6.cell? ⟨w.heap.size,1,none⟩=some (.string x.zone):=hS.1.cell rfl;have ff:w6.frozen? ⟨w.heap.size,1,none⟩=false:=hS.1.frozen _;refine rd1 9 ⟨none,_,_,_,_,none⟩ rfl (fun K hK=>?_);go_simp;have hX7:Blk w.heap.size (bbA x a2 c2) 60 (w6.setCell ⟨w.heap.size,1,none⟩ (.string x.zone)):=hS.1.set 1 _;have hZ7:Blk (w.heap.size+1) BbA 60 (w6.setCell ⟨w.heap.size,1,none⟩ (.string x.zone)):=hS.2.other (by simp) _;have hB7:Below w.heap.size w (w6.setCell ⟨w.heap.size,1,none⟩ (.string x.zone)):=hB6.setCell (p:=⟨w.heap.size,1,none⟩) nL _;refine hK.out _ _ ⟨hX7,hZ7⟩ (fun hS=>?_);clear hK K kk ff hX7 hZ7;generalize w6.setCell ⟨w.heap.size,1,none⟩ (.string x.zone)=w7 at *;have HX7:=iH hS.1;have HZ7:=iH hS.2;refine td ?_;clear hS;have k2:w7.cell? ⟨w.heap.size,2,none⟩=some (.slice a2 x.marks.length c2):=HX7.out.cell rfl;go_wp2_with fail;refine (Zy x.marks a2 c2 lo _ (HN2.out.below StrC.holds hB7 nL) hl HSZ).mono ?_;rintro e w8 ⟨g,q,rfl,hO8,hb8⟩;have HO8:=iH hO8;have HX8:=qBk HX7 hb8;have HZ8:=qBk HZ7 hb8;have hB8:=qTr hB7 hb8;have hl7:w.heap.size+1<w7.heap.size:=HZ7.out.lt;have c8:w8.cell? ⟨w.heap.size,2,none⟩=some (.slice a2 x.marks.length c2):=HX8.out.cell rfl;have f8:=HX8.out.frozen 2;have HX9:Hid (Blk w.heap.size (bbA x g q) 60 (w8.setCell ⟨w.heap.size,2,none⟩ (.slice g x.marks.length q))):=HX8.out.set 2 _;have HZ9:Hid (Blk (w.heap.size+1) BbA 60 (w8.setCell ⟨w.heap.size,2,none⟩ (.slice g x.marks.length q))):=HZ8.out.other (a:=⟨w.heap.size,2,none⟩) (show w.heap.size+1≠w.heap.size by omega) _
 have hB9:Below w.heap.size w (w8.setCell ⟨w.heap.size,2,none⟩ (.slice g x.marks.length q)):=hB8.setCell (p:=⟨w.heap.size,2,none⟩) nL _;have HO9:Hid ((w8.setCell ⟨w.heap.size,2,none⟩ (.slice g x.marks.length q)).ownsRow w7.heap.size 9 1 (.slice g x.marks.length q) x.marks.length (Fc x.marks)):=Nl HO8 _ (show w.heap.size<w7.heap.size by omega) _;clear HX7 HZ7 hB7 hb8 hO8 k2;go_upto_region 3 with fail;clear c8 f8 HX8 HZ8 hB8 HO8;generalize w8.setCell ⟨w.heap.size,2,none⟩ (.slice g x.marks.length q)=w9 at *;obtain ⟨wf,HE⟩:∃ wf,Hid (wf=w9.setCells (w.heap.size+1) 0 (bbL x g q)):=⟨_,rfl⟩;have HT:Hid (w9.there (w.heap.size+1) 0 6):=HZ9.out.there;have HR8:Hid (wf.rangeAt (w.heap.size+1) 0 (bbL x g q)):=by
  show World.rangeAt _ _ _ _
  rw [HE.out];exact World.rangeAt_setCells_same _ _ _ _ HT
 have hBf:Below w.heap.size w wf:=by
  rw [HE.out];exact Ad (by omega) _ _ _ hB9
 have HOf:Hid (wf.ownsRow w7.heap.size 9 1 (.slice g x.marks.length q) x.marks.length (Fc x.marks)):=by
  show World.ownsRow _ _ _ _ _ _ _
  rw [HE.out];exact Ky hl7 _ _ _ HO9
 clear hB9 HZ9 HO9;go_wp2_with (first | (refine qLk Ji HX9 ?_) | (refine Ag rfl 60 _ _ rfl (w.heap.size+1) 0 (bbA x g q) rfl rfl HT Bd (by simp [Value.oneCell']) wf HE ?_));exact bodyPost_ret (Av rfl _ _ (w.heap.size+1) (bbL x g q) _ rfl HR8 underlying60 rfl Bd) rfl ⟨g,q,rfl,Wt HOf (by omega),hBf⟩
theorem mS (x:Cpy) (a2:OA) (c2 lo:Nat) (w:World) (n2:SliceC LikC 2 lo w a2 x.likes) (hl:x.likes.length≤1048576) (hz:Wd x.likes 1048576) (z0:x.name.size≤1048576) (z1:x.service.size≤1048576) (z6:x.select.size≤1048576) (z9:x.near.size≤1048576) (z10:x.fixed.size≤1048576) (z11:x.at_.size≤1048576) :
  Calls prog 76 #[.agg (ccA x a2 c2)] w fun e w'=>∃ g q,e=.returned (.agg (ccA x g q))∧w'.ownsRow w.heap.size 143 2 (.slice g x.likes.length q) x.likes.length (Ec x.likes)∧Below w.heap.size w w':=by
 have HN2:=iH n2;have HSZ:=iH hz;clear n2 hz;have hB3:=bl2 w (ccA x a2 c2) 55 CcA 55;have h1:=Blk.alloc w (ccA x a2 c2) 55;have HX:=iH (h1.below ((Below.refl _ _).alloc nL (Obj.cells CcA 55)) h1.lt);have HZ:=al2 w (ccA x a2 c2) 55 CcA 55;clear h1;go_enter func76,ntmps76;go_upto_region 1 with fail;generalize ((w.alloc (Obj.cells (ccA x a2 c2) 55)).alloc (Obj.cells CcA 55))=w3 at *;have hba:=(Below.refl _ w3).alloc nL (Obj.cells #[.pointer (some ⟨w.heap.size,0,none⟩),.pointer (some ⟨w.heap.size,1,none⟩),.pointer (some ⟨w.heap.size,6,none⟩),.pointer (some ⟨w.heap.size,9,none⟩),.pointer (some ⟨w.heap.size,10,none⟩),.pointer (some ⟨w.heap.size,11,none⟩)] 166);have HP4:=iH (Blk.alloc w3 #[.pointer (some ⟨w.heap.size,0,none⟩),.pointer (some ⟨w.heap.size,1,none⟩),.pointer (some ⟨w.heap.size,6,none⟩),.pointer (some ⟨w.heap.size,9,none⟩),.pointer (some ⟨w.heap.size,10,none⟩),.pointer (some ⟨w.heap.size,11,none⟩)] 166);have HX4:=qBk HX hba;have HZ4:=qBk HZ hba;have hB4:=qTr hB3 hba;have hgp:w.heap.size+1<w3.heap.size:=HZ.out.lt;clear HX HZ hB3 hba;go_upto_region 2 with fail;generalize (w3.alloc (Obj.cells #[.pointer (some ⟨w.heap.size,0,none⟩),.pointer (some ⟨w.heap.size,1,none⟩),.pointer (some ⟨w.heap.size,6,none⟩),.pointer (some ⟨w.heap.size,9,none⟩),.pointer (some ⟨w.heap.size,10,none⟩),.pointer (some ⟨w.heap.size,11,none⟩)] 166))=w4 at *;generalize w3.heap.size=gp at *;go_loopw [13] (fun i wr=>∃ k:Nat,k≤6∧i=.int .i64 k∧Hid (Blk w.heap.size (ccA x a2 c2) 55 wr)∧Hid (Blk (w.heap.size+1) CcA 55 wr)∧Hid (Blk gp #[.pointer (some ⟨w.heap.size,0,none⟩),.pointer (some ⟨w.heap.size,1,none⟩),.pointer (some ⟨w.heap.size,6,none⟩),.pointer (some ⟨w.heap.size,9,none⟩),.pointer (some ⟨w.heap.size,10,none⟩),.pointer (some ⟨w.heap.size,11,none⟩)] 166 wr)∧Below w.heap.size w wr) (fun i _=>6 - (intOf i).toNat)
 case atStart=>exact ⟨0,by omega,rfl,HX4,HZ4,HP4,hB4⟩
 case round =>
  clear HX4 HZ4 HP4 hB4;obtain ⟨k,hk,rfl,HX,HZ,HP,hB⟩:=hrel;rcases (by omega:k=0∨k=1∨k=2∨k=3∨k=4∨k=5∨k=6) with rfl | rfl | rfl | rfl | rfl | rfl | rfl
  ·have d0:wr.cell? ⟨gp,0,none⟩=some (.pointer (some ⟨w.heap.size,0,none⟩)):=HP.out.cell rfl
   have k0:wr.cell? ⟨w.heap.size,0,none⟩=some (.string x.name):=HX.out.cell rfl;go_wp2_with fail;refine (Ei x.name _ z0).mono ?_;rintro e w5 ⟨rfl,hb5⟩;have HX5:=qBk HX hb5;have c5:w5.cell? ⟨w.heap.size,0,none⟩=some (.string x.name):=HX5.out.cell rfl;have f5:=HX5.out.frozen 0;have HX6:Hid (Blk w.heap.size (ccA x a2 c2) 55 (w5.setCell ⟨w.heap.size,0,none⟩ (.string x.name))):=HX5.out.set 0 _;have HZ6:Hid (Blk (w.heap.size+1) CcA 55 (w5.setCell ⟨w.heap.size,0,none⟩ (.string x.name))):=(HZ.out.below hb5 HZ.out.lt).other (a:=⟨w.heap.size,0,none⟩) (show w.heap.size+1≠w.heap.size by omega) _;have HP6:Hid (Blk gp #[.pointer (some ⟨w.heap.size,0,none⟩),.pointer (some ⟨w.heap.size,1,none⟩),.pointer (some ⟨w.heap.size,6,none⟩),.pointer (some ⟨w.heap.size,9,none⟩),.pointer (some ⟨w.heap.size,10,none⟩),.pointer (some ⟨w.heap.size,11,none⟩)] 166 (w5.setCell ⟨w.heap.size,0,none⟩ (.string x.name))):=(HP.out.below hb5 HP.out.lt).other (a:=⟨w.heap.size,0,none⟩) (show gp≠w.heap.size by omega) _;have hB6:Below w.heap.size w (w5.setCell ⟨w.heap.size,0,none⟩ (.string x.name)):=(qTr hB hb5).setCell (p:=⟨w.heap.size,0,none⟩) nL _;clear HX HZ HP hB hb5 d0 k0 HX5;go_wp2_with fail;go_roundw
   case rel=>exact ⟨0+1,by omega,by go_num,HX6,HZ6,HP6,hB6⟩
   case measure=>simp [intOf]
  ·have d0:wr.cell? ⟨gp,1,none⟩=some (.pointer (some ⟨w.heap.size,1,none⟩)):=HP.out.cell rfl
   have k0:wr.cell? ⟨w.heap.size,1,none⟩=some (.string x.service):=HX.out.cell rfl;go_wp2_with fail;refine (Ei x.service _ z1).mono ?_;rintro e w5 ⟨rfl,hb5⟩;have HX5:=qBk HX hb5;have c5:w5.cell? ⟨w.heap.size,1,none⟩=some (.string x.service):=HX5.out.cell rfl;have f5:=HX5.out.frozen 1;have HX6:Hid (Blk w.heap.size (ccA x a2 c2) 55 (w5.setCell ⟨w.heap.size,1,none⟩ (.string x.service))):=HX5.out.set 1 _;have HZ6:Hid (Blk (w.heap.size+1) CcA 55 (w5.setCell ⟨w.heap.size,1,none⟩ (.string x.service))):=(HZ.out.below hb5 HZ.out.lt).other (a:=⟨w.heap.size,1,none⟩) (show w.heap.size+1≠w.heap.size by omega) _;have HP6:Hid (Blk gp #[.pointer (some ⟨w.heap.size,0,none⟩),.pointer (some ⟨w.heap.size,1,none⟩),.pointer (some ⟨w.heap.size,6,none⟩),.pointer (some ⟨w.heap.size,9,none⟩),.pointer (some ⟨w.heap.size,10,none⟩),.pointer (some ⟨w.heap.size,11,none⟩)] 166 (w5.setCell ⟨w.heap.size,1,none⟩ (.string x.service))):=(HP.out.below hb5 HP.out.lt).other (a:=⟨w.heap.size,1,none⟩) (show gp≠w.heap.size by omega) _;have hB6:Below w.heap.size w (w5.setCell ⟨w.heap.size,1,none⟩ (.string x.service)):=(qTr hB hb5).setCell (p:=⟨w.heap.size,1,none⟩) nL _;clear HX HZ HP hB hb5 d0 k0 HX5;go_wp2_with fail;go_roundw
   case rel=>exact ⟨1+1,by omega,by go_num,HX6,HZ6,HP6,hB6⟩
   case measure=>simp [intOf]
  ·have d0:wr.cell? ⟨gp,2,none⟩=some (.pointer (some ⟨w.heap.size,6,none⟩)):=HP.out.cell rfl
   have k0:wr.cell? ⟨w.heap.size,6,none⟩=some (.string x.select):=HX.out.cell rfl;go_wp2_with fail;refine (Ei x.select _ z6).mono ?_;rintro e w5 ⟨rfl,hb5⟩;have HX5:=qBk HX hb5;have c5:w5.cell? ⟨w.heap.size,6,none⟩=some (.string x.select):=HX5.out.cell rfl;have f5:=HX5.out.frozen 6;have HX6:Hid (Blk w.heap.size (ccA x a2 c2) 55 (w5.setCell ⟨w.heap.size,6,none⟩ (.string x.select))):=HX5.out.set 6 _;have HZ6:Hid (Blk (w.heap.size+1) CcA 55 (w5.setCell ⟨w.heap.size,6,none⟩ (.string x.select))):=(HZ.out.below hb5 HZ.out.lt).other (a:=⟨w.heap.size,6,none⟩) (show w.heap.size+1≠w.heap.size by omega) _;have HP6:Hid (Blk gp #[.pointer (some ⟨w.heap.size,0,none⟩),.pointer (some ⟨w.heap.size,1,none⟩),.pointer (some ⟨w.heap.size,6,none⟩),.pointer (some ⟨w.heap.size,9,none⟩),.pointer (some ⟨w.heap.size,10,none⟩),.pointer (some ⟨w.heap.size,11,none⟩)] 166 (w5.setCell ⟨w.heap.size,6,none⟩ (.string x.select))):=(HP.out.below hb5 HP.out.lt).other (a:=⟨w.heap.size,6,none⟩) (show gp≠w.heap.size by omega) _;have hB6:Below w.heap.size w (w5.setCell ⟨w.heap.size,6,none⟩ (.string x.select)):=(qTr hB hb5).setCell (p:=⟨w.heap.size,6,none⟩) nL _;clear HX HZ HP hB hb5 d0 k0 HX5;go_wp2_with fail;go_roundw
   case rel=>exact ⟨2+1,by omega,by go_num,HX6,HZ6,HP6,hB6⟩
   case measure=>simp [intOf]
  ·have d0:wr.cell? ⟨gp,3,none⟩=some (.pointer (some ⟨w.heap.size,9,none⟩)):=HP.out.cell rfl
   have k0:wr.cell? ⟨w.heap.size,9,none⟩=some (.string x.near):=HX.out.cell rfl;go_wp2_with fail;refine (Ei x.near _ z9).mono ?_;rintro e w5 ⟨rfl,hb5⟩;have HX5:=qBk HX hb5;have c5:w5.cell? ⟨w.heap.size,9,none⟩=some (.string x.near):=HX5.out.cell rfl;have f5:=HX5.out.frozen 9;have HX6:Hid (Blk w.heap.size (ccA x a2 c2) 55 (w5.setCell ⟨w.heap.size,9,none⟩ (.string x.near))):=HX5.out.set 9 _;have HZ6:Hid (Blk (w.heap.size+1) CcA 55 (w5.setCell ⟨w.heap.size,9,none⟩ (.string x.near))):=(HZ.out.below hb5 HZ.out.lt).other (a:=⟨w.heap.size,9,none⟩) (show w.heap.size+1≠w.heap.size by omega) _;have HP6:Hid (Blk gp #[.pointer (some ⟨w.heap.size,0,none⟩),.pointer (some ⟨w.heap.size,1,none⟩),.pointer (some ⟨w.heap.size,6,none⟩),.pointer (some ⟨w.heap.size,9,none⟩),.pointer (some ⟨w.heap.size,10,none⟩),.pointer (some ⟨w.heap.size,11,none⟩)] 166 (w5.setCell ⟨w.heap.size,9,none⟩ (.string x.near))):=(HP.out.below hb5 HP.out.lt).other (a:=⟨w.heap.size,9,none⟩) (show gp≠w.heap.size by omega) _;have hB6:Below w.heap.size w (w5.setCell ⟨w.heap.size,9,none⟩ (.string x.near)):=(qTr hB hb5).setCell (p:=⟨w.heap.size,9,none⟩) nL _;clear HX HZ HP hB hb5 d0 k0 HX5;go_wp2_with fail;go_roundw
   case rel=>exact ⟨3+1,by omega,by go_num,HX6,HZ6,HP6,hB6⟩
   case measure=>simp [intOf]
  ·have d0:wr.cell? ⟨gp,4,none⟩=some (.pointer (some ⟨w.heap.size,10,none⟩)):=HP.out.cell rfl
   have k0:wr.cell? ⟨w.heap.size,10,none⟩=some (.string x.fixed):=HX.out.cell rfl;go_wp2_with fail;refine (Ei x.fixed _ z10).mono ?_;rintro e w5 ⟨rfl,hb5⟩;have HX5:=qBk HX hb5;have c5:w5.cell? ⟨w.heap.size,10,none⟩=some (.string x.fixed):=HX5.out.cell rfl;have f5:=HX5.out.frozen 10;have HX6:Hid (Blk w.heap.size (ccA x a2 c2) 55 (w5.setCell ⟨w.heap.size,10,none⟩ (.string x.fixed))):=HX5.out.set 10 _;have HZ6:Hid (Blk (w.heap.size+1) CcA 55 (w5.setCell ⟨w.heap.size,10,none⟩ (.string x.fixed))):=(HZ.out.below hb5 HZ.out.lt).other (a:=⟨w.heap.size,10,none⟩) (show w.heap.size+1≠w.heap.size by omega) _;have HP6:Hid (Blk gp #[.pointer (some ⟨w.heap.size,0,none⟩),.pointer (some ⟨w.heap.size,1,none⟩),.pointer (some ⟨w.heap.size,6,none⟩),.pointer (some ⟨w.heap.size,9,none⟩),.pointer (some ⟨w.heap.size,10,none⟩),.pointer (some ⟨w.heap.size,11,none⟩)] 166 (w5.setCell ⟨w.heap.size,10,none⟩ (.string x.fixed))):=(HP.out.below hb5 HP.out.lt).other (a:=⟨w.heap.size,10,none⟩) (show gp≠w.heap.size by omega) _;have hB6:Below w.heap.size w (w5.setCell ⟨w.heap.size,10,none⟩ (.string x.fixed)):=(qTr hB hb5).setCell (p:=⟨w.heap.size,10,none⟩) nL _;clear HX HZ HP hB hb5 d0 k0 HX5;go_wp2_with fail;go_roundw
   case rel=>exact ⟨4+1,by omega,by go_num,HX6,HZ6,HP6,hB6⟩
   case measure=>simp [intOf]
  ·have d0:wr.cell? ⟨gp,5,none⟩=some (.pointer (some ⟨w.heap.size,11,none⟩)):=HP.out.cell rfl
   have k0:wr.cell? ⟨w.heap.size,11,none⟩=some (.string x.at_):=HX.out.cell rfl;go_wp2_with fail;refine (Ei x.at_ _ z11).mono ?_;rintro e w5 ⟨rfl,hb5⟩;have HX5:=qBk HX hb5;have c5:w5.cell? ⟨w.heap.size,11,none⟩=some (.string x.at_):=HX5.out.cell rfl;have f5:=HX5.out.frozen 11;have HX6:Hid (Blk w.heap.size (ccA x a2 c2) 55 (w5.setCell ⟨w.heap.size,11,none⟩ (.string x.at_))):=HX5.out.set 11 _;have HZ6:Hid (Blk (w.heap.size+1) CcA 55 (w5.setCell ⟨w.heap.size,11,none⟩ (.string x.at_))):=(HZ.out.below hb5 HZ.out.lt).other (a:=⟨w.heap.size,11,none⟩) (show w.heap.size+1≠w.heap.size by omega) _;have HP6:Hid (Blk gp #[.pointer (some ⟨w.heap.size,0,none⟩),.pointer (some ⟨w.heap.size,1,none⟩),.pointer (some ⟨w.heap.size,6,none⟩),.pointer (some ⟨w.heap.size,9,none⟩),.pointer (some ⟨w.heap.size,10,none⟩),.pointer (some ⟨w.heap.size,11,none⟩)] 166 (w5.setCell ⟨w.heap.size,11,none⟩ (.string x.at_))):=(HP.out.below hb5 HP.out.lt).other (a:=⟨w.heap.size,11,none⟩) (show gp≠w.heap.size by omega) _;have hB6:Below w.heap.size w (w5.setCell ⟨w.heap.size,11,none⟩ (.string x.at_)):=(qTr hB hb5).setCell (p:=⟨w.heap.size,11,none⟩) nL _;clear HX HZ HP hB hb5 d0 k0 HX5;go_wp2_with fail;go_roundw
   case rel=>exact ⟨5+1,by omega,by go_num,HX6,HZ6,HP6,hB6⟩
   case measure=>simp [intOf]
  ·have HX7:=HX
   have HZ7:=HZ;have hB7:=hB;generalize wr=w7 at *;clear HX HZ hB HP;have k2:w7.cell? ⟨w.heap.size,7,none⟩=some (.slice a2 x.likes.length c2):=HX7.out.cell rfl;go_wp2_with fail;refine (Zu x.likes a2 c2 lo _ (HN2.out.below LikC.holds hB7 nL) hl HSZ).mono ?_;rintro e w8 ⟨g,q,rfl,hO8,hb8⟩;have HO8:=iH hO8;have HX8:=qBk HX7 hb8;have HZ8:=qBk HZ7 hb8;have hB8:=qTr hB7 hb8;have hl7:w.heap.size+1<w7.heap.size:=HZ7.out.lt;have c8:w8.cell? ⟨w.heap.size,7,none⟩=some (.slice a2 x.likes.length c2):=HX8.out.cell rfl;have f8:=HX8.out.frozen 7;have HX9:Hid (Blk w.heap.size (ccA x g q) 55 (w8.setCell ⟨w.heap.size,7,none⟩ (.slice g x.likes.length q))):=HX8.out.set 7 _;have HZ9:Hid (Blk (w.heap.size+1) CcA 55 (w8.setCell ⟨w.heap.size,7,none⟩ (.slice g x.likes.length q))):=HZ8.out.other (a:=⟨w.heap.size,7,none⟩) (show w.heap.size+1≠w.heap.size by omega) _;have hB9:Below w.heap.size w (w8.setCell ⟨w.heap.size,7,none⟩ (.slice g x.likes.length q)):=hB8.setCell (p:=⟨w.heap.size,7,none⟩) nL _;have HO9:Hid ((w8.setCell ⟨w.heap.size,7,none⟩ (.slice g x.likes.length q)).ownsRow w7.heap.size 143 2 (.slice g x.likes.length q) x.likes.length (Ec x.likes)):=Nl HO8 _ (show w.heap.size<w7.heap.size by omega) _;clear HX7 HZ7 hB7 hb8 hO8 k2;go_upto_region 7 with fail;clear c8 f8 HX8 HZ8 hB8 HO8;generalize w8.setCell ⟨w.heap.size,7,none⟩ (.slice g x.likes.length q)=w9 at *;obtain ⟨wf,HE⟩:∃ wf,Hid (wf=w9.setCells (w.heap.size+1) 0 (ccL x g q)):=⟨_,rfl⟩;have HT:Hid (w9.there (w.heap.size+1) 0 12):=HZ9.out.there;have HR8:Hid (wf.rangeAt (w.heap.size+1) 0 (ccL x g q)):=by
    show World.rangeAt _ _ _ _
    rw [HE.out];exact World.rangeAt_setCells_same _ _ _ _ HT
   have hBf:Below w.heap.size w wf:=by
    rw [HE.out];exact Ad (by omega) _ _ _ hB9
   have HOf:Hid (wf.ownsRow w7.heap.size 143 2 (.slice g x.likes.length q) x.likes.length (Ec x.likes)):=by
    show World.ownsRow _ _ _ _ _ _ _
    rw [HE.out];exact Ky hl7 _ _ _ HO9
   clear hB9 HZ9 HO9;go_wp2_with (first | (refine qLk Hf HX9 ?_) | (refine Ag rfl 55 _ _ rfl (w.heap.size+1) 0 (ccA x g q) rfl rfl HT Be (by simp [Value.oneCell']) wf HE ?_));exact bodyPost_ret (Av rfl _ _ (w.heap.size+1) (ccL x g q) _ rfl HR8 underlying55 rfl Be) rfl ⟨g,q,rfl,Wt HOf (by omega),hBf⟩
theorem bO (x:Brt) (a2:OA) (c2 lo:Nat) (w:World) (n2:SliceC StrC 1 lo w a2 x.marks) (hl:x.marks.length≤1048576) :
  Calls prog 93 #[.agg (bbA x a2 c2)] w fun e w'=>∃ g q,e=.returned (.agg (bbA x (some ⟨g,0,none⟩) q))∧SliceC StrC 1 w.heap.size w' (some ⟨g,0,none⟩) x.marks∧w.heap.size≤g∧g<w'.heap.size∧Below w.heap.size w w':=by
 obtain ⟨i0,hi,hz0,hz1,hz2⟩:=info_parts Gx;have HI:=iH n2;clear n2;have h1:=Blk.alloc w (bbA x a2 c2) 60;have HZ2:=al2 w (bbA x a2 c2) 60 BbA 60;have HK2:=iH (h1.below ((Below.refl _ _).alloc nL (Obj.cells BbA 60)) h1.lt);have hB2:=bl2 w (bbA x a2 c2) 60 BbA 60;clear h1;go_enter func93,ntmps93;go_upto_region 1 with fail;generalize ((w.alloc (Obj.cells (bbA x a2 c2) 60)).alloc (Obj.cells BbA 60))=w2 at *;have k5:(w2.alloc (Obj.cells #[] 9)).cell? ⟨w.heap.size,2,none⟩=some (.slice a2 x.marks.length c2):=(World.cell?_alloc_lt _ _ _ HK2.out.lt).trans (HK2.out.cell rfl);have hba:=(Below.refl _ w2).alloc nL (Obj.cells #[] 9);have HS5:=iH (HI.out.below StrC.holds (qTr hB2 hba) nL);have hgl:w.heap.size+1<w2.heap.size:=HZ2.out.lt;clear hba;go_upto_region 2 with (at_builtin;refine Kp rfl _ _ 27 rfl w2.heap.size 9 i0 _ 1 16 underlying27 hi hz0 hz1 hz2 rfl (by decide) _ _ _ rfl (World.ownsRow_made w2 #[] 0 nL (zL) rfl) a2 x.marks.length c2 (Fc x.marks) rfl HS5.out.nilD (by rw [Ws]) (dC HS5) (Wv x.marks) (by unfold maxLen;omega) (by omega) (by simp) ?_;intro v' w3 hown hgrow hnil;have hv:v'≠.slice none 0 0:=(fun e=>by have h9:=(hnil.1 e).1;cases h9);have hown':w3.ownsRow w2.heap.size 9 1 v' x.marks.length (Fc x.marks):=(by simpa using hown);obtain ⟨g,q,rfl⟩:=Vh hown' hv;have HOW:=iH hown';have HBB:Hid (Below w2.heap.size w2 w3):=((Below.refl _ w2).alloc nL _).grown hgrow (by simp) (by intro k hk;cases hk;exact Nat.le_refl _);have HK3:=iH (HK2.out.below HBB HK2.out.lt);have kx:w3.cell? ⟨w.heap.size,2,none⟩=some (.slice a2 x.marks.length c2):=HK3.out.cell rfl;have fx:=HK3.out.frozen 2;clear hown hown' hgrow hnil hv);clear kx fx k5 HS5;obtain ⟨h5,hh5⟩:∃ h,h=w2.heap.size:=⟨_,rfl⟩;have P5:Hid (SliceC StrC 1 h5 w3 (some ⟨g,0,none⟩) x.marks):=by rw [hh5];exact cH HOW hl (Rf HI)
 have hlt5:w.heap.size+1<h5:=by rw [hh5];exact hgl
 have hgg:=HOW.out.lt g rfl;have hg5:h5≤g:=by rw [hh5];exact hgg.1
 have HZ3:=iH (HZ2.out.below HBB HZ2.out.lt);have hB3:=hB2.trans (HBB.out.mono hB2.size);clear HOW HBB HK2 HZ2 hB2 hgl hh5;have HK4:Hid (Blk w.heap.size (bbA x (some ⟨g,0,none⟩) q) 60 (w3.setCell ⟨w.heap.size,2,none⟩ (.slice (some ⟨g,0,none⟩) x.marks.length q))):=HK3.out.set 2 _;have HZ4:Hid (Blk (w.heap.size+1) BbA 60 (w3.setCell ⟨w.heap.size,2,none⟩ (.slice (some ⟨g,0,none⟩) x.marks.length q))):=HZ3.out.other (a:=⟨w.heap.size,2,none⟩) (show w.heap.size+1≠w.heap.size by omega) _;have hB4:Below w.heap.size w (w3.setCell ⟨w.heap.size,2,none⟩ (.slice (some ⟨g,0,none⟩) x.marks.length q)):=hB3.setCell (p:=⟨w.heap.size,2,none⟩) nL _;replace P5:Hid (SliceC StrC 1 h5 (w3.setCell ⟨w.heap.size,2,none⟩ (.slice (some ⟨g,0,none⟩) x.marks.length q)) (some ⟨g,0,none⟩) x.marks):=P5.out.keep StrC.holds (Keeps.set (a:=⟨w.heap.size,2,none⟩) (show w.heap.size<h5 by omega) _) nL;have hsz:(w3.setCell ⟨w.heap.size,2,none⟩ (.slice (some ⟨g,0,none⟩) x.marks.length q)).heap.size=w3.heap.size:=by simp [World.setCell]
 have hgs:g<(w3.setCell ⟨w.heap.size,2,none⟩ (.slice (some ⟨g,0,none⟩) x.marks.length q)).heap.size:=by rw [hsz];exact hgg.2
 clear HK3 HZ3 hB3 hsz hgg;generalize (w3.setCell ⟨w.heap.size,2,none⟩ (.slice (some ⟨g,0,none⟩) x.marks.length q))=w4 at *;obtain ⟨wf,HE⟩:∃ wf,Hid (wf=w4.setCells (w.heap.size+1) 0 (bbL x (some ⟨g,0,none⟩) q)):=⟨_,rfl⟩;have HTS:Hid (w4.there (w.heap.size+1) 0 6):=HZ4.out.there;have HRf:Hid (wf.rangeAt (w.heap.size+1) 0 (bbL x (some ⟨g,0,none⟩) q)):=by
  show World.rangeAt _ _ _ _
  rw [HE.out];exact World.rangeAt_setCells_same w4 (w.heap.size+1) 0 _ HTS
 have hBf:Below w.heap.size w wf:=by
  rw [HE.out];exact Ad (by omega) _ _ _ hB4
 replace P5:Hid (SliceC StrC 1 h5 wf (some ⟨g,0,none⟩) x.marks):=by
  show SliceC _ _ _ _ _ _
  rw [HE.out];exact P5.out.keep StrC.holds (Keeps.setCells (show w.heap.size+1<h5 by omega) _ _ _) nL
 have hgf:g<wf.heap.size:=by rw [HE.out,Bb];exact hgs
 clear hB4 HZ4 hgs;go_wp2_with (first | (refine qLk Ji HK4 ?_) | (refine Ag rfl 60 _ _ rfl (w.heap.size+1) 0 (bbA x (some ⟨g,0,none⟩) q) rfl rfl HTS Bd (by simp [Value.oneCell']) wf HE ?_));exact bodyPost_ret (Av rfl _ _ (w.heap.size+1) (bbL x (some ⟨g,0,none⟩) q) _ rfl HRf underlying60 rfl Bd) rfl ⟨g,q,rfl,P5.out.keep StrC.holds (Keeps.refl _ _) (by omega),by omega,hgf,hBf⟩
theorem eK (x:Cpy) (a2:OA) (c2 lo:Nat) (w:World) (n2:SliceC LikC 2 lo w a2 x.likes) (hl:x.likes.length≤1048576) :
  Calls prog 94 #[.agg (ccA x a2 c2)] w fun e w'=>∃ g q,e=.returned (.agg (ccA x (some ⟨g,0,none⟩) q))∧SliceC LikC 2 w.heap.size w' (some ⟨g,0,none⟩) x.likes∧w.heap.size≤g∧g<w'.heap.size∧Below w.heap.size w w':=by
 obtain ⟨i0,hi,hz0,hz1,hz2⟩:=info_parts Sx;have HI:=iH n2;clear n2;have h1:=Blk.alloc w (ccA x a2 c2) 55;have HZ2:=al2 w (ccA x a2 c2) 55 CcA 55;have HK2:=iH (h1.below ((Below.refl _ _).alloc nL (Obj.cells CcA 55)) h1.lt);have hB2:=bl2 w (ccA x a2 c2) 55 CcA 55;clear h1;go_enter func94,ntmps94;go_upto_region 1 with fail;generalize ((w.alloc (Obj.cells (ccA x a2 c2) 55)).alloc (Obj.cells CcA 55))=w2 at *;have k5:(w2.alloc (Obj.cells #[] 143)).cell? ⟨w.heap.size,7,none⟩=some (.slice a2 x.likes.length c2):=(World.cell?_alloc_lt _ _ _ HK2.out.lt).trans (HK2.out.cell rfl);have hba:=(Below.refl _ w2).alloc nL (Obj.cells #[] 143);have HS5:=iH (HI.out.below LikC.holds (qTr hB2 hba) nL);have hgl:w.heap.size+1<w2.heap.size:=HZ2.out.lt;clear hba;go_upto_region 2 with (at_builtin;refine Kp rfl _ _ 53 rfl w2.heap.size 143 i0 _ 2 24 underlying53 hi hz0 hz1 hz2 rfl (by decide) _ _ _ rfl (World.ownsRow_made w2 #[] 0 nL (zL) rfl) a2 x.likes.length c2 (Ec x.likes) rfl HS5.out.nilD (by rw [Je]) (cX HS5) (Pr x.likes) (by unfold maxLen;omega) (by omega) (by simp) ?_;intro v' w3 hown hgrow hnil;have hv:v'≠.slice none 0 0:=(fun e=>by have h9:=(hnil.1 e).1;cases h9);have hown':w3.ownsRow w2.heap.size 143 2 v' x.likes.length (Ec x.likes):=(by simpa using hown);obtain ⟨g,q,rfl⟩:=Vh hown' hv;have HOW:=iH hown';have HBB:Hid (Below w2.heap.size w2 w3):=((Below.refl _ w2).alloc nL _).grown hgrow (by simp) (by intro k hk;cases hk;exact Nat.le_refl _);have HK3:=iH (HK2.out.below HBB HK2.out.lt);have kx:w3.cell? ⟨w.heap.size,7,none⟩=some (.slice a2 x.likes.length c2):=HK3.out.cell rfl;have fx:=HK3.out.frozen 7;clear hown hown' hgrow hnil hv);clear kx fx k5 HS5;obtain ⟨h5,hh5⟩:∃ h,h=w2.heap.size:=⟨_,rfl⟩;have P5:Hid (SliceC LikC 2 h5 w3 (some ⟨g,0,none⟩) x.likes):=by rw [hh5];exact cY HOW hl (Rh HI)
 have hlt5:w.heap.size+1<h5:=by rw [hh5];exact hgl
 have hgg:=HOW.out.lt g rfl;have hg5:h5≤g:=by rw [hh5];exact hgg.1
 have HZ3:=iH (HZ2.out.below HBB HZ2.out.lt);have hB3:=hB2.trans (HBB.out.mono hB2.size);clear HOW HBB HK2 HZ2 hB2 hgl hh5;have HK4:Hid (Blk w.heap.size (ccA x (some ⟨g,0,none⟩) q) 55 (w3.setCell ⟨w.heap.size,7,none⟩ (.slice (some ⟨g,0,none⟩) x.likes.length q))):=HK3.out.set 7 _;have HZ4:Hid (Blk (w.heap.size+1) CcA 55 (w3.setCell ⟨w.heap.size,7,none⟩ (.slice (some ⟨g,0,none⟩) x.likes.length q))):=HZ3.out.other (a:=⟨w.heap.size,7,none⟩) (show w.heap.size+1≠w.heap.size by omega) _;have hB4:Below w.heap.size w (w3.setCell ⟨w.heap.size,7,none⟩ (.slice (some ⟨g,0,none⟩) x.likes.length q)):=hB3.setCell (p:=⟨w.heap.size,7,none⟩) nL _;replace P5:Hid (SliceC LikC 2 h5 (w3.setCell ⟨w.heap.size,7,none⟩ (.slice (some ⟨g,0,none⟩) x.likes.length q)) (some ⟨g,0,none⟩) x.likes):=P5.out.keep LikC.holds (Keeps.set (a:=⟨w.heap.size,7,none⟩) (show w.heap.size<h5 by omega) _) nL;have hsz:(w3.setCell ⟨w.heap.size,7,none⟩ (.slice (some ⟨g,0,none⟩) x.likes.length q)).heap.size=w3.heap.size:=by simp [World.setCell]
 have hgs:g<(w3.setCell ⟨w.heap.size,7,none⟩ (.slice (some ⟨g,0,none⟩) x.likes.length q)).heap.size:=by rw [hsz];exact hgg.2
 clear HK3 HZ3 hB3 hsz hgg;generalize (w3.setCell ⟨w.heap.size,7,none⟩ (.slice (some ⟨g,0,none⟩) x.likes.length q))=w4 at *;obtain ⟨wf,HE⟩:∃ wf,Hid (wf=w4.setCells (w.heap.size+1) 0 (ccL x (some ⟨g,0,none⟩) q)):=⟨_,rfl⟩;have HTS:Hid (w4.there (w.heap.size+1) 0 12):=HZ4.out.there;have HRf:Hid (wf.rangeAt (w.heap.size+1) 0 (ccL x (some ⟨g,0,none⟩) q)):=by
  show World.rangeAt _ _ _ _
  rw [HE.out];exact World.rangeAt_setCells_same w4 (w.heap.size+1) 0 _ HTS
 have hBf:Below w.heap.size w wf:=by
  rw [HE.out];exact Ad (by omega) _ _ _ hB4
 replace P5:Hid (SliceC LikC 2 h5 wf (some ⟨g,0,none⟩) x.likes):=by
  show SliceC _ _ _ _ _ _
  rw [HE.out];exact P5.out.keep LikC.holds (Keeps.setCells (show w.heap.size+1<h5 by omega) _ _ _) nL
 have hgf:g<wf.heap.size:=by rw [HE.out,Bb];exact hgs
 clear hB4 HZ4 hgs;go_wp2_with (first | (refine qLk Hf HK4 ?_) | (refine Ag rfl 55 _ _ rfl (w.heap.size+1) 0 (ccA x (some ⟨g,0,none⟩) q) rfl rfl HTS Be (by simp [Value.oneCell']) wf HE ?_));exact bodyPost_ret (Av rfl _ _ (w.heap.size+1) (ccL x (some ⟨g,0,none⟩) q) _ rfl HRf underlying55 rfl Be) rfl ⟨g,q,rfl,P5.out.keep LikC.holds (Keeps.refl _ _) (by omega),by omega,hgf,hBf⟩
def FlatC {β:Type} (C:Ej β) (m:Nat):Prop:=∀ (lo lo':Nat) (w w':World) (f g:Nat→Option Value) (x:β),(∀ i,i<m→g i=f i)→C lo w f x→C lo' w' g x
theorem FlatC.holds {β:Type} {C:Ej β} {m:Nat} (h:FlatC C m):Er C m:=fun lo lo' w w' f g x hf _ _ hc=>h lo lo' w w' f g x hf hc
theorem StrC.flat:FlatC StrC 1:=fun _ _ _ _ _ _ _ h c=>⟨(h 0 (by omega)).trans c.1,c.2⟩
theorem LikC.flat:FlatC LikC 2:=fun _ _ _ _ _ _ _ h ⟨q0,q1,z⟩=>⟨(h 0 (by omega)).trans q0,(h 1 (by omega)).trans q1,z⟩
theorem Bj {β:Type} {C:Ej β} {m:Nat} (hC:FlatC C m) {lo:Nat} {w w':World} {row:Option Nat} {a:OA} {l:List β} (h:SliceC C m lo w a l) (hg:w.grownBy w' row) (hne:∀ b o,a=some ⟨b,o,none⟩→l≠[]→some b≠row):SliceC C m lo w' a l:=by
 obtain ⟨h1,h2⟩:=h;rcases h2 with e | ⟨b,o,ea,⟨hlo,hfz⟩,hbl,hc⟩
 ·exact ⟨h1,.inl e⟩
 ·by_cases hl:l=[]
  ·exact ⟨h1,.inl hl⟩
  ·have hn:=hne b o ea hl
   exact ⟨h1,.inr ⟨b,o,ea,⟨hlo,fun hp p=>(hg.frozen_far ⟨b,p,none⟩ hbl hn).trans (hfz hp p)⟩,lL hbl hg.size,fun j x hj=>hC lo lo w w' _ _ x (fun i _=>hg.cell_far ⟨b,o+j*m+i,none⟩ hbl hn) (hc j x hj)⟩⟩
theorem Mf {base base':Nat} {e:TypeId} {size:Nat} {v:Value} {n:Nat} {xs:List Value} {w:World} (h:w.ownsRow base e size v n xs) (hb:base'≤base):w.ownsRow base' e size v n xs:=by
 refine ⟨h.1,?_⟩;rcases h.2 with h1 | ⟨g,cap,cur,h1,h2,h3⟩
 ·exact .inl h1
 ·exact .inr ⟨g,cap,cur,h1,lT hb h2,h3⟩
theorem Iw {P:Program} {op:Oper} {a:Act} {w:World} {K:Act→World→Prop} {Q:Exit→Act→World→Prop} (s x:Operand) (t:TypeId)
  (ho:op.op=.call { callee:=.builtin .append,args:=#[s,x],argTypes:=#[t,t] })
  (base:Nat) (e:TypeId) (i:TypeInfo) (z:Value) (size bytes:Nat) (ht:P.underlying t=some (.slice e)) (hi:P.info? e=some i) (hz:i.zero=some z)
  (hsize:i.size=size) (hby:i.bytes=bytes) (hzs:z.cells.size=size) (hsz:0<size)
  (v:Value) (n:Nat) (xs:List Value) (hs:a.eval s=v) (hown:w.ownsRow base e size v n xs)
  (ad:Addr) (m c:Nat) (news:List Value) (hx:a.eval x=.slice (some ad) m c) (hl:news.length=m*size) (hnews:∀ j u,news[j]?=some u→w.cell? (ad.add j)=some u) (h1:∀ u∈news,u.oneCell'=true)
  (h63:n+m≤maxLen) (hbytes:(n+m)*bytes≤140737488355328) (hbase:base≤w.heap.size)
  (h:∀ v' w',w'.ownsRow base e size v' (n+m) (xs++news)→w.grownBy w' v.ownBlock→(v'=.slice none 0 0↔v=.slice none 0 0∧m=0)→(v'.ownBlock=v.ownBlock∨v'.ownBlock=some w.heap.size)→K (a.put op.dst v') w'):op.wp P a w K Q:=by
 obtain ⟨v',w',hr,h2,h3,h4,h5⟩:=run_append_own_at (P:=P) w base t op.type e i z size bytes ht hi hz hsize hby hzs hsz v n xs hown ad m c news hl hnews h1 h63 hbytes hbase;unfold Oper.wp;simp [execOp,ho,resolve,invoke,builtin,hs,hx,hr,Result.andThen];exact h v' w' h2 h3 h4 h5
theorem Cp (w:World) (a:Addr) (v:Value):w.grownBy (w.setCell a v) (some a.block) :=
 ⟨rfl,rfl,rfl,by simp [World.setCell],fun k _ hn=>Below.heap_setCell w a v k (fun e=>hn (by rw [e]))⟩
theorem Cb {b:Nat}:∀ (vs:List Value) (o:Nat) (w:World),w.grownBy (w.setCells b o vs) (some b)
 | [],_,_=>⟨rfl,rfl,rfl,Nat.le_refl _,fun _ _ _=>rfl⟩
 | v::r,o,w=>(Cp w ⟨b,o,none⟩ v).trans (Cb r (o+1) _)
section
variable {α β:Type} {V:α→Value→List Value} {sub:α→List β} {C:Ej β} {m n:Nat}
def NAt (V:α→Value→List Value) (sub:α→List β) (C:Ej β) (m n base:Nat) (v:Value) (w:World) (cs:List Value) (l:List α):Prop :=
 ∀ j x,l[j]?=some x→∃ (ae:OA) (ce:Nat),(∀ i u,(V x (.slice ae (sub x).length ce))[i]?=some u→cs[j*n+i]?=some u)∧SliceC C m base w ae (sub x)∧∀ b o,ae=some ⟨b,o,none⟩→sub x≠[]→some b≠v.ownBlock∧b<w.heap.size
def OwnN (V:α→Value→List Value) (sub:α→List β) (C:Ej β) (m n:Nat) (T:TypeId) (base:Nat) (w:World) (v:Value) (l:List α):Prop :=
 ∃ cs,w.ownsRow base T n v l.length cs∧NAt V sub C m n base v w cs l
theorem OwnN.nil {T:TypeId} {base:Nat} {w:World}:OwnN V sub C m n T base w (.slice none 0 0) []:=⟨[],World.ownsRow_nil _ _ _ _,fun j x h=>by cases h⟩
theorem OwnN.below {T:TypeId} {base:Nat} {w w':World} {v:Value} {l:List α} (hC:Er C m) (h:OwnN V sub C m n T base w v l) (hb:Below w.heap.size w w'):OwnN V sub C m n T base w' v l:=by
 obtain ⟨cs,h1,h2⟩:=h;refine ⟨cs,Ap h1 hb,fun j x hj=>?_⟩;obtain ⟨ae,ce,q1,q2,q3⟩:=h2 j x hj;exact ⟨ae,ce,q1,q2.below hC hb nL,fun b o e hn=>⟨(q3 b o e hn).1,lL (q3 b o e hn).2 hb.size⟩⟩
theorem OwnN.kept {T:TypeId} {base:Nat} {w w':World} {v:Value} {l:List α} {row:Option Nat} (hC:FlatC C m) (h:OwnN V sub C m n T base w v l) (hg:w.grownBy w' row) (hr:∀ r,row=some r→r<base):OwnN V sub C m n T base w' v l:=by
 obtain ⟨cs,h1,h2⟩:=h;have hv:v.ownBlock=none∨v.ownBlock≠row:=by
  cases e:v.ownBlock with
  | none=>exact .inl rfl
  | some k =>
   refine .inr (fun e2=>?_);have:=(h1.lt k e).1;have:=hr k e2.symm;omega
 refine ⟨cs,h1.kept hg hv,fun j x hj=>?_⟩;obtain ⟨ae,ce,q1,q2,q3⟩:=h2 j x hj;refine ⟨ae,ce,q1,Bj hC q2 hg (fun b o e hn e2=>?_),fun b o e hn=>⟨(q3 b o e hn).1,lL (q3 b o e hn).2 hg.size⟩⟩;have hb:=hr b e2.symm;rcases q2.2 with h9 | ⟨b',o',e',⟨hlo,_⟩,_⟩
 ·exact hn h9
 ·rw [e] at e'
  cases e'
  omega
theorem OwnN.mono {T:TypeId} {base base':Nat} {w:World} {v:Value} {l:List α} (hC:Er C m) (h:OwnN V sub C m n T base w v l) (hb:base'≤base):OwnN V sub C m n T base' w v l:=by
 obtain ⟨cs,h1,h2⟩:=h;refine ⟨cs,Mf h1 hb,fun j x hj=>?_⟩;obtain ⟨ae,ce,q1,q2,q3⟩:=h2 j x hj;exact ⟨ae,ce,q1,q2.keep hC (Keeps.refl _ _) hb,q3⟩
theorem OwnN.snoc {T:TypeId} {base:Nat} {w w':World} {v v':Value} {l:List α} {x:α} {ae:OA} {ce:Nat} {cs:List Value} (hC:FlatC C m) (h1:w.ownsRow base T n v l.length cs) (h2:NAt V sub C m n base v w cs l) (hV:∀ x s,(V x s).length=n)
  (hs:SliceC C m base w ae (sub x)) (hb:∀ b o,ae=some ⟨b,o,none⟩→sub x≠[]→some b≠v.ownBlock∧b<w.heap.size)
  (ho:w'.ownsRow base T n v' (l.length+1) (cs++V x (.slice ae (sub x).length ce))) (hg:w.grownBy w' v.ownBlock) (hv:v'.ownBlock=v.ownBlock∨v'.ownBlock=some w.heap.size):OwnN V sub C m n T base w' v' (l++[x]):=by
 have far:∀ b:Nat,some b≠v.ownBlock∧b<w.heap.size→some b≠v'.ownBlock∧b<w'.heap.size:=by
  intro b hb;refine ⟨?_,lL hb.2 hg.size⟩;rcases hv with e | e
  ·rw [e];exact hb.1
  ·rw [e];intro e2;cases e2;omega
 have hl:cs.length=l.length*n:=h1.1;refine ⟨_,by simpa using ho,fun j c hj=>?_⟩;by_cases hlt:j<l.length
 ·rw [List.getElem?_append_left hlt] at hj
  obtain ⟨ae',ce',q1,q2,q3⟩:=h2 j c hj;refine ⟨ae',ce',fun i u hu=>?_,Bj hC q2 hg (fun b o e hn=>(q3 b o e hn).1),fun b o e hn=>far b (q3 b o e hn)⟩;have hi:i<n:=by have:=Ah hu;rwa [hV] at this
  have:(j+1)*n≤l.length*n:=Nat.mul_le_mul_right n (by omega);rw [Nat.add_mul] at this;rw [List.getElem?_append_left (by rw [hl];omega)];exact q1 i u hu
 ·have hje:j=l.length:=by have:=Ah hj;simp at this;omega
  subst hje;simp at hj;subst hj;refine ⟨ae,ce,fun i u hu=>?_,Bj hC hs hg (fun b o e hn=>(hb b o e hn).1),fun b o e hn=>far b (hb b o e hn)⟩;rw [List.getElem?_append_right (by rw [hl];omega),hl,Nat.add_sub_cancel_left];exact hu
theorem OwnN.slice {XC:Ej α} {T:TypeId} {base:Nat} {w:World} {a:OA} {q:Nat} {l:List α} (h:OwnN V sub C m n T base w (.slice a l.length q) l) (hV:∀ x s,(V x s).length=n) (hm:l.length≤maxLen)
  (hX:∀ (f:Nat→Option Value) (x:α) (ae:OA) (ce:Nat),x∈l→(∀ i u,(V x (.slice ae (sub x).length ce))[i]?=some u→f i=some u)→SliceC C m base w ae (sub x)→XC base w f x):SliceC XC n base w a l:=by
 obtain ⟨cs,h1,h2⟩:=h;rcases h1.2 with ⟨hv,_⟩ | ⟨g,cap,cur,hv,hb,hg,_⟩
 ·have:l.length=0:=by injection hv
  rw [List.length_eq_zero_iff.1 this];exact SliceC.nil
 ·have ea:a=some ⟨g,0,none⟩:=by injection hv
  subst ea;refine ⟨hm,.inr ⟨g,0,rfl,⟨hb,fun _ p=>h1.frozenAt p⟩,(Array.getElem?_eq_some_iff.1 hg).1,fun j x hj=>?_⟩⟩;have hlt:=Ah hj;obtain ⟨ae,ce,q1,q2,_⟩:=h2 j x hj;refine hX _ x ae ce (List.mem_of_getElem? hj) (fun i u hu=>?_) q2;have hi:i<n:=by have:=Ah hu;rwa [hV] at this
  have hj2:(j+1)*n≤l.length*n:=Nat.mul_le_mul_right n (by omega);rw [Nat.add_mul] at hj2;have:=h1.cellAt (j*n+i) (by omega);rw [q1 i u hu] at this;simpa using this
end
def vBr (x:Brt) (s:Value):List Value:=[.string x.name,.string x.zone,s,.int .i64 x.room,.int .i64 x.hold,.bool x.closed]
def vCp (x:Cpy) (s:Value):List Value:=[.string x.name,.string x.service,.int .i64 x.rank,.int .i64 x.born,.int .i64 x.room,.int .i64 x.hold,.string x.select,s,.int .i64 x.apart,.string x.near,.string x.fixed,.string x.at_]
theorem Oo (x:Brt) (s:Value):(vBr x s).length=6:=rfl
theorem Il (x:Cpy) (s:Value):(vCp x s).length=12:=rfl
abbrev uZ (base:Nat) (w:World) (v:Value) (l:List Brt):Prop:=OwnN vBr Brt.marks StrC 1 6 60 base w v l
abbrev Lm (base:Nat) (w:World) (v:Value) (l:List Cpy):Prop:=OwnN vCp Cpy.likes LikC 2 12 55 base w v l
def SzB (l:List Brt):Prop:=∀ x∈l,x.name.size≤maxLen∧x.zone.size≤maxLen
def SzC (l:List Cpy):Prop:=∀ x∈l,x.name.size≤maxLen∧x.service.size≤maxLen∧x.select.size≤maxLen∧x.near.size≤maxLen∧x.fixed.size≤maxLen∧x.at_.size≤maxLen
theorem SzB.of {lo:Nat} {w:World} {a:OA} {l:List Brt} (h:SliceC BrtC 6 lo w a l):SzB l:=by
 intro x hx;obtain ⟨j,hj⟩:=List.getElem?_of_mem hx;obtain ⟨_,_,_,_,_,hc⟩:=h.at hj;obtain ⟨_,_,_,_,_,_,_,_,z0,z1,_⟩:=hc;exact ⟨z0,z1⟩
theorem SzC.of {lo:Nat} {w:World} {a:OA} {l:List Cpy} (h:SliceC CpyC 12 lo w a l):SzC l:=by
 intro x hx;obtain ⟨j,hj⟩:=List.getElem?_of_mem hx;obtain ⟨_,_,_,_,_,hc⟩:=h.at hj;obtain ⟨_,_,_,_,_,_,_,_,_,_,_,_,_,_,z0,z1,z6,z9,z10,z11,_⟩:=hc;exact ⟨z0,z1,z6,z9,z10,z11⟩
theorem OwnN.berths {base:Nat} {w:World} {a:OA} {q:Nat} {l:List Brt} (h:uZ base w (.slice a l.length q) l) (hz:SzB l) (hm:l.length≤maxLen):SliceC BrtC 6 base w a l :=
 OwnN.slice h Oo hm (fun _ x ae ce hx hf hs=>⟨ae,ce,hf 0 _ rfl,hf 1 _ rfl,hf 2 _ rfl,hf 3 _ rfl,hf 4 _ rfl,hf 5 _ rfl,(hz x hx).1,(hz x hx).2,hs⟩)
theorem OwnN.copies {base:Nat} {w:World} {a:OA} {q:Nat} {l:List Cpy} (h:Lm base w (.slice a l.length q) l) (hz:SzC l) (hm:l.length≤maxLen):SliceC CpyC 12 base w a l :=
 OwnN.slice h Il hm (fun _ x ae ce hx hf hs=>⟨ae,ce,hf 0 _ rfl,hf 1 _ rfl,hf 2 _ rfl,hf 3 _ rfl,hf 4 _ rfl,hf 5 _ rfl,hf 6 _ rfl,hf 7 _ rfl,hf 8 _ rfl,hf 9 _ rfl,hf 10 _ rfl,hf 11 _ rfl,(hz x hx).1,(hz x hx).2.1,(hz x hx).2.2.1,(hz x hx).2.2.2.1,(hz x hx).2.2.2.2.1,(hz x hx).2.2.2.2.2,hs⟩)
end Go.Proofs.YtjoeojhdkoidbaaGreat
