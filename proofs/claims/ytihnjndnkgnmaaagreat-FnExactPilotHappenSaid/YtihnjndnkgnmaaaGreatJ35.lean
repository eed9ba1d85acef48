import Derived.Test.YtihnjndnkgnmaaaGreatDp1
import Derived.Test.YtihnjndnkgnmaaaGreatJ10
set_option maxHeartbeats 4000000
namespace Go.Proofs.YtihnjndnkgnmaaaGreat
set_option maxRecDepth 100000
open Go.RowKit
theorem Ks {base:Nat} {e:TypeId} {size:Nat} {v:Value} {n:Nat} {xs:List Value} {w:World} (h:w.ownsRow base e size v n xs) (a:Addr) (ha:a.block<base) (u:Value):(w.setCell a u).ownsRow base e size v n xs:=by
 refine ⟨h.1,?_⟩;rcases h.2 with h1 | ⟨g,cap,cur,h1,h2,h3,h4⟩
 ·exact .inl h1
 ·exact .inr ⟨g,cap,cur,h1,h2,(Below.heap_setCell w a u g (by omega)).trans h3,h4⟩
theorem Jj {base:Nat} {e:TypeId} {size:Nat} {v:Value} {n:Nat} {xs:List Value} {b:Nat} (hb:b<base):∀ (vs:List Value) (o:Nat) (w:World),w.ownsRow base e size v n xs→(w.setCells b o vs).ownsRow base e size v n xs
 | [],_,_,h=>h
 | u::r,o,_,h=>Jj hb r (o+1) _ (Ks h ⟨b,o,none⟩ hb u)
theorem Sl {base base':Nat} {e:TypeId} {size:Nat} {v:Value} {n:Nat} {xs:List Value} {w:World} (h:w.ownsRow base e size v n xs) (hb:base'≤base):w.ownsRow base' e size v n xs:=by
 refine ⟨h.1,?_⟩;rcases h.2 with h1 | ⟨g,cap,cur,h1,h2,h3⟩
 ·exact .inl h1
 ·exact .inr ⟨g,cap,cur,h1,lT hb h2,h3⟩
theorem bT (x:Brt) (a2:OA) (c2 lo:Nat) (w:World) (n2:SliceC StrC 1 lo w a2 x.marks) (hl:x.marks.length≤1048576) (hz:Si x.marks 1048576) (z0:x.name.size≤1048576) (z1:x.zone.size≤1048576) :
  Calls Tryz.prog 67 #[.agg (bbA x a2 c2)] w fun e w'=>∃ g q,e=.returned (.agg (bbA x g q))∧w'.ownsRow w.heap.size 9 1 (.slice g x.marks.length q) x.marks.length (Ed x.marks)∧Below w.heap.size w w':=by
 have HN2:=iH n2;have HSZ:=iH hz;clear n2 hz;have hB3:=bl2 w (bbA x a2 c2) 45 yyA 45;have h1:=Blk.alloc w (bbA x a2 c2) 45;have HX:=iH (h1.below ((Below.refl _ _).alloc nL (Obj.cells yyA 45)) h1.lt);have HZ:=al2 w (bbA x a2 c2) 45 yyA 45;clear h1;go_enter Tryz.func67,Tryz.ntmps67;go_upto_region 1 with fail;generalize ((w.alloc (Obj.cells (bbA x a2 c2) 45)).alloc (Obj.cells yyA 45))=w3 at *;refine wp_region_held_drew (S:=fun wy=>Blk w.heap.size (bbA x a2 c2) 45 wy∧Blk (w.heap.size+1) yyA 45 wy) (by kernel_rfl) ⟨HX.out.drew,HZ.out.drew⟩ (fun hS=>?_);refine tz 0 3 (.pointer (some ⟨w.heap.size,0,none⟩)) rfl hS ?_;simp only [pX];refine ty 1 ⟨some 4,_,_,_,_,none⟩ (.string x.name) rfl (by rfl) ?_ hS ?_
 ·intro wy hy
  have h0:=hy.1.cell (o:=0) (v:=.string x.name) rfl;clear hy;go_simp
 simp only [pX];refine tz 3 6 (.pointer (some ⟨w.heap.size,1,none⟩)) rfl hS ?_;simp only [pX];refine ty 4 ⟨some 7,_,_,_,_,none⟩ (.string x.zone) rfl (by rfl) ?_ hS ?_
 ·intro wy hy
  have h0:=hy.1.cell (o:=1) (v:=.string x.zone) rfl;clear hy;go_simp
 simp only [pX];refine rd1 2 ⟨some 5,_,_,_,_,none⟩ rfl (fun K hK=>?_);go_simp;refine (Fe x.name _ z0).mono ?_;rintro e w4 ⟨rfl,hb4⟩;have hB4:=hB3.trans ((((Below.refl w3.heap.size w3).drew).trans hb4).mono hB3.size);refine hK.out _ _ ⟨hS.1.below hb4 hS.1.lt,hS.2.below hb4 hS.2.lt⟩ (fun hS=>?_);clear hK K;clear hb4;refine tz 6 9 (.pointer (some ⟨w.heap.size,0,none⟩)) rfl hS ?_;simp only [pX];refine rd1 5 ⟨some 8,_,_,_,_,none⟩ rfl (fun K hK=>?_);go_simp;refine (Fe x.zone _ z1).mono ?_;rintro e w5 ⟨rfl,hb5⟩;have hB5:=qt hB4 hb5;refine hK.out _ _ ⟨hS.1.below hb5 hS.1.lt,hS.2.below hb5 hS.2.lt⟩ (fun hS=>?_);clear hK K;clear hb5;have kk:w5.cell? ⟨w.heap.size,0,none⟩=some (.string x.name):=hS.1.cell rfl;have ff:w5.frozen? ⟨w.heap.size,0,none⟩=false:=hS.1.frozen _;refine rd1 7 ⟨none,_,_,_,_,none⟩ rfl (fun K hK=>?_);go_simp;have hX6:Blk w.heap.size (bbA x a2 c2) 45 (w5.setCell ⟨w.heap.size,0,none⟩ (.string x.name)):=hS.1.set 0 _;have hZ6:Blk (w.heap.size+1) yyA 45 (w5.setCell ⟨w.heap.size,0,none⟩ (.string x.name)):=hS.2.other (by simp) _;have hB6:Below w.heap.size w (w5.setCell ⟨w.heap.size,0,none⟩ (.string x.name)):=hB5.setCell (p:=⟨w.heap.size,0,none⟩) nL _;refine hK.out _ _ ⟨hX6,hZ6⟩ (fun hS=>?_);clear hK K kk ff hX6 hZ6;generalize w5.setCell ⟨w.heap.size,0,none⟩ (.string x.name)=w6 at *;refine tz 8 10 (.pointer (some ⟨w.heap.size,1,none⟩)) rfl hS ?_;simp only [pX];have kk:w6.cell? ⟨w.heap.size,1,none⟩=some (.string x.zone):=hS.1.cell rfl;have ff:w6.frozen? ⟨w.heap.size,1,none⟩=false:=hS.1.frozen _;refine rd1 9 ⟨none,_,_,_,_,none⟩ rfl (fun K hK=>?_);go_simp;have hX7:Blk w.heap.size (bbA x a2 c2) 45 (w6.setCell ⟨w.heap.size,1,none⟩ (.string x.zone)):=hS.1.set 1 _;have hZ7:Blk (w.heap.size+1) yyA 45 (w6.setCell ⟨w.heap.size,1,none⟩ (.string x.zone)):=hS.2.other (by simp) _;have hB7:Below w.heap.size w (w6.setCell ⟨w.heap.size,1,none⟩ (.string x.zone)):=hB6.setCell (p:=⟨w.heap.size,1,none⟩) nL _;refine hK.out _ _ ⟨hX7,hZ7⟩ (fun hS=>?_);clear hK K kk ff hX7 hZ7;generalize w6.setCell ⟨w.heap.size,1,none⟩ (.string x.zone)=w7 at *;have HX7:=iH hS.1;have HZ7:=iH hS.2;refine td ?_;clear hS;have k2:w7.cell? ⟨w.heap.size,2,none⟩=some (.slice a2 x.marks.length c2):=HX7.out.cell rfl;go_wp2_with fail;refine (Wf x.marks a2 c2 lo _ (HN2.out.below StrC.holds hB7 nL) hl HSZ).mono ?_;rintro e w8 ⟨g,q,rfl,hO8,hb8⟩;have HO8:=iH hO8;have HX8:=qb HX7 hb8;have HZ8:=qb HZ7 hb8;have hB8:=qt hB7 hb8;have hl7:w.heap.size+1<w7.heap.size:=HZ7.out.lt;have c8:w8.cell? ⟨w.heap.size,2,none⟩=some (.slice a2 x.marks.length c2):=HX8.out.cell rfl;have f8:=HX8.out.frozen 2;have HX9:Hid (Blk w.heap.size (bbA x g q) 45 (w8.setCell ⟨w.heap.size,2,none⟩ (.slice g x.marks.length q))):=HX8.out.set 2 _;have HZ9:Hid (Blk (w.heap.size+1) yyA 45 (w8.setCell ⟨w.heap.size,2,none⟩ (.slice g x.marks.length q))):=HZ8.out.other (a:=⟨w.heap.size,2,none⟩) (show w.heap.size+1≠w.heap.size by omega) _
 have hB9:Below w.heap.size w (w8.setCell ⟨w.heap.size,2,none⟩ (.slice g x.marks.length q)):=hB8.setCell (p:=⟨w.heap.size,2,none⟩) nL _;have HO9:Hid ((w8.setCell ⟨w.heap.size,2,none⟩ (.slice g x.marks.length q)).ownsRow w7.heap.size 9 1 (.slice g x.marks.length q) x.marks.length (Ed x.marks)):=Ks HO8 _ (show w.heap.size<w7.heap.size by omega) _;clear HX7 HZ7 hB7 hb8 hO8 k2;go_upto_region 3 with fail;clear c8 f8 HX8 HZ8 hB8 HO8;generalize w8.setCell ⟨w.heap.size,2,none⟩ (.slice g x.marks.length q)=w9 at *;obtain ⟨wf,HE⟩:∃ wf,Hid (wf=w9.setCells (w.heap.size+1) 0 (bbL x g q)):=⟨_,rfl⟩;have HT:Hid (w9.there (w.heap.size+1) 0 6):=HZ9.out.there;have HR8:Hid (wf.rangeAt (w.heap.size+1) 0 (bbL x g q)):=by
  show World.rangeAt _ _ _ _
  rw [HE.out];exact World.rangeAt_setCells_same _ _ _ _ HT
 have hBf:Below w.heap.size w wf:=by
  rw [HE.out];exact Ac (by omega) _ _ _ hB9
 have HOf:Hid (wf.ownsRow w7.heap.size 9 1 (.slice g x.marks.length q) x.marks.length (Ed x.marks)):=by
  show World.ownsRow _ _ _ _ _ _ _
  rw [HE.out];exact Jj hl7 _ _ _ HO9
 clear hB9 HZ9 HO9;go_wp2_with (first | (refine lk Gg HX9 ?_) | (refine Ad rfl 45 _ _ rfl (w.heap.size+1) 0 (bbA x g q) rfl rfl HT Cc (by simp [Value.oneCell']) wf HE ?_));exact bodyPost_ret (Ax rfl _ _ (w.heap.size+1) (bbL x g q) _ rfl HR8 Tryz.underlying45 rfl Cc) rfl ⟨g,q,rfl,Sl HOf (by omega),hBf⟩
theorem bQ (x:Cpy) (a2:OA) (c2 lo:Nat) (w:World) (n2:SliceC LikC 2 lo w a2 x.likes) (hl:x.likes.length≤1048576) (hz:Rp x.likes 1048576) (z0:x.name.size≤1048576) (z1:x.service.size≤1048576) (z6:x.select.size≤1048576) (z9:x.near.size≤1048576) (z10:x.fixed.size≤1048576) (z11:x.at_.size≤1048576) :
  Calls Tryz.prog 71 #[.agg (ccA x a2 c2)] w fun e w'=>∃ g q,e=.returned (.agg (ccA x g q))∧w'.ownsRow w.heap.size 125 2 (.slice g x.likes.length q) x.likes.length (Dd x.likes)∧Below w.heap.size w w':=by
 have HN2:=iH n2;have HSZ:=iH hz;clear n2 hz;have hB3:=bl2 w (ccA x a2 c2) 48 xxA 48;have h1:=Blk.alloc w (ccA x a2 c2) 48;have HX:=iH (h1.below ((Below.refl _ _).alloc nL (Obj.cells xxA 48)) h1.lt);have HZ:=al2 w (ccA x a2 c2) 48 xxA 48;clear h1;go_enter Tryz.func71,Tryz.ntmps71;go_upto_region 1 with fail;generalize ((w.alloc (Obj.cells (ccA x a2 c2) 48)).alloc (Obj.cells xxA 48))=w3 at *;have hba:=(Below.refl _ w3).alloc nL (Obj.cells #[.pointer (some ⟨w.heap.size,0,none⟩),.pointer (some ⟨w.heap.size,1,none⟩),.pointer (some ⟨w.heap.size,6,none⟩),.pointer (some ⟨w.heap.size,9,none⟩),.pointer (some ⟨w.heap.size,10,none⟩),.pointer (some ⟨w.heap.size,11,none⟩)] 144);have HP4:=iH (Blk.alloc w3 #[.pointer (some ⟨w.heap.size,0,none⟩),.pointer (some ⟨w.heap.size,1,none⟩),.pointer (some ⟨w.heap.size,6,none⟩),.pointer (some ⟨w.heap.size,9,none⟩),.pointer (some ⟨w.heap.size,10,none⟩),.pointer (some ⟨w.heap.size,11,none⟩)] 144);have HX4:=qb HX hba;have HZ4:=qb HZ hba;have hB4:=qt hB3 hba;have hgp:w.heap.size+1<w3.heap.size:=HZ.out.lt;clear HX HZ hB3 hba;go_upto_region 2 with fail;generalize (w3.alloc (Obj.cells #[.pointer (some ⟨w.heap.size,0,none⟩),.pointer (some ⟨w.heap.size,1,none⟩),.pointer (some ⟨w.heap.size,6,none⟩),.pointer (some ⟨w.heap.size,9,none⟩),.pointer (some ⟨w.heap.size,10,none⟩),.pointer (some ⟨w.heap.size,11,none⟩)] 144))=w4 at *;generalize w3.heap.size=gp at *;go_loopw [13] (fun i wr=>∃ k:Nat,k≤6∧i=.int .i64 k∧Hid (Blk w.heap.size (ccA x a2 c2) 48 wr)∧Hid (Blk (w.heap.size+1) xxA 48 wr)∧Hid (Blk gp #[.pointer (some ⟨w.heap.size,0,none⟩),.pointer (some ⟨w.heap.size,1,none⟩),.pointer (some ⟨w.heap.size,6,none⟩),.pointer (some ⟨w.heap.size,9,none⟩),.pointer (some ⟨w.heap.size,10,none⟩),.pointer (some ⟨w.heap.size,11,none⟩)] 144 wr)∧Below w.heap.size w wr) (fun i _=>6 - (intOf i).toNat)
 case atStart=>exact ⟨0,by omega,rfl,HX4,HZ4,HP4,hB4⟩
 case round =>
  clear HX4 HZ4 HP4 hB4;obtain ⟨k,hk,rfl,HX,HZ,HP,hB⟩:=hrel;rcases (by omega:k=0∨k=1∨k=2∨k=3∨k=4∨k=5∨k=6) with rfl | rfl | rfl | rfl | rfl | rfl | rfl
  ·have d0:wr.cell? ⟨gp,0,none⟩=some (.pointer (some ⟨w.heap.size,0,none⟩)):=HP.out.cell rfl
   have k0:wr.cell? ⟨w.heap.size,0,none⟩=some (.string x.name):=HX.out.cell rfl;go_wp2_with fail;refine (Fe x.name _ z0).mono ?_;rintro e w5 ⟨rfl,hb5⟩;have HX5:=qb HX hb5;have c5:w5.cell? ⟨w.heap.size,0,none⟩=some (.string x.name):=HX5.out.cell rfl;have f5:=HX5.out.frozen 0;have HX6:Hid (Blk w.heap.size (ccA x a2 c2) 48 (w5.setCell ⟨w.heap.size,0,none⟩ (.string x.name))):=HX5.out.set 0 _;have HZ6:Hid (Blk (w.heap.size+1) xxA 48 (w5.setCell ⟨w.heap.size,0,none⟩ (.string x.name))):=(HZ.out.below hb5 HZ.out.lt).other (a:=⟨w.heap.size,0,none⟩) (show w.heap.size+1≠w.heap.size by omega) _;have HP6:Hid (Blk gp #[.pointer (some ⟨w.heap.size,0,none⟩),.pointer (some ⟨w.heap.size,1,none⟩),.pointer (some ⟨w.heap.size,6,none⟩),.pointer (some ⟨w.heap.size,9,none⟩),.pointer (some ⟨w.heap.size,10,none⟩),.pointer (some ⟨w.heap.size,11,none⟩)] 144 (w5.setCell ⟨w.heap.size,0,none⟩ (.string x.name))):=(HP.out.below hb5 HP.out.lt).other (a:=⟨w.heap.size,0,none⟩) (show gp≠w.heap.size by omega) _;have hB6:Below w.heap.size w (w5.setCell ⟨w.heap.size,0,none⟩ (.string x.name)):=(qt hB hb5).setCell (p:=⟨w.heap.size,0,none⟩) nL _;clear HX HZ HP hB hb5 d0 k0 HX5;go_wp2_with fail;go_roundw
   case rel=>exact ⟨0+1,by omega,by go_num,HX6,HZ6,HP6,hB6⟩
   case measure=>simp [intOf]
  ·have d0:wr.cell? ⟨gp,1,none⟩=some (.pointer (some ⟨w.heap.size,1,none⟩)):=HP.out.cell rfl
   have k0:wr.cell? ⟨w.heap.size,1,none⟩=some (.string x.service):=HX.out.cell rfl;go_wp2_with fail;refine (Fe x.service _ z1).mono ?_;rintro e w5 ⟨rfl,hb5⟩;have HX5:=qb HX hb5;have c5:w5.cell? ⟨w.heap.size,1,none⟩=some (.string x.service):=HX5.out.cell rfl;have f5:=HX5.out.frozen 1;have HX6:Hid (Blk w.heap.size (ccA x a2 c2) 48 (w5.setCell ⟨w.heap.size,1,none⟩ (.string x.service))):=HX5.out.set 1 _;have HZ6:Hid (Blk (w.heap.size+1) xxA 48 (w5.setCell ⟨w.heap.size,1,none⟩ (.string x.service))):=(HZ.out.below hb5 HZ.out.lt).other (a:=⟨w.heap.size,1,none⟩) (show w.heap.size+1≠w.heap.size by omega) _;have HP6:Hid (Blk gp #[.pointer (some ⟨w.heap.size,0,none⟩),.pointer (some ⟨w.heap.size,1,none⟩),.pointer (some ⟨w.heap.size,6,none⟩),.pointer (some ⟨w.heap.size,9,none⟩),.pointer (some ⟨w.heap.size,10,none⟩),.pointer (some ⟨w.heap.size,11,none⟩)] 144 (w5.setCell ⟨w.heap.size,1,none⟩ (.string x.service))):=(HP.out.below hb5 HP.out.lt).other (a:=⟨w.heap.size,1,none⟩) (show gp≠w.heap.size by omega) _;have hB6:Below w.heap.size w (w5.setCell ⟨w.heap.size,1,none⟩ (.string x.service)):=(qt hB hb5).setCell (p:=⟨w.heap.size,1,none⟩) nL _;clear HX HZ HP hB hb5 d0 k0 HX5;go_wp2_with fail;go_roundw
   case rel=>exact ⟨1+1,by omega,by go_num,HX6,HZ6,HP6,hB6⟩
   case measure=>simp [intOf]
  ·have d0:wr.cell? ⟨gp,2,none⟩=some (.pointer (some ⟨w.heap.size,6,none⟩)):=HP.out.cell rfl
   have k0:wr.cell? ⟨w.heap.size,6,none⟩=some (.string x.select):=HX.out.cell rfl;go_wp2_with fail;refine (Fe x.select _ z6).mono ?_;rintro e w5 ⟨rfl,hb5⟩;have HX5:=qb HX hb5;have c5:w5.cell? ⟨w.heap.size,6,none⟩=some (.string x.select):=HX5.out.cell rfl;have f5:=HX5.out.frozen 6;have HX6:Hid (Blk w.heap.size (ccA x a2 c2) 48 (w5.setCell ⟨w.heap.size,6,none⟩ (.string x.select))):=HX5.out.set 6 _;have HZ6:Hid (Blk (w.heap.size+1) xxA 48 (w5.setCell ⟨w.heap.size,6,none⟩ (.string x.select))):=(HZ.out.below hb5 HZ.out.lt).other (a:=⟨w.heap.size,6,none⟩) (show w.heap.size+1≠w.heap.size by omega) _;have HP6:Hid (Blk gp #[.pointer (some ⟨w.heap.size,0,none⟩),.pointer (some ⟨w.heap.size,1,none⟩),.pointer (some ⟨w.heap.size,6,none⟩),.pointer (some ⟨w.heap.size,9,none⟩),.pointer (some ⟨w.heap.size,10,none⟩),.pointer (some ⟨w.heap.size,11,none⟩)] 144 (w5.setCell ⟨w.heap.size,6,none⟩ (.string x.select))):=(HP.out.below hb5 HP.out.lt).other (a:=⟨w.heap.size,6,none⟩) (show gp≠w.heap.size by omega) _;have hB6:Below w.heap.size w (w5.setCell ⟨w.heap.size,6,none⟩ (.string x.select)):=(qt hB hb5).setCell (p:=⟨w.heap.size,6,none⟩) nL _;clear HX HZ HP hB hb5 d0 k0 HX5;go_wp2_with fail;go_roundw
   case rel=>exact ⟨2+1,by omega,by go_num,HX6,HZ6,HP6,hB6⟩
   case measure=>simp [intOf]
  ·have d0:wr.cell? ⟨gp,3,none⟩=some (.pointer (some ⟨w.heap.size,9,none⟩)):=HP.out.cell rfl
   have k0:wr.cell? ⟨w.heap.size,9,none⟩=some (.string x.near):=HX.out.cell rfl;go_wp2_with fail;refine (Fe x.near _ z9).mono ?_;rintro e w5 ⟨rfl,hb5⟩;have HX5:=qb HX hb5;have c5:w5.cell? ⟨w.heap.size,9,none⟩=some (.string x.near):=HX5.out.cell rfl;have f5:=HX5.out.frozen 9;have HX6:Hid (Blk w.heap.size (ccA x a2 c2) 48 (w5.setCell ⟨w.heap.size,9,none⟩ (.string x.near))):=HX5.out.set 9 _;have HZ6:Hid (Blk (w.heap.size+1) xxA 48 (w5.setCell ⟨w.heap.size,9,none⟩ (.string x.near))):=(HZ.out.below hb5 HZ.out.lt).other (a:=⟨w.heap.size,9,none⟩) (show w.heap.size+1≠w.heap.size by omega) _;have HP6:Hid (Blk gp #[.pointer (some ⟨w.heap.size,0,none⟩),.pointer (some ⟨w.heap.size,1,none⟩),.pointer (some ⟨w.heap.size,6,none⟩),.pointer (some ⟨w.heap.size,9,none⟩),.pointer (some ⟨w.heap.size,10,none⟩),.pointer (some ⟨w.heap.size,11,none⟩)] 144 (w5.setCell ⟨w.heap.size,9,none⟩ (.string x.near))):=(HP.out.below hb5 HP.out.lt).other (a:=⟨w.heap.size,9,none⟩) (show gp≠w.heap.size by omega) _;have hB6:Below w.heap.size w (w5.setCell ⟨w.heap.size,9,none⟩ (.string x.near)):=(qt hB hb5).setCell (p:=⟨w.heap.size,9,none⟩) nL _;clear HX HZ HP hB hb5 d0 k0 HX5;go_wp2_with fail;go_roundw
   case rel=>exact ⟨3+1,by omega,by go_num,HX6,HZ6,HP6,hB6⟩
   case measure=>simp [intOf]
  ·have d0:wr.cell? ⟨gp,4,none⟩=some (.pointer (some ⟨w.heap.size,10,none⟩)):=HP.out.cell rfl
   have k0:wr.cell? ⟨w.heap.size,10,none⟩=some (.string x.fixed):=HX.out.cell rfl;go_wp2_with fail;refine (Fe x.fixed _ z10).mono ?_;rintro e w5 ⟨rfl,hb5⟩;have HX5:=qb HX hb5;have c5:w5.cell? ⟨w.heap.size,10,none⟩=some (.string x.fixed):=HX5.out.cell rfl;have f5:=HX5.out.frozen 10;have HX6:Hid (Blk w.heap.size (ccA x a2 c2) 48 (w5.setCell ⟨w.heap.size,10,none⟩ (.string x.fixed))):=HX5.out.set 10 _;have HZ6:Hid (Blk (w.heap.size+1) xxA 48 (w5.setCell ⟨w.heap.size,10,none⟩ (.string x.fixed))):=(HZ.out.below hb5 HZ.out.lt).other (a:=⟨w.heap.size,10,none⟩) (show w.heap.size+1≠w.heap.size by omega) _;have HP6:Hid (Blk gp #[.pointer (some ⟨w.heap.size,0,none⟩),.pointer (some ⟨w.heap.size,1,none⟩),.pointer (some ⟨w.heap.size,6,none⟩),.pointer (some ⟨w.heap.size,9,none⟩),.pointer (some ⟨w.heap.size,10,none⟩),.pointer (some ⟨w.heap.size,11,none⟩)] 144 (w5.setCell ⟨w.heap.size,10,none⟩ (.string x.fixed))):=(HP.out.below hb5 HP.out.lt).other (a:=⟨w.heap.size,10,none⟩) (show gp≠w.heap.size by omega) _;have hB6:Below w.heap.size w (w5.setCell ⟨w.heap.size,10,none⟩ (.string x.fixed)):=(qt hB hb5).setCell (p:=⟨w.heap.size,10,none⟩) nL _;clear HX HZ HP hB hb5 d0 k0 HX5;go_wp2_with fail;go_roundw
   case rel=>exact ⟨4+1,by omega,by go_num,HX6,HZ6,HP6,hB6⟩
   case measure=>simp [intOf]
  ·have d0:wr.cell? ⟨gp,5,none⟩=some (.pointer (some ⟨w.heap.size,11,none⟩)):=HP.out.cell rfl
   have k0:wr.cell? ⟨w.heap.size,11,none⟩=some (.string x.at_):=HX.out.cell rfl;go_wp2_with fail;refine (Fe x.at_ _ z11).mono ?_;rintro e w5 ⟨rfl,hb5⟩;have HX5:=qb HX hb5;have c5:w5.cell? ⟨w.heap.size,11,none⟩=some (.string x.at_):=HX5.out.cell rfl;have f5:=HX5.out.frozen 11;have HX6:Hid (Blk w.heap.size (ccA x a2 c2) 48 (w5.setCell ⟨w.heap.size,11,none⟩ (.string x.at_))):=HX5.out.set 11 _;have HZ6:Hid (Blk (w.heap.size+1) xxA 48 (w5.setCell ⟨w.heap.size,11,none⟩ (.string x.at_))):=(HZ.out.below hb5 HZ.out.lt).other (a:=⟨w.heap.size,11,none⟩) (show w.heap.size+1≠w.heap.size by omega) _;have HP6:Hid (Blk gp #[.pointer (some ⟨w.heap.size,0,none⟩),.pointer (some ⟨w.heap.size,1,none⟩),.pointer (some ⟨w.heap.size,6,none⟩),.pointer (some ⟨w.heap.size,9,none⟩),.pointer (some ⟨w.heap.size,10,none⟩),.pointer (some ⟨w.heap.size,11,none⟩)] 144 (w5.setCell ⟨w.heap.size,11,none⟩ (.string x.at_))):=(HP.out.below hb5 HP.out.lt).other (a:=⟨w.heap.size,11,none⟩) (show gp≠w.heap.size by omega) _;have hB6:Below w.heap.size w (w5.setCell ⟨w.heap.size,11,none⟩ (.string x.at_)):=(qt hB hb5).setCell (p:=⟨w.heap.size,11,none⟩) nL _;clear HX HZ HP hB hb5 d0 k0 HX5;go_wp2_with fail;go_roundw
   case rel=>exact ⟨5+1,by omega,by go_num,HX6,HZ6,HP6,hB6⟩
   case measure=>simp [intOf]
  ·have HX7:=HX
   have HZ7:=HZ;have hB7:=hB;generalize wr=w7 at *;clear HX HZ hB HP;have k2:w7.cell? ⟨w.heap.size,7,none⟩=some (.slice a2 x.likes.length c2):=HX7.out.cell rfl;go_wp2_with fail;refine (Wd x.likes a2 c2 lo _ (HN2.out.below LikC.holds hB7 nL) hl HSZ).mono ?_;rintro e w8 ⟨g,q,rfl,hO8,hb8⟩;have HO8:=iH hO8;have HX8:=qb HX7 hb8;have HZ8:=qb HZ7 hb8;have hB8:=qt hB7 hb8;have hl7:w.heap.size+1<w7.heap.size:=HZ7.out.lt;have c8:w8.cell? ⟨w.heap.size,7,none⟩=some (.slice a2 x.likes.length c2):=HX8.out.cell rfl;have f8:=HX8.out.frozen 7;have HX9:Hid (Blk w.heap.size (ccA x g q) 48 (w8.setCell ⟨w.heap.size,7,none⟩ (.slice g x.likes.length q))):=HX8.out.set 7 _;have HZ9:Hid (Blk (w.heap.size+1) xxA 48 (w8.setCell ⟨w.heap.size,7,none⟩ (.slice g x.likes.length q))):=HZ8.out.other (a:=⟨w.heap.size,7,none⟩) (show w.heap.size+1≠w.heap.size by omega) _;have hB9:Below w.heap.size w (w8.setCell ⟨w.heap.size,7,none⟩ (.slice g x.likes.length q)):=hB8.setCell (p:=⟨w.heap.size,7,none⟩) nL _;have HO9:Hid ((w8.setCell ⟨w.heap.size,7,none⟩ (.slice g x.likes.length q)).ownsRow w7.heap.size 125 2 (.slice g x.likes.length q) x.likes.length (Dd x.likes)):=Ks HO8 _ (show w.heap.size<w7.heap.size by omega) _;clear HX7 HZ7 hB7 hb8 hO8 k2;go_upto_region 7 with fail;clear c8 f8 HX8 HZ8 hB8 HO8;generalize w8.setCell ⟨w.heap.size,7,none⟩ (.slice g x.likes.length q)=w9 at *;obtain ⟨wf,HE⟩:∃ wf,Hid (wf=w9.setCells (w.heap.size+1) 0 (ccL x g q)):=⟨_,rfl⟩;have HT:Hid (w9.there (w.heap.size+1) 0 12):=HZ9.out.there;have HR8:Hid (wf.rangeAt (w.heap.size+1) 0 (ccL x g q)):=by
    show World.rangeAt _ _ _ _
    rw [HE.out];exact World.rangeAt_setCells_same _ _ _ _ HT
   have hBf:Below w.heap.size w wf:=by
    rw [HE.out];exact Ac (by omega) _ _ _ hB9
   have HOf:Hid (wf.ownsRow w7.heap.size 125 2 (.slice g x.likes.length q) x.likes.length (Dd x.likes)):=by
    show World.ownsRow _ _ _ _ _ _ _
    rw [HE.out];exact Jj hl7 _ _ _ HO9
   clear hB9 HZ9 HO9;go_wp2_with (first | (refine lk Exq HX9 ?_) | (refine Ad rfl 48 _ _ rfl (w.heap.size+1) 0 (ccA x g q) rfl rfl HT Bh (by simp [Value.oneCell']) wf HE ?_));exact bodyPost_ret (Ax rfl _ _ (w.heap.size+1) (ccL x g q) _ rfl HR8 Tryz.underlying48 rfl Bh) rfl ⟨g,q,rfl,Sl HOf (by omega),hBf⟩
def SmB (l:List Brt):Prop:=∀ x∈l,x.marks.length≤1048576∧Si x.marks 1048576∧x.name.size≤1048576∧x.zone.size≤1048576
def SmC (l:List Cpy):Prop:=∀ x∈l,x.likes.length≤1048576∧Rp x.likes 1048576∧x.name.size≤1048576∧x.service.size≤1048576∧x.select.size≤1048576∧x.near.size≤1048576∧x.fixed.size≤1048576∧x.at_.size≤1048576
theorem bM (xs:List Brt) (ad:Addr) (cap lo:Nat) (w:World) (hin:SliceC BrtC 6 lo w (some ad) xs) (hsm:xs.length≤1048576) :
  Calls Tryz.prog 102 #[.slice (some ad) xs.length cap] w fun e w'=>∃ g c cs,e=.returned (.slice (some ⟨g,0,none⟩) xs.length c)∧w'.ownsRow w.heap.size 45 6 (.slice (some ⟨g,0,none⟩) xs.length c) xs.length cs∧(∀ j x,xs[j]?=some x→∃ (ae:OA) (ce:Nat),(∀ i u,(vBr x (.slice ae x.marks.length ce))[i]?=some u→cs[j*6+i]?=some u)∧SliceC StrC 1 lo w ae x.marks)∧Below w.heap.size w w':=by
 obtain ⟨i0,hi,hz0,hz1,hz2⟩:=info_parts Ge;have q22:∀ (w:World) (a:OA) (n c n' c':Nat),(binOp .eql 37 (.slice a n c) (.slice none n' c')).run Tryz.prog w=.ok (.bool a.isNone) w:=fun w a n c n' c'=>Lib.run_eql_slice_nil w _ _ a n c n' c' Tryz.underlying37
 obtain ⟨cs,hcl,hcs,hc1,hcb⟩:=Jh hin;have HCL:=iH hcl;have HS:=iH hcs;have HC1:=iH hc1;have HCB:=iH hcb;clear hin hcl hcs hc1 hcb;go_enter Tryz.func102,Tryz.ntmps102;go_wp2_with (at_builtin;refine wpList_append_own _ rfl _ _ 37 rfl w.heap.size 45 i0 _ 6 80 Tryz.underlying37 hi hz0 hz1 hz2 rfl (by decide) _ _ _ rfl (World.ownsRow_made w #[] 0 nL (zL) rfl) ad xs.length _ cs rfl HCL (fun j u hj=>Lib.cell?_alloc_some _ (HS j u hj)) HC1 (by unfold maxLen;omega) (by omega) (by simp) ?_;intro v' w1 hown hgrow hnil);have hv:v'≠.slice none 0 0:=fun e=>by have:=(hnil.1 e).1;cases this
 have hown':w1.ownsRow w.heap.size 45 6 v' xs.length cs:=by simpa using hown
 obtain ⟨g,c,rfl⟩:=Dj hown' hv;have HO:=iH hown';have hB:Below w.heap.size w w1:=((Below.refl _ w).alloc nL _).grown hgrow (by simp) (by intro k hk;cases hk;exact Nat.le_refl _);clear hown hgrow hnil hv hown';go_wp2_with fail;go_ret;exact ⟨g,c,cs,rfl,HO,HCB,hB⟩
theorem Xx (cap:Nat) (w:World) :
  Calls Tryz.prog 102 #[.slice none 0 cap] w (Rt (.slice none 0 0) w):=by
 have q22:∀ (w:World) (a:OA) (n c n' c':Nat),(binOp .eql 37 (.slice a n c) (.slice none n' c')).run Tryz.prog w=.ok (.bool a.isNone) w:=fun w a n c n' c'=>Lib.run_eql_slice_nil w _ _ a n c n' c' Tryz.underlying37
 go_enter Tryz.func102,Tryz.ntmps102;go_wp2_with fail;go_ret;exact ⟨rfl,Below.refl _ _⟩
theorem Yl (f:Value) (cap:Nat) (w:World) :
  Calls Tryz.prog 66 #[.slice none 0 cap,f] w (Rt (.slice none 0 0) w):=by
 go_enter Tryz.func66,Tryz.ntmps66;go_wp2_with fail;refine (Xx cap _).mono ?_;rintro e w1 ⟨rfl,hb⟩;have HB:=iH hb;clear hb;go_wp2_with fail;go_loopw [11] (fun i wr=>i=.int .i64 0∧Below w.heap.size w wr) (fun i _=>0)
 case atStart=>exact ⟨rfl,HB⟩
 case round =>
  obtain ⟨rfl,hB⟩:=hrel;go_wp2_with fail;go_ret;exact ⟨rfl,hB⟩
theorem dI (xs:List Brt) (ad:Addr) (cap lo:Nat) (w:World) (hin:SliceC BrtC 6 lo w (some ad) xs) (hsm:xs.length≤1048576) (hz:SmB xs) :
  Calls Tryz.prog 66 #[.slice (some ad) xs.length cap,.func (.func 67) #[] #[]] w fun e w'=>∃ g q,e=.returned (.slice (some ⟨g,0,none⟩) xs.length q)∧fO w.heap.size w' (.slice (some ⟨g,0,none⟩) xs.length q) xs∧Below w.heap.size w w':=by
 have HI:=iH hin;have HZ:=iH hz;clear hin hz;go_enter Tryz.func66,Tryz.ntmps66;go_wp2_with fail;refine (bM xs ad cap lo _ HI hsm).mono ?_;rintro e w1 ⟨g,q,cs,rfl,hO1,hcb,hB1⟩;have HO1:=iH hO1;have HP1:Hid (PAt vBr Brt.marks StrC 1 6 2 w.heap.size lo w1.heap.size g w w1 cs xs 0):=⟨fun j x hj=>absurd hj (Nat.not_lt_zero _),fun j x _ hj=>hcb j x hj,fun i j _ _ _ _ _ _ _ _ _ h=>absurd h (Nat.not_lt_zero _)⟩;clear hO1 hcb;go_wp2_with fail;go_loopw [11] (fun i wr=>∃ (k:Nat) (cs:List Value),k≤xs.length∧i=.int .i64 k∧Hid (wr.ownsRow w.heap.size 45 6 (.slice (some ⟨g,0,none⟩) xs.length q) xs.length cs)∧Hid (PAt vBr Brt.marks StrC 1 6 2 w.heap.size lo wr.heap.size g w wr cs xs k)∧Below w.heap.size w wr) (fun i _=>xs.length - (intOf i).toNat)
 case atStart=>exact ⟨0,cs,zL,rfl,HO1,HP1,hB1⟩
 case round =>
  clear HO1 HP1 hB1;obtain ⟨k,cs,hk,rfl,HO,HP,hB⟩:=hrel;by_cases hlt:k<xs.length
  ·obtain ⟨x,hx⟩:=gX hlt
   have HXX:=iH hx;have Z:=iH (HZ x (List.mem_of_getElem? hx));have hgl:g<wr.heap.size:=(HO.out.lt g rfl).2;have hgb:w.heap.size≤g:=Ui HO;have hcl:cs.length=xs.length*6:=HO.out.1;obtain ⟨am,cm,hqc,hsm0⟩:=HP.out.old k x nL hx;have HSM:=iH hsm0;have HRA:Hid (wr.rangeAt g (k*6) (bbL x am cm)):=fun j v hv=>by
    have hj:j<6:=Ae hv;have h1:=HO.out.cellAt (k*6+j) (by omega);rw [hqc j v hv] at h1;exact h1
   clear hx hqc hsm0;have hza:=Blk.alloc wr yyA 45;have HTS:Hid ((wr.alloc (Obj.cells yyA 45)).there wr.heap.size 0 6):=hza.there;obtain ⟨w4,HW4⟩:∃ w4,Hid (w4=(wr.alloc (Obj.cells yyA 45)).setCells wr.heap.size 0 (bbL x am cm)):=⟨_,rfl⟩;have HK4:Hid (Blk wr.heap.size (bbA x am cm) 45 w4):=by
    show Blk _ _ _ _
    rw [HW4.out];exact hza.setAll (bbA x am cm) rfl
   have hbx:Below wr.heap.size wr w4:=by
    rw [HW4.out];exact Ac nL _ _ _ ((Below.refl _ wr).alloc nL _)
   have hB4:=qt hB hbx;have HBX:=iH hbx;have hs4:wr.heap.size≤w4.heap.size:=hbx.size;clear hza hbx hB;go_upto_region 5 with (first | (refine lr Gg HRA ?_) | (refine Ad rfl 45 _ _ rfl wr.heap.size 0 (bbA x am cm) rfl rfl HTS Cc (by simp [Value.oneCell']) w4 HW4 ?_));clear HRA HTS HW4;go_wp2_with (first | (refine lk Gg HK4 ?_));refine (bT x am cm lo _ (HSM.out.below StrC.holds hB4 nL) Z.out.1 Z.out.2.1 Z.out.2.2.1 Z.out.2.2.2).mono ?_;rintro e w5 ⟨gm,qm,rfl,hOm,hb5⟩;have hsn:=Uu hOm Z.out.1 (Nf HSM);have hB5:=qt hB4 hb5;have hBr:=HBX.out.trans (hb5.mono hs4);have HO5:=iH (Al HO hBr);have HP5:=iH (HP.out.below StrC.holds hBr nL);have HT5:Hid (w5.there g (k*6) 6):=Ck HO5 (by omega);obtain ⟨w6,HW6⟩:∃ w6,Hid (w6=w5.setCells g (k*6) (vBr x (.slice gm x.marks.length qm))):=⟨_,rfl⟩;have hs6:w6.heap.size=w5.heap.size:=by rw [HW6.out,Bf]
   have HO6:Hid (w6.ownsRow w.heap.size 45 6 (.slice (some ⟨g,0,none⟩) xs.length q) xs.length (Bu cs (k*6) (vBr x (.slice gm x.marks.length qm)))):=by
    have h:=Cl (vBr x (.slice gm x.marks.length qm)) _ (k*6) _ HO5;rw [← HW6.out] at h;exact h
   have HP6:Hid (PAt vBr Brt.marks StrC 1 6 2 w.heap.size lo w6.heap.size g w w6 (Bu cs (k*6) (vBr x (.slice gm x.marks.length qm))) xs (k+1)):=by
    have h:=PAt.step (N':=w6.heap.size) (ae:=gm) (ce:=qm) StrC.flat Bk fG HP5 HXX hcl (hsn.keep StrC.holds (Keeps.refl _ _) (by have:=hB4.size;omega)) (fun b o e hn=>by
     rcases hsn.2 with h9 | ⟨b',o',e',⟨h8,_⟩,h7,_⟩
     ·exact absurd h9 hn
     ·rw [e] at e'
      cases e'
      omega) (by have:=hBr.size;omega)
    rw [← HW6.out] at h;exact h
   have hB6:Below w.heap.size w w6:=by
    rw [HW6.out];exact Ac hgb _ _ _ hB5
   unfold vBr at HW6;clear hB5 HO5 HP5 hB4 HBX hs4 hb5 hOm hsn hBr hs6 HK4 HO HP;have i0:(0:Int)≤(k:Int):=by omega
   have i1:(k:Int)<(xs.length:Int):=by omega
   go_wp2_with (first | (refine Ad rfl 45 _ _ rfl g (k*6) (bbA x gm qm) (by first | rfl | (simp [go_sem];done)) rfl HT5 Cc (by simp [Value.oneCell']) w6 HW6 ?_));go_roundw
   case rel=>exact ⟨k+1,_,by omega,by go_num,HO6,HP6,hB6⟩
   case measure=>simp [intOf];omega
  ·have hke:k=xs.length:=by omega
   subst hke;go_wp2_with fail;go_ret;exact ⟨g,q,rfl,HP.out.done nL HO,hB⟩
theorem Vz (xs:List Brt) (a:OA) (cap lo:Nat) (w:World) (hin:SliceC BrtC 6 lo w a xs) (hsm:xs.length≤1048576) (hz:SmB xs) :
  Calls Tryz.prog 66 #[.slice a xs.length cap,.func (.func 67) #[] #[]] w fun e w'=>∃ g q,e=.returned (.slice g xs.length q)∧fO w.heap.size w' (.slice g xs.length q) xs∧Below w.heap.size w w':=by
 cases a with
 | none =>
  have h0:xs=[]:=List.length_eq_zero_iff.1 (hin.nilD rfl);subst h0;refine (Yl _ cap w).mono ?_;rintro e w1 ⟨rfl,hb⟩;exact ⟨none,0,rfl,OwnA.nil,hb⟩
 | some ad =>
  refine (dI xs ad cap lo w hin hsm hz).mono ?_;rintro e w1 ⟨g,q,rfl,hO,hb⟩;exact ⟨some ⟨g,0,none⟩,q,rfl,hO,hb⟩
theorem cO (xs:List Cpy) (ad:Addr) (cap lo:Nat) (w:World) (hin:SliceC CpyC 12 lo w (some ad) xs) (hsm:xs.length≤1048576) :
  Calls Tryz.prog 106 #[.slice (some ad) xs.length cap] w fun e w'=>∃ g c cs,e=.returned (.slice (some ⟨g,0,none⟩) xs.length c)∧w'.ownsRow w.heap.size 48 12 (.slice (some ⟨g,0,none⟩) xs.length c) xs.length cs∧(∀ j x,xs[j]?=some x→∃ (ae:OA) (ce:Nat),(∀ i u,(vCp x (.slice ae x.likes.length ce))[i]?=some u→cs[j*12+i]?=some u)∧SliceC LikC 2 lo w ae x.likes)∧Below w.heap.size w w':=by
 obtain ⟨i0,hi,hz0,hz1,hz2⟩:=info_parts Fq;have q22:∀ (w:World) (a:OA) (n c n' c':Nat),(binOp .eql 39 (.slice a n c) (.slice none n' c')).run Tryz.prog w=.ok (.bool a.isNone) w:=fun w a n c n' c'=>Lib.run_eql_slice_nil w _ _ a n c n' c' Tryz.underlying39
 obtain ⟨cs,hcl,hcs,hc1,hcb⟩:=Hr hin;have HCL:=iH hcl;have HS:=iH hcs;have HC1:=iH hc1;have HCB:=iH hcb;clear hin hcl hcs hc1 hcb;go_enter Tryz.func106,Tryz.ntmps106;go_wp2_with (at_builtin;refine wpList_append_own _ rfl _ _ 39 rfl w.heap.size 48 i0 _ 12 160 Tryz.underlying39 hi hz0 hz1 hz2 rfl (by decide) _ _ _ rfl (World.ownsRow_made w #[] 0 nL (zL) rfl) ad xs.length _ cs rfl HCL (fun j u hj=>Lib.cell?_alloc_some _ (HS j u hj)) HC1 (by unfold maxLen;omega) (by omega) (by simp) ?_;intro v' w1 hown hgrow hnil);have hv:v'≠.slice none 0 0:=fun e=>by have:=(hnil.1 e).1;cases this
 have hown':w1.ownsRow w.heap.size 48 12 v' xs.length cs:=by simpa using hown
 obtain ⟨g,c,rfl⟩:=Dj hown' hv;have HO:=iH hown';have hB:Below w.heap.size w w1:=((Below.refl _ w).alloc nL _).grown hgrow (by simp) (by intro k hk;cases hk;exact Nat.le_refl _);clear hown hgrow hnil hv hown';go_wp2_with fail;go_ret;exact ⟨g,c,cs,rfl,HO,HCB,hB⟩
theorem Yd (cap:Nat) (w:World) :
  Calls Tryz.prog 106 #[.slice none 0 cap] w (Rt (.slice none 0 0) w):=by
 have q22:∀ (w:World) (a:OA) (n c n' c':Nat),(binOp .eql 39 (.slice a n c) (.slice none n' c')).run Tryz.prog w=.ok (.bool a.isNone) w:=fun w a n c n' c'=>Lib.run_eql_slice_nil w _ _ a n c n' c' Tryz.underlying39
 go_enter Tryz.func106,Tryz.ntmps106;go_wp2_with fail;go_ret;exact ⟨rfl,Below.refl _ _⟩
theorem Xr (f:Value) (cap:Nat) (w:World) :
  Calls Tryz.prog 70 #[.slice none 0 cap,f] w (Rt (.slice none 0 0) w):=by
 go_enter Tryz.func70,Tryz.ntmps70;go_wp2_with fail;refine (Yd cap _).mono ?_;rintro e w1 ⟨rfl,hb⟩;have HB:=iH hb;clear hb;go_wp2_with fail;go_loopw [11] (fun i wr=>i=.int .i64 0∧Below w.heap.size w wr) (fun i _=>0)
 case atStart=>exact ⟨rfl,HB⟩
 case round =>
  obtain ⟨rfl,hB⟩:=hrel;go_wp2_with fail;go_ret;exact ⟨rfl,hB⟩
theorem dQ (xs:List Cpy) (ad:Addr) (cap lo:Nat) (w:World) (hin:SliceC CpyC 12 lo w (some ad) xs) (hsm:xs.length≤1048576) (hz:SmC xs) :
  Calls Tryz.prog 70 #[.slice (some ad) xs.length cap,.func (.func 71) #[] #[]] w fun e w'=>∃ g q,e=.returned (.slice (some ⟨g,0,none⟩) xs.length q)∧aE w.heap.size w' (.slice (some ⟨g,0,none⟩) xs.length q) xs∧Below w.heap.size w w':=by
 have HI:=iH hin;have HZ:=iH hz;clear hin hz;go_enter Tryz.func70,Tryz.ntmps70;go_wp2_with fail;refine (cO xs ad cap lo _ HI hsm).mono ?_;rintro e w1 ⟨g,q,cs,rfl,hO1,hcb,hB1⟩;have HO1:=iH hO1;have HP1:Hid (PAt vCp Cpy.likes LikC 2 12 7 w.heap.size lo w1.heap.size g w w1 cs xs 0):=⟨fun j x hj=>absurd hj (Nat.not_lt_zero _),fun j x _ hj=>hcb j x hj,fun i j _ _ _ _ _ _ _ _ _ h=>absurd h (Nat.not_lt_zero _)⟩;clear hO1 hcb;go_wp2_with fail;go_loopw [11] (fun i wr=>∃ (k:Nat) (cs:List Value),k≤xs.length∧i=.int .i64 k∧Hid (wr.ownsRow w.heap.size 48 12 (.slice (some ⟨g,0,none⟩) xs.length q) xs.length cs)∧Hid (PAt vCp Cpy.likes LikC 2 12 7 w.heap.size lo wr.heap.size g w wr cs xs k)∧Below w.heap.size w wr) (fun i _=>xs.length - (intOf i).toNat)
 case atStart=>exact ⟨0,cs,zL,rfl,HO1,HP1,hB1⟩
 case round =>
  clear HO1 HP1 hB1;obtain ⟨k,cs,hk,rfl,HO,HP,hB⟩:=hrel;by_cases hlt:k<xs.length
  ·obtain ⟨x,hx⟩:=gX hlt
   have HXX:=iH hx;have Z:=iH (HZ x (List.mem_of_getElem? hx));have hgl:g<wr.heap.size:=(HO.out.lt g rfl).2;have hgb:w.heap.size≤g:=Ui HO;have hcl:cs.length=xs.length*12:=HO.out.1;obtain ⟨am,cm,hqc,hsm0⟩:=HP.out.old k x nL hx;have HSM:=iH hsm0;have HRA:Hid (wr.rangeAt g (k*12) (ccL x am cm)):=fun j v hv=>by
    have hj:j<12:=Ae hv;have h1:=HO.out.cellAt (k*12+j) (by omega);rw [hqc j v hv] at h1;exact h1
   clear hx hqc hsm0;have hza:=Blk.alloc wr xxA 48;have HTS:Hid ((wr.alloc (Obj.cells xxA 48)).there wr.heap.size 0 12):=hza.there;obtain ⟨w4,HW4⟩:∃ w4,Hid (w4=(wr.alloc (Obj.cells xxA 48)).setCells wr.heap.size 0 (ccL x am cm)):=⟨_,rfl⟩;have HK4:Hid (Blk wr.heap.size (ccA x am cm) 48 w4):=by
    show Blk _ _ _ _
    rw [HW4.out];exact hza.setAll (ccA x am cm) rfl
   have hbx:Below wr.heap.size wr w4:=by
    rw [HW4.out];exact Ac nL _ _ _ ((Below.refl _ wr).alloc nL _)
   have hB4:=qt hB hbx;have HBX:=iH hbx;have hs4:wr.heap.size≤w4.heap.size:=hbx.size;clear hza hbx hB;go_upto_region 5 with (first | (refine lr Exq HRA ?_) | (refine Ad rfl 48 _ _ rfl wr.heap.size 0 (ccA x am cm) rfl rfl HTS Bh (by simp [Value.oneCell']) w4 HW4 ?_));clear HRA HTS HW4;go_wp2_with (first | (refine lk Exq HK4 ?_));refine (bQ x am cm lo _ (HSM.out.below LikC.holds hB4 nL) Z.out.1 Z.out.2.1 Z.out.2.2.1 Z.out.2.2.2.1 Z.out.2.2.2.2.1 Z.out.2.2.2.2.2.1 Z.out.2.2.2.2.2.2.1 Z.out.2.2.2.2.2.2.2).mono ?_;rintro e w5 ⟨gm,qm,rfl,hOm,hb5⟩;have hsn:=Vp hOm Z.out.1 (Nh HSM);have hB5:=qt hB4 hb5;have hBr:=HBX.out.trans (hb5.mono hs4);have HO5:=iH (Al HO hBr);have HP5:=iH (HP.out.below LikC.holds hBr nL);have HT5:Hid (w5.there g (k*12) 12):=Ck HO5 (by omega);obtain ⟨w6,HW6⟩:∃ w6,Hid (w6=w5.setCells g (k*12) (vCp x (.slice gm x.likes.length qm))):=⟨_,rfl⟩;have hs6:w6.heap.size=w5.heap.size:=by rw [HW6.out,Bf]
   have HO6:Hid (w6.ownsRow w.heap.size 48 12 (.slice (some ⟨g,0,none⟩) xs.length q) xs.length (Bu cs (k*12) (vCp x (.slice gm x.likes.length qm)))):=by
    have h:=Cl (vCp x (.slice gm x.likes.length qm)) _ (k*12) _ HO5;rw [← HW6.out] at h;exact h
   have HP6:Hid (PAt vCp Cpy.likes LikC 2 12 7 w.heap.size lo w6.heap.size g w w6 (Bu cs (k*12) (vCp x (.slice gm x.likes.length qm))) xs (k+1)):=by
    have h:=PAt.step (N':=w6.heap.size) (ae:=gm) (ce:=qm) LikC.flat Be eO HP5 HXX hcl (hsn.keep LikC.holds (Keeps.refl _ _) (by have:=hB4.size;omega)) (fun b o e hn=>by
     rcases hsn.2 with h9 | ⟨b',o',e',⟨h8,_⟩,h7,_⟩
     ·exact absurd h9 hn
     ·rw [e] at e'
      cases e'
      omega) (by have:=hBr.size;omega)
    rw [← HW6.out] at h;exact h
   have hB6:Below w.heap.size w w6:=by
    rw [HW6.out];exact Ac hgb _ _ _ hB5
   unfold vCp at HW6;clear hB5 HO5 HP5 hB4 HBX hs4 hb5 hOm hsn hBr hs6 HK4 HO HP;have i0:(0:Int)≤(k:Int):=by omega
   have i1:(k:Int)<(xs.length:Int):=by omega
   go_wp2_with (first | (refine Ad rfl 48 _ _ rfl g (k*12) (ccA x gm qm) (by first | rfl | (simp [go_sem];done)) rfl HT5 Bh (by simp [Value.oneCell']) w6 HW6 ?_));go_roundw
   case rel=>exact ⟨k+1,_,by omega,by go_num,HO6,HP6,hB6⟩
   case measure=>simp [intOf];omega
  ·have hke:k=xs.length:=by omega
   subst hke;go_wp2_with fail;go_ret;exact ⟨g,q,rfl,HP.out.done nL HO,hB⟩
theorem Wg (xs:List Cpy) (a:OA) (cap lo:Nat) (w:World) (hin:SliceC CpyC 12 lo w a xs) (hsm:xs.length≤1048576) (hz:SmC xs) :
  Calls Tryz.prog 70 #[.slice a xs.length cap,.func (.func 71) #[] #[]] w fun e w'=>∃ g q,e=.returned (.slice g xs.length q)∧aE w.heap.size w' (.slice g xs.length q) xs∧Below w.heap.size w w':=by
 cases a with
 | none =>
  have h0:xs=[]:=List.length_eq_zero_iff.1 (hin.nilD rfl);subst h0;refine (Xr _ cap w).mono ?_;rintro e w1 ⟨rfl,hb⟩;exact ⟨none,0,rfl,OwnA.nil,hb⟩
 | some ad =>
  refine (dQ xs ad cap lo w hin hsm hz).mono ?_;rintro e w1 ⟨g,q,rfl,hO,hb⟩;exact ⟨some ⟨g,0,none⟩,q,rfl,hO,hb⟩
end Go.Proofs.YtihnjndnkgnmaaaGreat
