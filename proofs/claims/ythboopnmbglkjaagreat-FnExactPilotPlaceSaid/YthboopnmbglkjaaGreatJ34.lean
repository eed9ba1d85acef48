import Derived.Test.YthboopnmbglkjaaGreatJ25
set_option maxHeartbeats 4000000
namespace Go.Proofs.YthboopnmbglkjaaGreat
open Tryz
set_option maxRecDepth 100000
open Go.RowKit Go.WideMaps Go.Maps Tryz
theorem AU{m1 m2 m3 m4:Nat}{x:Flt}{a1:OA}{c1:Nat}{a2:OA}{c2:Nat}{a3:OA}{c3:Nat}{w w4:World}(hB:bW w w4)(h1:w4.ownsMap prog 9 (plainElem prog 3) m1 x.berths.length (Aj (x.berths.map (·.name)) x.berths.length))(h2:w4.ownsMap prog 9 (plainElem prog 3) m2 x.services.length (Aj (x.services.map (·.name)) x.services.length))(h3:w4.ownsMap prog 9 (plainElem prog 3) m3 x.copies.length (Aj (x.copies.map (·.name)) x.copies.length))(h4:w4.heap[m4]?=some (Obj.map #[] 0)) :
  ∃wl,wl=w4.alloc (Obj.cells (xB x a1 c1 a2 c2 a3 c3 m1 m2 m3 m4) 65)/\bW w4 wl/\Hid (wl.rangeAt w4.heap.size 0 (wT x a1 c1 a2 c2 a3 c3 m1 m2 m3 m4)/\wl.ownsMap prog 9 (plainElem prog 3) m1 x.berths.length (Aj (x.berths.map (·.name)) x.berths.length)/\wl.ownsMap prog 9 (plainElem prog 3) m2 x.services.length (Aj (x.services.map (·.name)) x.services.length)/\wl.ownsMap prog 9 (plainElem prog 3) m3 x.copies.length (Aj (x.copies.map (·.name)) x.copies.length)/\wl.heap[m4]?=some (Obj.map #[] 0)/\bW w wl/\∀j,wl.frozen? (E w4.heap.size j)=false):=by
 have hal:=(Below.refl _ w4).alloc nL (Obj.cells (xB x a1 c1 a2 c2 a3 c3 m1 m2 m3 m4) 65);have hk:=Blk.alloc w4 (xB x a1 c1 a2 c2 a3 c3 m1 m2 m3 m4) 65;exact⟨_,rfl,hal,hk.rangeA,h1.alloc _,h2.alloc _,h3.alloc _,(hal.block m4 (Array.getElem?_eq_some_iff.1 h4).1).trans h4,hB.alloc hB.size _,λj=>hk.frozen j⟩
theorem nN(x:Flt)(a1:OA)(c1:Nat)(a2:OA)(c2:Nat)(a3:OA)(c3:Nat)(lo:Nat)(w:World)(n1:sB lo w a1 x.berths)(n2:sV lo w a2 x.services)(n3:sC lo w a3 x.copies)(l1:x.berths.length<=1048576)(l2:x.services.length<=1048576)(l3:x.copies.length<=1048576) :
  Calls prog 59 #[.agg (ffA x a1 c1 a2 c2 a3 c3)] w λe w'=>∃p m1 m2 m3 m4,e=.returned (pP p 0)/\w.heap.size<=p/\w'.rangeAt p 0 (wT x a1 c1 a2 c2 a3 c3 m1 m2 m3 m4) /\
   w'.ownsMap prog 9 (plainElem prog 3) m1 x.berths.length (Aj (x.berths.map (·.name)) x.berths.length) /\
   w'.ownsMap prog 9 (plainElem prog 3) m2 x.services.length (Aj (x.services.map (·.name)) x.services.length) /\
   w'.ownsMap prog 9 (plainElem prog 3) m3 x.copies.length (Aj (x.copies.map (·.name)) x.copies.length)/\w.heap.size<=m4/\w'.heap[m4]?=some (Obj.map #[] 0)/\bW w w'/\∀j,w'.frozen? (E p j)=false:=by
 have N1:=iH n1;have N2:=iH n2;have N3:=iH n3;clear n1 n2 n3;go_enter func59,ntmps59;go_wp2_with fail;refine wp_region_held_drew (S:=FltIn w.heap.size x a1 c1 a2 c2 a3 c3) (by kernel_rfl) ⟨by simp,by simp,by simp,by simp⟩ (λhS=>?_);have HB0:Hid (bW w (w.alloc (Obj.cells (ffA x a1 c1 a2 c2 a3 c3) 32)).drew):=by show Below _ _ _;go_grown
 generalize(w.alloc (Obj.cells (ffA x a1 c1 a2 c2 a3 c3) 32)).drew=w0 at *;refine x7 0 3 (.agg (ffA x a1 c1 a2 c2 a3 c3)) ?_;refine x7 1 4 (pP w.heap.size 1) ?_;refine x7 2 5 (.slice a1 x.berths.length c1) ?_;refine x7 4 7 (pP w.heap.size 2) ?_;refine x7 5 8 (.slice a2 x.services.length c2) ?_;refine x7 7 10 (pP w.heap.size 3) ?_;refine x7 8 11 (.slice a3 x.copies.length c3) ?_;refine wpAnyH_ready (rs:=[3,10]) (by kernel_rfl) (by simp) (AllReadyH.cons (o:=⟨some 6,_,_,_,_,none⟩) rfl (λK hK=>?_) (AllReadyH.cons (o:=⟨some 13,_,_,_,_,none⟩) rfl (λK hK=>?_) AllReadyH.nil))
 case' _ =>
  go_simp;refine(Pm x.berths a1 c1 lo _ (N1.out.below BrtC.holds (B:=w.heap.size) HB0 nL) l1).mono ?_;rintro e w1⟨m1,rfl,ho,hb⟩;have HO1:=iH ho;have HB1:=qTH HB0 hb;refine hK.out _ _ (hS.below hb (block_lt_of_cell hS.1)) (λhS=>?_);clear ho hb HB0;clear hK K;refine wpAnyH_ready (rs:=[6,10]) (by kernel_rfl) (by simp) (AllReadyH.cons (o:=⟨some 9,_,_,_,_,none⟩) rfl (λK hK=>?_) (AllReadyH.cons (o:=⟨some 13,_,_,_,_,none⟩) rfl (λK hK=>?_) AllReadyH.nil))
  case' _ =>
   go_simp;refine(Lo x.services a2 c2 lo _ (N2.out.below SvcC.holds (B:=w.heap.size) HB1 nL) l2).mono ?_;rintro e w2⟨m2,rfl,ho,hb⟩;have HO2:=iH ho;have HB2:=qTH HB1 hb;have HO1':Hid (w2.ownsMap prog 9 (plainElem prog 3) m1 x.berths.length (Aj (x.berths.map (·.name)) x.berths.length)):=Ag HO1 hb HO1.out.lt;clear HO1;have HO1:=HO1';clear HO1';refine hK.out _ _ (hS.below hb (block_lt_of_cell hS.1)) (λhS=>?_);clear ho hb HB1;clear hK K;refine wpAnyH_ready (rs:=[9,10]) (by kernel_rfl) (by simp) (AllReadyH.cons (o:=⟨some 12,_,_,_,_,none⟩) rfl (λK hK=>?_) (AllReadyH.cons (o:=⟨some 13,_,_,_,_,none⟩) rfl (λK hK=>?_) AllReadyH.nil))
   case' _ =>
    go_simp;refine(Hn x.copies a3 c3 lo _ (N3.out.below CpyC.holds (B:=w.heap.size) HB2 nL) l3).mono ?_;rintro e w3⟨m3,rfl,ho,hb⟩;have HO3:=iH ho;have HB3:=qTH HB2 hb;have HO1':Hid (w3.ownsMap prog 9 (plainElem prog 3) m1 x.berths.length (Aj (x.berths.map (·.name)) x.berths.length)):=Ag HO1 hb HO1.out.lt;clear HO1;have HO1:=HO1';clear HO1';have HO2':Hid (w3.ownsMap prog 9 (plainElem prog 3) m2 x.services.length (Aj (x.services.map (·.name)) x.services.length)):=Ag HO2 hb HO2.out.lt;clear HO2;have HO2:=HO2';clear HO2';refine hK.out _ _ (hS.below hb (block_lt_of_cell hS.1)) (λhS=>?_);clear ho hb HB2;clear hK K;refine rd1 10 ⟨some 13,_,_,_,_,none⟩ rfl (λK hK=>?_);go_simp;rw[Hs];simp only[Result.andThen];rw[Oper.upon_value];have hb:=(Below.refl _ w3).alloc nL (Obj.map #[] 0);obtain⟨w4,hw⟩:∃y,y=w3.alloc (Obj.map #[] 0):=⟨_,rfl⟩;have hm:w4.heap[w3.heap.size]?=some (Obj.map #[] 0):=by rw[hw];exact heap_alloc_new w3 _
    rw[<-hw]at hb⊢;clear hw;obtain⟨m4,hm4⟩:∃y,y=w3.heap.size:=⟨_,rfl⟩;have HG4:Hid (w.heap.size<=m4):=by rw[hm4];exact HB3.out.size
    have HM4:Hid (w4.heap[m4]?=some (Obj.map #[] 0)):=by rw[hm4];exact hm
    rw[<-hm4];clear hm4 hm;have HB4:=qTH HB3 hb;have HO1':Hid (w4.ownsMap prog 9 (plainElem prog 3) m1 x.berths.length (Aj (x.berths.map (·.name)) x.berths.length)):=Ag HO1 hb HO1.out.lt;clear HO1;have HO1:=HO1';clear HO1';have HO2':Hid (w4.ownsMap prog 9 (plainElem prog 3) m2 x.services.length (Aj (x.services.map (·.name)) x.services.length)):=Ag HO2 hb HO2.out.lt;clear HO2;have HO2:=HO2';clear HO2';have HO3':Hid (w4.ownsMap prog 9 (plainElem prog 3) m3 x.copies.length (Aj (x.copies.map (·.name)) x.copies.length)):=Ag HO3 hb HO3.out.lt;clear HO3;have HO3:=HO3';clear HO3';refine hK.out _ _ (hS.below hb (block_lt_of_cell hS.1)) (λhS=>?_);clear hb HB3;clear hK K;simp only[pX]
   rotate_left
   case' _ =>
    go_simp;rw[Hs];simp only[Result.andThen];rw[Oper.upon_value];have hb:=(Below.refl _ w2).alloc nL (Obj.map #[] 0);obtain⟨w3,hw⟩:∃y,y=w2.alloc (Obj.map #[] 0):=⟨_,rfl⟩;have hm:w3.heap[w2.heap.size]?=some (Obj.map #[] 0):=by rw[hw];exact heap_alloc_new w2 _
    rw[<-hw]at hb⊢;clear hw;obtain⟨m4,hm4⟩:∃y,y=w2.heap.size:=⟨_,rfl⟩;have HG4:Hid (w.heap.size<=m4):=by rw[hm4];exact HB2.out.size
    have HM4:Hid (w3.heap[m4]?=some (Obj.map #[] 0)):=by rw[hm4];exact hm
    rw[<-hm4];clear hm4 hm;have HB3:=qTH HB2 hb;have HO1':Hid (w3.ownsMap prog 9 (plainElem prog 3) m1 x.berths.length (Aj (x.berths.map (·.name)) x.berths.length)):=Ag HO1 hb HO1.out.lt;clear HO1;have HO1:=HO1';clear HO1';have HO2':Hid (w3.ownsMap prog 9 (plainElem prog 3) m2 x.services.length (Aj (x.services.map (·.name)) x.services.length)):=Ag HO2 hb HO2.out.lt;clear HO2;have HO2:=HO2';clear HO2';refine hK.out _ _ (hS.below hb (block_lt_of_cell hS.1)) (λhS=>?_);clear hb HB2;clear hK K;simp only[pX];refine rd1 9 ⟨some 12,_,_,_,_,none⟩ rfl (λK hK=>?_);go_simp;refine(Hn x.copies a3 c3 lo _ (N3.out.below CpyC.holds (B:=w.heap.size) HB3 nL) l3).mono ?_;rintro e w4⟨m3,rfl,ho,hb⟩;have HO3:=iH ho;have HB4:=qTH HB3 hb;have HM4':Hid (w4.heap[m4]?=some (Obj.map #[] 0)):=(hb.block m4 (Array.getElem?_eq_some_iff.1 HM4).1).trans HM4;clear HM4;have HM4:=HM4';clear HM4';have HO1':Hid (w4.ownsMap prog 9 (plainElem prog 3) m1 x.berths.length (Aj (x.berths.map (·.name)) x.berths.length)):=Ag HO1 hb HO1.out.lt;clear HO1;have HO1:=HO1';clear HO1';have HO2':Hid (w4.ownsMap prog 9 (plainElem prog 3) m2 x.services.length (Aj (x.services.map (·.name)) x.services.length)):=Ag HO2 hb HO2.out.lt;clear HO2;have HO2:=HO2';clear HO2';refine hK.out _ _ (hS.below hb (block_lt_of_cell hS.1)) (λhS=>?_);clear ho hb HB3;clear hK K
   rotate_left
  rotate_left 2
  case' _ =>
   go_simp;rw[Hs];simp only[Result.andThen];rw[Oper.upon_value];have hb:=(Below.refl _ w1).alloc nL (Obj.map #[] 0);obtain⟨w2,hw⟩:∃y,y=w1.alloc (Obj.map #[] 0):=⟨_,rfl⟩;have hm:w2.heap[w1.heap.size]?=some (Obj.map #[] 0):=by rw[hw];exact heap_alloc_new w1 _
   rw[<-hw]at hb⊢;clear hw;obtain⟨m4,hm4⟩:∃y,y=w1.heap.size:=⟨_,rfl⟩;have HG4:Hid (w.heap.size<=m4):=by rw[hm4];exact HB1.out.size
   have HM4:Hid (w2.heap[m4]?=some (Obj.map #[] 0)):=by rw[hm4];exact hm
   rw[<-hm4];clear hm4 hm;have HB2:=qTH HB1 hb;have HO1':Hid (w2.ownsMap prog 9 (plainElem prog 3) m1 x.berths.length (Aj (x.berths.map (·.name)) x.berths.length)):=Ag HO1 hb HO1.out.lt;clear HO1;have HO1:=HO1';clear HO1';refine hK.out _ _ (hS.below hb (block_lt_of_cell hS.1)) (λhS=>?_);clear hb HB1;clear hK K;simp only[pX];refine rd1 6 ⟨some 9,_,_,_,_,none⟩ rfl (λK hK=>?_);go_simp;refine(Lo x.services a2 c2 lo _ (N2.out.below SvcC.holds (B:=w.heap.size) HB2 nL) l2).mono ?_;rintro e w3⟨m2,rfl,ho,hb⟩;have HO2:=iH ho;have HB3:=qTH HB2 hb;have HM4':Hid (w3.heap[m4]?=some (Obj.map #[] 0)):=(hb.block m4 (Array.getElem?_eq_some_iff.1 HM4).1).trans HM4;clear HM4;have HM4:=HM4';clear HM4';have HO1':Hid (w3.ownsMap prog 9 (plainElem prog 3) m1 x.berths.length (Aj (x.berths.map (·.name)) x.berths.length)):=Ag HO1 hb HO1.out.lt;clear HO1;have HO1:=HO1';clear HO1';refine hK.out _ _ (hS.below hb (block_lt_of_cell hS.1)) (λhS=>?_);clear ho hb HB2;clear hK K;refine rd1 9 ⟨some 12,_,_,_,_,none⟩ rfl (λK hK=>?_);go_simp;refine(Hn x.copies a3 c3 lo _ (N3.out.below CpyC.holds (B:=w.heap.size) HB3 nL) l3).mono ?_;rintro e w4⟨m3,rfl,ho,hb⟩;have HO3:=iH ho;have HB4:=qTH HB3 hb;have HM4':Hid (w4.heap[m4]?=some (Obj.map #[] 0)):=(hb.block m4 (Array.getElem?_eq_some_iff.1 HM4).1).trans HM4;clear HM4;have HM4:=HM4';clear HM4';have HO1':Hid (w4.ownsMap prog 9 (plainElem prog 3) m1 x.berths.length (Aj (x.berths.map (·.name)) x.berths.length)):=Ag HO1 hb HO1.out.lt;clear HO1;have HO1:=HO1';clear HO1';have HO2':Hid (w4.ownsMap prog 9 (plainElem prog 3) m2 x.services.length (Aj (x.services.map (·.name)) x.services.length)):=Ag HO2 hb HO2.out.lt;clear HO2;have HO2:=HO2';clear HO2';refine hK.out _ _ (hS.below hb (block_lt_of_cell hS.1)) (λhS=>?_);clear ho hb HB3;clear hK K
  rotate_left
 rotate_left 3
 case' _ =>
  go_simp;rw[Hs];simp only[Result.andThen];rw[Oper.upon_value];have hb:=(Below.refl _ w0).alloc nL (Obj.map #[] 0);obtain⟨w1,hw⟩:∃y,y=w0.alloc (Obj.map #[] 0):=⟨_,rfl⟩;have hm:w1.heap[w0.heap.size]?=some (Obj.map #[] 0):=by rw[hw];exact heap_alloc_new w0 _
  rw[<-hw]at hb⊢;clear hw;obtain⟨m4,hm4⟩:∃y,y=w0.heap.size:=⟨_,rfl⟩;have HG4:Hid (w.heap.size<=m4):=by rw[hm4];exact HB0.out.size
  have HM4:Hid (w1.heap[m4]?=some (Obj.map #[] 0)):=by rw[hm4];exact hm
  rw[<-hm4];clear hm4 hm;have HB1:=qTH HB0 hb;refine hK.out _ _ (hS.below hb (block_lt_of_cell hS.1)) (λhS=>?_);clear hb HB0;clear hK K;simp only[pX];refine rd1 3 ⟨some 6,_,_,_,_,none⟩ rfl (λK hK=>?_);go_simp;refine(Pm x.berths a1 c1 lo _ (N1.out.below BrtC.holds (B:=w.heap.size) HB1 nL) l1).mono ?_;rintro e w2⟨m1,rfl,ho,hb⟩;have HO1:=iH ho;have HB2:=qTH HB1 hb;have HM4':Hid (w2.heap[m4]?=some (Obj.map #[] 0)):=(hb.block m4 (Array.getElem?_eq_some_iff.1 HM4).1).trans HM4;clear HM4;have HM4:=HM4';clear HM4';refine hK.out _ _ (hS.below hb (block_lt_of_cell hS.1)) (λhS=>?_);clear ho hb HB1;clear hK K;refine rd1 6 ⟨some 9,_,_,_,_,none⟩ rfl (λK hK=>?_);go_simp;refine(Lo x.services a2 c2 lo _ (N2.out.below SvcC.holds (B:=w.heap.size) HB2 nL) l2).mono ?_;rintro e w3⟨m2,rfl,ho,hb⟩;have HO2:=iH ho;have HB3:=qTH HB2 hb;have HM4':Hid (w3.heap[m4]?=some (Obj.map #[] 0)):=(hb.block m4 (Array.getElem?_eq_some_iff.1 HM4).1).trans HM4;clear HM4;have HM4:=HM4';clear HM4';have HO1':Hid (w3.ownsMap prog 9 (plainElem prog 3) m1 x.berths.length (Aj (x.berths.map (·.name)) x.berths.length)):=Ag HO1 hb HO1.out.lt;clear HO1;have HO1:=HO1';clear HO1';refine hK.out _ _ (hS.below hb (block_lt_of_cell hS.1)) (λhS=>?_);clear ho hb HB2;clear hK K;refine rd1 9 ⟨some 12,_,_,_,_,none⟩ rfl (λK hK=>?_);go_simp;refine(Hn x.copies a3 c3 lo _ (N3.out.below CpyC.holds (B:=w.heap.size) HB3 nL) l3).mono ?_;rintro e w4⟨m3,rfl,ho,hb⟩;have HO3:=iH ho;have HB4:=qTH HB3 hb;have HM4':Hid (w4.heap[m4]?=some (Obj.map #[] 0)):=(hb.block m4 (Array.getElem?_eq_some_iff.1 HM4).1).trans HM4;clear HM4;have HM4:=HM4';clear HM4';have HO1':Hid (w4.ownsMap prog 9 (plainElem prog 3) m1 x.berths.length (Aj (x.berths.map (·.name)) x.berths.length)):=Ag HO1 hb HO1.out.lt;clear HO1;have HO1:=HO1';clear HO1';have HO2':Hid (w4.ownsMap prog 9 (plainElem prog 3) m2 x.services.length (Aj (x.services.map (·.name)) x.services.length)):=Ag HO2 hb HO2.out.lt;clear HO2;have HO2:=HO2';clear HO2';refine hK.out _ _ (hS.below hb (block_lt_of_cell hS.1)) (λhS=>?_);clear ho hb HB3;clear hK K
 rotate_left
 all_goals
  refine x7 11 14 (.agg (xB x a1 c1 a2 c2 a3 c3 m1 m2 m3 m4)) ?_;refine rd1 12 ⟨some 15,_,_,_,_,none⟩ rfl (λK hK=>?_);go_simp;obtain⟨wl,hwl,hal,HLF⟩:=AU (x:=x) (a1:=a1) (c1:=c1) (a2:=a2) (c2:=c2) (a3:=a3) (c3:=c3) HB4 HO1 HO2 HO3 HM4;have hle:Hid (w.heap.size<=w4.heap.size):=HB4.out.size;rw[<-hwl];refine hK.out _ _ (hS.below hal (block_lt_of_cell hS.1)) (λhS=>?_);clear hal HB4 HO1 HO2 HO3 HM4 hwl;clear hK K;refine x7 13 2 (pP w4.heap.size 0) ?_;refine td ?_
  go_wp2
  go_ret;exact⟨_,m1,m2,m3,m4,rfl,hle.out,HLF.out.1,HLF.out.2.1,HLF.out.2.2.1,HLF.out.2.2.2.1,HG4,HLF.out.2.2.2.2⟩
def FoundZ(p m1 m2 m3 m4:Nat)(x:Flt)(a1:OA)(c1:Nat)(a2:OA)(c2:Nat)(a3:OA)(c3:Nat)(w:World):Prop:=Found p m1 m2 m3 m4 x a1 c1 a2 c2 a3 c3 w/\∀j,w.frozen? (E p j)=false
theorem FoundZ.below{p m1 m2 m3 m4:Nat}{x:Flt}{a1:OA}{c1:Nat}{a2:OA}{c2:Nat}{a3:OA}{c3:Nat}{w w':World}(h:FoundZ p m1 m2 m3 m4 x a1 c1 a2 c2 a3 c3 w)(hb:bW w w'):FoundZ p m1 m2 m3 m4 x a1 c1 a2 c2 a3 c3 w':=⟨h.1.below hb,λj=>(hb.frozen (p:=(E p j)) h.1.2.1).trans (h.2 j)⟩
theorem Vx(x:Flt)(a1:OA)(c1:Nat)(a2:OA)(c2:Nat)(a3:OA)(c3:Nat)(lo:Nat)(w:World)(n1:sB lo w a1 x.berths)(n2:sV lo w a2 x.services)(n3:sC lo w a3 x.copies)(l1:x.berths.length<=1048576)(l2:x.services.length<=1048576)(l3:x.copies.length<=1048576) :
  Calls prog 24 #[.agg (ffA x a1 c1 a2 c2 a3 c3)] w λe w'=>∃v,e=.returned (.tuple #[v,.bool (Bb x)])/\bW w w' /\
   (Bb x=true->∃p m1 m2 m3 m4,v=pP p 0/\w.heap.size<=p/\w.heap.size<=m4/\FoundZ p m1 m2 m3 m4 x a1 c1 a2 c2 a3 c3 w'):=by
 have N1:=iH n1;have N2:=iH n2;have N3:=iH n3;have HV:Hid (Bb x=(Dn x&&(En x&&(Cc x.berths&&(Fd x.services&&(Br x&&De x.berths x.copies)))))):=rfl;clear n1 n2 n3;generalize Bb x=V at *;go_enter func24,ntmps24;go_wp2_with fail;refine(nN x a1 c1 a2 c2 a3 c3 lo _ (N1.out.below BrtC.holds (B:=w.heap.size) (by go_grown) nL) (N2.out.below SvcC.holds (B:=w.heap.size) (by go_grown) nL) (N3.out.below CpyC.holds (B:=w.heap.size) (by go_grown) nL) l1 l2 l3).mono ?_;rintro e w1⟨p,m1,m2,m3,m4,rfl,hp,hrg,ho1,ho2,ho3,hg4,hm4,hb1,hfz⟩;have HB1:Hid (bW w w1):=(show bW w _ by go_grown).trans (hb1.mono (by simp));have HP:Hid (w.heap.size<=p):=lT (show w.heap.size<=_ by simp) hp;have HG4:Hid (w.heap.size<=m4):=lT (show w.heap.size<=_ by simp) hg4;have HF1:Hid (FoundZ p m1 m2 m3 m4 x a1 c1 a2 c2 a3 c3 w1):=⟨⟨hrg,block_lt_of_cell (hrg 1 _ rfl),ho1,ho2,ho3,hm4⟩,hfz⟩;clear hrg ho1 ho2 ho3 hb1 hp hg4 hm4 hfz;go_wp2_with fail;refine(jP _).mono ?_;rintro e w2⟨g,rfl,hg,hgl,hb2⟩;have HB2:=qTH HB1 hb2;have HF2:Hid (FoundZ p m1 m2 m3 m4 x a1 c1 a2 c2 a3 c3 w2):=HF1.out.below hb2;have HG2:=iH hg;have HGL:=iH hgl;clear hg hgl hb2 HB1 HF1
 go_wp2
 go_loopw [11] (λi wr=>∃k:Nat,k<=6/\i=X k/\Hid ((0<k->(Dn x)=true)/\(1<k->(En x)=true)/\(2<k->(Cc x.berths)=true)/\(3<k->(Fd x.services)=true)/\(4<k->(Br x)=true)/\(5<k->(De x.berths x.copies)=true))/\Hid (FoundZ p m1 m2 m3 m4 x a1 c1 a2 c2 a3 c3 wr)/\Hid (wr.rangeAt g 0 [.func (.func 94) #[] #[],.func (.func 95) #[] #[],.func (.func 96) #[] #[],.func (.func 97) #[] #[],.func (.func 98) #[] #[],.func (.func 99) #[] #[]])/\Hid (g<wr.heap.size)/\Hid (bW w wr)) (λi _=>6-(intOf i).toNat)
 case atStart=>exact⟨0,by omega,rfl,⟨λh=>absurd h (by omega),λh=>absurd h (by omega),λh=>absurd h (by omega),λh=>absurd h (by omega),λh=>absurd h (by omega),λh=>absurd h (by omega)⟩,HF2,HG2,HGL,HB2⟩
 clear HF2 HG2 HGL HB2;obtain⟨k,hk,rfl,he,hF,hG,hgl,hb⟩:=hrel;have hk':k=0\/k=1\/k=2\/k=3\/k=4\/k=5\/k=6:=by omega
 rcases hk' with rfl|rfl|rfl|rfl|rfl|rfl|rfl
 .have c0:wr.cell? (E g 0)=some (.func (.func 94) #[] #[]):=hG.out 0 _ rfl
  go_wp2_with fail;refine(yA p x a1 c1 a2 c2 a3 c3 _ hF.out.1.ins).mono ?_;rintro e w3⟨rfl,hb3⟩;have HF3:Hid (FoundZ p m1 m2 m3 m4 x a1 c1 a2 c2 a3 c3 w3):=hF.out.below hb3;have HG3:=iH (Ac hG.out hb3 hgl.out);have HL3:Hid (g<w3.heap.size):=lL hgl.out hb3.size;have HB3:=qTH hb hb3;clear hb3 hF hG hgl hb c0
  cases hh:Dn x with
  |false =>
   have HC:Hid (V=false):=by show _=_;rw[HV.out,hh];rfl
   clear hh he HV
   go_wp2
   go_ret2
   exact⟨.pointer none,by rw[HC.out];rfl,HB3,λh=>absurd (HC.out.symm.trans h) (by decide)⟩
  |true =>
   have HE:Hid ((0<0+1->(Dn x)=true)/\(1<0+1->(En x)=true)/\(2<0+1->(Cc x.berths)=true)/\(3<0+1->(Fd x.services)=true)/\(4<0+1->(Br x)=true)/\(5<0+1->(De x.berths x.copies)=true)):=⟨λ_=>hh,λh=>absurd h (by omega),λh=>absurd h (by omega),λh=>absurd h (by omega),λh=>absurd h (by omega),λh=>absurd h (by omega)⟩;clear hh he
   go_wp2
   go_roundw
   case rel=>exact⟨0+1,by omega,by go_num,HE,HF3,HG3,HL3,HB3⟩
   simp[intOf]
 .have c0:wr.cell? (E g 1)=some (.func (.func 95) #[] #[]):=hG.out 1 _ rfl
  go_wp2_with fail;refine(xT p x a1 c1 a2 c2 a3 c3 lo _ hF.out.1.ins (N1.out.below BrtC.holds hb.out nL) (N2.out.below SvcC.holds hb.out nL) (N3.out.below CpyC.holds hb.out nL) l1 l2 l3).mono ?_;rintro e w3⟨rfl,hb3⟩;have HF3:Hid (FoundZ p m1 m2 m3 m4 x a1 c1 a2 c2 a3 c3 w3):=hF.out.below hb3;have HG3:=iH (Ac hG.out hb3 hgl.out);have HL3:Hid (g<w3.heap.size):=lL hgl.out hb3.size;have HB3:=qTH hb hb3;clear hb3 hF hG hgl hb c0
  cases hh:En x with
  |false =>
   have HC:Hid (V=false):=by show _=_;rw[HV.out,he.out.1 (by omega),Bool.true_and,hh];rfl
   clear hh he HV
   go_wp2
   go_ret2
   exact⟨.pointer none,by rw[HC.out];rfl,HB3,λh=>absurd (HC.out.symm.trans h) (by decide)⟩
  |true =>
   have HE:Hid ((0<1+1->(Dn x)=true)/\(1<1+1->(En x)=true)/\(2<1+1->(Cc x.berths)=true)/\(3<1+1->(Fd x.services)=true)/\(4<1+1->(Br x)=true)/\(5<1+1->(De x.berths x.copies)=true)):=⟨λ_=>he.out.1 (by omega),λ_=>hh,λh=>absurd h (by omega),λh=>absurd h (by omega),λh=>absurd h (by omega),λh=>absurd h (by omega)⟩;clear hh he
   go_wp2
   go_roundw
   case rel=>exact⟨1+1,by omega,by go_num,HE,HF3,HG3,HL3,HB3⟩
   simp[intOf]
 .have c0:wr.cell? (E g 2)=some (.func (.func 96) #[] #[]):=hG.out 2 _ rfl
  go_wp2_with fail;refine(jA p x.berths a1 c1 lo _ hF.out.1.ins.1 (N1.out.below BrtC.holds hb.out nL)).mono ?_;rintro e w3⟨rfl,hb3⟩;have HF3:Hid (FoundZ p m1 m2 m3 m4 x a1 c1 a2 c2 a3 c3 w3):=hF.out.below hb3;have HG3:=iH (Ac hG.out hb3 hgl.out);have HL3:Hid (g<w3.heap.size):=lL hgl.out hb3.size;have HB3:=qTH hb hb3;clear hb3 hF hG hgl hb c0
  cases hh:Cc x.berths with
  |false =>
   have HC:Hid (V=false):=by show _=_;rw[HV.out,he.out.1 (by omega),Bool.true_and,he.out.2.1 (by omega),Bool.true_and,hh];rfl
   clear hh he HV
   go_wp2
   go_ret2
   exact⟨.pointer none,by rw[HC.out];rfl,HB3,λh=>absurd (HC.out.symm.trans h) (by decide)⟩
  |true =>
   have HE:Hid ((0<2+1->(Dn x)=true)/\(1<2+1->(En x)=true)/\(2<2+1->(Cc x.berths)=true)/\(3<2+1->(Fd x.services)=true)/\(4<2+1->(Br x)=true)/\(5<2+1->(De x.berths x.copies)=true)):=⟨λ_=>he.out.1 (by omega),λ_=>he.out.2.1 (by omega),λ_=>hh,λh=>absurd h (by omega),λh=>absurd h (by omega),λh=>absurd h (by omega)⟩;clear hh he
   go_wp2
   go_roundw
   case rel=>exact⟨2+1,by omega,by go_num,HE,HF3,HG3,HL3,HB3⟩
   simp[intOf]
 .have c0:wr.cell? (E g 3)=some (.func (.func 97) #[] #[]):=hG.out 3 _ rfl
  go_wp2_with fail;refine(uW p x.services a2 c2 lo _ hF.out.1.ins.2.1 (N2.out.below SvcC.holds hb.out nL)).mono ?_;rintro e w3⟨rfl,hb3⟩;have HF3:Hid (FoundZ p m1 m2 m3 m4 x a1 c1 a2 c2 a3 c3 w3):=hF.out.below hb3;have HG3:=iH (Ac hG.out hb3 hgl.out);have HL3:Hid (g<w3.heap.size):=lL hgl.out hb3.size;have HB3:=qTH hb hb3;clear hb3 hF hG hgl hb c0
  cases hh:Fd x.services with
  |false =>
   have HC:Hid (V=false):=by show _=_;rw[HV.out,he.out.1 (by omega),Bool.true_and,he.out.2.1 (by omega),Bool.true_and,he.out.2.2.1 (by omega),Bool.true_and,hh];rfl
   clear hh he HV
   go_wp2
   go_ret2
   exact⟨.pointer none,by rw[HC.out];rfl,HB3,λh=>absurd (HC.out.symm.trans h) (by decide)⟩
  |true =>
   have HE:Hid ((0<3+1->(Dn x)=true)/\(1<3+1->(En x)=true)/\(2<3+1->(Cc x.berths)=true)/\(3<3+1->(Fd x.services)=true)/\(4<3+1->(Br x)=true)/\(5<3+1->(De x.berths x.copies)=true)):=⟨λ_=>he.out.1 (by omega),λ_=>he.out.2.1 (by omega),λ_=>he.out.2.2.1 (by omega),λ_=>hh,λh=>absurd h (by omega),λh=>absurd h (by omega)⟩;clear hh he
   go_wp2
   go_roundw
   case rel=>exact⟨3+1,by omega,by go_num,HE,HF3,HG3,HL3,HB3⟩
   simp[intOf]
 .have c0:wr.cell? (E g 4)=some (.func (.func 98) #[] #[]):=hG.out 4 _ rfl
  go_wp2_with fail;refine(iM p x a3 c3 m1 m2 lo _ hF.out.1.ins.2.2 (hF.out.1.1 4 _ rfl) (hF.out.1.1 5 _ rfl) hF.out.1.2.2.1 hF.out.1.2.2.2.1 (N3.out.below CpyC.holds hb.out nL) l3).mono ?_;rintro e w3⟨rfl,hb3⟩;have HF3:Hid (FoundZ p m1 m2 m3 m4 x a1 c1 a2 c2 a3 c3 w3):=hF.out.below hb3;have HG3:=iH (Ac hG.out hb3 hgl.out);have HL3:Hid (g<w3.heap.size):=lL hgl.out hb3.size;have HB3:=qTH hb hb3;clear hb3 hF hG hgl hb c0
  cases hh:Br x with
  |false =>
   have HC:Hid (V=false):=by show _=_;rw[HV.out,he.out.1 (by omega),Bool.true_and,he.out.2.1 (by omega),Bool.true_and,he.out.2.2.1 (by omega),Bool.true_and,he.out.2.2.2.1 (by omega),Bool.true_and,hh];rfl
   clear hh he HV
   go_wp2
   go_ret2
   exact⟨.pointer none,by rw[HC.out];rfl,HB3,λh=>absurd (HC.out.symm.trans h) (by decide)⟩
  |true =>
   have HE:Hid ((0<4+1->(Dn x)=true)/\(1<4+1->(En x)=true)/\(2<4+1->(Cc x.berths)=true)/\(3<4+1->(Fd x.services)=true)/\(4<4+1->(Br x)=true)/\(5<4+1->(De x.berths x.copies)=true)):=⟨λ_=>he.out.1 (by omega),λ_=>he.out.2.1 (by omega),λ_=>he.out.2.2.1 (by omega),λ_=>he.out.2.2.2.1 (by omega),λ_=>hh,λh=>absurd h (by omega)⟩;clear hh he
   go_wp2
   go_roundw
   case rel=>exact⟨4+1,by omega,by go_num,HE,HF3,HG3,HL3,HB3⟩
   simp[intOf]
 .have c0:wr.cell? (E g 5)=some (.func (.func 99) #[] #[]):=hG.out 5 _ rfl
  go_wp2_with fail;refine(qY p x a1 c1 a2 c2 a3 c3 lo _ hF.out.1.ins (N1.out.below BrtC.holds hb.out nL) (N3.out.below CpyC.holds hb.out nL) l1 l3).mono ?_;rintro e w3⟨rfl,hb3⟩;have HF3:Hid (FoundZ p m1 m2 m3 m4 x a1 c1 a2 c2 a3 c3 w3):=hF.out.below hb3;have HG3:=iH (Ac hG.out hb3 hgl.out);have HL3:Hid (g<w3.heap.size):=lL hgl.out hb3.size;have HB3:=qTH hb hb3;clear hb3 hF hG hgl hb c0
  cases hh:De x.berths x.copies with
  |false =>
   have HC:Hid (V=false):=by show _=_;rw[HV.out,he.out.1 (by omega),Bool.true_and,he.out.2.1 (by omega),Bool.true_and,he.out.2.2.1 (by omega),Bool.true_and,he.out.2.2.2.1 (by omega),Bool.true_and,he.out.2.2.2.2.1 (by omega),Bool.true_and,hh];skip
   clear hh he HV
   go_wp2
   go_ret2
   exact⟨.pointer none,by rw[HC.out];rfl,HB3,λh=>absurd (HC.out.symm.trans h) (by decide)⟩
  |true =>
   have HE:Hid ((0<5+1->(Dn x)=true)/\(1<5+1->(En x)=true)/\(2<5+1->(Cc x.berths)=true)/\(3<5+1->(Fd x.services)=true)/\(4<5+1->(Br x)=true)/\(5<5+1->(De x.berths x.copies)=true)):=⟨λ_=>he.out.1 (by omega),λ_=>he.out.2.1 (by omega),λ_=>he.out.2.2.1 (by omega),λ_=>he.out.2.2.2.1 (by omega),λ_=>he.out.2.2.2.2.1 (by omega),λ_=>hh⟩;clear hh he
   go_wp2
   go_roundw
   case rel=>exact⟨5+1,by omega,by go_num,HE,HF3,HG3,HL3,HB3⟩
   simp[intOf]
 have HC:Hid (V=true):=by show _=_;rw[HV.out,he.out.1 (by omega),he.out.2.1 (by omega),he.out.2.2.1 (by omega),he.out.2.2.2.1 (by omega),he.out.2.2.2.2.1 (by omega),he.out.2.2.2.2.2 (by omega)];rfl
 clear he HV
 go_wp2
 go_ret2
 exact⟨pP p 0,by rw[HC.out];rfl,hb.out,λ_=>⟨p,m1,m2,m3,m4,rfl,HP,HG4,hF.out⟩⟩
end Go.Proofs.YthboopnmbglkjaaGreat
