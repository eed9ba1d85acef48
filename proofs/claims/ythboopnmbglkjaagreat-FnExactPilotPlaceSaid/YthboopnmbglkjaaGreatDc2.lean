import Derived.Test.YthboopnmbglkjaaGreatJ31
set_option maxHeartbeats 8000000
set_option maxRecDepth 100000
namespace Go.Proofs.YthboopnmbglkjaaGreat
open Go.RowKit Tryz
theorem AX{w w':World}{g o B:Nat}{l:List Value}(h:w.rangeAt g o l)(hb:Below B w w')(hB:g<B):w'.rangeAt g o l:=by
 intro j v hj;rw[hb.cell (p:=(E g (o+j))) hB];exact h j v hj
theorem nB{w:World}{g:Nat}{cs:Array Value}{t:TypeId}(h:Blk g cs t w):∀j u,cs.toList[j]?=some u->w.cell? (((E g 0):Addr).add j)=some u:=by
 intro j x hj;rw[Addr.add_mid];exact h.rangeA j x hj
theorem lZ{lo:Nat}{w:World}{b o:Nat}{y:Brt}(h:BrtC lo w (λi=>w.cell? (E b (o+i))) y):∃(am:OA)(cm:Nat),w.rangeAt b o (bbL y am cm)/\sX lo w am y.marks:=by
 obtain⟨am,cm,q0,q1,q2,q3,q4,q5,_,_,hs⟩:=h;exact⟨am,cm,Aa q0 (Aa q1 (Aa q2 (Aa q3 (Aa q4 (Aa q5 (Am _ _ _)))))),hs⟩
theorem lK{lo:Nat}{w:World}{b o:Nat}{y:Cpy}(h:CpyC lo w (λi=>w.cell? (E b (o+i))) y):∃(am:OA)(cm:Nat),w.rangeAt b o (ccL y am cm)/\sK lo w am y.likes:=by
 obtain⟨am,cm,q0,q1,q2,q3,q4,q5,q6,q7,q8,q9,q10,q11,_,_,_,_,_,_,hs⟩:=h;exact⟨am,cm,Aa q0 (Aa q1 (Aa q2 (Aa q3 (Aa q4 (Aa q5 (Aa q6 (Aa q7 (Aa q8 (Aa q9 (Aa q10 (Aa q11 (Am _ _ _)))))))))))),hs⟩
theorem Keeps.grownD{lo:Nat}{a b c:World}{row:Option Nat}(h:Keeps lo a b)(hg:b.grownBy c row)(hr:∀r,row=some r->a.heap.size<=r\/r<lo):Keeps lo a c:=by
 refine⟨lT h.1 hg.size,λx o h1 h2=>?_⟩;have hn:some x≠row:=λe=>by have:=hr x e.symm;omega
 have hl:=lL h2 h.1;exact⟨(hg.cell_far (E x o) hl hn).trans (h.2 x o h1 h2).1,(hg.frozen_far (E x o) hl hn).trans (h.2 x o h1 h2).2⟩
theorem Ww{α:Type}{l:List α}{k:Nat}{y:α}(h:l[k]?=some y):l.take (k+1)=l.take k++[y]:=by rw[List.take_add_one,h];rfl
theorem Zd{α:Type}{l:List α}{k:Nat}(h:k<=l.length):(l.take k).length=k:=by rw[List.length_take];omega
def SlF(a:OA)(n q:Nat):Prop:=(a=none/\n=0/\q=0)\/∃g,a=(O g 0)/\n<=q/\q<=maxLen
theorem SlF.of{base:Nat}{T:TypeId}{s:Nat}{a:OA}{n q:Nat}{cs:List Value}{w:World}(h:w.ownsRow base T s (.slice a n q) n cs):SlF a n q:=by
 rcases h.2 with⟨h1,h2⟩|⟨g,cap,cur,h1,_,_,h2,h3,_⟩
 .injection h1 with e1 e2 e3
  exact .inl ⟨e1,h2,e3⟩
 injection h1 with e1 e2 e3;subst e3;exact .inr ⟨g,e1,h2,h3⟩
def BP(x:Flt)(w:World)(e:Ending)(w':World):Prop:=∃(a1:OA)(q1 g2 q2:Nat)(a3:OA)(q3 bs H:Nat)(wB:World),e=.returned (.agg (ffA x a1 q1 (O g2 0) q2 a3 q3))/\SlF a1 x.berths.length q1/\sB H wB a1 x.berths/\w.heap.size<=H/\H<=bs/\wB.heap.size=bs/\Keeps H wB w'/\sV w.heap.size w' (O g2 0) x.services/\g2<bs/\Rr bs w' (.slice a3 x.copies.length q3) x.copies/\bW w w'
def FlA(x:Flt)(p1 gs g2 q2 H:Nat)(wz:World)(a1:OA)(c1:Nat)(b2 o2 c2:Nat)(a3:OA)(c3:Nat)(vb vc:Value):Prop:=Blk p1 (ffA x a1 c1 (O b2 o2) c2 a3 c3) 32 wz/\Blk (p1+1) FfA 32 wz/\Blk gs #[.bool x.pack,vb,sP g2 0 x.services.length q2,vc] 32 wz/\sV (p1+2) wz (O g2 0) x.services/\g2≠gs/\p1+2<=gs/\gs<H/\g2<H/\H<=wz.heap.size
theorem FlA.below{x:Flt}{p1 gs g2 q2 H:Nat}{w w':World}{a1:OA}{c1 b2 o2 c2:Nat}{a3:OA}{c3:Nat}{vb vc:Value}(h:FlA x p1 gs g2 q2 H w a1 c1 b2 o2 c2 a3 c3 vb vc)(hb:bW w w'):FlA x p1 gs g2 q2 H w' a1 c1 b2 o2 c2 a3 c3 vb vc:=by
 obtain⟨h1,h2,h3,h4,h5,h6,h7,h8,h9⟩:=h;exact⟨h1.below hb h1.lt,h2.below hb h2.lt,h3.below hb h3.lt,h4.below SvcC.holds hb nL,h5,h6,h7,h8,lT h9 hb.size⟩
theorem SvcC.flat:FlatC SvcC 2:=λ_ _ _ _ _ _ _ h ⟨q0,q1,z⟩=>⟨(h 0 (by omega)).trans q0,(h 1 (by omega)).trans q1,z⟩
theorem FlA.grown{x:Flt}{p1 gs g2 q2 H:Nat}{w w':World}{a1:OA}{c1 b2 o2 c2:Nat}{a3:OA}{c3:Nat}{vb vc:Value}{row:Option Nat}(h:FlA x p1 gs g2 q2 H w a1 c1 b2 o2 c2 a3 c3 vb vc)(hg:w.grownBy w' row)(hr:∀r,row=some r->H<=r):FlA x p1 gs g2 q2 H w' a1 c1 b2 o2 c2 a3 c3 vb vc:=by
 obtain⟨h1,h2,h3,h4,h5,h6,h7,h8,h9⟩:=h;have far:∀b,b<H->some b≠row:=λb hb e=>by have:=hr b e.symm;omega
 exact⟨h1.grown hg (far _ (by omega)),h2.grown hg (far _ (by omega)),h3.grown hg (far _ h7),Ck SvcC.flat h4 hg (λb o e _=>by cases e;exact far _ h8),h5,h6,h7,h8,lT h9 hg.size⟩
theorem FlA.put1{x:Flt}{p1 gs g2 q2 H:Nat}{w:World}{a1:OA}{c1 b2 o2 c2:Nat}{a3:OA}{c3:Nat}{vb vc:Value}(h:FlA x p1 gs g2 q2 H w a1 c1 b2 o2 c2 a3 c3 vb vc)(v:Value):FlA x p1 gs g2 q2 H (w.setCell (E gs 1) v) a1 c1 b2 o2 c2 a3 c3 v vc:=by
 obtain⟨h1,h2,h3,h4,h5,h6,h7,h8,h9⟩:=h;have hg:=Dt w (E gs 1) v;exact⟨h1.other (a:=(E gs 1)) (show p1≠gs by omega) _,h2.other (a:=(E gs 1)) (show p1+1≠gs by omega) _,h3.set 1 v,Ck SvcC.flat h4 hg (λb o e _ e2=>by cases e;cases e2;exact h5 rfl),h5,h6,h7,h8,lT h9 hg.size⟩
theorem FlA.put3{x:Flt}{p1 gs g2 q2 H:Nat}{w:World}{a1:OA}{c1 b2 o2 c2:Nat}{a3:OA}{c3:Nat}{vb vc:Value}(h:FlA x p1 gs g2 q2 H w a1 c1 b2 o2 c2 a3 c3 vb vc)(v:Value):FlA x p1 gs g2 q2 H (w.setCell (E gs 3) v) a1 c1 b2 o2 c2 a3 c3 vb v:=by
 obtain⟨h1,h2,h3,h4,h5,h6,h7,h8,h9⟩:=h;have hg:=Dt w (E gs 3) v;exact⟨h1.other (a:=(E gs 3)) (show p1≠gs by omega) _,h2.other (a:=(E gs 3)) (show p1+1≠gs by omega) _,h3.set 3 v,Ck SvcC.flat h4 hg (λb o e _ e2=>by cases e;cases e2;exact h5 rfl),h5,h6,h7,h8,lT h9 hg.size⟩
theorem fQ(x:Flt)(a1:OA)(c1 b2 o2 c2:Nat)(a3:OA)(c3 lo:Nat)(w:World)(n1:sB lo w a1 x.berths)(n2:sV lo w (O b2 o2) x.services)(n3:sC lo w a3 x.copies)(hls:x.services.length<=1048576)(hlb:x.berths.length<=1048576)(hlc:x.copies.length<=1048576)(hmk:∀y∈x.berths,y.marks.length<=1048576)(hlk:∀y∈x.copies,y.likes.length<=1048576) :
  Calls prog 18 #[.agg (ffA x a1 c1 (O b2 o2) c2 a3 c3)] w λe w'=>BP x w e w':=by
 obtain⟨i0,hi,hz0,hz1,hz2⟩:=info_parts Xa;have HN1:=iH n1;have HN2:=iH n2;have HN3:=iH n3;have HMK:=iH hmk;have HLK:=iH hlk;clear n1 n2 n3 hmk hlk;have h1:=Blk.alloc w (ffA x a1 c1 (O b2 o2) c2 a3 c3) 32;have HZ2:=al2 w (ffA x a1 c1 (O b2 o2) c2 a3 c3) 32 FfA 32;have HK2:=iH (h1.below ((Below.refl _ _).alloc nL (Obj.cells FfA 32)) h1.lt);have hB2:=bl2 w (ffA x a1 c1 (O b2 o2) c2 a3 c3) 32 FfA 32;have hs2:((w.alloc (Obj.cells (ffA x a1 c1 (O b2 o2) c2 a3 c3) 32)).alloc (Obj.cells FfA 32)).heap.size=w.heap.size+2:=by simp
 clear h1;go_enter func18,ntmps18;go_upto_region 1 with fail;generalize((w.alloc (Obj.cells (ffA x a1 c1 (O b2 o2) c2 a3 c3) 32)).alloc (Obj.cells FfA 32))=w2 at *;have hl2:w.heap.size+1<w2.heap.size:=HZ2.out.lt;have HS2:=iH hs2;clear hs2
 go_cut [3] (λp wz=>∃(gs g2 q2:Nat),p=pP gs 0/\Hid (Blk gs (fgA x.pack none 0 0 (O g2 0) x.services.length q2 none 0 0) 32 wz)/\Hid (sV w2.heap.size wz (O g2 0) x.services)/\w2.heap.size<=gs/\g2≠gs/\g2<wz.heap.size/\bW w2 wz)
 case first =>
  have HSB:Hid (∀wz,bW w2 wz->(λwy=>Blk w.heap.size (ffA x a1 c1 (O b2 o2) c2 a3 c3) 32 wy) wz):=λwz hb=>HK2.out.below hb HK2.out.lt
  refine wp_region_held_drew (S:=λwy=>Blk w.heap.size (ffA x a1 c1 (O b2 o2) c2 a3 c3) 32 wy) (by kernel_rfl) (HSB _ (Below.refl _ _).drew) (λhS=>?_);have hBn:bW w2 w2.drew:=(Below.refl _ _).drew;obtain⟨wn,HWN⟩:∃wn,Hid (wn=w2.drew):=⟨_,rfl⟩;rw[<-HWN.out]at hS hBn⊢;clear HWN;refine tz 0 6 (pP w.heap.size 0) ?_;refine ty 1 ⟨some 7,_,_,_,_,none⟩ (.bool x.pack) ?_ ?_
  .intro wy hy
   have h0:=Blk.cell hy (o:=0) rfl;clear hy;go_simp
  refine tz 3 9 (pP w.heap.size 2) ?_;refine ty 4 ⟨some 10,_,_,_,_,none⟩ (sP b2 o2 x.services.length c2) ?_ ?_
  .intro wy hy
   have h0:=Blk.cell hy (o:=2) rfl;clear hy;go_simp
  refine wpAnyH_ready (rs:=[2,7]) (by kernel_rfl) (by simp) (AllReadyH.cons (o:=⟨some 8,_,_,_,_,none⟩) rfl (λKK hKK=>?_) (AllReadyH.cons (o:=⟨some 3,_,_,_,_,none⟩) rfl (λKK hKK=>?_) AllReadyH.nil))
  case' _ =>
   skip;go_simp;have hal:=(Below.refl _ wn).alloc nL (Obj.cells #[] 88);have hga:=hBn.size;have T1:Hid ((wn.alloc (Obj.cells #[] 88)).ownsRow w2.heap.size 88 2 (sP wn.heap.size 0 0 0) 0 []):=Mz (World.ownsRow_made wn #[] 0 nL (zL) rfl) hga;replace hBn:=qTr hBn hal;refine hKK.out _ _ (HSB _ hBn) (λhS=>?_);clear hKK KK hal;generalize wn.heap.size=ga at *;generalize wn.alloc (Obj.cells #[] 88)=wn at *;refine wpAnyH_ready (rs:=[5,7]) (by kernel_rfl) (by simp) (AllReadyH.cons (o:=⟨some 11,_,_,_,_,none⟩) rfl (λKK hKK=>?_) (AllReadyH.cons (o:=⟨some 3,_,_,_,_,none⟩) rfl (λKK hKK=>?_) AllReadyH.nil))
   case' _ =>
    skip;rw[if_pos (by rfl)];refine Jn (.tmp 8) (.tmp 10) 29 (by rfl) w2.heap.size 88 i0 _ 2 24 underlying29 hi hz0 hz1 hz2 rfl (by decide) _ 0 _ (by rfl) T1 (E b2 o2) x.services.length c2 (Ds x.services) (by rfl) (Fq _) (Tp (HN2.out.below SvcC.holds (qTr hB2 hBn) nL)) (Kn _) (by unfold maxLen;omega) (by omega) hBn.size ?_;intro v' wq hown hgrow hnil hblk;have hv:v'≠.slice none 0 0:=(λe=>by have h9:=(hnil.1 e).1;cases h9);rw[Nat.zero_add,List.nil_append]at hown;obtain⟨g2,q2,rfl⟩:=Yc hown hv;have T2:=iH hown;have hgr:wn.grownBy wq (some ga):=hgrow;have hb2:g2=ga\/g2=wn.heap.size:=by
     rcases hblk with e|e
     .cases e;exact .inl rfl
     .cases e;exact .inr rfl
    replace hBn:bW w2 wq:=hBn.grown hgr hBn.size (λk e=>by cases e;omega);refine hKK.out _ _ (HSB _ hBn) (λhS=>?_);clear hKK KK hown hgrow hnil hblk hv hgr hb2 T1;generalize wq=wn at *;simp only[pX];refine tz 6 12 (.agg (fgA x.pack none 0 0 (O g2 0) x.services.length q2 none 0 0)) ?_;refine rd1 7 ⟨some 3,_,_,_,_,none⟩ rfl (λKK hKK=>?_);go_simp;have hal:=(Below.refl _ wn).alloc nL (Obj.cells FfA 32);have HG:=iH (Blk.alloc wn FfA 32);have hgs:=hBn.size;have hac:wn.heap.size≠g2:=by have h9:=(T2.out.lt g2 rfl).2;omega
    replace T2:=iH (Ak T2 hal);replace hBn:=qTr hBn hal;refine hKK.out _ _ (HSB _ hBn) (λhS=>?_);clear hKK KK hal;generalize wn.heap.size=gs at *;generalize wn.alloc (Obj.cells FfA 32)=wn at *
   rotate_left
   case' _ =>
    skip;go_simp;have hal:=(Below.refl _ wn).alloc nL (Obj.cells FfA 32);have HG:=iH (Blk.alloc wn FfA 32);have hgs:=hBn.size;have hac:wn.heap.size≠ga:=by have h9:=(T1.out.lt ga rfl).2;omega
    replace T1:=iH (Ak T1 hal);replace hBn:=qTr hBn hal;refine hKK.out _ _ (HSB _ hBn) (λhS=>?_);clear hKK KK hal;generalize wn.heap.size=gs at *;generalize wn.alloc (Obj.cells FfA 32)=wn at *;refine rd1 5 ⟨some 11,_,_,_,_,none⟩ rfl (λKK hKK=>?_);rw[if_pos (by rfl)];refine Jn (.tmp 8) (.tmp 10) 29 (by rfl) w2.heap.size 88 i0 _ 2 24 underlying29 hi hz0 hz1 hz2 rfl (by decide) _ 0 _ (by rfl) T1 (E b2 o2) x.services.length c2 (Ds x.services) (by rfl) (Fq _) (Tp (HN2.out.below SvcC.holds (qTr hB2 hBn) nL)) (Kn _) (by unfold maxLen;omega) (by omega) hBn.size ?_;intro v' wq hown hgrow hnil hblk;have hv:v'≠.slice none 0 0:=(λe=>by have h9:=(hnil.1 e).1;cases h9);rw[Nat.zero_add,List.nil_append]at hown;obtain⟨g2,q2,rfl⟩:=Yc hown hv;have T2:=iH hown;have hgr:wn.grownBy wq (some ga):=hgrow;have hb2:g2=ga\/g2=wn.heap.size:=by
     rcases hblk with e|e
     .cases e;exact .inl rfl
     .cases e;exact .inr rfl
    have hac2:gs≠g2:=by have h9:=HG.out.lt;omega
    replace HG:=iH (HG.out.grown hgr (by intro e;cases e;exact hac rfl));clear hac;have hac:=hac2;clear hac2;replace hBn:bW w2 wq:=hBn.grown hgr hBn.size (λk e=>by cases e;omega);refine hKK.out _ _ (HSB _ hBn) (λhS=>?_);clear hKK KK hown hgrow hnil hblk hv hgr hb2 T1;generalize wq=wn at *;simp only[pX];refine tz 6 12 (.agg (fgA x.pack none 0 0 (O g2 0) x.services.length q2 none 0 0)) ?_
   rotate_left
  rotate_left 2
  case' _ =>
   skip;go_simp;have hal:=(Below.refl _ wn).alloc nL (Obj.cells FfA 32);have HG:=iH (Blk.alloc wn FfA 32);have hgs:=hBn.size;replace hBn:=qTr hBn hal;refine hKK.out _ _ (HSB _ hBn) (λhS=>?_);clear hKK KK hal;generalize wn.heap.size=gs at *;generalize wn.alloc (Obj.cells FfA 32)=wn at *;refine rd1 2 ⟨some 8,_,_,_,_,none⟩ rfl (λKK hKK=>?_);go_simp;have hal:=(Below.refl _ wn).alloc nL (Obj.cells #[] 88);have hga:=hBn.size;have T1:Hid ((wn.alloc (Obj.cells #[] 88)).ownsRow w2.heap.size 88 2 (sP wn.heap.size 0 0 0) 0 []):=Mz (World.ownsRow_made wn #[] 0 nL (zL) rfl) hga;have hac:gs≠wn.heap.size:=by have h9:=HG.out.lt;omega
   replace HG:=qBk HG hal;replace hBn:=qTr hBn hal;refine hKK.out _ _ (HSB _ hBn) (λhS=>?_);clear hKK KK hal;generalize wn.heap.size=ga at *;generalize wn.alloc (Obj.cells #[] 88)=wn at *;refine rd1 5 ⟨some 11,_,_,_,_,none⟩ rfl (λKK hKK=>?_);rw[if_pos (by rfl)];refine Jn (.tmp 8) (.tmp 10) 29 (by rfl) w2.heap.size 88 i0 _ 2 24 underlying29 hi hz0 hz1 hz2 rfl (by decide) _ 0 _ (by rfl) T1 (E b2 o2) x.services.length c2 (Ds x.services) (by rfl) (Fq _) (Tp (HN2.out.below SvcC.holds (qTr hB2 hBn) nL)) (Kn _) (by unfold maxLen;omega) (by omega) hBn.size ?_;intro v' wq hown hgrow hnil hblk;have hv:v'≠.slice none 0 0:=(λe=>by have h9:=(hnil.1 e).1;cases h9);rw[Nat.zero_add,List.nil_append]at hown;obtain⟨g2,q2,rfl⟩:=Yc hown hv;have T2:=iH hown;have hgr:wn.grownBy wq (some ga):=hgrow;have hb2:g2=ga\/g2=wn.heap.size:=by
    rcases hblk with e|e
    .cases e;exact .inl rfl
    .cases e;exact .inr rfl
   have hac2:gs≠g2:=by have h9:=HG.out.lt;omega
   replace HG:=iH (HG.out.grown hgr (by intro e;cases e;exact hac rfl));clear hac;have hac:=hac2;clear hac2;replace hBn:bW w2 wq:=hBn.grown hgr hBn.size (λk e=>by cases e;omega);refine hKK.out _ _ (HSB _ hBn) (λhS=>?_);clear hKK KK hown hgrow hnil hblk hv hgr hb2 T1;generalize wq=wn at *;simp only[pX];refine tz 6 12 (.agg (fgA x.pack none 0 0 (O g2 0) x.services.length q2 none 0 0)) ?_
  rotate_left
  all_goals
   refine rd1 8 ⟨none,_,_,_,_,none⟩ rfl (λKK hKK=>?_);rw[if_pos (by rfl)];refine wp_store_mid 32 (.tmp 3) (.tmp 12) (by rfl) gs 0 (fgA x.pack none 0 0 (O g2 0) x.services.length q2 none 0 0) (by rfl) (by rfl) HG.out.there Cf (by simp[Value.oneCell']) ?_;have HG9:Hid (Blk gs (fgA x.pack none 0 0 (O g2 0) x.services.length q2 none 0 0) 32 (wn.setCells gs 0 (fgL x.pack none 0 0 (O g2 0) x.services.length q2 none 0 0))):=HG.out.setAll (fgA x.pack none 0 0 (O g2 0) x.services.length q2 none 0 0) rfl;have hB9:bW w2 (wn.setCells gs 0 (fgL x.pack none 0 0 (O g2 0) x.services.length q2 none 0 0)):=Ae hgs _ _ _ hBn;have P9:Hid (sV w2.heap.size (wn.setCells gs 0 (fgL x.pack none 0 0 (O g2 0) x.services.length q2 none 0 0)) (O g2 0) x.services):=Ck SvcC.flat (fT T2 hls (gB HN2)) (Di _ _ _) (λb o e _ e2=>by cases e;cases e2;exact hac rfl);have hg9:g2<(wn.setCells gs 0 (fgL x.pack none 0 0 (O g2 0) x.services.length q2 none 0 0)).heap.size:=by rw[Be];exact(T2.out.lt g2 rfl).2
   have hac9:g2≠gs:=λe=>hac e.symm
   refine hKK.out _ _ (HSB _ hB9) (λhS=>?_);clear hKK KK hS;refine td ?_
   go_wp2
   go_meet;exact⟨gs,g2,q2,rfl,HG9,P9,hgs,hac9,hg9,hB9⟩
 obtain⟨gs,g2,q2,rfl,HG,HP,hgs,hgne,hgl,hbx⟩:=hcut;obtain⟨i1,hj,hj0,hj1,hj2⟩:=info_parts Vg;obtain⟨i2,hk,hk0,hk1,hk2⟩:=info_parts Qt;obtain⟨H,hH⟩:∃H,H=wc.heap.size:=⟨_,rfl⟩;have HFA:Hid (FlA x w.heap.size gs g2 q2 H wc a1 c1 b2 o2 c2 a3 c3 (.slice none 0 0) (.slice none 0 0)):=by
  have h9:=HP.out;rw[HS2.out]at h9 hgs;rw[hH];exact⟨HK2.out.below hbx HK2.out.lt,HZ2.out.below hbx HZ2.out.lt,HG,h9,hgne,hgs,HG.out.lt,hgl,Nat.le_refl _⟩
 have hBc:=qTr hB2 hbx;have hgsH:gs<H:=by rw[hH];exact HG.out.lt
 have hpg:w.heap.size+2<=gs:=HFA.out.2.2.2.2.2.1;have hHw:w.heap.size<=H:=by omega
 clear HK2 HZ2 HG HP hgs hgl hbx hB2 hl2 HS2 hH hi hz0 hz1 hz2
 go_wp2
 go_loopw [4] (λi wr=>∃(k:Nat)(v1:OA)(q1:Nat),k<=x.berths.length/\i=X k/\Hid (FlA x w.heap.size gs g2 q2 H wr a1 c1 b2 o2 c2 a3 c3 (.slice v1 k q1) (.slice none 0 0))/\Hid (BI H wr (.slice v1 k q1) (x.berths.take k))/\bW w wr) (λi _=>x.berths.length-(intOf i).toNat)
 case atStart=>exact⟨0,none,0,zL,rfl,HFA,OwnN.nil,hBc⟩
 clear HFA hBc;obtain⟨k,v1,q1,hk9,rfl,hA,hO,hbel⟩:=hrel;by_cases hlt:k<x.berths.length
 case neg=>
  have hke:k=x.berths.length:=by omega
  subst hke;have HBS:Hid (sB H wr v1 x.berths):=by
   have h:=hO.out;rw[List.take_length]at h;exact h.berths (SzB.of HN1) (by unfold maxLen;omega)
  have HSF:Hid (SlF v1 x.berths.length q1):=by
   have h:=hO.out;rw[List.take_length]at h;obtain⟨_,h9,_⟩:=h;exact SlF.of h9
  have kb1:wr.cell? (E w.heap.size 1)=some (.slice a1 x.berths.length c1):=hA.out.1.cell rfl;obtain⟨HC,hHCe⟩:∃HC,HC=wr.heap.size:=⟨_,rfl⟩;have hHHC:H<=HC:=by rw[hHCe];exact hA.out.2.2.2.2.2.2.2.2
  obtain⟨wB,hWB⟩:∃wB,wB=wr:=⟨_,rfl⟩;subst hWB;have HHC:=iH hHCe;clear hO hHCe hlt;go_wp2_with fail;clear kb1;go_loopw [5] (λi wr=>∃(k:Nat)(v3:OA)(q3:Nat),k<=x.copies.length/\i=X k/\Hid (FlA x w.heap.size gs g2 q2 H wr a1 c1 b2 o2 c2 a3 c3 (.slice v1 x.berths.length q1) (.slice v3 k q3))/\Hid (Keeps H wB wr)/\Hid (Rr HC wr (.slice v3 k q3) (x.copies.take k))/\bW w wr) (λi _=>x.copies.length-(intOf i).toNat)
  case atStart=>exact⟨0,none,0,zL,rfl,hA,Keeps.refl _ _,OwnN.nil,hbel⟩
  clear hA hbel;obtain⟨k,v3,q3,hk9,rfl,hA,hKp,hO,hbel⟩:=hrel;by_cases hlt:k<x.copies.length
  case neg=>
   have hke:k=x.copies.length:=by omega
   subst hke;have HOC:Hid (Rr HC wr (.slice v3 x.copies.length q3) x.copies):=by
    have h:=hO.out;rw[List.take_length]at h;exact h
   have kb3:wr.cell? (E w.heap.size 3)=some (.slice a3 x.copies.length c3):=hA.out.1.cell rfl;have HTS:Hid (wr.there (w.heap.size+1) 0 4):=hA.out.2.1.there;have HGR:=iH hA.out.2.2.1.rangeA;obtain⟨wf,HE⟩:∃wf,Hid (wf=wr.setCells (w.heap.size+1) 0 (ffL x v1 q1 (O g2 0) q2 v3 q3)):=⟨_,rfl⟩;have HRf:Hid (wf.rangeAt (w.heap.size+1) 0 (ffL x v1 q1 (O g2 0) q2 v3 q3)):=by
    show World.rangeAt _ _ _ _
    rw[HE.out];exact World.rangeAt_setCells_same wr (w.heap.size+1) 0 _ HTS
   have hgw:wr.grownBy wf (some (w.heap.size+1)):=by rw[HE.out];exact Di _ _ _
   have HF:Hid (Keeps H wB wf/\sV w.heap.size wf (O g2 0) x.services/\Rr HC wf (.slice v3 x.copies.length q3) x.copies/\bW w wf):=by
    refine⟨hKp.out.grownD hgw (λr e=>by cases e;exact .inr (by omega)),?_,HOC.out.kept LikC.flat hgw (λr e=>by cases e;omega),hbel.grown hgw hbel.size (λr e=>by cases e;omega)⟩;have h9:=hA.out.2.2.2.1;refine(Ck SvcC.flat h9 hgw (λb o e hn e2=>?_)).keep SvcC.holds (Keeps.refl _ _) (by omega);rcases h9.2 with h8|⟨b',o',e',⟨hl8,_⟩,_⟩
    .exact hn h8
    rw[e]at e';cases e'
    cases e2
    omega
   have hHH:w.heap.size<=H/\H<=HC/\wB.heap.size=HC/\g2<HC:=by
    have h9:=hA.out.2.2.2.2.2;have h8:=HHC.out;refine⟨by omega,by omega,by omega,by omega⟩
   clear hA hKp hO hbel HOC hgw;go_wp2_with(first|(refine qLr Mc HGR ?_)|(refine Ai rfl 32 _ _ rfl (w.heap.size+1) 0 (ffA x v1 q1 (O g2 0) q2 v3 q3) rfl rfl HTS Cf (by simp[Value.oneCell']) wf HE ?_));exact bodyPost_ret (Ay rfl _ _ (w.heap.size+1) (ffL x v1 q1 (O g2 0) q2 v3 q3) _ rfl HRf underlying32 rfl Cf) rfl ⟨v1,q1,g2,q2,v3,q3,HC,H,wB,rfl,HSF,HBS,hHH.1,hHH.2.1,hHH.2.2.1,HF.out.1,HF.out.2.1,hHH.2.2.2,HF.out.2.2.1,HF.out.2.2.2⟩
  obtain⟨y,hy⟩:=gXe hlt;obtain⟨b1,o1,rfl,_,hb1,hcc⟩:=HN3.out.at hy;obtain⟨am,cm,hry,hnm⟩:=lK hcc;have HRY:=iH hry;have HNM:=iH hnm;have hym:y.likes.length<=1048576:=HLK.out y (List.mem_of_getElem? hy);have HTS:=iH (Ww hy);have HTL:Hid ((x.copies.take k).length=k):=Zd hk9;have i0k:(0:Int)<=(k:Int):=by omega
  have i1k:(k:Int)<(x.copies.length:Int):=by omega
  clear hcc hry hnm hy;have kb3:wr.cell? (E w.heap.size 3)=some (sP b1 o1 x.copies.length c3):=hA.out.1.cell rfl;go_upto_region 9 with fail;clear kb3;have HSB:Hid (∀wz,FlA x w.heap.size gs g2 q2 H wz a1 c1 b2 o2 c2 (O b1 o1) c3 (.slice v1 x.berths.length q1) (.slice v3 k q3)->bW w wz->(λwy=>Blk w.heap.size (ffA x a1 c1 (O b2 o2) c2 (O b1 o1) c3) 32 wy/\Blk gs (fgA x.pack v1 x.berths.length q1 (O g2 0) x.services.length q2 v3 k q3) 32 wy/\wy.rangeAt b1 (o1+k*12) (ccL y am cm)) wz):=λwz h hb=>⟨h.1,h.2.2.1,AX HRY hb hb1⟩
  refine Fk (S:=λwy=>Blk w.heap.size (ffA x a1 c1 (O b2 o2) c2 (O b1 o1) c3) 32 wy/\Blk gs (fgA x.pack v1 x.berths.length q1 (O g2 0) x.services.length q2 v3 k q3) 32 wy/\wy.rangeAt b1 (o1+k*12) (ccL y am cm)) 11 (by kernel_rfl) (HSB _ (hA.out.below (Below.refl _ _).drew) hbel.drew) (λhS=>?_);have HA:=iH (hA.out.below (Below.refl _ _).drew);have HO:=iH (hO.out.below LikC.holds (Below.refl _ _).drew);have hB:=hbel.drew;have hHr:H<=wr.drew.heap.size:=HA.out.2.2.2.2.2.2.2.2;have HKW:=iH (hKp.out.trans (Keeps.of_below (Below.refl _ wr).drew nL H));have hHC:HC<=wr.drew.heap.size:=by rw[HHC.out];exact HKW.out.1
  clear hA hO hbel hKp;generalize wr.drew=wn at *;refine tv 0 ⟨some 38,_,_,_,_,none⟩ (pP gs 3) rfl (by rfl) ?_ hS ?_
  .intro wy hy
   clear hy;go_simp
  refine tv 1 ⟨some 39,_,_,_,_,none⟩ (.slice v3 k q3) rfl (by rfl) ?_ hS ?_
  .intro wy hy
   have h0:=hy.2.1.cell (o:=3) rfl;clear hy;go_simp
  refine tv 2 ⟨some 40,_,_,_,_,none⟩ (pP w.heap.size 3) rfl (by rfl) ?_ hS ?_
  .intro wy hy
   clear hy;go_simp
  refine tv 3 ⟨some 41,_,_,_,_,none⟩ (sP b1 o1 x.copies.length c3) rfl (by rfl) ?_ hS ?_
  .intro wy hy
   have h0:=hy.1.cell (o:=3) rfl;clear hy;go_simp
  refine tv 4 ⟨some 42,_,_,_,_,none⟩ (X k) rfl (by rfl) ?_ hS ?_
  .intro wy hy
   clear hy;go_simp
  refine tv 5 ⟨some 43,_,_,_,_,none⟩ (pP b1 (o1+k*12)) rfl (by rfl) ?_ hS ?_
  .intro wy hy
   clear hy
   first|(go_simp;done)|(go_simp;omega)|(go_simp;intro hh;omega)
  refine tu 6 ⟨some 44,_,_,_,_,none⟩ (.agg (ccA y am cm)) rfl (yieldsIf_load_mid (by rfl) _ _ rfl b1 (o1+k*12) rfl (ccL y am cm) _ (λ_ h=>h.2.2) underlying54 rfl Bz) hS ?_;refine ru1 7 ⟨some 45,_,_,_,_,none⟩ rfl (λKK hKK=>?_);go_simp;refine(kF y am cm lo _ (HNM.out.below LikC.holds hB nL) hym).mono ?_;rintro e w5⟨gm,qm,rfl,hsm,hgm1,hgm2,hb5⟩;have HSM:=iH hsm;obtain⟨cs,ho0,hna0⟩:=HO.out;rw[HTL.out]at ho0;have hnb:∀r,(Value.slice v3 k q3).ownBlock=some r->HC<=r/\r<wn.heap.size:=λr e=>ho0.lt r e
  have HOR:=iH ho0;clear ho0;have HA5:=iH (HA.out.below hb5);have HO5:Hid (OwnN vCp Cpy.likes LikC 2 12 54 HC w5 (.slice v3 k q3) (x.copies.take k)):=HO.out.below LikC.holds hb5;have hB5:=qTr hB hb5;have hs5:=hb5.size;replace HKW:=iH (HKW.out.trans (Keeps.of_below hb5 nL H));refine hKK.out _ _ (HSB _ HA5 hB5) (λhS=>?_);clear hKK KK hsm hna0 HA HO hB hb5 HOR;refine ru1 8 ⟨some 46,_,_,_,_,none⟩ rfl (λKK hKK=>?_);go_simp;have HNW:=iH (Blk.alloc w5 (ccA y (O gm 0) qm) 54);have hb6:=(Below.refl _ w5).alloc nL (Obj.cells (ccA y (O gm 0) qm) 54);have HA6:=iH (HA5.out.below hb6);have HO6:Hid (OwnN vCp Cpy.likes LikC 2 12 54 HC (w5.alloc (Obj.cells (ccA y (O gm 0) qm) 54)) (.slice v3 k q3) (x.copies.take k)):=HO5.out.below LikC.holds hb6;have hB6:=qTr hB5 hb6;have HSM6:=qSl LikC.holds HSM hb6;have hgm6:gm<(w5.alloc (Obj.cells (ccA y (O gm 0) qm) 54)).heap.size:=lL hgm2 hb6.size;have hs6:wn.heap.size<=(w5.alloc (Obj.cells (ccA y (O gm 0) qm) 54)).heap.size:=lT hs5 hb6.size;replace HKW:=iH (HKW.out.trans (Keeps.of_below hb6 nL H));refine hKK.out _ _ (HSB _ HA6 hB6) (λhS=>?_);clear hKK KK HA5 HO5 hB5 hb6 HSM hgm2 hs5;generalize w5.alloc (Obj.cells (ccA y (O gm 0) qm) 54)=w6 at *;generalize w5.heap.size=gn at *;obtain⟨cs6,ho6,hna6⟩:=HO6.out;have HNA:=iH hna6;have HOR6:=iH ho6;rw[HTL.out]at ho6;have HOR7:=iH ho6;clear ho6 hna6;refine ru1 9 ⟨some 47,_,_,_,_,none⟩ rfl (λKK hKK=>?_);refine step_append_lies _ rfl (.tmp 39) (.tmp 46) 30 rfl HC 54 i2 _ 12 160 underlying30 hk hk0 hk1 hk2 rfl (by decide) _ k _ rfl HOR7 (E gn 0) 1 1 (ccL y (O gm 0) qm) rfl rfl (nB HNW) (by intro u hu;simp at hu;rcases hu with rfl|rfl|rfl|rfl|rfl|rfl|rfl|rfl|rfl|rfl|rfl|rfl<;>rfl) (by omega) (by unfold maxLen;omega) (by omega) (by omega) _ rfl ?_;intro gr qr w7 hown hgrow hto hgl7;have hA7:=HA6.out.grown hgrow (λr e=>by have:=(hnb r e).1;omega);have hB7:bW w w7:=hB6.grown hgrow hB6.size (λr e=>by have:=(hnb r e).1;omega);have HO7:Hid (OwnN vCp Cpy.likes LikC 2 12 54 HC w7 (sP gr 0 (k+1) qr) (x.copies.take (k+1))):=by
   show OwnN _ _ _ _ _ _ _ _ _ _
   rw[HTS.out];refine OwnN.snoc (ae:=(O gm 0)) (ce:=qm) LikC.flat HOR6 HNA Iz (HSM6.out.keep LikC.holds (Keeps.refl _ _) (by omega)) (λb o e _=>⟨λe2=>?_,by cases e;exact hgm6⟩) (by rw[HTL.out];exact hown) hgrow ?_
   .cases e;have:=(hnb _ e2.symm).2;omega
   rcases hto with e|e
   .exact .inl e.symm
   rw[e];exact .inr rfl
  replace HKW:=iH (HKW.out.grownD hgrow (λr e=>by have h8:=(hnb r e).1;have h9:=HHC.out;exact .inl (by omega)));refine hKK.out _ _ (HSB _ hA7 hB7) (λhS=>?_);have HA7:=iH hA7;clear hKK KK hA7 hown hgrow hto HOR6 HOR7 HNA HNW HA6 HO6 hB6 HSM6 hS;simp only[pX];have hS:=HSB.out _ HA7 hB7;refine tv 10 ⟨some 48,_,_,_,_,none⟩ (pP gs 3) rfl (by rfl) ?_ hS ?_
  .intro wy hy
   clear hy;go_simp
  have kz:=HA7.out.2.2.1.cell (o:=3) rfl;have fz:=HA7.out.2.2.1.frozen 3;refine Gd (rs:=[11]) (by kernel_rfl) (by simp) (AllReadyU.last (o:=⟨none,_,_,_,_,none⟩) rfl (λKK hKK=>?_));go_simp;clear kz fz;have HA8:=iH (HA7.out.put3 (sP gr 0 (k+1) qr));have HO8:Hid (OwnN vCp Cpy.likes LikC 2 12 54 HC (w7.setCell (E gs 3) (sP gr 0 (k+1) qr)) (sP gr 0 (k+1) qr) (x.copies.take (k+1))):=HO7.out.kept LikC.flat (Dt _ _ _) (λr e=>by cases e;show gs<HC;omega);have hB8:bW w (w7.setCell (E gs 3) (sP gr 0 (k+1) qr)):=hB7.setCell (p:=(E gs 3)) (by show w.heap.size<=gs;omega) _;have HK8:Hid (Keeps H wB (w7.setCell (E gs 3) (sP gr 0 (k+1) qr))):=HKW.out.grownD (Dt _ _ _) (λr e=>by cases e;exact .inr (show gs<H by omega));refine hKK.out _ _ (Ji (by kernel_rfl) ?_ _);clear hKK KK hS HA7 HO7 hB7;generalize w7.setCell (E gs 3) (sP gr 0 (k+1) qr)=w8 at *
  go_wp2
  go_roundw
  case rel =>
   refine⟨k+1,(O gr 0),qr,by omega,by go_num,HA8,HK8,HO8,hB8⟩
  simp[intOf];omega
 obtain⟨y,hy⟩:=gXe hlt;obtain⟨b1,o1,rfl,_,hb1,hcc⟩:=HN1.out.at hy;obtain⟨am,cm,hry,hnm⟩:=lZ hcc;have HRY:=iH hry;have HNM:=iH hnm;have hym:y.marks.length<=1048576:=HMK.out y (List.mem_of_getElem? hy);have HTS:=iH (Ww hy);have HTL:Hid ((x.berths.take k).length=k):=Zd hk9;have i0k:(0:Int)<=(k:Int):=by omega
 have i1k:(k:Int)<(x.berths.length:Int):=by omega
 clear hcc hry hnm hy;have kb1:wr.cell? (E w.heap.size 1)=some (sP b1 o1 x.berths.length c1):=hA.out.1.cell rfl;go_upto_region 5 with fail;clear kb1;have HSB:Hid (∀wz,FlA x w.heap.size gs g2 q2 H wz (O b1 o1) c1 b2 o2 c2 a3 c3 (.slice v1 k q1) (.slice none 0 0)->bW w wz->(λwy=>Blk w.heap.size (ffA x (O b1 o1) c1 (O b2 o2) c2 a3 c3) 32 wy/\Blk gs (fgA x.pack v1 k q1 (O g2 0) x.services.length q2 none 0 0) 32 wy/\wy.rangeAt b1 (o1+k*6) (bbL y am cm)) wz):=λwz h hb=>⟨h.1,h.2.2.1,AX HRY hb hb1⟩
 refine Fk (S:=λwy=>Blk w.heap.size (ffA x (O b1 o1) c1 (O b2 o2) c2 a3 c3) 32 wy/\Blk gs (fgA x.pack v1 k q1 (O g2 0) x.services.length q2 none 0 0) 32 wy/\wy.rangeAt b1 (o1+k*6) (bbL y am cm)) 11 (by kernel_rfl) (HSB _ (hA.out.below (Below.refl _ _).drew) hbel.drew) (λhS=>?_);have HA:=iH (hA.out.below (Below.refl _ _).drew);have HO:=iH (hO.out.below StrC.holds (Below.refl _ _).drew);have hB:=hbel.drew;have hHr:H<=wr.drew.heap.size:=HA.out.2.2.2.2.2.2.2.2;clear hA hO hbel;generalize wr.drew=wn at *;refine tv 0 ⟨some 20,_,_,_,_,none⟩ (pP gs 1) rfl (by rfl) ?_ hS ?_
 .intro wy hy
  clear hy;go_simp
 refine tv 1 ⟨some 21,_,_,_,_,none⟩ (.slice v1 k q1) rfl (by rfl) ?_ hS ?_
 .intro wy hy
  have h0:=hy.2.1.cell (o:=1) rfl;clear hy;go_simp
 refine tv 2 ⟨some 22,_,_,_,_,none⟩ (pP w.heap.size 1) rfl (by rfl) ?_ hS ?_
 .intro wy hy
  clear hy;go_simp
 refine tv 3 ⟨some 23,_,_,_,_,none⟩ (sP b1 o1 x.berths.length c1) rfl (by rfl) ?_ hS ?_
 .intro wy hy
  have h0:=hy.1.cell (o:=1) rfl;clear hy;go_simp
 refine tv 4 ⟨some 24,_,_,_,_,none⟩ (X k) rfl (by rfl) ?_ hS ?_
 .intro wy hy
  clear hy;go_simp
 refine tv 5 ⟨some 25,_,_,_,_,none⟩ (pP b1 (o1+k*6)) rfl (by rfl) ?_ hS ?_
 .intro wy hy
  clear hy
  first|(go_simp;done)|(go_simp;omega)|(go_simp;intro hh;omega)
 refine tu 6 ⟨some 26,_,_,_,_,none⟩ (.agg (bbA y am cm)) rfl (yieldsIf_load_mid (by rfl) _ _ rfl b1 (o1+k*6) rfl (bbL y am cm) _ (λ_ h=>h.2.2) underlying92 rfl Cg) hS ?_;refine ru1 7 ⟨some 27,_,_,_,_,none⟩ rfl (λKK hKK=>?_);go_simp;refine(fE y am cm lo _ (HNM.out.below StrC.holds hB nL) hym).mono ?_;rintro e w5⟨gm,qm,rfl,hsm,hgm1,hgm2,hb5⟩;have HSM:=iH hsm;obtain⟨cs,ho0,hna0⟩:=HO.out;rw[HTL.out]at ho0;have hnb:∀r,(Value.slice v1 k q1).ownBlock=some r->H<=r/\r<wn.heap.size:=λr e=>ho0.lt r e
 have HOR:=iH ho0;clear ho0;have HA5:=iH (HA.out.below hb5);have HO5:Hid (OwnN vBr Brt.marks StrC 1 6 92 H w5 (.slice v1 k q1) (x.berths.take k)):=HO.out.below StrC.holds hb5;have hB5:=qTr hB hb5;have hs5:=hb5.size;refine hKK.out _ _ (HSB _ HA5 hB5) (λhS=>?_);clear hKK KK hsm hna0 HA HO hB hb5 HOR;refine ru1 8 ⟨some 28,_,_,_,_,none⟩ rfl (λKK hKK=>?_);go_simp;have HNW:=iH (Blk.alloc w5 (bbA y (O gm 0) qm) 92);have hb6:=(Below.refl _ w5).alloc nL (Obj.cells (bbA y (O gm 0) qm) 92);have HA6:=iH (HA5.out.below hb6);have HO6:Hid (OwnN vBr Brt.marks StrC 1 6 92 H (w5.alloc (Obj.cells (bbA y (O gm 0) qm) 92)) (.slice v1 k q1) (x.berths.take k)):=HO5.out.below StrC.holds hb6;have hB6:=qTr hB5 hb6;have HSM6:=qSl StrC.holds HSM hb6;have hgm6:gm<(w5.alloc (Obj.cells (bbA y (O gm 0) qm) 92)).heap.size:=lL hgm2 hb6.size;have hs6:wn.heap.size<=(w5.alloc (Obj.cells (bbA y (O gm 0) qm) 92)).heap.size:=lT hs5 hb6.size;refine hKK.out _ _ (HSB _ HA6 hB6) (λhS=>?_);clear hKK KK HA5 HO5 hB5 hb6 HSM hgm2 hs5;generalize w5.alloc (Obj.cells (bbA y (O gm 0) qm) 92)=w6 at *;generalize w5.heap.size=gn at *;obtain⟨cs6,ho6,hna6⟩:=HO6.out;have HNA:=iH hna6;have HOR6:=iH ho6;rw[HTL.out]at ho6;have HOR7:=iH ho6;clear ho6 hna6;refine ru1 9 ⟨some 29,_,_,_,_,none⟩ rfl (λKK hKK=>?_);refine step_append_lies _ rfl (.tmp 21) (.tmp 28) 28 rfl H 92 i1 _ 6 80 underlying28 hj hj0 hj1 hj2 rfl (by decide) _ k _ rfl HOR7 (E gn 0) 1 1 (bbL y (O gm 0) qm) rfl rfl (nB HNW) (by intro u hu;simp at hu;rcases hu with rfl|rfl|rfl|rfl|rfl|rfl<;>rfl) (by omega) (by unfold maxLen;omega) (by omega) (by omega) _ rfl ?_;intro gr qr w7 hown hgrow hto hgl7;have hA7:=HA6.out.grown hgrow (λr e=>by have:=(hnb r e).1;omega);have hB7:bW w w7:=hB6.grown hgrow hB6.size (λr e=>by have:=(hnb r e).1;omega);have HO7:Hid (OwnN vBr Brt.marks StrC 1 6 92 H w7 (sP gr 0 (k+1) qr) (x.berths.take (k+1))):=by
  show OwnN _ _ _ _ _ _ _ _ _ _
  rw[HTS.out];refine OwnN.snoc (ae:=(O gm 0)) (ce:=qm) StrC.flat HOR6 HNA Pe (HSM6.out.keep StrC.holds (Keeps.refl _ _) (by omega)) (λb o e _=>⟨λe2=>?_,by cases e;exact hgm6⟩) (by rw[HTL.out];exact hown) hgrow ?_
  .cases e;have:=(hnb _ e2.symm).2;omega
  rcases hto with e|e
  .exact .inl e.symm
  rw[e];exact .inr rfl
 refine hKK.out _ _ (HSB _ hA7 hB7) (λhS=>?_);have HA7:=iH hA7;clear hKK KK hA7 hown hgrow hto HOR6 HOR7 HNA HNW HA6 HO6 hB6 HSM6 hS;simp only[pX];have hS:=HSB.out _ HA7 hB7;refine tv 10 ⟨some 30,_,_,_,_,none⟩ (pP gs 1) rfl (by rfl) ?_ hS ?_
 .intro wy hy
  clear hy;go_simp
 have kz:=HA7.out.2.2.1.cell (o:=1) rfl;have fz:=HA7.out.2.2.1.frozen 1;refine Gd (rs:=[11]) (by kernel_rfl) (by simp) (AllReadyU.last (o:=⟨none,_,_,_,_,none⟩) rfl (λKK hKK=>?_));go_simp;clear kz fz;have HA8:=iH (HA7.out.put1 (sP gr 0 (k+1) qr));have HO8:Hid (OwnN vBr Brt.marks StrC 1 6 92 H (w7.setCell (E gs 1) (sP gr 0 (k+1) qr)) (sP gr 0 (k+1) qr) (x.berths.take (k+1))):=HO7.out.kept StrC.flat (Dt _ _ _) (λr e=>by cases e;show gs<H;omega);have hB8:bW w (w7.setCell (E gs 1) (sP gr 0 (k+1) qr)):=hB7.setCell (p:=(E gs 1)) (by show w.heap.size<=gs;omega) _;refine hKK.out _ _ (Ji (by kernel_rfl) ?_ _);clear hKK KK hS HA7 HO7 hB7;generalize w7.setCell (E gs 1) (sP gr 0 (k+1) qr)=w8 at *
 go_wp2
 go_roundw
 case rel =>
  refine⟨k+1,(O gr 0),qr,by omega,by go_num,HA8,HO8,hB8⟩
 simp[intOf];omega
end Go.Proofs.YthboopnmbglkjaaGreat
