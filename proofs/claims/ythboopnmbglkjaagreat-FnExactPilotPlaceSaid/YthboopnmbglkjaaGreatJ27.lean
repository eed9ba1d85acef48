import Derived.Test.YthboopnmbglkjaaGreatJ26
import Derived.Shelf.Abstract
set_option maxHeartbeats 8000000
namespace Go.Proofs.YthboopnmbglkjaaGreat
open Tryz
set_option maxRecDepth 100000
open Go.RowKit Tryz
def RefM(mz:Nat)(Wb W:World):Prop:=But mz Wb.heap.size Wb W
theorem RefM.size{mz:Nat}{Wb W:World}(h:RefM mz Wb W):Wb.heap.size<=W.heap.size:=But.size h
theorem RefM.trans{mz:Nat}{Wb W W':World}(h:RefM mz Wb W)(k:Below Wb.heap.size W W'):RefM mz Wb W':=But.trans h (But.of_below k)
theorem RefM.cell{mz:Nat}{Wb W:World}(h:RefM mz Wb W){p:Addr}(hp:p.block<Wb.heap.size)(hz:p.block≠mz):W.cell? p=Wb.cell? p:=But.cell h hp hz
theorem RefM.setCell{mz:Nat}{Wb W:World}(h:RefM mz Wb W){p:Addr}(hp:Wb.heap.size<=p.block)(v:Value):RefM mz Wb (W.setCell p v):=h.trans ((Below.refl _ _).setCell (p:=p) hp v)
theorem RefM.drew{mz:Nat}{Wb W:World}(h:RefM mz Wb W):RefM mz Wb W.drew:=But.drew h
def QK(mz:Nat)(x:Flt)(a3:OA)(c3:Nat)(Wb:World)(Bc:Nat)(W:World):Prop:=RefM mz Wb W/\Blk Bc #[.slice a3 x.copies.length c3] 30 W
structure HpW (mz:Nat) (x:Flt) (a3:OA) (c3:Nat) (Wb:World) (Bc hb:Nat) (lv:Value) (l:List Nat) (W:World):Prop where
 bel:RefM mz Wb W
 box:Blk Bc #[.slice a3 x.copies.length c3] 30 W
 blk:Blk hb #[lv,.func (.func 106) #[] #[pP Bc 0]] 157 W
 row:W.ownsRow Wb.heap.size 3 1 lv l.length (plV l)
 n1:∀g,lv.ownBlock=some g->g≠hb/\g≠Bc
 n3:hb≠Bc
 b1:Wb.heap.size<=hb
 b2:Wb.heap.size<=Bc
theorem HpW.qk{mz:Nat}{x:Flt}{a3:OA}{c3:Nat}{Wb:World}{Bc hb:Nat}{lv:Value}{l:List Nat}{W:World}(h:HpW mz x a3 c3 Wb Bc hb lv l W):QK mz x a3 c3 Wb Bc W:=⟨h.bel,h.box⟩
theorem HpW.below{mz:Nat}{x:Flt}{a3:OA}{c3:Nat}{Wb:World}{Bc hb:Nat}{lv:Value}{l:List Nat}{W W':World}(h:HpW mz x a3 c3 Wb Bc hb lv l W)(hB:bW W W'):HpW mz x a3 c3 Wb Bc hb lv l W' :=
 ⟨h.bel.trans (hB.mono h.bel.size),h.box.below hB h.box.lt,h.blk.below hB h.blk.lt,Ak h.row hB,h.n1,h.n3,h.b1,h.b2⟩
theorem HpW.drew{mz:Nat}{x:Flt}{a3:OA}{c3:Nat}{Wb:World}{Bc hb:Nat}{lv:Value}{l:List Nat}{W:World}(h:HpW mz x a3 c3 Wb Bc hb lv l W):HpW mz x a3 c3 Wb Bc hb lv l W.drew:=h.below (Below.refl _ _).drew
theorem HpW.at_{mz:Nat}{x:Flt}{a3:OA}{c3:Nat}{Wb:World}{Bc hb:Nat}{lv:Value}{l:List Nat}{W:World}(h:HpW mz x a3 c3 Wb Bc hb lv l W)(hl:0<l.length):∃g cap cur,lv=sP g 0 l.length cap/\Wb.heap.size<=g/\W.heap[g]?=some (.cells cur 3 (0,0))/\l.length<=cap/\cap<=maxLen/\cur.size=cap*1/\cur.toList.take (l.length*1)=plV l:=by
 rcases h.row.2 with⟨_,h2⟩|⟨g,cap,cur,h1,h2,h3,h4,h5,h6,h7⟩
 .omega
 exact⟨g,cap,cur,h1,h2,h3,h4,h5,h6,h7⟩
theorem Dk{base g q n:Nat}{w:World}{l:List Nat}(hn:n=l.length)(h:w.ownsRow base 3 1 (sP g 0 n q) n (plV l)){j:Nat}(hj:j<l.length):w.cell? (E g j)=some (X ((hAt l j:Nat):Int)):=by
 subst hn;have:=h.cellAt j (by simp;omega);simpa[Ql hj]using this
theorem Xf{base g q n:Nat}{w:World}{l:List Nat}(hn:n=l.length)(h:w.ownsRow base 3 1 (sP g 0 n q) l.length (plV l))(p:Nat):w.frozen? (E g p)=false:=by
 subst hn;exact h.frozenAt p
theorem tK{base g q n:Nat}{w:World}{l:List Nat}(hn:n=l.length)(h:w.ownsRow base 3 1 (sP g 0 n q) n (plV l)){j:Nat}(_hj:j<l.length)(v:Nat):(w.setCell (E g j) (X ((v:Nat):Int))).ownsRow base 3 1 (sP g 0 n q) n (plV (l.set j v)):=by
 subst hn;rcases h.2 with⟨h1,_⟩|⟨g',cap,cur,h1,h2,h3,h4,h5,h6,h7⟩
 .cases h1
 cases h1
 refine⟨by simp,.inr ⟨g,q,cur.setIfInBounds j (X ((v:Nat):Int)),rfl,h2,?_,h4,h5,by simpa using h6,?_⟩⟩
 .have hb:Blk g cur 3 w:=h3
  exact hb.set j _
 rw[Nat.mul_one]at h7⊢;rw[Array.toList_setIfInBounds,List.take_set,h7];simp[plV,List.map_set]
theorem HpW.set{mz:Nat}{x:Flt}{a3:OA}{c3:Nat}{Wb:World}{Bc hb g cap n:Nat}{l:List Nat}{W:World}(hn:n=l.length)(h:HpW mz x a3 c3 Wb Bc hb (sP g 0 n cap) l W){j:Nat}(hj:j<l.length)(v:Nat):HpW mz x a3 c3 Wb Bc hb (sP g 0 n cap) (l.set j v) (W.setCell (E g j) (X ((v:Nat):Int))):=by
 subst hn;obtain⟨n1,n2⟩:=h.n1 g rfl;have hg:=(h.row.lt g rfl).1;refine⟨h.bel.setCell (p:=(E g j)) hg _,h.box.other (Ne.symm n2) _,h.blk.other (Ne.symm n1) _,?_,h.n1,h.n3,h.b1,h.b2⟩;have:=tK rfl h.row hj v;simpa using this
def pH(mz:Nat)(x:Flt)(a3:OA)(c3:Nat)(Wb:World)(Bc:Nat)(S:List Nat)(cf:Nat->Nat->Int):Prop:=∀W,QK mz x a3 c3 Wb Bc W->∀a∈S,∀b∈S,Calls prog 106 #[X ((a:Nat):Int),X ((b:Nat):Int),pP Bc 0] W λe W'=>e=.returned (X (cf a b))/\bW W W'
def BQ(mz:Nat)(x:Flt)(a3:OA)(c3:Nat)(Wb:World)(Bc hb:Nat)(g n cap:Nat)(l:List Nat)(i j:Nat)(c:Int)(w:World)(e:Ending)(w':World):Prop:=∃t:Bool,e=.returned (.bool t)/\(t=true↔c<0)/\HpW mz x a3 c3 Wb Bc hb (sP g 0 n cap) (if t=true then hSw l i j else l) w'/\w.grownBy w' (some g)
theorem eD(mz:Nat)(x:Flt)(a3:OA)(c3:Nat)(Wb:World)(Bc hb:Nat)(S:List Nat)(cf:Nat->Nat->Int)(g n cap:Nat)(l:List Nat)(i j:Nat)(w:World)(hc:pH mz x a3 c3 Wb Bc S cf)(h:HpW mz x a3 c3 Wb Bc hb (sP g 0 n cap) l w)(hn:n=l.length)(hS:∀a∈l,a∈S)(hi:i<n)(hj:j<n)(_hs:n<=1048576) :
  Calls prog 139 #[pP hb 0,X ((i:Nat):Int),X ((j:Nat):Int)] w λe w'=>BQ mz x a3 c3 Wb Bc hb g n cap l i j (cf (hAt l i) (hAt l j)) w e w':=by
 have HC:=iH hc;have HH:=iH h;have HSS:=iH hS;have HNL:=iH hn;clear hc h hS hn;go_enter func139,ntmps139;go_upto_region 1 with fail;refine wp_region_held_drew (S:=λwy=>HpW mz x a3 c3 Wb Bc hb (sP g 0 n cap) l wy) (by kernel_rfl) HH.out.drew (λhS=>?_);have hg2:bW w w.drew:=(Below.refl _ _).drew;clear HH;obtain⟨w2,HW2⟩:∃w2,Hid (w2=w.drew):=⟨_,rfl⟩;rw[<-HW2.out]at hS hg2⊢;clear HW2;refine tz 0 7 (pP hb 0) ?_;refine tz 1 8 (pP hb 0) ?_;refine tz 2 9 (pP hb 1) ?_;refine tl 3 10 (.func (.func 106) #[] #[pP Bc 0]) (E hb 1) rfl (λwy hy=>hy.blk.cell rfl) hS ?_;refine tz 4 11 (pP hb 0) ?_;refine tz 5 12 (pP hb 0) ?_;refine tz 6 13 (pP hb 0) ?_;refine tl 7 14 (sP g 0 n cap) (E hb 0) rfl (λwy hy=>hy.blk.cell rfl) hS ?_;refine tz 8 15 (X ((i:Nat):Int)) ?_;refine x3 9 16 (pP g i) ?_;refine tl 10 17 (X ((hAt l i:Nat):Int)) (E g i) rfl (λwy hy=>Dk HNL (by have:=hy.row;rw[<-HNL.out]at this;exact this) (by have:=HNL.out;omega)) hS ?_;refine tz 11 18 (pP hb 0) ?_;refine tz 12 19 (pP hb 0) ?_;refine tz 13 20 (pP hb 0) ?_;refine tl 14 21 (sP g 0 n cap) (E hb 0) rfl (λwy hy=>hy.blk.cell rfl) hS ?_;refine tz 15 22 (X ((j:Nat):Int)) ?_;refine x3 16 23 (pP g j) ?_;refine tl 17 24 (X ((hAt l j:Nat):Int)) (E g j) rfl (λwy hy=>Dk HNL (by have:=hy.row;rw[<-HNL.out]at this;exact this) (by have:=HNL.out;omega)) hS ?_;refine rd1 18 ⟨some 25,_,_,_,_,none⟩ rfl (λK hK=>?_);have heg:∀args w,(callFunc 106 args).run prog w=.ok (.enter 106 args) w:=enters_of func106 (by kernel_rfl) rfl;go_simp;refine(HC _ hS.qk (hAt l i) (HSS _ (Nc (by have:=HNL.out;omega))) (hAt l j) (HSS _ (Nc (by have:=HNL.out;omega)))).mono ?_;rintro e w3⟨rfl,hb3⟩;clear heg;have hB3:=qTr hg2 hb3;clear hg2;refine hK.out _ _ (hS.below hb3) (λhS=>?_);clear hK K hb3;generalize hcv:cf (hAt l i) (hAt l j)=cv at *;have HCV:=iH hcv;clear hcv;have HH:=iH hS;by_cases hlt:cv<0
 case neg =>
  have hge:0<=cv:=by omega
  refine tz 19 26 (.bool true) ?_;refine td ?_;clear hS
  go_wp2
  go_ret;refine⟨false,rfl,⟨λh=>(by cases h),λh=>absurd h (by first|omega|(rw[HCV.out];omega))⟩,?_,⟨hB3.os,hB3.tape,hB3.output,hB3.size,λk hk _=>hB3.block k hk⟩⟩;rw[if_neg (by decide)];exact HH.out
 refine tz 19 26 (.bool false) ?_;refine td ?_;clear hS;have ks:w3.cell? (E hb 0)=some (sP g 0 n cap):=HH.out.blk.cell rfl;go_upto_region 3 with fail;clear ks;refine wp_region_held_drew (S:=λwy=>Blk hb #[sP g 0 n cap,.func (.func 106) #[] #[pP Bc 0]] 157 wy) (by kernel_rfl) HH.out.blk.drew (λhS=>?_);replace HH:=iH HH.out.drew;replace hB3:=hB3.drew;generalize w3.drew=wn at *;refine tz 0 27 (pP hb 0) ?_;refine tz 1 28 (pP hb 0) ?_;refine tz 2 29 (pP hb 0) ?_;refine tl 3 30 (sP g 0 n cap) (E hb 0) rfl (λwy hy=>hy.cell rfl) hS ?_;refine tz 4 31 (X ((i:Nat):Int)) ?_;refine tz 5 32 (pP hb 0) ?_;refine tz 6 33 (pP hb 0) ?_;refine tz 7 34 (pP hb 0) ?_;refine tl 8 35 (sP g 0 n cap) (E hb 0) rfl (λwy hy=>hy.cell rfl) hS ?_;refine tz 9 36 (X ((j:Nat):Int)) ?_;refine tz 10 37 (pP hb 0) ?_;refine tz 11 38 (pP hb 0) ?_;refine tz 12 39 (pP hb 0) ?_;refine tl 13 40 (sP g 0 n cap) (E hb 0) rfl (λwy hy=>hy.cell rfl) hS ?_;refine tz 14 41 (X ((j:Nat):Int)) ?_;refine x3 15 42 (pP g j) ?_;refine tz 17 44 (pP hb 0) ?_;refine tz 18 45 (pP hb 0) ?_;refine tz 19 46 (pP hb 0) ?_;refine tl 20 47 (sP g 0 n cap) (E hb 0) rfl (λwy hy=>hy.cell rfl) hS ?_;refine tz 21 48 (X ((i:Nat):Int)) ?_;refine x3 22 49 (pP g i) ?_;refine wpAnyH_ready (rs:=[16,23]) (by kernel_rfl) (by simp) (AllReadyH.cons (o:=⟨some 43,_,_,_,_,none⟩) rfl (λKK hKK=>?_) (AllReadyH.cons (o:=⟨some 50,_,_,_,_,none⟩) rfl (λKK hKK=>?_) AllReadyH.nil))
 case' _ =>
  skip;have k9:wn.cell? (E g j)=some (X ((hAt l j:Nat):Int)):=Dk HNL (by have:=HH.out.row;rw[<-HNL.out]at this;exact this) (by have:=HNL.out;omega);go_simp;refine hKK.out _ _ hS (λhS=>?_);clear hKK KK k9;refine rd1 23 ⟨some 50,_,_,_,_,none⟩ rfl (λKK hKK=>?_);have k9:wn.cell? (E g i)=some (X ((hAt l i:Nat):Int)):=Dk HNL (by have:=HH.out.row;rw[<-HNL.out]at this;exact this) (by have:=HNL.out;omega)
 rotate_left
 case' _ =>
  skip;have k9:wn.cell? (E g i)=some (X ((hAt l i:Nat):Int)):=Dk HNL (by have:=HH.out.row;rw[<-HNL.out]at this;exact this) (by have:=HNL.out;omega);go_simp;refine hKK.out _ _ hS (λhS=>?_);clear hKK KK k9;refine rd1 16 ⟨some 43,_,_,_,_,none⟩ rfl (λKK hKK=>?_);have k9:wn.cell? (E g j)=some (X ((hAt l j:Nat):Int)):=Dk HNL (by have:=HH.out.row;rw[<-HNL.out]at this;exact this) (by have:=HNL.out;omega)
 rotate_left
 all_goals
  go_simp;refine hKK.out _ _ hS (λhS=>?_);clear hKK KK k9;refine x3 24 51 (pP g i) ?_;refine rd1 25 ⟨none,_,_,_,_,none⟩ rfl (λKK hKK=>?_);have k9:wn.cell? (E g i)=some (X ((hAt l i:Nat):Int)):=Dk HNL (by have:=HH.out.row;rw[<-HNL.out]at this;exact this) (by have:=HNL.out;omega);have f9:wn.frozen? (E g i)=false:=Xf HNL HH.out.row i;have HH1:=iH (HH.out.set HNL (j:=i) (by have:=HNL.out;omega) (hAt l j));have hg1:wn.grownBy (wn.setCell (E g i) (X ((hAt l j:Nat):Int))) (some g):=⟨rfl,rfl,rfl,by simp,λk _ hne=>Below.heap_setCell _ _ _ _ (λe=>hne (by rw[e]))⟩;go_simp;refine hKK.out _ _ HH1.out.blk (λhS=>?_);clear hKK KK k9 f9 HH;generalize wn.setCell (E g i) (X ((hAt l j:Nat):Int))=wm at *;refine x3 26 52 (pP g j) ?_;refine rd1 27 ⟨none,_,_,_,_,none⟩ rfl (λKK hKK=>?_);have HNM:Hid (n=(l.set i (hAt l j)).length):=by show _=_;rw[List.length_set];exact HNL.out
  have k9:wm.cell? (E g j)=some (X ((hAt (l.set i (hAt l j)) j:Nat):Int)):=Dk HNM (by have:=HH1.out.row;rw[<-HNM.out]at this;exact this) (by have:=HNM.out;omega);have f9:wm.frozen? (E g j)=false:=Xf HNM HH1.out.row j;have HH2:=iH (HH1.out.set HNM (j:=j) (by have:=HNM.out;omega) (hAt l i));have hg2:wm.grownBy (wm.setCell (E g j) (X ((hAt l i:Nat):Int))) (some g):=⟨rfl,rfl,rfl,by simp,λk _ hne=>Below.heap_setCell _ _ _ _ (λe=>hne (by rw[e]))⟩;go_simp;refine hKK.out _ _ HH2.out.blk (λhS=>?_);clear hKK KK k9 f9 HH1;generalize wm.setCell (E g j) (X ((hAt l i:Nat):Int))=wf at *;refine td ?_;clear hS
  go_wp2
  go_ret;refine⟨true,rfl,⟨λ_=>by first|omega|(rw[HCV.out];omega),λ_=>rfl⟩,?_,?_⟩
  .rw[if_pos rfl]
   exact HH2.out
  .have h3:w.grownBy wn (some g):=⟨hB3.os,hB3.tape,hB3.output,hB3.size,λk hk _=>hB3.block k hk⟩
   exact(h3.trans hg1).trans hg2
def ltF(cf:Nat->Nat->Int)(a b:Nat):Bool:=decide (cf a b<0)
def BD(cf:Nat->Nat->Int)(l:List Nat)(p:Nat)(w:World)(e:Ending)(w':World):Prop:=∃k:Nat,e=.returned (X ((k:Nat):Int))/\(k=2*p+1\/(k=2*p+2/\2*p+2<l.length))/\(∀i,0<i->i<l.length->(i-1)/2=p->ltF cf (hAt l i) (hAt l k)=false)/\bW w w'
theorem mB{cf:Nat->Nat->Int}(o:LtO (ltF cf)){l:List Nat}{p:Nat}(h:2*p+2<l.length->¬cf (hAt l (2*p+2)) (hAt l (2*p+1))<0):∀i,0<i->i<l.length->(i-1)/2=p->ltF cf (hAt l i) (hAt l (2*p+1))=false:=by
 intro i h0 hi hp;have e:i=2*p+1\/i=2*p+2:=by omega
 rcases e with rfl|rfl
 .exact o.irr _
 exact decide_eq_false (h hi)
theorem xW{cf:Nat->Nat->Int}(o:LtO (ltF cf)){l:List Nat}{p:Nat}(h:cf (hAt l (2*p+2)) (hAt l (2*p+1))<0):∀i,0<i->i<l.length->(i-1)/2=p->ltF cf (hAt l i) (hAt l (2*p+2))=false:=by
 intro i h0 hi hp;have e:i=2*p+1\/i=2*p+2:=by omega
 rcases e with rfl|rfl
 .exact o.asym (decide_eq_true h)
 exact o.irr _
theorem xO(mz:Nat)(x:Flt)(a3:OA)(c3:Nat)(Wb:World)(Bc hb:Nat)(S:List Nat)(cf:Nat->Nat->Int)(og:LtO (ltF cf))(g n cap:Nat)(l:List Nat)(p:Nat)(w:World)(hc:pH mz x a3 c3 Wb Bc S cf)(h:HpW mz x a3 c3 Wb Bc hb (sP g 0 n cap) l w)(hn:n=l.length)(hS:∀a∈l,a∈S)(hp:p<=n)(hs:n<=1048576) :
  Calls prog 140 #[pP hb 0,X ((p:Nat):Int)] w λe w'=>BD cf l p w e w':=by
 have HC:=iH hc;have HH:=iH h;have HSS:=iH hS;have HNL:=iH hn;have HOG:=iH og;clear hc h hS hn og;have hw1:IntKind.i64.wrap (2*(p:Int))=2*(p:Int):=by rw[IntKind.wrap_i64];omega
 have hw2:IntKind.i64.wrap (2*(p:Int)+1)=2*(p:Int)+1:=by rw[IntKind.wrap_i64];omega
 have hw3:IntKind.i64.wrap (2*(p:Int)+2)=2*(p:Int)+2:=by rw[IntKind.wrap_i64];omega
 go_enter func140,ntmps140;go_upto_region 2 with fail;clear hw1 hw2 hw3;obtain⟨k1,hk1⟩:∃k1:Nat,k1=2*p+1:=⟨_,rfl⟩;obtain⟨k2,hk2⟩:∃k2:Nat,k2=2*p+2:=⟨_,rfl⟩;rw[show(2*(p:Int)+1)=((k1:Nat):Int) by rw[hk1];push_cast;rfl,show(2*(p:Int)+2)=((k2:Nat):Int) by rw[hk2];push_cast;rfl];have HK1:=iH hk1;have HK2:=iH hk2;clear hk1 hk2;refine wp_region_held_drew (S:=λwy=>HpW mz x a3 c3 Wb Bc hb (sP g 0 n cap) l wy) (by kernel_rfl) HH.out.drew (λhS=>?_);have hg2:bW w w.drew:=(Below.refl _ _).drew;clear HH;obtain⟨w2,HW2⟩:∃w2,Hid (w2=w.drew):=⟨_,rfl⟩;rw[<-HW2.out]at hS hg2⊢;clear HW2;refine tz 0 13 (X ((k2:Nat):Int)) ?_;refine tz 1 14 (pP hb 0) ?_;refine tz 2 15 (pP hb 0) ?_;refine tz 3 16 (pP hb 0) ?_;refine tl 4 17 (sP g 0 n cap) (E hb 0) rfl (λwy hy=>hy.blk.cell rfl) hS ?_;refine tz 5 18 (X ((n:Nat):Int)) ?_;by_cases hlt:k2<n
 case neg =>
  have HKO:Hid (∀i,0<i->i<l.length->(i-1)/2=p->ltF cf (hAt l i) (hAt l k1)=false):=by
   rw[HK1.out];exact mB HOG (λh=>by have h9:=HNL.out;have h8:=HK2.out;omega)
  have hnl:(n:Int)<=(k2:Int):=by omega
  refine tz 6 19 (.bool false) ?_;refine tz 7 20 (.bool false) ?_;refine ts 8 21 ?_;refine ts 9 22 ?_;refine ts 10 23 ?_;refine ts 11 24 ?_;refine ts 12 25 ?_;refine ts 13 26 ?_;refine ts 14 27 ?_;refine ts 15 28 ?_;refine ts 16 29 ?_;refine ts 17 30 ?_;refine ts 18 31 ?_;refine ts 19 32 ?_;refine ts 20 33 ?_;refine ts 21 34 ?_;refine ts 22 35 ?_;refine ts 23 36 ?_;refine ts 24 37 ?_;refine ts 25 38 ?_;refine ts 26 39 ?_;refine ts 27 40 ?_;refine tz 28 41 (.bool false) ?_;refine td ?_;clear hS
  go_wp2
  go_ret;exact⟨k1,rfl,.inl HK1,HKO,hg2⟩
 have hik:(k2:Int)<(n:Int):=by omega
 have hkk:k1<n:=by have h9:=HK1.out;have h8:=HK2.out;omega
 refine tz 6 19 (.bool true) ?_;refine tz 7 20 (.bool true) ?_;refine tz 8 21 (pP hb 0) ?_;refine tz 9 22 (pP hb 0) ?_;refine tz 10 23 (pP hb 1) ?_;refine tl 11 24 (.func (.func 106) #[] #[pP Bc 0]) (E hb 1) rfl (λwy hy=>hy.blk.cell rfl) hS ?_;refine tz 12 25 (pP hb 0) ?_;refine tz 13 26 (pP hb 0) ?_;refine tz 14 27 (pP hb 0) ?_;refine tl 15 28 (sP g 0 n cap) (E hb 0) rfl (λwy hy=>hy.blk.cell rfl) hS ?_;refine tz 16 29 (X ((k2:Nat):Int)) ?_;refine x3 17 30 (pP g k2) ?_;refine tl 18 31 (X ((hAt l k2:Nat):Int)) (E g k2) rfl (λwy hy=>Dk HNL (by have:=hy.row;rw[<-HNL.out]at this;exact this) (by have:=HNL.out;omega)) hS ?_;refine tz 19 32 (pP hb 0) ?_;refine tz 20 33 (pP hb 0) ?_;refine tz 21 34 (pP hb 0) ?_;refine tl 22 35 (sP g 0 n cap) (E hb 0) rfl (λwy hy=>hy.blk.cell rfl) hS ?_;refine tz 23 36 (X ((k1:Nat):Int)) ?_;refine x3 24 37 (pP g k1) ?_;refine tl 25 38 (X ((hAt l k1:Nat):Int)) (E g k1) rfl (λwy hy=>Dk HNL (by have:=hy.row;rw[<-HNL.out]at this;exact this) (by have:=HNL.out;omega)) hS ?_;refine rd1 26 ⟨some 39,_,_,_,_,some (7,true)⟩ rfl (λK hK=>?_);have heg:∀args w,(callFunc 106 args).run prog w=.ok (.enter 106 args) w:=enters_of func106 (by kernel_rfl) rfl;go_simp;refine(HC _ hS.qk (hAt l k2) (HSS _ (Nc (by have:=HNL.out;omega))) (hAt l k1) (HSS _ (Nc (by have:=HNL.out;omega)))).mono ?_;rintro e w3⟨rfl,hb3⟩;clear heg;have hB3:=qTr hg2 hb3;clear hg2;refine hK.out _ _ (hS.below hb3) (λhS=>?_);clear hK K hb3;generalize hcv:cf (hAt l k2) (hAt l k1)=cv at *;have HCV:=iH hcv;clear hcv;by_cases hcl:cv<0
 .have HKO:Hid (∀i,0<i->i<l.length->(i-1)/2=p->ltF cf (hAt l i) (hAt l k2)=false):=by
   rw[HK2.out];exact xW HOG (by rw[<-HK2.out,<-HK1.out,HCV.out];exact hcl)
  refine tz 27 40 (.bool true) ?_;refine tz 28 41 (.bool true) ?_;refine td ?_;clear hS
  go_wp2
  go_ret;exact⟨k2,rfl,.inr ⟨HK2,by have h9:=HNL.out;have h8:=HK2.out;omega⟩,HKO,hB3⟩
 have HKO:Hid (∀i,0<i->i<l.length->(i-1)/2=p->ltF cf (hAt l i) (hAt l k1)=false):=by
  rw[HK1.out];exact mB HOG (λ_=>by rw[<-HK2.out,<-HK1.out,HCV.out];exact hcl)
 have hcl':0<=cv:=by omega
 refine tz 27 40 (.bool false) ?_;refine tz 28 41 (.bool false) ?_;refine td ?_;clear hS
 go_wp2
 go_ret;exact⟨k1,rfl,.inl HK1,HKO,hB3⟩
def BF(mz:Nat)(x:Flt)(a3:OA)(c3:Nat)(Wb:World)(Bc hb:Nat)(cf:Nat->Nat->Int)(l:List Nat)(a:Nat)(e:Ending)(w':World):Prop:=∃(lv:Value)(l':List Nat),e=.returned (.tuple #[])/\HpW mz x a3 c3 Wb Bc hb lv l' w'/\Heap (ltF cf) l'/\l'.Perm (l++[a])
theorem tE{p:Nat}(h:0<p):((p:Int)-1).tdiv 2=(((p-1)/2:Nat):Int):=by
 rw[Int.tdiv_eq_ediv_of_nonneg (by omega)];omega
theorem vY(mz:Nat)(x:Flt)(a3:OA)(c3:Nat)(Wb:World)(Bc hb:Nat)(S:List Nat)(cf:Nat->Nat->Int)(og:LtO (ltF cf))(lv:Value)(l:List Nat)(a:Nat)(w:World)(hc:pH mz x a3 c3 Wb Bc S cf)(h:HpW mz x a3 c3 Wb Bc hb lv l w)(hS:∀b∈l++[a],b∈S)(hh:Heap (ltF cf) l)(hs:l.length<=1000000) :
  Calls prog 108 #[pP hb 0,X ((a:Nat):Int)] w λe w'=>BF mz x a3 c3 Wb Bc hb cf l a e w':=by
 obtain⟨i0,hi,hz0,hz1,hz2⟩:=info_parts eK;have HI0:=iH hi;have HC:=iH hc;have HH:=iH h;have HSS:=iH hS;have HOG:=iH og;have HHP:=iH hh;have k0:w.cell? (E hb 0)=some lv:=h.blk.cell rfl;have hbl:hb<w.heap.size:=h.blk.lt;have hcl:Bc<w.heap.size:=h.box.lt;have hwl:Wb.heap.size<=w.heap.size:=h.bel.size;clear hc h hS hh hi og;go_enter func108,ntmps108;go_upto_region 1 with(at_builtin;refine wpList_append_lies _ rfl (.tmp 9) (.tmp 11) 155 rfl Wb.heap.size 3 i0 _ 1 8 underlying155 HI0 hz0 hz1 hz2 rfl (by decide) lv l.length _ rfl (Ak HH.out.row ((Below.refl _ _).alloc nL _)) (E w.heap.size 0) 1 1 [X ((a:Nat):Int)] rfl rfl (CV (by simp)) (by intro u hu;rw[List.mem_singleton.1 hu];rfl) (by omega) (by unfold maxLen;omega) (by omega) (by simp;omega) _ rfl ?_;intro g cap w2 hown hgrow hto hgl;have hbk:Blk hb #[lv,.func (.func 106) #[] #[pP Bc 0]] 157 w2:=(HH.out.blk.below ((Below.refl _ w).alloc nL (Obj.cells #[X ((a:Nat):Int)] 3)) hbl).grown hgrow (λe=>(HH.out.n1 hb e.symm).1 rfl);have q9:w2.cell? (E hb 0)=some lv:=hbk.cell rfl;have f9:w2.frozen? (E hb 0)=false:=hbk.frozen 0);have hg9:g≠hb/\g≠Bc:=by
  rcases hto with h9|h9
  .exact HH.out.n1 g h9
  rw[h9];constructor<;>(simp;omega)
 have hbx:Blk Bc #[.slice a3 x.copies.length c3] 30 w2:=(HH.out.box.below ((Below.refl _ w).alloc nL (Obj.cells #[X ((a:Nat):Int)] 3)) hcl).grown hgrow (λe=>(HH.out.n1 Bc e.symm).2 rfl);have HW3:Hid (HpW mz x a3 c3 Wb Bc hb (sP g 0 (l.length+1) cap) (l++[a]) (w2.setCell (E hb 0) (sP g 0 (l.length+1) cap))):=by
  refine⟨(HH.out.bel.trans (((Below.refl _ w).alloc hwl _).grown hgrow (by simp;omega) (λk e=>(HH.out.row.lt k e).1))).setCell (p:=(E hb 0)) HH.out.b1 _,hbx.other (Ne.symm HH.out.n3) _,hbk.set 0 _,?_,?_,HH.out.n3,HH.out.b1,HH.out.b2⟩
  .have h9:=hown.kept (w':=w2.setCell (E hb 0) (sP g 0 (l.length+1) cap)) (row:=some hb) ⟨rfl,rfl,rfl,by simp,λk _ hne=>Below.heap_setCell _ _ _ _ (λe=>hne (by rw[e]))⟩ (Or.inr (λe=>hg9.1 (Option.some.inj e)))
   rw[List.length_append];show World.ownsRow _ _ _ _ _ (l.length+1) _
   rw[show plV (l++[a])=plV l++[X ((a:Nat):Int)]from List.map_append];exact h9
  intro g' e;cases e
  exact hg9
 have HUP:Hid (HUp (ltF cf) (l++[a]) l.length):=HUp.of_snoc HHP a;obtain⟨m,hm⟩:∃m,m=l.length:=⟨_,rfl⟩;rw[<-hm]at HW3 HUP⊢;have HM:=iH hm;have hmm:m<=1000000:=by omega
 clear hm hown hgrow hto hgl hbk q9 f9 hbx hg9 HH HHP k0 hbl hcl hwl hs;generalize w2.setCell (E hb 0) (sP g 0 (m+1) cap)=w3 at *;have k0:w3.cell? (E hb 0)=some (sP g 0 (m+1) cap):=HW3.out.blk.cell rfl;go_upto_region 2 with fail;clear k0;go_loopw [4] (λi wr=>∃(p:Nat)(L:List Nat),i=X ((p:Nat):Int)/\p<m+1/\Hid (m+1=L.length)/\Hid (HUp (ltF cf) L p)/\Hid (L.Perm (l++[a]))/\Hid (HpW mz x a3 c3 Wb Bc hb (sP g 0 (m+1) cap) L wr)) (λi _=>(intOf i).toNat)
 case atStart=>exact⟨m,l++[a],rfl,Nat.lt_succ_self _,by show _=_;rw[List.length_append,HM.out];rfl,HUP,List.Perm.refl _,HW3⟩
 clear HUP HW3;obtain⟨p,L,rfl,hp,HLL,HU,HP,HW⟩:=hrel;by_cases hp0:0<p
 case neg =>
  have HE:Hid (p=0):=by show _=_;omega
  have HHE:Hid (Heap (ltF cf) L):=by
   have h9:=HU.out;rw[HE.out]at h9;exact h9.stop0
  have hpi:(p:Int)<=0:=by omega
  clear hp0;go_wp2_with fail
  go_end0
  exact⟨_,L,rfl,HW,HHE,HP⟩
 obtain⟨r,hr⟩:∃r,r=(p-1)/2:=⟨_,rfl⟩;have hq1:IntKind.i64.wrap ((p:Int)-1)=(p:Int)-1:=by rw[IntKind.wrap_i64];omega
 have hq2:((p:Int)-1).tdiv 2=((r:Nat):Int):=by rw[hr];exact tE hp0
 have hq3:IntKind.i64.wrap ((r:Nat):Int)=((r:Nat):Int):=by rw[IntKind.wrap_i64];omega
 have hrp:r<p:=by omega
 have HR:=iH hr;clear hr;go_wp2_with fail;refine(eD mz x a3 c3 Wb Bc hb S cf g (m+1) cap L p r _ HC HW HLL (λb hb9=>HSS.out b (HP.out.subset hb9)) hp (by omega) (by omega)).mono ?_;rintro e w5⟨t,rfl,ht,hH5,_⟩
 cases t with
 | false =>
  have HHE:Hid (Heap (ltF cf) L):=by
   have h9:=HU.out;refine h9.stop ?_;rw[<-HR.out];refine decide_eq_false (λh8=>?_);have:=ht.2 h8;cases this
  have HW5:=iH hH5;clear ht hH5;go_wp2_with fail
  go_end0
  exact⟨_,L,rfl,HW5,HHE,HP⟩
 | true =>
  have hll:=HLL.out;have HU2:Hid (HUp (ltF cf) (hSw L p r) r):=by
   have h9:=HUp.step HOG HU (by omega) hp0 (by rw[<-HR.out];exact decide_eq_true (ht.1 rfl));rw[<-HR.out]at h9;exact h9
  have HP2:Hid ((hSw L p r).Perm (l++[a])):=(iE (by omega) (by omega)).trans HP;have HL2:Hid (m+1=(hSw L p r).length):=by show _=_;rw[Nm];exact hll
  have HW5:=iH hH5;clear ht hH5 hll
  go_wp2
  go_roundw
  case rel=>exact⟨r,hSw L p r,rfl,by omega,HL2,HU2,HP2,HW5⟩
  simp[intOf];omega
end Go.Proofs.YthboopnmbglkjaaGreat
