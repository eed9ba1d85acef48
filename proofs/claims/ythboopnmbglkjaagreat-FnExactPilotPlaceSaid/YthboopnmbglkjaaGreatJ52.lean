import Derived.Test.YthboopnmbglkjaaGreatJ50
import Derived.Test.YthboopnmbglkjaaGreatMrs
import Derived.ProofKit
import Derived.OpenShut
import Derived.Deep.Slices
set_option maxHeartbeats 4000000
set_option maxRecDepth 100000
namespace Go.Proofs.YthboopnmbglkjaaGreat
open Go.RowKit Tryz
theorem mU{x:Flt}(hv:Bb x=true):∀k,(stP x k).2.length+wcF (stP x k).1<=wcF x
 |0=>by show 0+wcF x<=_;omega
 | k+1=>by
  have h1:=mU hv k;have h2:=(Nh hv k).1
  cases hs:Jk (stP x k).1 with
  |none =>
   have e:stP x (k+1)=stP x k:=Tk hs 1;rw[e];exact h1
  |some p =>
   obtain⟨x',s⟩:=p;have h3:=Rg h2 hs;rw[Kh hs];simp only[List.length_append,List.length_cons,List.length_nil];omega
theorem vA:∀l:List (BA×BA),(∀s∈l,s.1.size<=20/\s.2.size<=20)->((sL l).map Xw).sum<=l.length*40
 |[],_=>Nat.le_refl _
 |a::r,h=>by
  have h1:=vA r λs hs=>h s (List.mem_cons_of_mem _ hs)
  have h2:=h a List.mem_cons_self;have h3:Xw ⟨a.1,a.2,[]⟩=a.1.size+a.2.size+0:=rfl;show(((⟨a.1,a.2,[]⟩:Stp)::sL r).map Xw).sum<=_
  rw[List.map_cons,List.sum_cons,h3,List.length_cons];omega
theorem Vh(l:List (BA×BA)):(sL l).length=l.length:=List.length_map _
theorem Zw(x:Flt):Ei (plA x).1<=1048576/\wS Xw (sL (plA x).2)<=1048576/\(plA x).2.length<=60/\∀s∈(plA x).2,s.1.size<=20/\s.2.size<=20:=by
 unfold plA;by_cases hv:Bb x=true
 .rw[if_pos hv]
  obtain⟨h1,h2⟩:=Nh hv 61;have h3:=mU hv 61;have h4:=Hg x x.copies.length;have h5:=(Bh hv).2.1;have h6:=vA _ h2;unfold wcF at h3;have h7:(plR x).2.length<=60:=by show(stP x 61).2.length<=60;omega
  refine⟨gU h1,?_,h7,h2⟩;unfold wS;rw[Vh];have h8:((sL (plR x).2).map Xw).sum<=(plR x).2.length*40:=h6;omega
 rw[if_neg hv];exact⟨by show Ei noF<=_;exact lT (Nat.le_of_eq (show Ei noF=0 from rfl)) (zL),zL,zL,λs hs=>by cases hs⟩
def P4(lo:Nat)(w:World)(d1 d2 d3 sa:OA)(y:Flt)(l:List Stp):Prop:=sB lo w d1 y.berths/\sV lo w d2 y.services/\sC lo w d3 y.copies/\SliceC StpC 3 lo w sa l
theorem P4.keep{lo lo':Nat}{w w':World}{d1 d2 d3 sa:OA}{y:Flt}{l:List Stp}(h:P4 lo w d1 d2 d3 sa y l)(k:Keeps lo w w')(hl:lo'<=lo):P4 lo' w' d1 d2 d3 sa y l:=⟨h.1.keep BrtC.holds k hl,h.2.1.keep SvcC.holds k hl,h.2.2.1.keep CpyC.holds k hl,h.2.2.2.keep StpC.holds k hl⟩
theorem P4.below{lo B:Nat}{w w':World}{d1 d2 d3 sa:OA}{y:Flt}{l:List Stp}(h:P4 lo w d1 d2 d3 sa y l)(k:Below B w w')(hB:w.heap.size<=B):P4 lo w' d1 d2 d3 sa y l:=⟨h.1.below BrtC.holds k hB,h.2.1.below SvcC.holds k hB,h.2.2.1.below CpyC.holds k hB,h.2.2.2.below StpC.holds k hB⟩
theorem P4.zero{lo:Nat}{w:World}{d1 d2 d3 sa:OA}{y:Flt}{l:List Stp}(h:P4 lo w d1 d2 d3 sa y l):P4 0 w d1 d2 d3 sa y l:=h.keep (Keeps.refl _ _) (zL)
def PsR(y:Flt)(l:List Stp)(w:World)(e:Ending)(w':World):Prop :=
 ∃(d1:OA)(q1:Nat)(d2:OA)(q2:Nat)(d3:OA)(q3:Nat)(sa:OA)(sc:Nat),e=.returned (.tuple #[.agg (ffA y d1 q1 d2 q2 d3 q3),.slice sa l.length sc])/\P4 0 w' d1 d2 d3 sa y l/\bW w w'
theorem AV{x:Flt}(hm:Ei x<=1048576){g1 g2 g3 lo:Nat}{w:World}(n1:sB lo w (O g1 0) x.berths)(n2:sV lo w (O g2 0) x.services)(n3:sC lo w (O g3 0) x.copies) :
  Calls prog 5 #[.agg (ffA x (O g1 0) x.berths.length (O g2 0) x.services.length (O g3 0) x.copies.length)] w λe w'=>PsR (plA x).1 (sL (plA x).2) w e w':=by
 obtain⟨s1,s2,s3,l2,l1,l3⟩:=rX hm;refine(Ya x (O g1 0) x.berths.length g2 0 x.services.length (O g3 0) x.copies.length lo w n1 n2 n3 l1 l2 l3 (λy hy=>(s1 y hy).1) (λy hy=>(s3 y hy).1)).mono ?_;rintro e w' ⟨d1,q1,d2,q2,d3,q3,sa,sc,rfl,h,hb⟩;exact⟨d1,q1,d2,q2,d3,q3,sa,sc,by rw[Vh],P4.zero h,hb⟩
def PiR(y:Flt)(l:List Stp)(w:World)(e:Ending)(w':World):Prop :=
 ∃(d1:OA)(q1:Nat)(d2:OA)(q2:Nat)(d3:OA)(q3:Nat)(sa:OA)(sc B T len:Nat),e=.returned (.tuple #[.agg (ffA y d1 q1 d2 q2 d3 q3),.slice sa l.length sc])/\(w.heap.size<=B/\B<=T/\T<=w'.heap.size/\len<=12*Ei y)/\LA 10 12 (.agg (ffA y d1 q1 d2 q2 d3 q3)) w' B T len/\LA 11 13 (.slice sa l.length sc) w' T w'.heap.size (l.length*2)/\P4 w.heap.size w' d1 d2 d3 sa y l/\bW w w'
theorem AS{x:Flt}(hm:Ei x<=1048576){g1 g2 g3 lo:Nat}{w:World}(n1:sB lo w (O g1 0) x.berths)(n2:sV lo w (O g2 0) x.services)(n3:sC lo w (O g3 0) x.copies) :
  Calls prog 7 #[.agg (ffA x (O g1 0) x.berths.length (O g2 0) x.services.length (O g3 0) x.copies.length)] w λe w'=>PiR (plA x).1 (sL (plA x).2) w e w':=by
 obtain⟨s1,s2,s3,l2,l1,l3⟩:=rX hm;refine(Xq x (O g1 0) x.berths.length (O g2 0) x.services.length (O g3 0) x.copies.length lo w n1 n2 n3 l1 l2 l3 ⟨s1,s2,s3⟩).mono ?_;rintro e w' ⟨u,sa,sc,T,rfl,h,hT0,hT,hr,hb⟩;obtain⟨m1,m2,m3,m4⟩:=Zw x;generalize plA x=p at *;obtain⟨y,ls⟩:=p;simp only at h hr m1 m2 m3 m4⊢;obtain⟨s1,s2,s3,l2,l1,l3⟩:=rX m1;obtain⟨v,B,len,hv,hB1,hB2,hlen,hla⟩:=h.la l1 l3;rw[Ez hT]at hB2 hla;obtain⟨b1,q1,b2,q2,b3,q3,B1,B2,B3,he,h0,h1,h2,h3,h4,hTT,hob,hos,hot,hoc,_⟩:=h;cases hv
 cases he
 have hc:=Uc hT;have hst:=Zy hr m4 m3 (lE hT0);have hsl:=LA.steps hr;rw[<-Vh]at hsl;refine⟨b1,q1,b2,q2,b3,q3,sa,sc,B,T,len,by rw[Vh],⟨hB1,hB2,hT,hlen⟩,hla.at (KpI.below hc),hsl,⟨?_,?_,?_,hst⟩,hb⟩
 .exact((OwnN.berths hob.own (λy hy=>⟨lT (s1 y hy).2.2.1 (by unfold maxLen;omega),lT (s1 y hy).2.2.2 (by unfold maxLen;omega)⟩) (lT l1 (by unfold maxLen;omega))).keep BrtC.holds (Keeps.refl _ _) h1).below BrtC.holds hc nL
 .exact((fT hos l2 (λy hy=>lT (s2 y hy) (by unfold maxLen;omega))).keep SvcC.holds (Keeps.refl _ _) (by omega)).below SvcC.holds hc nL
 exact((OwnN.copies hoc.own (λy hy=>⟨lT (s3 y hy).2.2.1 (by unfold maxLen;omega),lT (s3 y hy).2.2.2.1 (by unfold maxLen;omega),lT (s3 y hy).2.2.2.2.1 (by unfold maxLen;omega),lT (s3 y hy).2.2.2.2.2.1 (by unfold maxLen;omega),lT (s3 y hy).2.2.2.2.2.2.1 (by unfold maxLen;omega),lT (s3 y hy).2.2.2.2.2.2.2 (by unfold maxLen;omega)⟩) (lT l3 (by unfold maxLen;omega))).keep CpyC.holds (Keeps.refl _ _) (by omega)).below CpyC.holds hc nL
def SpW(x y:Flt)(l:List Stp):Prop:=∀(g1 g2 g3 lo:Nat)(w:World),sB lo w (O g1 0) x.berths->sV lo w (O g2 0) x.services->sC lo w (O g3 0) x.copies->Calls prog 5 #[.agg (ffA x (O g1 0) x.berths.length (O g2 0) x.services.length (O g3 0) x.copies.length)] w λe w'=>PsR y l w e w'
def ImW(x y:Flt)(l:List Stp):Prop:=∀(g1 g2 g3 lo:Nat)(w:World),sB lo w (O g1 0) x.berths->sV lo w (O g2 0) x.services->sC lo w (O g3 0) x.copies->Calls prog 7 #[.agg (ffA x (O g1 0) x.berths.length (O g2 0) x.services.length (O g3 0) x.copies.length)] w λe w'=>PiR y l w e w'
theorem vR{x:Flt}(hm:Ei x<=1048576):∃(y:Flt)(l:List Stp),SpW x y l/\ImW x y l/\Ei y<=1048576/\wS Xw l<=1048576/\l.length<=60:=by
 obtain⟨m1,m2,m3,_⟩:=Zw x;exact⟨_,_,λ_ _ _ _ _=>AV hm,λ_ _ _ _ _=>AS hm,m1,m2,by rw[Vh];exact m3⟩
theorem FltIn.keeps{b l:Nat}{x:Flt}{a1:OA}{c1:Nat}{a2:OA}{c2:Nat}{a3:OA}{c3:Nat}{w w':World}(h:FltIn b x a1 c1 a2 c2 a3 c3 w)(k:Keeps l w w')(hl:l<=b):FltIn b x a1 c1 a2 c2 a3 c3 w':=by
 obtain⟨h0,h1,h2,h3⟩:=h;have f:=λo=>(k.2 b o hl (block_lt_of_cell h0)).1
 exact⟨(f _).trans h0,(f _).trans h1,(f _).trans h2,(f _).trans h3⟩
theorem FltIn.outB{b lo hi:Nat}{x:Flt}{a1:OA}{c1:Nat}{a2:OA}{c2:Nat}{a3:OA}{c3:Nat}{w w':World}(h:FltIn b x a1 c1 a2 c2 a3 c3 w)(k:Out lo hi w w')(hl:hi<=b):FltIn b x a1 c1 a2 c2 a3 c3 w':=by
 obtain⟨h0,h1,h2,h3⟩:=h;have f:=λo=>World.cell?_of_block (a:=(E b o)) (k.block b (block_lt_of_cell h0) (.inr hl))
 exact⟨(f _).trans h0,(f _).trans h1,(f _).trans h2,(f _).trans h3⟩
theorem Mkd.keepsP{lo:Nat}{wx ws w:World}(m:Mkd lo wx ws w){l:Nat}(h:wx.heap.size<=l):Keeps l ws w:=⟨m.bel.size,λb o h1 h2=>m.up b o (lT h h1) h2⟩
theorem CR{x:Flt}(h:Ei x<=1048576):12*(Ei x:Int)<=12582912:=by omega
theorem yG(x:Flt)(a1:Option Addr)(c1:Nat)(a2:Option Addr)(c2:Nat)(a3:Option Addr)(c3:Nat)(lo:Nat)(w:World)(n1:sB lo w a1 x.berths)(n2:sV lo w a2 x.services)(n3:sC lo w a3 x.copies) :
  Calls prog 3 #[.agg (ffA x a1 c1 a2 c2 a3 c3)] w λe w'=>e=.returned (.bool true)/\bW w w':=by
 have N1:Hid (sB lo w a1 x.berths):=n1;have N2:Hid (sV lo w a2 x.services):=n2;have N3:Hid (sC lo w a3 x.copies):=n3;clear n1 n2 n3;go_enter func3,ntmps3;go_wp2_with fail;refine(oC x a1 c1 a2 c2 a3 c3 lo 1048576 _ (N1.out.below BrtC.holds (B:=w.heap.size) (by go_grown) nL) (N2.out.below SvcC.holds (B:=w.heap.size) (by go_grown) nL) (N3.out.below CpyC.holds (B:=w.heap.size) (by go_grown) nL) (by omega) (by omega)).mono ?_;rintro e w1⟨rfl,hb1⟩;have HF1:Hid (FltIn w.heap.size x a1 c1 a2 c2 a3 c3 w1):=FltIn.below (b:=w.heap.size) ⟨by simp,by simp,by simp,by simp⟩ hb1 (by simp);have HB1:Hid (bW w w1):=(show bW w _ by go_grown).trans (hb1.mono (by simp));clear hb1;by_cases hz':¬((Ei x:Nat):Int)<=1048576
 .have hz:=hz'
  rw[Gz hz]
  go_wp2
  go_ret;exact⟨rfl,HB1⟩
 have hz:=Classical.not_not.1 hz';clear hz';rw[Ha hz];have hwx:Ei x<=1048576:=by omega
 have HM:Hid (Ei x<=1048576):=hwx;have hz0:(0:Int)<=1048576-(Ei x:Nat):=by omega
 obtain⟨y,ls,hsp,him,hm1,hm2,hm3⟩:=vR hwx;have HSP:=iH hsp;have HIM:=iH him;have HY:=iH hm1;have HL:=iH (And.intro hm2 hm3);have HTF:=iH (λwb (h:bW w wb)=>oM x a1 c1 a2 c2 a3 c3 lo wb (N1.out.below BrtC.holds (B:=w.heap.size) h nL) (N2.out.below SvcC.holds (B:=w.heap.size) h nL) (N3.out.below CpyC.holds (B:=w.heap.size) h nL) hwx);clear hwx hz hsp him hm1 hm2 hm3 N1 N2 N3;generalize hR:(1048576:Int)-(Ei x:Nat)=R at *;clear hR;obtain⟨f0,f1,f2,f3⟩:=HF1.out;go_wp2_with fail;refine(HTF _ HB1).mono ?_;rintro e w2⟨g1,g2,g3,rfl,q1,q2,q3,hb2⟩;replace HF1:=iH (HF1.out.below hb2 (block_lt_of_cell f0));replace HB1:=qTH HB1 hb2;clear hb2 f0 f1 f2 f3 hz0;go_wp2_with fail;refine(HSP _ _ _ _ _ q1 q2 q3).mono ?_;clear q1 q2 q3 HSP;rintro e w3⟨d1,t1,d2,t2,d3,t3,sa,sc,rfl,hp,hb3⟩;replace HF1:=iH (HF1.out.below hb3 (block_lt_of_cell HF1.out.1));replace HB1:=qTH HB1 hb3;clear hb3;go_upto_region 6 with fail;have hA:bW w3 (w3.alloc (Obj.cells (ffA y d1 t1 d2 t2 d3 t3) 32)):=(Below.refl _ _).alloc nL _;have hW:=Blk.alloc w3 (ffA y d1 t1 d2 t2 d3 t3) 32;generalize w3.alloc (Obj.cells (ffA y d1 t1 d2 t2 d3 t3) 32)=w4 at *;have HW:Hid (FltIn w3.heap.size y d1 t1 d2 t2 d3 t3 w4):=⟨hW.cell rfl,hW.cell rfl,hW.cell rfl,hW.cell rfl⟩;have HP:Hid (P4 0 w4 d1 d2 d3 sa y ls):=hp.below hA nL;have HF:Hid (FltIn w.heap.size x a1 c1 a2 c2 a3 c3 w4):=HF1.out.below hA (block_lt_of_cell HF1.out.1);have HB:Hid (bW w w4):=qTr HB1 hA;have hz4:w.heap.size<w4.heap.size:=block_lt_of_cell HF.out.1;have hz34:w3.heap.size<w4.heap.size:=hW.lt;clear hA hW hp HF1 HB1;obtain⟨f0,f1,f2,f3⟩:=HF.out;go_wp2_with fail;refine(HTF _ HB).mono ?_;rintro e w5⟨g1,g2,g3,rfl,q1,q2,q3,hb5⟩;have Q:=iH (And.intro q1 (And.intro q2 q3));have H4:=iH hb5;clear hb5 f0 f1 f2 f3 q1 q2 q3;go_upto_region 7 with fail;have hA:bW w5 (w5.alloc (Obj.cells (ffA x (O g1 0) x.berths.length (O g2 0) x.services.length (O g3 0) x.copies.length) 32)):=(Below.refl _ _).alloc nL _;have hW:=Blk.alloc w5 (ffA x (O g1 0) x.berths.length (O g2 0) x.services.length (O g3 0) x.copies.length) 32;generalize w5.alloc (Obj.cells (ffA x (O g1 0) x.berths.length (O g2 0) x.services.length (O g3 0) x.copies.length) 32)=w6 at *;have HX6:Hid (FltIn w5.heap.size x (O g1 0) x.berths.length (O g2 0) x.services.length (O g3 0) x.copies.length w6):=⟨hW.cell rfl,hW.cell rfl,hW.cell rfl,hW.cell rfl⟩;have h45:w4.heap.size<=w5.heap.size:=H4.out.size;have h56:w5.heap.size<w6.heap.size:=hW.lt;replace H4:=iH (H4.out.trans (hA.mono h45));have H5:=iH hA;clear hA hW;obtain⟨x0,x1,x2,x3⟩:=HX6.out;go_wp2_with fail;refine(HIM _ _ _ _ _ (Q.out.1.below BrtC.holds H5 nL) (Q.out.2.1.below SvcC.holds H5 nL) (Q.out.2.2.below CpyC.holds H5 nL)).mono ?_;rintro e w7⟨r1,p1,r2,p2,r3,p3,sg,sk,B,T,len,rfl,⟨hB1,hB2,hB3,hB4⟩,hla,hls,hpg,hb⟩;replace H4:=qTH H4 hb;replace H5:=qTH H5 hb
 have HX7:=iH (HX6.out.below hb h56);have h67:w6.heap.size<=w7.heap.size:=hb.size;clear hb x0 x1 x2 x3 HX6;have HLN:Hid (len<=12582912):=by show _<=_;have:=HY.out;omega
 clear hB4;have HLA:=iH hla;have HLS:=iH hls;have HPG:=iH hpg;clear hla hls hpg;go_upto_region 8 with fail;have hA:bW w7 (w7.alloc (Obj.cells (ffA y r1 p1 r2 p2 r3 p3) 32)):=(Below.refl _ _).alloc nL _;have hW:=Blk.alloc w7 (ffA y r1 p1 r2 p2 r3 p3) 32;generalize w7.alloc (Obj.cells (ffA y r1 p1 r2 p2 r3 p3) 32)=w8 at *;have HG:Hid (FltIn w7.heap.size y r1 p1 r2 p2 r3 p3 w8):=⟨hW.cell rfl,hW.cell rfl,hW.cell rfl,hW.cell rfl⟩;have HX:Hid (FltIn w5.heap.size x (O g1 0) x.berths.length (O g2 0) x.services.length (O g3 0) x.copies.length w8):=HX7.out.below hA (by omega);replace HPG:=iH (HPG.out.below hA nL);replace HLA:=iH (HLA.out.at (KpI.below hA));replace HLS:=iH (HLS.out.at (KpI.below hA));have h78:w7.heap.size<w8.heap.size:=hW.lt;replace H4:=qTH H4 hA;replace H5:=qTH H5 hA;have HS:Hid (bW w8 w8):=Below.refl _ _;clear hA hW HX7;obtain⟨f0,f1,f2,f3⟩:=HG.out.below HS h78;obtain⟨y0,y1,y2,y3⟩:=HW.out.below H4 hz34;go_wp2_with fail;refine(Nj y r1 p1 r2 p2 r3 p3 d1 t1 d2 t2 d3 t3 _ 0 _ (HPG.out.below HS nL).1 (HPG.out.below HS nL).2.1 (HPG.out.below HS nL).2.2.1 (HP.out.below H4 nL).1 (HP.out.below H4 nL).2.1 (HP.out.below H4 nL).2.2.1 HY).mono ?_;rintro e w9⟨rfl,hb⟩;replace H4:=qTH H4 hb;replace H5:=qTH H5 hb;replace HS:=qTH HS hb;clear hb f0 f1 f2 f3 y0 y1 y2 y3;go_wp2_with fail;refine(Og ls sg sa sk sc _ 0 _ (HPG.out.below HS nL).2.2.2 (HP.out.below H4 nL).2.2.2 HL.out.1).mono ?_;rintro e wA⟨rfl,hb⟩;replace H4:=qTH H4 hb;replace H5:=qTH H5 hb;replace HS:=qTH HS hb;clear hb;go_wp2_with fail;have hs1:=HF.out.below H4 hz4;have hs2:=HX.out.below HS (show w5.heap.size<w8.heap.size by omega);refine wp_region_held_drew (S:=λwy=>FltIn w.heap.size x a1 c1 a2 c2 a3 c3 wy/\FltIn w5.heap.size x (O g1 0) x.berths.length (O g2 0) x.services.length (O g3 0) x.copies.length wy) (by kernel_rfl) ⟨hs1,hs2⟩ (λhS=>?_);clear hs1 hs2;refine ty 0 ⟨some 42,_,_,_,_,none⟩ (.agg (ffA x (O g1 0) x.berths.length (O g2 0) x.services.length (O g3 0) x.copies.length)) ?_ ?_
 .intro wy hy
  obtain⟨⟨y0,y1,y2,y3⟩,v0,v1,v2,v3⟩:=hy;go_simp
 refine ty 1 ⟨some 43,_,_,_,_,none⟩ (.agg (ffA x a1 c1 a2 c2 a3 c3)) ?_ ?_
 .intro wy hy
  obtain⟨⟨y0,y1,y2,y3⟩,v0,v1,v2,v3⟩:=hy;go_simp
 refine rd1 2 ⟨some 44,_,_,_,_,none⟩ rfl (λK hK=>?_);go_simp;have hd:bW wA wA.drew:=(Below.refl _ wA).drew;refine(HTF _ (HB.out.trans ((qTr H4 hd).mono HB.out.size))).mono ?_;rintro e wB⟨h1,h2,h3,rfl,q1,q2,q3,hb7⟩;have hb:=hd.trans hb7;have P:=iH (And.intro q1 (And.intro q2 q3));replace H4:=qTH H4 hb;replace H5:=qTH H5 hb;replace HS:=qTH HS hb;refine hK.out _ _ ⟨HF.out.below H4 hz4,HX.out.below HS (by omega)⟩ (λhS=>?_);clear q1 q2 q3 hb hb7 hd hK K;refine rd1 3 ⟨some 45,_,_,_,_,none⟩ rfl (λK hK=>?_);go_simp;refine(Nj x (O g1 0) x.berths.length (O g2 0) x.services.length (O g3 0) x.copies.length (O h1 0) x.berths.length (O h2 0) x.services.length (O h3 0) x.copies.length _ _ _ (Q.out.1.below BrtC.holds H5 nL) (Q.out.2.1.below SvcC.holds H5 nL) (Q.out.2.2.below CpyC.holds H5 nL) P.out.1 P.out.2.1 P.out.2.2 HM).mono ?_;rintro e wC⟨rfl,hb⟩;replace H4:=qTH H4 hb;replace H5:=qTH H5 hb;replace HS:=qTH HS hb;refine hK.out _ _ ⟨HF.out.below H4 hz4,HX.out.below HS (by omega)⟩ (λhS=>?_);clear hK K hb P;refine tz 4 46 (.bool false) ?_;refine td ?_;clear hS;obtain⟨x0,x1,x2,x3⟩:=HX.out.below HS (show w5.heap.size<w8.heap.size by omega);go_wp2_with fail;refine(gQ x (O g1 0) x.berths.length (O g2 0) x.services.length (O g3 0) x.copies.length w4.heap.size 1 w5 wC _ Q.out.1 Q.out.2.1 Q.out.2.2 (by omega) (Mkd.start H5 h45) (by omega) (by have:=HM.out;omega)).mono ?_;rintro e wD⟨z,rfl,hz1,_,hmk⟩;replace H4:=iH (H4.out.trans (hmk.bel));have hk:=hmk.keepsP nL;replace HG:=iH ((HG.out.below HS h78).keeps hk (by omega));replace HPG:=iH ((HPG.out.below HS nL).keep (hmk.keepsP (by omega)) nL);replace HLA:=iH ((HLA.out.at (KpI.below HS)).at (KpI.keeps hk (by omega)));replace HLS:=iH ((HLS.out.at (KpI.below HS)).at (KpI.keeps hk (by omega)));have h8D:w8.heap.size<=wD.heap.size:=lT HS.out.size hmk.bel.size;have hzn:¬z<0:=by omega
 clear hmk hk HS H5 Q HX x0 x1 x2 x3;have HS:Hid (bW wD wD):=Below.refl _ _;obtain⟨f0,f1,f2,f3⟩:=HG.out.below HS (by omega);obtain⟨y0,y1,y2,y3⟩:=HW.out.below H4 hz34;go_wp2_with fail;refine(Nj y r1 p1 r2 p2 r3 p3 d1 t1 d2 t2 d3 t3 _ 0 _ (HPG.out.below HS nL).1 (HPG.out.below HS nL).2.1 (HPG.out.below HS nL).2.2.1 (HP.out.below H4 nL).1 (HP.out.below H4 nL).2.1 (HP.out.below H4 nL).2.2.1 HY).mono ?_;rintro e wE⟨rfl,hb⟩;replace H4:=qTH H4 hb;replace HS:=qTH HS hb;clear hb f0 f1 f2 f3 y0 y1 y2 y3;go_wp2_with fail;refine(Og ls sg sa sk sc _ 0 _ (HPG.out.below HS nL).2.2.2 (HP.out.below H4 nL).2.2.2 HL.out.1).mono ?_;rintro e wF⟨rfl,hb⟩;replace H4:=qTH H4 hb;replace HS:=qTH HS hb;clear hb;clear hz1;replace HG:=iH (HG.out.below HS (show w7.heap.size<wD.heap.size by omega));have h8F:w8.heap.size<=wF.heap.size:=lT h8D HS.out.size;obtain⟨f0,f1,f2,f3⟩:=HG.out;go_wp2_with fail;refine(HLA wF 1 (KpI.below HS) (by omega) (by have:=HLN.out;omega)).mono ?_;rintro e wG⟨rfl,ho,hh⟩;obtain⟨T1,hT1⟩:∃T:Nat,T=1+len:=⟨_,rfl⟩;rw[<-hT1]at hh⊢;have hTb:0<T1/\T1<=12582913:=by have:=HLN.out;omega
 have HH:=iH hh;replace H4:=iH (H4.out.trans (ho.bel (by omega) |>.mono (by omega)));replace HG:=iH (HG.out.outB ho (by omega));replace HLS:=iH ((HLS.out.at (KpI.below HS)).at (ho.kpi (.inl nL)));have h8G:w8.heap.size<=wG.heap.size:=lT h8F ho.size;clear ho hh hT1 f0 f1 f2 f3 HS HLA HPG hzn;go_wp2_with fail;refine(HLS wG T1 (KpI.refl _ _ _) (by omega) (by have:=HL.out.2;omega)).mono ?_;rintro e wH⟨rfl,ho,hh⟩;obtain⟨T2,hT2⟩:∃T:Nat,T=T1+ls.length*2:=⟨_,rfl⟩;rw[<-hT2]at hh⊢;have HI:=iH hh;replace H4:=iH (H4.out.trans (ho.bel (by omega) |>.mono (by omega)));replace HG:=iH (HG.out.outB ho nL);have HK:Hid (KpI B T wG wH):=ho.kpi (.inr nL);have h8H:w8.heap.size<=wH.heap.size:=lT h8G ho.size;clear ho hh hT2 HLS;have HS:Hid (bW wH wH):=Below.refl _ _;obtain⟨f0,f1,f2,f3⟩:=HG.out.below HS (show w7.heap.size<wH.heap.size by omega);go_wp2_with fail;refine(HH _ (HK.out.trans (KpI.below HS))).mono ?_;rintro e wI⟨rfl,hb⟩;replace H4:=qTH H4 hb;replace HS:=qTH HS hb;clear hb f0 f1 f2 f3;go_wp2_with fail;refine(HI _ (KpI.below HS)).mono ?_;rintro e wJ⟨rfl,hb⟩;replace H4:=qTH H4 hb;replace HS:=qTH HS hb;clear hb;obtain⟨f0,f1,f2,f3⟩:=HF.out.below H4 hz4;go_wp2_with fail;refine(HTF _ (HB.out.trans (H4.out.mono HB.out.size))).mono ?_;rintro e wK⟨g4,g5,g6,rfl,q1,q2,q3,hb⟩;replace H4:=qTH H4 hb;replace HS:=qTH HS hb;clear hb f0 f1 f2 f3;go_wp2_with fail;refine(HIM _ _ _ _ _ q1 q2 q3).mono ?_;rintro e wL⟨v1,k1,v2,k2,v3,k3,sv,sq,B',T',len',rfl,_,_,_,hpv,hb⟩;replace H4:=qTH H4 hb;replace HS:=qTH HS hb;clear hb q1 q2 q3;have HPV:=iH hpv;clear hpv;go_upto_region 29 with fail;have hb:bW wL (wL.alloc (Obj.cells (ffA y v1 k1 v2 k2 v3 k3) 32)):=(Below.refl _ _).alloc nL _;have hW:=Blk.alloc wL (ffA y v1 k1 v2 k2 v3 k3) 32;generalize wL.alloc (Obj.cells (ffA y v1 k1 v2 k2 v3 k3) 32)=wM at *;have HV:Hid (FltIn wL.heap.size y v1 k1 v2 k2 v3 k3 wM):=⟨hW.cell rfl,hW.cell rfl,hW.cell rfl,hW.cell rfl⟩;replace HPV:=iH (HPV.out.below hb nL);clear hW;replace H4:=qTH H4 hb;replace HS:=qTH HS hb;clear hb;have H9:Hid (bW wM wM):=Below.refl _ _;have hLM:wL.heap.size<wM.heap.size:=block_lt_of_cell HV.out.1;obtain⟨f0,f1,f2,f3⟩:=HV.out.below H9 hLM;obtain⟨y0,y1,y2,y3⟩:=HW.out.below H4 hz34;go_wp2_with fail;refine(Nj y v1 k1 v2 k2 v3 k3 d1 t1 d2 t2 d3 t3 _ 0 _ (HPV.out.below H9 nL).1 (HPV.out.below H9 nL).2.1 (HPV.out.below H9 nL).2.2.1 (HP.out.below H4 nL).1 (HP.out.below H4 nL).2.1 (HP.out.below H4 nL).2.2.1 HY).mono ?_;rintro e wN⟨rfl,hb⟩;replace H4:=qTH H4 hb;replace HS:=qTH HS hb;replace H9:=qTH H9 hb;clear hb f0 f1 f2 f3 y0 y1 y2 y3;go_wp2_with fail;refine(Og ls sv sa sq sc _ 0 _ (HPV.out.below H9 nL).2.2.2 (HP.out.below H4 nL).2.2.2 HL.out.1).mono ?_;rintro e wO⟨rfl,hb⟩;replace H4:=qTH H4 hb;replace HS:=qTH HS hb;replace H9:=qTH H9 hb;clear hb;clear H9 HPV HV hLM;obtain⟨f0,f1,f2,f3⟩:=HG.out.below HS (show w7.heap.size<wH.heap.size by omega)
 go_wp2_with fail;refine(HH _ (HK.out.trans (KpI.below HS))).mono ?_;rintro e wP⟨rfl,hb⟩;replace H4:=qTH H4 hb;replace HS:=qTH HS hb;clear hb f0 f1 f2 f3;go_wp2_with fail;refine(HI _ (KpI.below HS)).mono ?_;rintro e wQ⟨rfl,hb⟩;replace H4:=qTH H4 hb;replace HS:=qTH HS hb;clear hb
 go_wp2
 go_ret;exact⟨rfl,HB.out.trans (H4.out.mono HB.out.size)⟩
theorem mO{α:Type}{p:Nat->α->Prop}:∀(len:Nat),(∀i,i<len->∃x,p i x)->∃l:List α,l.length=len/\∀i x,l[i]?=some x->p i x
 |0,_=>⟨[],rfl,λi x h=>by simp at h⟩
 | n+1,h=>by
  obtain⟨l,hl,hp⟩:=mO n (λi hi=>h i (by omega));obtain⟨x,hx⟩:=h n (by omega);refine⟨l++[x],by simp[hl],λi y hy=>?_⟩;by_cases hi:i<l.length
  .rw[List.getElem?_append_left hi]at hy
   exact hp i y hy
  have hie:i=l.length:=by have:=Af hy;simp at this;omega
  subst hie;simp at hy;subst hy;rw[hl];exact hx
section
variable {H:Type} {enc:TypeId×Value->H} {w:World} {base:Nat} {spare:Nat->Bool} {held:Bool}
theorem Jz{α:Type}{C:Eh α}{n:Nat}{a:Addr}{len:Nat}(hC:Eu C n)(hn:0<n)(hl:len<=maxLen)(h:∀i,i<len->∃x,∃cs:List Value,cs.length=n/\(∀j,j<n->w.cell? ((a.add (i*n)).add j)=cs[j]?)/\C 0 w (λj=>cs[j]?) x):∃xs,xs.length=len/\SliceC C n 0 w (some a) xs:=by
 obtain⟨xs,hx,hp⟩:=mO len h;refine⟨xs,hx,by omega,?_⟩;by_cases h0:len=0
 .left
  exact List.length_eq_zero_iff.1 (by omega)
 right
 obtain⟨b,o,spot⟩:=a;obtain⟨x0,hx0⟩:∃x,xs[0]?=some x:=⟨xs[0],gE (by omega)⟩;obtain⟨cs,hcl,hcell,_⟩:=hp 0 x0 hx0;have hc0:=hcell 0 hn;rw[gE (by omega)]at hc0;have hspot:spot=none:=by simpa[Addr.add]using World.cell?_spot hc0
 subst hspot;have key:∀x y,(((E b o):Addr).add x).add y=(E b (o+x+y)):=λx y=>by cases x<;>cases y<;>simp[Addr.add]
 refine⟨b,o,rfl,⟨zL,λh=>absurd h (Nat.lt_irrefl 0)⟩,?_,λj x hj=>?_⟩
 .rw[key]at hc0
  exact block_lt_of_cell hc0
 obtain⟨cs',_,hcell',hC'⟩:=hp j x hj;exact hC 0 0 w w _ _ x (λi hi=>by rw[<-hcell' i hi,key]) (Keeps.refl _ _) nL hC'
theorem Bw{P:Program}{n:Nat}{cs:List Value}{fs:Array Field}{xs:List (DataW H×List MemPlace)}(hlen:xs.length=fs.size)(hf:∀(i:Nat) (f:Field),fs[i]?=some f->DataW.trod enc P w base spare held n f.type ((cs.drop f.offset).take (P.cellsOf f.type))=xs[i]?)(i:Nat)(f:Field)(hi:fs[i]?=some f) :
  ∃y,DataW.trod enc P w base spare held n f.type ((cs.drop f.offset).take (P.cellsOf f.type))=some y:=by
 have hlt:i<xs.length:=by
  rcases Nat.lt_or_ge i fs.size with h|h
  .omega
  rw[Array.getElem?_eq_none h]at hi;cases hi
 exact⟨xs[i],(hf i f hi).trans (gE hlt)⟩
theorem aV:prog.cellsOf 3=1:=by kernel_rfl
theorem Vz:prog.cellsOf 9=1:=by kernel_rfl
theorem mW:prog.cellsOf 4=1:=by kernel_rfl
theorem wV:prog.cellsOf 47=1:=by kernel_rfl
theorem xN:prog.cellsOf 85=1:=by kernel_rfl
theorem uP:prog.cellsOf 171=2:=by kernel_rfl
theorem xH:prog.cellsOf 23=1:=by kernel_rfl
theorem rG:prog.cellsOf 83=2:=by kernel_rfl
theorem yF:prog.cellsOf 22=1:=by kernel_rfl
theorem sZ:prog.cellsOf 80=6:=by kernel_rfl
theorem vW:prog.cellsOf 24=1:=by kernel_rfl
theorem tQ:prog.cellsOf 87=12:=by kernel_rfl
theorem AH:prog.cellsOf 26=4:=by kernel_rfl
theorem yM{cs:List Value}(h:cs.length=2):∃c0 c1,cs=[c0,c1]:=by
 match cs,h with
 |[c0,c1],_=>exact⟨_,_,rfl⟩
theorem yU{cs:List Value}(h:cs.length=4):∃c0 c1 c2 c3,cs=[c0,c1,c2,c3]:=by
 match cs,h with
 |[c0,c1,c2,c3],_=>exact⟨_,_,_,_,rfl⟩
theorem AZ{cs:List Value}(h:cs.length=6):∃c0 c1 c2 c3 c4 c5,cs=[c0,c1,c2,c3,c4,c5]:=by
 match cs,h with
 |[c0,c1,c2,c3,c4,c5],_=>exact⟨_,_,_,_,_,_,rfl⟩
theorem zY{cs:List Value}(h:cs.length=12):∃c0 c1 c2 c3 c4 c5 c6 c7 c8 c9 c10 c11,cs=[c0,c1,c2,c3,c4,c5,c6,c7,c8,c9,c10,c11]:=by
 match cs,h with
 |[c0,c1,c2,c3,c4,c5,c6,c7,c8,c9,c10,c11],_=>exact⟨_,_,_,_,_,_,_,_,_,_,_,_,rfl⟩
theorem rQ{P:Program}{t:TypeId}{f0 f1:Field}{fuel:Nat}{cs:List Value}{x:DataW H×List MemPlace}(ht:P.underlying t=some (.struct #[f0,f1]))(h:DataW.trod enc P w base spare held fuel t cs=some x) :
  cs.length=P.cellsOf t/\∃n,(∃y,DataW.trod enc P w base spare held n f0.type ((cs.drop f0.offset).take (P.cellsOf f0.type))=some y)/\(∃y,DataW.trod enc P w base spare held n f1.type ((cs.drop f1.offset).take (P.cellsOf f1.type))=some y):=by
 obtain⟨xs,n,_,_,hl,hlen,hf⟩:=DataW.trod_struct ht h;exact⟨hl,n,Bw hlen hf 0 f0 rfl,Bw hlen hf 1 f1 rfl⟩
theorem zR{P:Program}{t:TypeId}{f0 f1 f2 f3:Field}{fuel:Nat}{cs:List Value}{x:DataW H×List MemPlace}(ht:P.underlying t=some (.struct #[f0,f1,f2,f3]))(h:DataW.trod enc P w base spare held fuel t cs=some x) :
  cs.length=P.cellsOf t/\∃n,(∃y,DataW.trod enc P w base spare held n f0.type ((cs.drop f0.offset).take (P.cellsOf f0.type))=some y)/\(∃y,DataW.trod enc P w base spare held n f1.type ((cs.drop f1.offset).take (P.cellsOf f1.type))=some y)/\(∃y,DataW.trod enc P w base spare held n f2.type ((cs.drop f2.offset).take (P.cellsOf f2.type))=some y)/\(∃y,DataW.trod enc P w base spare held n f3.type ((cs.drop f3.offset).take (P.cellsOf f3.type))=some y):=by
 obtain⟨xs,n,_,_,hl,hlen,hf⟩:=DataW.trod_struct ht h;exact⟨hl,n,Bw hlen hf 0 f0 rfl,Bw hlen hf 1 f1 rfl,Bw hlen hf 2 f2 rfl,Bw hlen hf 3 f3 rfl⟩
theorem zF{P:Program}{t:TypeId}{f0 f1 f2 f3 f4 f5:Field}{fuel:Nat}{cs:List Value}{x:DataW H×List MemPlace}(ht:P.underlying t=some (.struct #[f0,f1,f2,f3,f4,f5]))(h:DataW.trod enc P w base spare held fuel t cs=some x) :
  cs.length=P.cellsOf t/\∃n,(∃y,DataW.trod enc P w base spare held n f0.type ((cs.drop f0.offset).take (P.cellsOf f0.type))=some y)/\(∃y,DataW.trod enc P w base spare held n f1.type ((cs.drop f1.offset).take (P.cellsOf f1.type))=some y)/\(∃y,DataW.trod enc P w base spare held n f2.type ((cs.drop f2.offset).take (P.cellsOf f2.type))=some y)/\(∃y,DataW.trod enc P w base spare held n f3.type ((cs.drop f3.offset).take (P.cellsOf f3.type))=some y)/\(∃y,DataW.trod enc P w base spare held n f4.type ((cs.drop f4.offset).take (P.cellsOf f4.type))=some y)/\(∃y,DataW.trod enc P w base spare held n f5.type ((cs.drop f5.offset).take (P.cellsOf f5.type))=some y):=by
 obtain⟨xs,n,_,_,hl,hlen,hf⟩:=DataW.trod_struct ht h;exact⟨hl,n,Bw hlen hf 0 f0 rfl,Bw hlen hf 1 f1 rfl,Bw hlen hf 2 f2 rfl,Bw hlen hf 3 f3 rfl,Bw hlen hf 4 f4 rfl,Bw hlen hf 5 f5 rfl⟩
theorem vS{P:Program}{t:TypeId}{f0 f1 f2 f3 f4 f5 f6 f7 f8 f9 f10 f11:Field}{fuel:Nat}{cs:List Value}{x:DataW H×List MemPlace}(ht:P.underlying t=some (.struct #[f0,f1,f2,f3,f4,f5,f6,f7,f8,f9,f10,f11]))(h:DataW.trod enc P w base spare held fuel t cs=some x) :
  cs.length=P.cellsOf t/\∃n,(∃y,DataW.trod enc P w base spare held n f0.type ((cs.drop f0.offset).take (P.cellsOf f0.type))=some y)/\(∃y,DataW.trod enc P w base spare held n f1.type ((cs.drop f1.offset).take (P.cellsOf f1.type))=some y)/\(∃y,DataW.trod enc P w base spare held n f2.type ((cs.drop f2.offset).take (P.cellsOf f2.type))=some y)/\(∃y,DataW.trod enc P w base spare held n f3.type ((cs.drop f3.offset).take (P.cellsOf f3.type))=some y)/\(∃y,DataW.trod enc P w base spare held n f4.type ((cs.drop f4.offset).take (P.cellsOf f4.type))=some y)/\(∃y,DataW.trod enc P w base spare held n f5.type ((cs.drop f5.offset).take (P.cellsOf f5.type))=some y)/\(∃y,DataW.trod enc P w base spare held n f6.type ((cs.drop f6.offset).take (P.cellsOf f6.type))=some y)/\(∃y,DataW.trod enc P w base spare held n f7.type ((cs.drop f7.offset).take (P.cellsOf f7.type))=some y)/\(∃y,DataW.trod enc P w base spare held n f8.type ((cs.drop f8.offset).take (P.cellsOf f8.type))=some y)/\(∃y,DataW.trod enc P w base spare held n f9.type ((cs.drop f9.offset).take (P.cellsOf f9.type))=some y)/\(∃y,DataW.trod enc P w base spare held n f10.type ((cs.drop f10.offset).take (P.cellsOf f10.type))=some y)/\(∃y,DataW.trod enc P w base spare held n f11.type ((cs.drop f11.offset).take (P.cellsOf f11.type))=some y):=by
 obtain⟨xs,n,_,_,hl,hlen,hf⟩:=DataW.trod_struct ht h;exact⟨hl,n,Bw hlen hf 0 f0 rfl,Bw hlen hf 1 f1 rfl,Bw hlen hf 2 f2 rfl,Bw hlen hf 3 f3 rfl,Bw hlen hf 4 f4 rfl,Bw hlen hf 5 f5 rfl,Bw hlen hf 6 f6 rfl,Bw hlen hf 7 f7 rfl,Bw hlen hf 8 f8 rfl,Bw hlen hf 9 f9 rfl,Bw hlen hf 10 f10 rfl,Bw hlen hf 11 f11 rfl⟩
theorem nP{fuel:Nat}{cs:List Value}{y:DataW H×List MemPlace}(h:DataW.trod enc prog w base spare held fuel 47 cs=some y):∃a xs cap,cs=[.slice a xs.length cap]/\sX 0 w a xs:=by
 rcases Go.Deep.open_slice underlying47 h with⟨hc,_⟩|⟨a,len,cap,m,n',D,Pl,hc,_,hl,hcm,hm,_,hall⟩
 .exact⟨none,[],0,hc,SliceC.nil⟩
 rw[Vz]at hall;have hlm:len<=m:=by rw[hm];split<;>omega
 obtain⟨xs,hx,hs⟩:=Jz (C:=StrC) (n:=1) (a:=a) (len:=len) StrC.holds (by omega) (by omega) (λi hi=>by
  obtain⟨cs',h1,h2⟩:=hall i (by omega);obtain⟨_,hl',hcell⟩:=World.cells?_some h1;obtain⟨s,rfl,_,hs⟩:=DataW.trod_string underlying9 h2
  exact⟨s,[Y s],rfl,hcell,rfl,hs⟩)
 subst hx;exact⟨some a,xs,cap,hc,hs⟩
theorem vC{fuel:Nat}{cs:List Value}{y:DataW H×List MemPlace}(h:DataW.trod enc prog w base spare held fuel 171 cs=some y):cs.length=2/\∃x:Lik,LikC 0 w (λj=>cs[j]?) x:=by
 obtain⟨hl,n,HP⟩:=rQ underlying171 h;rw[uP]at hl;refine⟨hl,?_⟩;obtain⟨c0,c1,rfl⟩:=yM hl;obtain⟨⟨_,h0⟩,⟨_,h1⟩⟩:=HP;simp only[aV,Vz]at h0 h1;obtain⟨v0,e0,_,s0⟩:=DataW.trod_string underlying9 h0;obtain⟨v1,e1,_,_⟩:=DataW.trod_int underlying3 h1;simp at e0 e1;subst e0 e1;exact⟨⟨v0,v1⟩,rfl,rfl,s0⟩
theorem qX{fuel:Nat}{cs:List Value}{y:DataW H×List MemPlace}(h:DataW.trod enc prog w base spare held fuel 85 cs=some y):∃a xs cap,cs=[.slice a xs.length cap]/\sK 0 w a xs:=by
 rcases Go.Deep.open_slice underlying85 h with⟨hc,_⟩|⟨a,len,cap,m,n',D,Pl,hc,_,hl,hcm,hm,_,hall⟩
 .exact⟨none,[],0,hc,SliceC.nil⟩
 rw[uP]at hall;have hlm:len<=m:=by rw[hm];split<;>omega
 obtain⟨xs,hx,hs⟩:=Jz (C:=LikC) (n:=2) (a:=a) (len:=len) LikC.holds (by omega) (by omega) (λi hi=>by
  obtain⟨cs',h1,h2⟩:=hall i (by omega);obtain⟨_,hl',hcell⟩:=World.cells?_some h1;obtain⟨_,x,hx⟩:=vC h2
  exact⟨x,cs',hl',hcell,hx⟩)
 subst hx;exact⟨some a,xs,cap,hc,hs⟩
theorem sO{fuel:Nat}{cs:List Value}{y:DataW H×List MemPlace}(h:DataW.trod enc prog w base spare held fuel 83 cs=some y):cs.length=2/\∃x:Svc,SvcC 0 w (λj=>cs[j]?) x:=by
 obtain⟨hl,n,HP⟩:=rQ underlying83 h;rw[rG]at hl;refine⟨hl,?_⟩;obtain⟨c0,c1,rfl⟩:=yM hl;obtain⟨⟨_,h0⟩,⟨_,h1⟩⟩:=HP;simp only[aV,Vz]at h0 h1;obtain⟨v0,e0,_,s0⟩:=DataW.trod_string underlying9 h0;obtain⟨v1,e1,_,_⟩:=DataW.trod_int underlying3 h1;simp at e0 e1;subst e0 e1;exact⟨⟨v0,v1⟩,rfl,rfl,s0⟩
theorem oE{fuel:Nat}{cs:List Value}{y:DataW H×List MemPlace}(h:DataW.trod enc prog w base spare held fuel 23 cs=some y):∃a xs cap,cs=[.slice a xs.length cap]/\sV 0 w a xs:=by
 rcases Go.Deep.open_slice underlying23 h with⟨hc,_⟩|⟨a,len,cap,m,n',D,Pl,hc,_,hl,hcm,hm,_,hall⟩
 .exact⟨none,[],0,hc,SliceC.nil⟩
 rw[rG]at hall;have hlm:len<=m:=by rw[hm];split<;>omega
 obtain⟨xs,hx,hs⟩:=Jz (C:=SvcC) (n:=2) (a:=a) (len:=len) SvcC.holds (by omega) (by omega) (λi hi=>by
  obtain⟨cs',h1,h2⟩:=hall i (by omega);obtain⟨_,hl',hcell⟩:=World.cells?_some h1;obtain⟨_,x,hx⟩:=sO h2
  exact⟨x,cs',hl',hcell,hx⟩)
 subst hx;exact⟨some a,xs,cap,hc,hs⟩
theorem uB{fuel:Nat}{cs:List Value}{y:DataW H×List MemPlace}(h:DataW.trod enc prog w base spare held fuel 80 cs=some y):cs.length=6/\∃x:Brt,BrtC 0 w (λj=>cs[j]?) x:=by
 obtain⟨hl,n,HP⟩:=zF underlying80 h;rw[sZ]at hl;refine⟨hl,?_⟩;obtain⟨c0,c1,c2,c3,c4,c5,rfl⟩:=AZ hl;obtain⟨⟨_,h0⟩,⟨_,h1⟩,⟨_,h2⟩,⟨_,h3⟩,⟨_,h4⟩,⟨_,h5⟩⟩:=HP;simp only[mW,aV,wV,Vz]at h0 h1 h2 h3 h4 h5;obtain⟨v0,e0,_,s0⟩:=DataW.trod_string underlying9 h0;obtain⟨v1,e1,_,s1⟩:=DataW.trod_string underlying9 h1;obtain⟨a2,v2,p2,e2,s2⟩:=nP h2;obtain⟨v3,e3,_,_⟩:=DataW.trod_int underlying3 h3;obtain⟨v4,e4,_,_⟩:=DataW.trod_int underlying3 h4;obtain⟨v5,e5,_⟩:=DataW.trod_bool underlying4 h5;simp at e0 e1 e2 e3 e4 e5;subst e0 e1 e2 e3 e4 e5;exact⟨⟨v0,v1,v2,v3,v4,v5⟩,a2,p2,rfl,rfl,rfl,rfl,rfl,rfl,s0,s1,s2⟩
theorem oR{fuel:Nat}{cs:List Value}{y:DataW H×List MemPlace}(h:DataW.trod enc prog w base spare held fuel 22 cs=some y):∃a xs cap,cs=[.slice a xs.length cap]/\sB 0 w a xs:=by
 rcases Go.Deep.open_slice underlying22 h with⟨hc,_⟩|⟨a,len,cap,m,n',D,Pl,hc,_,hl,hcm,hm,_,hall⟩
 .exact⟨none,[],0,hc,SliceC.nil⟩
 rw[sZ]at hall;have hlm:len<=m:=by rw[hm];split<;>omega
 obtain⟨xs,hx,hs⟩:=Jz (C:=BrtC) (n:=6) (a:=a) (len:=len) BrtC.holds (by omega) (by omega) (λi hi=>by
  obtain⟨cs',h1,h2⟩:=hall i (by omega);obtain⟨_,hl',hcell⟩:=World.cells?_some h1;obtain⟨_,x,hx⟩:=uB h2
  exact⟨x,cs',hl',hcell,hx⟩)
 subst hx;exact⟨some a,xs,cap,hc,hs⟩
theorem uF{fuel:Nat}{cs:List Value}{y:DataW H×List MemPlace}(h:DataW.trod enc prog w base spare held fuel 87 cs=some y):cs.length=12/\∃x:Cpy,CpyC 0 w (λj=>cs[j]?) x:=by
 obtain⟨hl,n,HP⟩:=vS underlying87 h;rw[tQ]at hl;refine⟨hl,?_⟩;obtain⟨c0,c1,c2,c3,c4,c5,c6,c7,c8,c9,c10,c11,rfl⟩:=zY hl;obtain⟨⟨_,h0⟩,⟨_,h1⟩,⟨_,h2⟩,⟨_,h3⟩,⟨_,h4⟩,⟨_,h5⟩,⟨_,h6⟩,⟨_,h7⟩,⟨_,h8⟩,⟨_,h9⟩,⟨_,h10⟩,⟨_,h11⟩⟩:=HP;simp only[aV,xN,Vz]at h0 h1 h2 h3 h4 h5 h6 h7 h8 h9 h10 h11;obtain⟨v0,e0,_,s0⟩:=DataW.trod_string underlying9 h0;obtain⟨v1,e1,_,s1⟩:=DataW.trod_string underlying9 h1;obtain⟨v2,e2,_,_⟩:=DataW.trod_int underlying3 h2;obtain⟨v3,e3,_,_⟩:=DataW.trod_int underlying3 h3;obtain⟨v4,e4,_,_⟩:=DataW.trod_int underlying3 h4;obtain⟨v5,e5,_,_⟩:=DataW.trod_int underlying3 h5;obtain⟨v6,e6,_,s6⟩:=DataW.trod_string underlying9 h6;obtain⟨a7,v7,p7,e7,s7⟩:=qX h7;obtain⟨v8,e8,_,_⟩:=DataW.trod_int underlying3 h8;obtain⟨v9,e9,_,s9⟩:=DataW.trod_string underlying9 h9;obtain⟨v10,e10,_,s10⟩:=DataW.trod_string underlying9 h10;obtain⟨v11,e11,_,s11⟩:=DataW.trod_string underlying9 h11;simp at e0 e1 e2 e3 e4 e5 e6 e7 e8 e9 e10 e11;subst e0 e1 e2 e3 e4 e5 e6 e7 e8 e9 e10 e11;exact⟨⟨v0,v1,v2,v3,v4,v5,v6,v7,v8,v9,v10,v11⟩,a7,p7,rfl,rfl,rfl,rfl,rfl,rfl,rfl,rfl,rfl,rfl,rfl,rfl,s0,s1,s6,s9,s10,s11,s7⟩
theorem oU{fuel:Nat}{cs:List Value}{y:DataW H×List MemPlace}(h:DataW.trod enc prog w base spare held fuel 24 cs=some y):∃a xs cap,cs=[.slice a xs.length cap]/\sC 0 w a xs:=by
 rcases Go.Deep.open_slice underlying24 h with⟨hc,_⟩|⟨a,len,cap,m,n',D,Pl,hc,_,hl,hcm,hm,_,hall⟩
 .exact⟨none,[],0,hc,SliceC.nil⟩
 rw[tQ]at hall;have hlm:len<=m:=by rw[hm];split<;>omega
 obtain⟨xs,hx,hs⟩:=Jz (C:=CpyC) (n:=12) (a:=a) (len:=len) CpyC.holds (by omega) (by omega) (λi hi=>by
  obtain⟨cs',h1,h2⟩:=hall i (by omega);obtain⟨_,hl',hcell⟩:=World.cells?_some h1;obtain⟨_,x,hx⟩:=uF h2
  exact⟨x,cs',hl',hcell,hx⟩)
 subst hx;exact⟨some a,xs,cap,hc,hs⟩
theorem sH{fuel:Nat}{cs:List Value}{y:DataW H×List MemPlace}(h:DataW.trod enc prog w base spare held fuel 26 cs=some y):cs.length=4/\∃x:Flt,FltC 0 w (λj=>cs[j]?) x:=by
 obtain⟨hl,n,HP⟩:=zR underlying26 h;rw[AH]at hl;refine⟨hl,?_⟩;obtain⟨c0,c1,c2,c3,rfl⟩:=yU hl;obtain⟨⟨_,h0⟩,⟨_,h1⟩,⟨_,h2⟩,⟨_,h3⟩⟩:=HP;simp only[mW,yF,vW,xH]at h0 h1 h2 h3;obtain⟨v0,e0,_⟩:=DataW.trod_bool underlying4 h0;obtain⟨a1,v1,p1,e1,s1⟩:=oR h1;obtain⟨a2,v2,p2,e2,s2⟩:=oE h2;obtain⟨a3,v3,p3,e3,s3⟩:=oU h3;simp at e0 e1 e2 e3;subst e0 e1 e2 e3;exact⟨⟨v0,v1,v2,v3⟩,a1,p1,a2,p2,a3,p3,rfl,rfl,rfl,rfl,s1,s2,s3⟩
end
end Go.Proofs.YthboopnmbglkjaaGreat
