import Derived.Test.YtpidfnfilnkhkaaGreatJ51
import Derived.ProofKit
import Derived.OpenShut
import Derived.Deep.Slices
set_option maxHeartbeats 4000000
set_option maxRecDepth 100000
namespace Go.Proofs.YtpidfnfilnkhkaaGreat
open Go.RowKit Tryz
def MarkedS(w:World)(a:OA)(n k:Nat):Prop:=n=0\/∃b o,a=some ⟨b,o,none⟩/\∀j,j<n->w.cell? ⟨b,o+j,none⟩=some (.string (Zn (k+j)))
theorem MarkedS.below{w w':World}{a:OA}{n k:Nat}(h:MarkedS w a n k)(hb:Below w.heap.size w w'):MarkedS w' a n k:=by
 rcases h with h|⟨b,o,e,h⟩
 .exact .inl h
 .exact .inr ⟨b,o,e,λj hj=>(hb.cell (p:=⟨b,o+j,none⟩) (block_lt_of_cell (h j hj))).trans (h j hj)⟩
theorem bA(xs:List BA)(a:OA)(cap lo:Nat)(k:Nat)(wx ws w:World)(hin:SliceC StrC 1 lo wx a xs)(hlo:0<lo)(hm:Mkd lo wx ws w)(h0:0<k)(h1:k+xs.length<=1073741824) :
  Calls prog 11 #[.slice a xs.length cap,.int .i64 k] w λe w'=>e=.returned (.int .i64 ((k+xs.length:Nat):Int))/\MarkedS w' a xs.length k/\Mkd lo wx ws w':=by
 have HI:=iH hin;have HM:=iH hm;clear hin hm;go_enter func11,ntmps11
 go_wp2
 go_loopw [1,5] (λv i wr=>∃j:Nat,j<=xs.length/\i=.int .i64 j/\v=.int .i64 ((k+j:Nat):Int)/\Hid (MarkedS wr a j k)/\Hid (Mkd lo wx ws wr)) (λ_ i _=>xs.length-(intOf i).toNat)
 case atStart=>exact⟨0,zL,rfl,rfl,.inl rfl,HM⟩
 case round =>
  clear HM;obtain⟨j,hj,rfl,rfl,hV,hM⟩:=hrel;by_cases hlt:j<xs.length
  .obtain⟨x,hx⟩:=gXe hlt
   obtain⟨b,o,rfl,hb,hbl,hc⟩:=HI.out.at hx;obtain⟨r0,_⟩:=hc;simp only[Nat.mul_one,Nat.add_zero]at r0;have HR:=iH r0;have hne:xs≠[]:=λe=>by rw[e]at hlt;exact absurd hlt (Nat.not_lt_zero _)
   have i0:(0:Int)<=(j:Int):=by omega
   have i1:(j:Int)<(xs.length:Int):=by omega
   clear hx r0;go_wp2_with fail;refine(Ku (k+j) _ (by omega) (by omega)).mono ?_;rintro e w1⟨rfl,hb1⟩;have M1:=iH (hM.out.below hb1);have V1:=iH (hV.out.below hb1);obtain⟨u0,c0⟩:=M1.out.so b (o+j) _ HR;have f0:=(M1.out.fz b (o+j) hbl).trans (HI.out.frz hne hlo (o+j));have M2:=iH (M1.out.set hb HR rfl (.string (Zn (k+j))));have V2:Hid (MarkedS (w1.setCell ⟨b,o+j,none⟩ (.string (Zn (k+j)))) (some ⟨b,o,none⟩) (j+1) k):=by
    refine .inr ⟨b,o,rfl,λj' hj'=>?_⟩;by_cases e:j'=j
    .subst e
     exact World.cell?_setCell_same _ _ _ c0
    .rw[World.cell?_setCell_other _ _ _ _ (λh=>by injection h with _ h _;omega)]
     rcases V1.out with h|⟨b',o',e',h⟩
     .omega
     .cases e'
      exact h j' (by omega)
   clear hb1 M1 V1 hne
   go_wp2
   go_roundw
   case rel=>exact⟨j+1,by omega,by go_num,by go_num,V2,M2⟩
   case measure=>simp[intOf];omega
  .have hje:j=xs.length:=by omega
   subst hje
   go_wp2
   go_ret;exact⟨rfl,hV.out,hM.out⟩
theorem Ph(a:OA)(n cap k:Nat)(w:World)(hin:MarkedS w a n k)(h0:0<k)(h1:k+n<=1073741824) :
  Calls prog 12 #[.slice a n cap,.int .i64 k] w (Rt (.int .i64 ((k+n:Nat):Int)) w):=by
 have HI:=iH hin;clear hin;go_enter func12,ntmps12
 go_wp2
 go_loopw [1,5] (λv i wr=>∃j:Nat,j<=n/\i=.int .i64 j/\v=.int .i64 ((k+j:Nat):Int)/\Hid (Below w.heap.size w wr)) (λ_ i _=>n-(intOf i).toNat)
 case atStart=>exact⟨0,zL,rfl,rfl,Below.refl _ _⟩
 case round =>
  obtain⟨j,hj,rfl,rfl,hB⟩:=hrel;by_cases hlt:j<n
  .have hM:=HI.out.below hB.out
   obtain⟨b,o,rfl,hc⟩:∃b o,a=some ⟨b,o,none⟩/\∀j,j<n->wr.cell? ⟨b,o+j,none⟩=some (.string (Zn (k+j))):=by
    rcases hM with h|h
    .omega
    .exact h
   have r0:=hc j hlt;have HR:=iH r0;have i0:(0:Int)<=(j:Int):=by omega
   have i1:(j:Int)<(n:Int):=by omega
   have hbl:b<wr.heap.size:=block_lt_of_cell r0;clear hc hM;go_upto_region 4 with fail;refine wp_region_held_drew (S:=λwy=>wy.cell? ⟨b,o+j,none⟩=some (.string (Zn (k+j)))) (by kernel_rfl) (by simpa using r0) (λhS=>?_);refine ty 0 ⟨some 12,_,_,_,_,none⟩ (.slice (some ⟨b,o,none⟩) n cap) ?_ ?_
   .intro wy hy
    skip;go_simp
   refine ty 1 ⟨some 13,_,_,_,_,none⟩ (.int .i64 (j:Int)) ?_ ?_
   .intro wy hy
    skip;go_simp
   refine ty 2 ⟨some 14,_,_,_,_,none⟩ (.pointer (some ⟨b,o+j,none⟩)) ?_ ?_
   .intro wy hy
    skip;go_simp
   refine ty 3 ⟨some 15,_,_,_,_,none⟩ (.string (Zn (k+j))) ?_ ?_
   .intro wy hy
    skip;go_simp
   refine ty 4 ⟨some 16,_,_,_,_,none⟩ (.int .i64 ((k+j:Nat):Int)) ?_ ?_
   .intro wy hy
    skip;go_simp
   refine rd1 5 ⟨some 17,_,_,_,_,none⟩ rfl (λK hK=>?_);go_simp;refine(Ku (k+j) _ (by omega) (by omega)).mono ?_;rintro e w1⟨rfl,hb1⟩;have hd:Below wr.heap.size wr w1:=(Below.refl _ wr).drew.trans hb1;have HB1:=qTH hB hd;refine hK.out _ _ ((hd.cell (p:=⟨b,o+j,none⟩) hbl).trans HR) (λhS=>?_);clear hK K hb1 hd;refine ty 6 ⟨some 18,_,_,_,_,none⟩ (.bool false) ?_ ?_
   .intro wy hy
    skip;go_simp
   refine td ?_;clear hS
   go_wp2
   go_roundw
   case rel=>exact⟨j+1,by omega,by go_num,by go_num,HB1⟩
   case measure=>simp[intOf];omega
  .have hje:j=n:=by omega
   subst hje
   go_wp2
   go_ret;exact⟨rfl,hB.out⟩
open Go.WideMaps Go.Maps Tryz
def AQ(b b0:Nat)(x:Flt)(a1:Option Addr)(c1:Nat)(a2:Option Addr)(c2:Nat)(a3:Option Addr)(c3:Nat)(d1:Option Addr)(e1:Nat)(d2:Option Addr)(e2:Nat)(d3:Option Addr)(e3:Nat)(w:World):Prop :=
 FltIn b x a1 c1 a2 c2 a3 c3 w/\FltIn b0 x d1 e1 d2 e2 d3 e3 w
theorem tT{x:Flt}(h:Fc x<=1048576):x.berths.length<=1048576:=by have:=Fd (f:=Cs) (xs:=x.berths);unfold Fc at h;omega
theorem rI{x:Flt}(h:Fc x<=1048576):x.services.length<=1048576:=by have:=Fd (f:=Dz) (xs:=x.services);unfold Fc at h;omega
theorem kS{x:Flt}(h:Fc x<=1048576):x.copies.length<=1048576:=by have:=Fd (f:=Cq) (xs:=x.copies);unfold Fc at h;omega
theorem iL{x:Flt}(h:Fc x<=1048576):∀z∈x.berths,z.marks.length<=1048576:=by
 intro z hz;have h1:Cs z<=wS Cs x.berths:=Jo hz;have h2:=Fd (f:=ByteArray.size) (xs:=z.marks);unfold Fc at h;have h3:Cs z=z.name.size+z.zone.size+wS ByteArray.size z.marks:=rfl;omega
theorem kM{x:Flt}(h:Fc x<=1048576):∀z∈x.copies,z.likes.length<=1048576:=by
 intro z hz;have h1:Cq z<=wS Cq x.copies:=Jo hz;have h2:=Fd (f:=Dr) (xs:=z.likes);unfold Fc at h;have h3:Cq z=z.name.size+z.service.size+z.select.size+wS Dr z.likes+z.near.size+z.fixed.size+z.at_.size:=rfl;omega
theorem Uw{x:Flt}(h:Fc x<=1048576):∀(k:Nat) c,x.copies[k]?=some c->c.name.size<=1048576:=by
 intro k c hc;have h1:Cq c<=wS Cq x.copies:=Jo (List.mem_of_getElem? hc);unfold Fc at h;have h3:Cq c=c.name.size+c.service.size+c.select.size+wS Dr c.likes+c.near.size+c.fixed.size+c.at_.size:=rfl;omega
theorem Mkd.keeps{lo:Nat}{wx ws w:World}(m:Mkd lo wx ws w){l:Nat}(h:wx.heap.size<=l):Keeps l ws w:=⟨m.bel.size,λb o h1 h2=>m.up b o (lT h h1) h2⟩
theorem wI(x:Flt)(cn bn:BA)(a1:Option Addr)(c1:Nat)(a2:Option Addr)(c2:Nat)(a3:Option Addr)(c3:Nat)(lo:Nat)(w:World)(n1:SliceC BrtC 6 lo w a1 x.berths)(n2:SliceC SvcC 2 lo w a2 x.services)(n3:SliceC CpyC 12 lo w a3 x.copies) :
  Calls prog 3 #[.agg (ffA x a1 c1 a2 c2 a3 c3),.string cn,.string bn] w λe w'=>e=.returned (.bool true)/\Below w.heap.size w w':=by
 have N1:Hid (SliceC BrtC 6 lo w a1 x.berths):=n1;have N2:Hid (SliceC SvcC 2 lo w a2 x.services):=n2;have N3:Hid (SliceC CpyC 12 lo w a3 x.copies):=n3;clear n1 n2 n3;by_cases hc0:((cn.size:Nat):Int)<=1048576
 case neg =>
  go_enter func3,ntmps3
  go_wp2
  go_ret;exact⟨rfl,by go_grown⟩
 by_cases hc1:((bn.size:Nat):Int)<=1048576
 case neg =>
  go_enter func3,ntmps3
  go_wp2
  go_ret;exact⟨rfl,by go_grown⟩
 go_enter func3,ntmps3;go_wp2_with fail;have HC0:Hid (cn.size<=maxLen):=by show _<=_;unfold maxLen;omega
 have HC1:Hid (bn.size<=maxLen):=by show _<=_;unfold maxLen;omega
 clear hc0 hc1;refine(oF x a1 c1 a2 c2 a3 c3 lo 1048576 _ (N1.out.below BrtC.holds (B:=w.heap.size) (by go_grown) nL) (N2.out.below SvcC.holds (B:=w.heap.size) (by go_grown) nL) (N3.out.below CpyC.holds (B:=w.heap.size) (by go_grown) nL) (by omega) (by omega)).mono ?_;rintro e w1⟨rfl,hb1⟩;have HF1:Hid (FltIn w.heap.size x a1 c1 a2 c2 a3 c3 w1):=FltIn.below (b:=w.heap.size) ⟨by simp,by simp,by simp,by simp⟩ hb1 (by simp);have HB1:Hid (Below w.heap.size w w1):=(show Below w.heap.size w _ by go_grown).trans (hb1.mono (by simp));clear hb1;by_cases hz':¬((Fc x:Nat):Int)<=1048576
 .have hz:=hz'
  rw[Hb hz]
  go_wp2
  go_ret;exact⟨rfl,HB1⟩
 have hz:=Classical.not_not.1 hz';clear hz';rw[Gx hz];have hwx:Fc x<=1048576:=by omega
 have HM:Hid (Fc x<=1048576):=hwx;have hz0:(0:Int)<=1048576-(Fc x:Nat):=by omega
 clear hwx hz;generalize hR:(1048576:Int)-(Fc x:Nat)=R at *;clear hR;obtain⟨f0,f1,f2,f3⟩:=HF1.out;go_wp2_with fail;refine(Np x a1 c1 a2 c2 a3 c3 lo _ (N1.out.below BrtC.holds (B:=w.heap.size) HB1 nL) (N2.out.below SvcC.holds (B:=w.heap.size) HB1 nL) (N3.out.below CpyC.holds (B:=w.heap.size) HB1 nL) HM).mono ?_;rintro e w2⟨g1,g2,g3,rfl,q1,q2,q3,hb2⟩;have HF2:Hid (FltIn w.heap.size x a1 c1 a2 c2 a3 c3 w2):=HF1.out.below hb2 (block_lt_of_cell f0);have HB2:Hid (Below w.heap.size w w2):=qTr HB1 hb2;have Q1:Hid (SliceC BrtC 6 w1.heap.size w2 (some ⟨g1,0,none⟩) x.berths):=q1;have Q2:Hid (SliceC SvcC 2 w1.heap.size w2 (some ⟨g2,0,none⟩) x.services):=q2;have Q3:Hid (SliceC CpyC 12 w1.heap.size w2 (some ⟨g3,0,none⟩) x.copies):=q3;clear hb2 q1 q2 q3 f0 f1 f2 f3 HF1 HB1;go_wp2_with fail;refine(eW x (some ⟨g1,0,none⟩) x.berths.length g2 0 x.services.length (some ⟨g3,0,none⟩) x.copies.length cn bn w1.heap.size _ Q1 Q2 Q3 (tT HM) (rI HM) (kS HM) (iL HM) (kM HM)).mono ?_;rintro e w3⟨ns,aw,cw,fd,rfl,hvt,hsw,hb3⟩;have HVT:=iH hvt;have RS:=iH (hvt.small (kS HM));clear hvt;have HF3:Hid (FltIn w.heap.size x a1 c1 a2 c2 a3 c3 w3):=HF2.out.below hb3 (block_lt_of_cell HF2.out.1);have HB3:Hid (Below w.heap.size w w3):=qTr HB2 hb3;have HW:Hid (SliceC StrC 1 w2.heap.size w3 aw ns):=hsw;have hz3:w.heap.size<w3.heap.size:=block_lt_of_cell HF3.out.1;clear hb3 hsw Q1 Q2 Q3 HF2 HB2;obtain⟨f0,f1,f2,f3⟩:=HF3.out;go_wp2_with fail;refine(Np x a1 c1 a2 c2 a3 c3 lo _ (N1.out.below BrtC.holds (B:=w.heap.size) HB3 nL) (N2.out.below SvcC.holds (B:=w.heap.size) HB3 nL) (N3.out.below CpyC.holds (B:=w.heap.size) HB3 nL) HM).mono ?_;rintro e w4⟨g1,g2,g3,rfl,q1,q2,q3,hb4⟩;have HF4:Hid (FltIn w.heap.size x a1 c1 a2 c2 a3 c3 w4):=HF3.out.below hb4 (block_lt_of_cell f0);have HB4:Hid (Below w.heap.size w w4):=qTr HB3 hb4;have Q1:Hid (SliceC BrtC 6 w3.heap.size w4 (some ⟨g1,0,none⟩) x.berths):=q1;have Q2:Hid (SliceC SvcC 2 w3.heap.size w4 (some ⟨g2,0,none⟩) x.services):=q2;have Q3:Hid (SliceC CpyC 12 w3.heap.size w4 (some ⟨g3,0,none⟩) x.copies):=q3;have H34:Hid (Below w3.heap.size w3 w4):=hb4;have hz34:w3.heap.size<=w4.heap.size:=hb4.size;have hz4:w.heap.size<w4.heap.size:=block_lt_of_cell HF4.out.1;clear hb4 q1 q2 q3 f0 f1 f2 f3 HF3;go_wp2_with fail;refine(Rr x cn bn (some ⟨g1,0,none⟩) x.berths.length (some ⟨g2,0,none⟩) x.services.length (some ⟨g3,0,none⟩) x.copies.length w3.heap.size _ (Q1.out.below BrtC.holds (B:=w4.heap.size) (by go_grown) nL) (Q2.out.below SvcC.holds (B:=w4.heap.size) (by go_grown) nL) (Q3.out.below CpyC.holds (B:=w4.heap.size) (by go_grown) nL) (tT HM) (rI HM) (kS HM) HC0 HC1 (by simp;omega) (Uw HM)).mono ?_;rintro e w5⟨ms,ag,cg,fm,rfl,hvt,hsg,hb5⟩;obtain⟨rfl,rfl⟩:=HVT.out.one hvt;clear hvt;have hb45:Below w4.heap.size w4 w5:=(show Below w4.heap.size w4 _ by go_grown).trans (hb5.mono (by simp))
 have HX5:Hid (FltIn w4.heap.size x (some ⟨g1,0,none⟩) x.berths.length (some ⟨g2,0,none⟩) x.services.length (some ⟨g3,0,none⟩) x.copies.length w5):=FltIn.below (b:=w4.heap.size) ⟨by simp,by simp,by simp,by simp⟩ hb5 (by simp);have HG5:Hid (SliceC StrC 1 (w4.heap.size+1) w5 ag ns):=hsg.keep StrC.holds (Keeps.refl _ _) (by simp);have HF5:Hid (FltIn w.heap.size x a1 c1 a2 c2 a3 c3 w5):=HF4.out.below hb45 hz4;have H45:Hid (Below w4.heap.size w4 w5):=hb45;clear hb5 hb45 hsg HF4;go_wp2_with fail;refine(Ky ns ag aw cg cw (w4.heap.size+1) w2.heap.size _ HG5 (HW.out.below StrC.holds (H34.out.trans (H45.out.mono hz34)) nL) RS.out.1).mono ?_;rintro e w6⟨rfl,hb6⟩;have H46:Hid (Below w4.heap.size w4 w6):=qTr H45 hb6;have HX6:Hid (FltIn w4.heap.size x (some ⟨g1,0,none⟩) x.berths.length (some ⟨g2,0,none⟩) x.services.length (some ⟨g3,0,none⟩) x.copies.length w6):=HX5.out.below hb6 (block_lt_of_cell HX5.out.1);have HF6:Hid (FltIn w.heap.size x a1 c1 a2 c2 a3 c3 w6):=HF5.out.below hb6 (block_lt_of_cell HF5.out.1);have HG6:Hid (SliceC StrC 1 (w4.heap.size+1) w6 ag ns):=HG5.out.below StrC.holds hb6 nL;have HB6:Hid (Below w.heap.size w w6):=HB4.out.trans (H46.out.mono (by omega));clear hb6 H45 HX5 HF5 HG5;go_wp2_with fail;refine wp_region_held_drew (S:=AQ w.heap.size w4.heap.size x a1 c1 a2 c2 a3 c3 (some ⟨g1,0,none⟩) x.berths.length (some ⟨g2,0,none⟩) x.services.length (some ⟨g3,0,none⟩) x.copies.length) (by kernel_rfl) ⟨HF6,HX6⟩ (λhS=>?_);refine ty 0 ⟨some 55,_,_,_,_,none⟩ (.agg (ffA x (some ⟨g1,0,none⟩) x.berths.length (some ⟨g2,0,none⟩) x.services.length (some ⟨g3,0,none⟩) x.copies.length)) ?_ ?_
 .intro wy hy
  obtain⟨⟨y0,y1,y2,y3⟩,v0,v1,v2,v3⟩:=hy;go_simp
 refine ty 1 ⟨some 56,_,_,_,_,none⟩ (.agg (ffA x a1 c1 a2 c2 a3 c3)) ?_ ?_
 .intro wy hy
  obtain⟨⟨y0,y1,y2,y3⟩,v0,v1,v2,v3⟩:=hy;go_simp
 refine rd1 2 ⟨some 57,_,_,_,_,none⟩ rfl (λK hK=>?_);go_simp;have hd:Below w.heap.size w w6.drew:=HB6.out.drew;refine(Np x a1 c1 a2 c2 a3 c3 lo _ (N1.out.below BrtC.holds (B:=w.heap.size) hd nL) (N2.out.below SvcC.holds (B:=w.heap.size) hd nL) (N3.out.below CpyC.holds (B:=w.heap.size) hd nL) HM).mono ?_;rintro e w7⟨h1,h2,h3,rfl,q1,q2,q3,hb7⟩;have hd7:Below w6.heap.size w6 w7:=(Below.refl _ w6).drew.trans hb7;have P1:Hid (SliceC BrtC 6 w6.drew.heap.size w7 (some ⟨h1,0,none⟩) x.berths):=q1;have P2:Hid (SliceC SvcC 2 w6.drew.heap.size w7 (some ⟨h2,0,none⟩) x.services):=q2;have P3:Hid (SliceC CpyC 12 w6.drew.heap.size w7 (some ⟨h3,0,none⟩) x.copies):=q3;have H47:Hid (Below w4.heap.size w4 w7):=qTr H46 hd7;have HG7:Hid (SliceC StrC 1 (w4.heap.size+1) w7 ag ns):=HG6.out.below StrC.holds hd7 nL;have HX7:Hid (FltIn w4.heap.size x (some ⟨g1,0,none⟩) x.berths.length (some ⟨g2,0,none⟩) x.services.length (some ⟨g3,0,none⟩) x.copies.length w7):=HX6.out.below hd7 (block_lt_of_cell HX6.out.1);have HF7:Hid (FltIn w.heap.size x a1 c1 a2 c2 a3 c3 w7):=HF6.out.below hd7 (block_lt_of_cell HF6.out.1);refine hK.out _ _ ⟨HF7,HX7⟩ (λhS=>?_);clear q1 q2 q3 hb7 hd7 hd HG6 HX6 HF6 H46 HB6;clear hK K;refine rd1 3 ⟨some 58,_,_,_,_,none⟩ rfl (λK hK=>?_);go_simp;refine(oA x (some ⟨g1,0,none⟩) x.berths.length (some ⟨g2,0,none⟩) x.services.length (some ⟨g3,0,none⟩) x.copies.length (some ⟨h1,0,none⟩) x.berths.length (some ⟨h2,0,none⟩) x.services.length (some ⟨h3,0,none⟩) x.copies.length w3.heap.size w6.drew.heap.size _ (Q1.out.below BrtC.holds H47 nL) (Q2.out.below SvcC.holds H47 nL) (Q3.out.below CpyC.holds H47 nL) P1 P2 P3 HM).mono ?_;rintro e w8⟨rfl,hb8⟩;have H48:Hid (Below w4.heap.size w4 w8):=qTr H47 hb8;have HG8:Hid (SliceC StrC 1 (w4.heap.size+1) w8 ag ns):=HG7.out.below StrC.holds hb8 nL;have HX8:Hid (FltIn w4.heap.size x (some ⟨g1,0,none⟩) x.berths.length (some ⟨g2,0,none⟩) x.services.length (some ⟨g3,0,none⟩) x.copies.length w8):=HX7.out.below hb8 (block_lt_of_cell HX7.out.1);have HF8:Hid (FltIn w.heap.size x a1 c1 a2 c2 a3 c3 w8):=HF7.out.below hb8 (block_lt_of_cell HF7.out.1);refine hK.out _ _ ⟨HF8,HX8⟩ (λhS=>?_);clear hK K hb8 HG7 HX7 HF7 H47 P1 P2 P3;refine ty 4 ⟨some 59,_,_,_,_,none⟩ (.bool false) ?_ ?_
 .intro wy hy
  obtain⟨⟨y0,y1,y2,y3⟩,v0,v1,v2,v3⟩:=hy;go_simp
 refine td ?_;clear hS;obtain⟨x0,x1,x2,x3⟩:=HX8.out;go_wp2_with fail;refine(gG x (some ⟨g1,0,none⟩) x.berths.length (some ⟨g2,0,none⟩) x.services.length (some ⟨g3,0,none⟩) x.copies.length w3.heap.size 1 w4 w8 _ Q1 Q2 Q3 (by omega) (Mkd.start H48 hz34) (by omega) (by have:=HM.out;omega)).mono ?_;rintro e w9⟨z,rfl,hz1,_,hmk⟩;have H39:Hid (Below w3.heap.size w3 w9):=(H34.out.trans (H48.out.mono hz34)).trans hmk.bel;have HF9:Hid (FltIn w.heap.size x a1 c1 a2 c2 a3 c3 w9):=HF8.out.below hmk.bel hz3;have HG9:Hid (SliceC StrC 1 (w4.heap.size+1) w9 ag ns):=HG8.out.keep StrC.holds (hmk.keeps (Nat.le_succ _)) nL;have hz49:w4.heap.size+1<=w9.heap.size:=lT (Nat.succ_le_of_lt (block_lt_of_cell x0)) hmk.bel.size;have hzn:¬z<0:=by omega
 clear hmk H48 HX8 HF8 HG8 x0 x1 x2 x3 Q1 Q2 Q3;go_wp2_with fail;refine(Ky ns ag aw cg cw (w4.heap.size+1) w2.heap.size _ HG9 (HW.out.below StrC.holds H39 nL) RS.out.1).mono ?_;rintro e wA⟨rfl,hbA⟩;have H3A:Hid (Below w3.heap.size w3 wA):=qTr H39 hbA;have HFA:Hid (FltIn w.heap.size x a1 c1 a2 c2 a3 c3 wA):=HF9.out.below hbA (block_lt_of_cell HF9.out.1);have HGA:Hid (SliceC StrC 1 (w4.heap.size+1) wA ag ns):=HG9.out.below StrC.holds hbA nL;have hz4A:w4.heap.size+1<=wA.heap.size:=lT hz49 hbA.size;clear hbA H39 HF9 HG9 hz49 hzn;go_wp2_with fail;refine(bA ns ag cg (w4.heap.size+1) 1 wA wA _ HGA (by omega) (Mkd.start (Below.refl _ _) hz4A) (by omega) (by have:=RS.out.2;omega)).mono ?_;rintro e wB⟨rfl,hmB,hmk⟩;have H3B:Hid (Below w3.heap.size w3 wB):=H3A.out.trans (hmk.bel.mono (by omega));have HFB:Hid (FltIn w.heap.size x a1 c1 a2 c2 a3 c3 wB):=HFA.out.below hmk.bel (by omega);have HMB:=iH hmB;clear hmB hmk H3A HFA HGA hz4A;go_wp2_with fail;refine(Ph ag ns.length cg 1 _ HMB (by omega) (by have:=RS.out.2;omega)).mono ?_;rintro e wC⟨rfl,hbC⟩;have H3C:Hid (Below w3.heap.size w3 wC):=qTr H3B hbC;have HFC:Hid (FltIn w.heap.size x a1 c1 a2 c2 a3 c3 wC):=HFB.out.below hbC (block_lt_of_cell HFB.out.1);have HMC:Hid (MarkedS wC ag ns.length 1):=HMB.out.below hbC;have HBC:Hid (Below w.heap.size w wC):=HB3.out.trans (H3C.out.mono (by omega));clear hbC H3B HFB HMB;obtain⟨f0,f1,f2,f3⟩:=HFC.out;go_wp2_with fail;refine(Np x a1 c1 a2 c2 a3 c3 lo _ (N1.out.below BrtC.holds (B:=w.heap.size) HBC nL) (N2.out.below SvcC.holds (B:=w.heap.size) HBC nL) (N3.out.below CpyC.holds (B:=w.heap.size) HBC nL) HM).mono ?_;rintro e wD⟨g4,g5,g6,rfl,q1,q2,q3,hbD⟩;have H3D:Hid (Below w3.heap.size w3 wD):=qTr H3C hbD;have HMD:Hid (MarkedS wD ag ns.length 1):=HMC.out.below hbD;have Q1:Hid (SliceC BrtC 6 wC.heap.size wD (some ⟨g4,0,none⟩) x.berths):=q1;have Q2:Hid (SliceC SvcC 2 wC.heap.size wD (some ⟨g5,0,none⟩) x.services):=q2;have Q3:Hid (SliceC CpyC 12 wC.heap.size wD (some ⟨g6,0,none⟩) x.copies):=q3;have HCD:Hid (wC.heap.size<=wD.heap.size):=hbD.size;clear hbD q1 q2 q3 f0 f1 f2 f3 H3C HMC HFC HBC;go_wp2_with fail;refine(Rr x cn bn (some ⟨g4,0,none⟩) x.berths.length (some ⟨g5,0,none⟩) x.services.length (some ⟨g6,0,none⟩) x.copies.length wC.heap.size _ Q1 Q2 Q3 (tT HM) (rI HM) (kS HM) HC0 HC1 HCD (Uw HM)).mono ?_;rintro e wE⟨ms,ah,ch,fm,rfl,hvt,hsh,hbE⟩;obtain⟨rfl,rfl⟩:=HVT.out.one hvt;clear hvt;have H3E:Hid (Below w3.heap.size w3 wE):=qTr H3D hbE;have HME:Hid (MarkedS wE ag ns.length 1):=HMD.out.below hbE;have HHE:Hid (SliceC StrC 1 wD.heap.size wE ah ns):=hsh;clear hbE hsh H3D HMD Q1 Q2 Q3;go_wp2_with fail;refine(Ky ns ah aw ch cw wD.heap.size w2.heap.size _ HHE (HW.out.below StrC.holds H3E nL) RS.out.1).mono ?_;rintro e wF⟨rfl,hbF⟩;have H3F:Hid (Below w3.heap.size w3 wF):=qTr H3E hbF;have HMF:Hid (MarkedS wF ag ns.length 1):=HME.out.below hbF
 clear hbF H3E HME HHE;go_wp2_with fail;refine(Ph ag ns.length cg 1 _ HMF (by omega) (by have:=RS.out.2;omega)).mono ?_;rintro e wG⟨rfl,hbG⟩;have HBG:Hid (Below w.heap.size w wG):=HB3.out.trans ((qTr H3F hbG).mono (by omega));clear hbG H3F HMF
 go_wp2
 go_ret;exact⟨rfl,HBG⟩
theorem lU{α:Type}{p:Nat->α->Prop}:∀(len:Nat),(∀i,i<len->∃x,p i x)->∃l:List α,l.length=len/\∀i x,l[i]?=some x->p i x
 |0,_=>⟨[],rfl,λi x h=>by simp at h⟩
 | n+1,h=>by
  obtain⟨l,hl,hp⟩:=lU n (λi hi=>h i (by omega));obtain⟨x,hx⟩:=h n (by omega);refine⟨l++[x],by simp[hl],λi y hy=>?_⟩;by_cases hi:i<l.length
  .rw[List.getElem?_append_left hi]at hy
   exact hp i y hy
  .have hie:i=l.length:=by have:=Ac hy;simp at this;omega
   subst hie;simp at hy;subst hy;rw[hl];exact hx
section
variable {H:Type} {enc:TypeId×Value->H} {w:World} {base:Nat} {spare:Nat->Bool} {held:Bool}
theorem Kd{α:Type}{C:En α}{n:Nat}{a:Addr}{len:Nat}(hC:Holds C n)(hn:0<n)(hl:len<=maxLen)(h:∀i,i<len->∃x,∃cs:List Value,cs.length=n/\(∀j,j<n->w.cell? ((a.add (i*n)).add j)=cs[j]?)/\C 0 w (λj=>cs[j]?) x):∃xs,xs.length=len/\SliceC C n 0 w (some a) xs:=by
 obtain⟨xs,hx,hp⟩:=lU len h;refine⟨xs,hx,by omega,?_⟩;by_cases h0:len=0
 .left
  exact List.length_eq_zero_iff.1 (by omega)
 .right
  obtain⟨b,o,spot⟩:=a;obtain⟨x0,hx0⟩:∃x,xs[0]?=some x:=⟨xs[0],gE (by omega)⟩;obtain⟨cs,hcl,hcell,_⟩:=hp 0 x0 hx0;have hc0:=hcell 0 hn;rw[gE (by omega)]at hc0;have hspot:spot=none:=by simpa[Addr.add]using World.cell?_spot hc0
  subst hspot;have key:∀x y,((⟨b,o,none⟩:Addr).add x).add y=⟨b,o+x+y,none⟩:=λx y=>by cases x<;>cases y<;>simp[Addr.add]
  refine⟨b,o,rfl,⟨zL,λh=>absurd h (Nat.lt_irrefl 0)⟩,?_,λj x hj=>?_⟩
  .rw[key]at hc0
   exact block_lt_of_cell hc0
  .obtain⟨cs',_,hcell',hC'⟩:=hp j x hj
   exact hC 0 0 w w _ _ x (λi hi=>by rw[<-hcell' i hi,key]) (Keeps.refl _ _) nL hC'
theorem Bl{P:Program}{n:Nat}{cs:List Value}{fs:Array Field}{xs:List (DataW H×List MemPlace)}(hlen:xs.length=fs.size)(hf:∀(i:Nat) (f:Field),fs[i]?=some f->DataW.trod enc P w base spare held n f.type ((cs.drop f.offset).take (P.cellsOf f.type))=xs[i]?)(i:Nat)(f:Field)(hi:fs[i]?=some f) :
  ∃y,DataW.trod enc P w base spare held n f.type ((cs.drop f.offset).take (P.cellsOf f.type))=some y:=by
 have hlt:i<xs.length:=by
  rcases Nat.lt_or_ge i fs.size with h|h
  .omega
  .rw[Array.getElem?_eq_none h]at hi;cases hi
 exact⟨xs[i],(hf i f hi).trans (gE hlt)⟩
theorem aW:prog.cellsOf 3=1:=by kernel_rfl
theorem Vd:prog.cellsOf 9=1:=by kernel_rfl
theorem lK:prog.cellsOf 4=1:=by kernel_rfl
theorem vX:prog.cellsOf 28=1:=by kernel_rfl
theorem vJ:prog.cellsOf 85=1:=by kernel_rfl
theorem qO:prog.cellsOf 155=2:=by kernel_rfl
theorem xK:prog.cellsOf 23=1:=by kernel_rfl
theorem rT:prog.cellsOf 83=2:=by kernel_rfl
theorem uU:prog.cellsOf 22=1:=by kernel_rfl
theorem qI:prog.cellsOf 80=6:=by kernel_rfl
theorem vL:prog.cellsOf 24=1:=by kernel_rfl
theorem qT:prog.cellsOf 87=12:=by kernel_rfl
theorem yV:prog.cellsOf 26=4:=by kernel_rfl
theorem yE{cs:List Value}(h:cs.length=2):∃c0 c1,cs=[c0,c1]:=by
 match cs,h with
 |[c0,c1],_=>exact⟨_,_,rfl⟩
theorem xV{cs:List Value}(h:cs.length=4):∃c0 c1 c2 c3,cs=[c0,c1,c2,c3]:=by
 match cs,h with
 |[c0,c1,c2,c3],_=>exact⟨_,_,_,_,rfl⟩
theorem BI{cs:List Value}(h:cs.length=6):∃c0 c1 c2 c3 c4 c5,cs=[c0,c1,c2,c3,c4,c5]:=by
 match cs,h with
 |[c0,c1,c2,c3,c4,c5],_=>exact⟨_,_,_,_,_,_,rfl⟩
theorem AD{cs:List Value}(h:cs.length=12):∃c0 c1 c2 c3 c4 c5 c6 c7 c8 c9 c10 c11,cs=[c0,c1,c2,c3,c4,c5,c6,c7,c8,c9,c10,c11]:=by
 match cs,h with
 |[c0,c1,c2,c3,c4,c5,c6,c7,c8,c9,c10,c11],_=>exact⟨_,_,_,_,_,_,_,_,_,_,_,_,rfl⟩
theorem qK{P:Program}{t:TypeId}{f0 f1:Field}{fuel:Nat}{cs:List Value}{x:DataW H×List MemPlace}(ht:P.underlying t=some (.struct #[f0,f1]))(h:DataW.trod enc P w base spare held fuel t cs=some x) :
  cs.length=P.cellsOf t/\∃n,(∃y,DataW.trod enc P w base spare held n f0.type ((cs.drop f0.offset).take (P.cellsOf f0.type))=some y)/\(∃y,DataW.trod enc P w base spare held n f1.type ((cs.drop f1.offset).take (P.cellsOf f1.type))=some y):=by
 obtain⟨xs,n,_,_,hl,hlen,hf⟩:=DataW.trod_struct ht h;exact⟨hl,n,Bl hlen hf 0 f0 rfl,Bl hlen hf 1 f1 rfl⟩
theorem zZ{P:Program}{t:TypeId}{f0 f1 f2 f3:Field}{fuel:Nat}{cs:List Value}{x:DataW H×List MemPlace}(ht:P.underlying t=some (.struct #[f0,f1,f2,f3]))(h:DataW.trod enc P w base spare held fuel t cs=some x) :
  cs.length=P.cellsOf t/\∃n,(∃y,DataW.trod enc P w base spare held n f0.type ((cs.drop f0.offset).take (P.cellsOf f0.type))=some y)/\(∃y,DataW.trod enc P w base spare held n f1.type ((cs.drop f1.offset).take (P.cellsOf f1.type))=some y)/\(∃y,DataW.trod enc P w base spare held n f2.type ((cs.drop f2.offset).take (P.cellsOf f2.type))=some y)/\(∃y,DataW.trod enc P w base spare held n f3.type ((cs.drop f3.offset).take (P.cellsOf f3.type))=some y):=by
 obtain⟨xs,n,_,_,hl,hlen,hf⟩:=DataW.trod_struct ht h;exact⟨hl,n,Bl hlen hf 0 f0 rfl,Bl hlen hf 1 f1 rfl,Bl hlen hf 2 f2 rfl,Bl hlen hf 3 f3 rfl⟩
theorem yL{P:Program}{t:TypeId}{f0 f1 f2 f3 f4 f5:Field}{fuel:Nat}{cs:List Value}{x:DataW H×List MemPlace}(ht:P.underlying t=some (.struct #[f0,f1,f2,f3,f4,f5]))(h:DataW.trod enc P w base spare held fuel t cs=some x) :
  cs.length=P.cellsOf t/\∃n,(∃y,DataW.trod enc P w base spare held n f0.type ((cs.drop f0.offset).take (P.cellsOf f0.type))=some y)/\(∃y,DataW.trod enc P w base spare held n f1.type ((cs.drop f1.offset).take (P.cellsOf f1.type))=some y)/\(∃y,DataW.trod enc P w base spare held n f2.type ((cs.drop f2.offset).take (P.cellsOf f2.type))=some y)/\(∃y,DataW.trod enc P w base spare held n f3.type ((cs.drop f3.offset).take (P.cellsOf f3.type))=some y)/\(∃y,DataW.trod enc P w base spare held n f4.type ((cs.drop f4.offset).take (P.cellsOf f4.type))=some y)/\(∃y,DataW.trod enc P w base spare held n f5.type ((cs.drop f5.offset).take (P.cellsOf f5.type))=some y):=by
 obtain⟨xs,n,_,_,hl,hlen,hf⟩:=DataW.trod_struct ht h;exact⟨hl,n,Bl hlen hf 0 f0 rfl,Bl hlen hf 1 f1 rfl,Bl hlen hf 2 f2 rfl,Bl hlen hf 3 f3 rfl,Bl hlen hf 4 f4 rfl,Bl hlen hf 5 f5 rfl⟩
theorem vW{P:Program}{t:TypeId}{f0 f1 f2 f3 f4 f5 f6 f7 f8 f9 f10 f11:Field}{fuel:Nat}{cs:List Value}{x:DataW H×List MemPlace}(ht:P.underlying t=some (.struct #[f0,f1,f2,f3,f4,f5,f6,f7,f8,f9,f10,f11]))(h:DataW.trod enc P w base spare held fuel t cs=some x) :
  cs.length=P.cellsOf t/\∃n,(∃y,DataW.trod enc P w base spare held n f0.type ((cs.drop f0.offset).take (P.cellsOf f0.type))=some y)/\(∃y,DataW.trod enc P w base spare held n f1.type ((cs.drop f1.offset).take (P.cellsOf f1.type))=some y)/\(∃y,DataW.trod enc P w base spare held n f2.type ((cs.drop f2.offset).take (P.cellsOf f2.type))=some y)/\(∃y,DataW.trod enc P w base spare held n f3.type ((cs.drop f3.offset).take (P.cellsOf f3.type))=some y)/\(∃y,DataW.trod enc P w base spare held n f4.type ((cs.drop f4.offset).take (P.cellsOf f4.type))=some y)/\(∃y,DataW.trod enc P w base spare held n f5.type ((cs.drop f5.offset).take (P.cellsOf f5.type))=some y)/\(∃y,DataW.trod enc P w base spare held n f6.type ((cs.drop f6.offset).take (P.cellsOf f6.type))=some y)/\(∃y,DataW.trod enc P w base spare held n f7.type ((cs.drop f7.offset).take (P.cellsOf f7.type))=some y)/\(∃y,DataW.trod enc P w base spare held n f8.type ((cs.drop f8.offset).take (P.cellsOf f8.type))=some y)/\(∃y,DataW.trod enc P w base spare held n f9.type ((cs.drop f9.offset).take (P.cellsOf f9.type))=some y)/\(∃y,DataW.trod enc P w base spare held n f10.type ((cs.drop f10.offset).take (P.cellsOf f10.type))=some y)/\(∃y,DataW.trod enc P w base spare held n f11.type ((cs.drop f11.offset).take (P.cellsOf f11.type))=some y):=by
 obtain⟨xs,n,_,_,hl,hlen,hf⟩:=DataW.trod_struct ht h;exact⟨hl,n,Bl hlen hf 0 f0 rfl,Bl hlen hf 1 f1 rfl,Bl hlen hf 2 f2 rfl,Bl hlen hf 3 f3 rfl,Bl hlen hf 4 f4 rfl,Bl hlen hf 5 f5 rfl,Bl hlen hf 6 f6 rfl,Bl hlen hf 7 f7 rfl,Bl hlen hf 8 f8 rfl,Bl hlen hf 9 f9 rfl,Bl hlen hf 10 f10 rfl,Bl hlen hf 11 f11 rfl⟩
theorem pF{fuel:Nat}{cs:List Value}{y:DataW H×List MemPlace}(h:DataW.trod enc prog w base spare held fuel 28 cs=some y):∃a xs cap,cs=[.slice a xs.length cap]/\SliceC StrC 1 0 w a xs:=by
 rcases Go.Deep.open_slice underlying28 h with⟨hc,_⟩|⟨a,len,cap,m,n',D,Pl,hc,_,hl,hcm,hm,_,hall⟩
 .exact⟨none,[],0,hc,SliceC.nil⟩
 .rw[Vd]at hall
  have hlm:len<=m:=by rw[hm];split<;>omega
  obtain⟨xs,hx,hs⟩:=Kd (C:=StrC) (n:=1) (a:=a) (len:=len) StrC.holds (by omega) (by omega) (λi hi=>by
   obtain⟨cs',h1,h2⟩:=hall i (by omega);obtain⟨_,hl',hcell⟩:=World.cells?_some h1;obtain⟨s,rfl,_,hs⟩:=DataW.trod_string underlying9 h2
   exact⟨s,[.string s],rfl,hcell,rfl,hs⟩)
  subst hx;exact⟨some a,xs,cap,hc,hs⟩
theorem qR{fuel:Nat}{cs:List Value}{y:DataW H×List MemPlace}(h:DataW.trod enc prog w base spare held fuel 155 cs=some y):cs.length=2/\∃x:Lik,LikC 0 w (λj=>cs[j]?) x:=by
 obtain⟨hl,n,HP⟩:=qK underlying155 h;rw[qO]at hl;refine⟨hl,?_⟩;obtain⟨c0,c1,rfl⟩:=yE hl;obtain⟨⟨_,h0⟩,⟨_,h1⟩⟩:=HP;simp only[aW,Vd]at h0 h1;obtain⟨v0,e0,_,s0⟩:=DataW.trod_string underlying9 h0;obtain⟨v1,e1,_,_⟩:=DataW.trod_int underlying3 h1;simp at e0 e1;subst e0 e1;exact⟨⟨v0,v1⟩,rfl,rfl,s0⟩
theorem mV{fuel:Nat}{cs:List Value}{y:DataW H×List MemPlace}(h:DataW.trod enc prog w base spare held fuel 85 cs=some y):∃a xs cap,cs=[.slice a xs.length cap]/\SliceC LikC 2 0 w a xs:=by
 rcases Go.Deep.open_slice underlying85 h with⟨hc,_⟩|⟨a,len,cap,m,n',D,Pl,hc,_,hl,hcm,hm,_,hall⟩
 .exact⟨none,[],0,hc,SliceC.nil⟩
 .rw[qO]at hall
  have hlm:len<=m:=by rw[hm];split<;>omega
  obtain⟨xs,hx,hs⟩:=Kd (C:=LikC) (n:=2) (a:=a) (len:=len) LikC.holds (by omega) (by omega) (λi hi=>by
   obtain⟨cs',h1,h2⟩:=hall i (by omega);obtain⟨_,hl',hcell⟩:=World.cells?_some h1;obtain⟨_,x,hx⟩:=qR h2
   exact⟨x,cs',hl',hcell,hx⟩)
  subst hx;exact⟨some a,xs,cap,hc,hs⟩
theorem tV{fuel:Nat}{cs:List Value}{y:DataW H×List MemPlace}(h:DataW.trod enc prog w base spare held fuel 83 cs=some y):cs.length=2/\∃x:Svc,SvcC 0 w (λj=>cs[j]?) x:=by
 obtain⟨hl,n,HP⟩:=qK underlying83 h;rw[rT]at hl;refine⟨hl,?_⟩;obtain⟨c0,c1,rfl⟩:=yE hl;obtain⟨⟨_,h0⟩,⟨_,h1⟩⟩:=HP;simp only[aW,Vd]at h0 h1;obtain⟨v0,e0,_,s0⟩:=DataW.trod_string underlying9 h0;obtain⟨v1,e1,_,_⟩:=DataW.trod_int underlying3 h1;simp at e0 e1;subst e0 e1;exact⟨⟨v0,v1⟩,rfl,rfl,s0⟩
theorem oO{fuel:Nat}{cs:List Value}{y:DataW H×List MemPlace}(h:DataW.trod enc prog w base spare held fuel 23 cs=some y):∃a xs cap,cs=[.slice a xs.length cap]/\SliceC SvcC 2 0 w a xs:=by
 rcases Go.Deep.open_slice underlying23 h with⟨hc,_⟩|⟨a,len,cap,m,n',D,Pl,hc,_,hl,hcm,hm,_,hall⟩
 .exact⟨none,[],0,hc,SliceC.nil⟩
 .rw[rT]at hall
  have hlm:len<=m:=by rw[hm];split<;>omega
  obtain⟨xs,hx,hs⟩:=Kd (C:=SvcC) (n:=2) (a:=a) (len:=len) SvcC.holds (by omega) (by omega) (λi hi=>by
   obtain⟨cs',h1,h2⟩:=hall i (by omega);obtain⟨_,hl',hcell⟩:=World.cells?_some h1;obtain⟨_,x,hx⟩:=tV h2
   exact⟨x,cs',hl',hcell,hx⟩)
  subst hx;exact⟨some a,xs,cap,hc,hs⟩
theorem uI{fuel:Nat}{cs:List Value}{y:DataW H×List MemPlace}(h:DataW.trod enc prog w base spare held fuel 80 cs=some y):cs.length=6/\∃x:Brt,BrtC 0 w (λj=>cs[j]?) x:=by
 obtain⟨hl,n,HP⟩:=yL underlying80 h;rw[qI]at hl;refine⟨hl,?_⟩;obtain⟨c0,c1,c2,c3,c4,c5,rfl⟩:=BI hl;obtain⟨⟨_,h0⟩,⟨_,h1⟩,⟨_,h2⟩,⟨_,h3⟩,⟨_,h4⟩,⟨_,h5⟩⟩:=HP;simp only[lK,aW,vX,Vd]at h0 h1 h2 h3 h4 h5;obtain⟨v0,e0,_,s0⟩:=DataW.trod_string underlying9 h0;obtain⟨v1,e1,_,s1⟩:=DataW.trod_string underlying9 h1;obtain⟨a2,v2,p2,e2,s2⟩:=pF h2;obtain⟨v3,e3,_,_⟩:=DataW.trod_int underlying3 h3;obtain⟨v4,e4,_,_⟩:=DataW.trod_int underlying3 h4;obtain⟨v5,e5,_⟩:=DataW.trod_bool underlying4 h5;simp at e0 e1 e2 e3 e4 e5;subst e0 e1 e2 e3 e4 e5;exact⟨⟨v0,v1,v2,v3,v4,v5⟩,a2,p2,rfl,rfl,rfl,rfl,rfl,rfl,s0,s1,s2⟩
theorem nW{fuel:Nat}{cs:List Value}{y:DataW H×List MemPlace}(h:DataW.trod enc prog w base spare held fuel 22 cs=some y):∃a xs cap,cs=[.slice a xs.length cap]/\SliceC BrtC 6 0 w a xs:=by
 rcases Go.Deep.open_slice underlying22 h with⟨hc,_⟩|⟨a,len,cap,m,n',D,Pl,hc,_,hl,hcm,hm,_,hall⟩
 .exact⟨none,[],0,hc,SliceC.nil⟩
 .rw[qI]at hall
  have hlm:len<=m:=by rw[hm];split<;>omega
  obtain⟨xs,hx,hs⟩:=Kd (C:=BrtC) (n:=6) (a:=a) (len:=len) BrtC.holds (by omega) (by omega) (λi hi=>by
   obtain⟨cs',h1,h2⟩:=hall i (by omega);obtain⟨_,hl',hcell⟩:=World.cells?_some h1;obtain⟨_,x,hx⟩:=uI h2
   exact⟨x,cs',hl',hcell,hx⟩)
  subst hx;exact⟨some a,xs,cap,hc,hs⟩
theorem sU{fuel:Nat}{cs:List Value}{y:DataW H×List MemPlace}(h:DataW.trod enc prog w base spare held fuel 87 cs=some y):cs.length=12/\∃x:Cpy,CpyC 0 w (λj=>cs[j]?) x:=by
 obtain⟨hl,n,HP⟩:=vW underlying87 h;rw[qT]at hl;refine⟨hl,?_⟩;obtain⟨c0,c1,c2,c3,c4,c5,c6,c7,c8,c9,c10,c11,rfl⟩:=AD hl;obtain⟨⟨_,h0⟩,⟨_,h1⟩,⟨_,h2⟩,⟨_,h3⟩,⟨_,h4⟩,⟨_,h5⟩,⟨_,h6⟩,⟨_,h7⟩,⟨_,h8⟩,⟨_,h9⟩,⟨_,h10⟩,⟨_,h11⟩⟩:=HP;simp only[aW,vJ,Vd]at h0 h1 h2 h3 h4 h5 h6 h7 h8 h9 h10 h11;obtain⟨v0,e0,_,s0⟩:=DataW.trod_string underlying9 h0;obtain⟨v1,e1,_,s1⟩:=DataW.trod_string underlying9 h1;obtain⟨v2,e2,_,_⟩:=DataW.trod_int underlying3 h2;obtain⟨v3,e3,_,_⟩:=DataW.trod_int underlying3 h3;obtain⟨v4,e4,_,_⟩:=DataW.trod_int underlying3 h4;obtain⟨v5,e5,_,_⟩:=DataW.trod_int underlying3 h5;obtain⟨v6,e6,_,s6⟩:=DataW.trod_string underlying9 h6;obtain⟨a7,v7,p7,e7,s7⟩:=mV h7;obtain⟨v8,e8,_,_⟩:=DataW.trod_int underlying3 h8;obtain⟨v9,e9,_,s9⟩:=DataW.trod_string underlying9 h9;obtain⟨v10,e10,_,s10⟩:=DataW.trod_string underlying9 h10;obtain⟨v11,e11,_,s11⟩:=DataW.trod_string underlying9 h11;simp at e0 e1 e2 e3 e4 e5 e6 e7 e8 e9 e10 e11;subst e0 e1 e2 e3 e4 e5 e6 e7 e8 e9 e10 e11;exact⟨⟨v0,v1,v2,v3,v4,v5,v6,v7,v8,v9,v10,v11⟩,a7,p7,rfl,rfl,rfl,rfl,rfl,rfl,rfl,rfl,rfl,rfl,rfl,rfl,s0,s1,s6,s9,s10,s11,s7⟩
theorem qB{fuel:Nat}{cs:List Value}{y:DataW H×List MemPlace}(h:DataW.trod enc prog w base spare held fuel 24 cs=some y):∃a xs cap,cs=[.slice a xs.length cap]/\SliceC CpyC 12 0 w a xs:=by
 rcases Go.Deep.open_slice underlying24 h with⟨hc,_⟩|⟨a,len,cap,m,n',D,Pl,hc,_,hl,hcm,hm,_,hall⟩
 .exact⟨none,[],0,hc,SliceC.nil⟩
 .rw[qT]at hall
  have hlm:len<=m:=by rw[hm];split<;>omega
  obtain⟨xs,hx,hs⟩:=Kd (C:=CpyC) (n:=12) (a:=a) (len:=len) CpyC.holds (by omega) (by omega) (λi hi=>by
   obtain⟨cs',h1,h2⟩:=hall i (by omega);obtain⟨_,hl',hcell⟩:=World.cells?_some h1;obtain⟨_,x,hx⟩:=sU h2
   exact⟨x,cs',hl',hcell,hx⟩)
  subst hx;exact⟨some a,xs,cap,hc,hs⟩
theorem sK{fuel:Nat}{cs:List Value}{y:DataW H×List MemPlace}(h:DataW.trod enc prog w base spare held fuel 26 cs=some y):cs.length=4/\∃x:Flt,FltC 0 w (λj=>cs[j]?) x:=by
 obtain⟨hl,n,HP⟩:=zZ underlying26 h;rw[yV]at hl;refine⟨hl,?_⟩;obtain⟨c0,c1,c2,c3,rfl⟩:=xV hl;obtain⟨⟨_,h0⟩,⟨_,h1⟩,⟨_,h2⟩,⟨_,h3⟩⟩:=HP;simp only[lK,uU,vL,xK]at h0 h1 h2 h3;obtain⟨v0,e0,_⟩:=DataW.trod_bool underlying4 h0;obtain⟨a1,v1,p1,e1,s1⟩:=nW h1;obtain⟨a2,v2,p2,e2,s2⟩:=oO h2;obtain⟨a3,v3,p3,e3,s3⟩:=qB h3;simp at e0 e1 e2 e3;subst e0 e1 e2 e3;exact⟨⟨v0,v1,v2,v3⟩,a1,p1,a2,p2,a3,p3,rfl,rfl,rfl,rfl,s1,s2,s3⟩
end
end Go.Proofs.YtpidfnfilnkhkaaGreat
