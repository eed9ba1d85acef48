import Derived.Test.YtpidfnfilnkhkaaGreatJ31
set_option maxHeartbeats 4000000
set_option maxRecDepth 100000
namespace Go.Proofs.YtpidfnfilnkhkaaGreat
open Go.RowKit Go.WideMaps Go.Maps Tryz
theorem dS{cs:List Cpy}{g:BA}(h:0<=Ei cs g):∃n c,Ei cs g=((n:Nat):Int)/\cs[n]?=some c:=by
 unfold Ei at h⊢
 cases e:cs.findIdx? (λb=>decide (b.name=g))with
 |none=>rw[e]at h;simp at h
 |some k =>
  rw[List.findIdx?_eq_some_iff_getElem]at e;obtain⟨hk,_⟩:=e;exact⟨k,cs[k],rfl,gE hk⟩
theorem FltIn.drew{b:Nat}{x:Flt}{a1:OA}{c1:Nat}{a2:OA}{c2:Nat}{a3:OA}{c3:Nat}{w:World}(h:FltIn b x a1 c1 a2 c2 a3 c3 w):FltIn b x a1 c1 a2 c2 a3 c3 w.drew:=by
 obtain⟨h0,h1,h2,h3⟩:=h;exact⟨by simpa using h0,by simpa using h1,by simpa using h2,by simpa using h3⟩
def zR(b:Nat)(x:Flt)(a1:OA)(c1:Nat)(a2:OA)(c2:Nat)(a3:OA)(c3:Nat)(sb so:Nat)(g:BA)(w:World):Prop:=FltIn b x a1 c1 a2 c2 a3 c3 w/\w.cell? ⟨sb,so,none⟩=some (.string g)
def Pe(b:Nat)(x:Flt)(a1:OA)(c1:Nat)(a2:OA)(c2:Nat)(a3:OA)(c3:Nat)(sb so:Nat)(g:BA)(cb co:Nat)(cs:BA)(vb vo:Nat)(vs:BA)(w:World):Prop:=FltIn b x a1 c1 a2 c2 a3 c3 w/\w.cell? ⟨sb,so,none⟩=some (.string g)/\w.cell? ⟨cb,co,none⟩=some (.string cs)/\w.cell? ⟨vb,vo,none⟩=some (.string vs)
theorem MayA.step{x:Flt}{gone:List BA}{k:Nat}{g:BA}(h:MayA x gone k)(hg:gone[k]?=some g)(h1:0<=Ei x.copies g/\∃c,x.copies[(Ei x.copies g).toNat]?=some c/\¬c.at_=⟨#[]⟩)(h2:∀(m:Nat) (s:BA),k=m+1->gone[m]?=some s->Op.bytesLess s.toList g.toList=true):MayA x gone (k+1):=by
 refine⟨λj g' hj hg'=>?_,λj s t hj hs ht=>?_⟩
 .by_cases e:j=k
  .subst e
   rw[hg]at hg';cases hg'
   exact h1
  .exact h.1 j g' (by omega) hg'
 .by_cases e:j+1=k
  .rw[e,hg]at ht
   cases ht
   exact h2 j s e.symm hs
  .exact h.2 j s t (by omega) hs ht
theorem MayC.step{x:Flt}{gone:List BA}{s:Nat}{y:Svc}(h:MayC x gone s)(hy:x.services[s]?=some y)(h1:0<Bp (goS x gone y.name) gone.length->((Bp (goS x gone y.name) gone.length:Nat):Int)<=y.spare-(Bp (Lq x y.name) x.copies.length:Nat)):MayC x gone (s+1):=by
 intro t z ht hz h0;by_cases e:t=s
 .subst e
  rw[hy]at hz;cases hz
  exact h1 h0
 .exact h t z (by omega) hz h0
theorem dP(x:Flt)(a1:OA)(c1:Nat)(a2:OA)(c2:Nat)(a3:OA)(c3:Nat)(lo:Nat)(gone:List BA)(ga:OA)(gc lo2:Nat)(w:World)(n2:SliceC SvcC 2 lo w a2 x.services)(n3:SliceC CpyC 12 lo w a3 x.copies)(hg:SliceC StrC 1 lo2 w ga gone)(hsm:gone.length<=1048576)(l2:x.services.length<=30)(l3:x.copies.length<=60)(hsp:∀(k:Nat) (y:Svc),x.services[k]?=some y->0<=y.spare/\y.spare<=60) :
  Calls prog 47 #[.agg (ffA x a1 c1 a2 c2 a3 c3),.slice ga gone.length gc] w λe w'=>CD e (May x gone)/\Below w.heap.size w w':=by
 have N2:=iH n2;have N3:=iH n3;have HG:=iH hg;have HSP:=iH hsp;clear n2 n3 hg hsp;go_enter func47,ntmps47;go_wp2_with fail;have HF0:Hid (FltIn w.heap.size x a1 c1 a2 c2 a3 c3 (w.alloc (Obj.cells (ffA x a1 c1 a2 c2 a3 c3) 35))):=⟨by simp,by simp,by simp,by simp⟩;go_loopw [5] (λi wr=>∃(k:Nat),k<=gone.length/\i=.int .i64 k/\Hid (FltIn w.heap.size x a1 c1 a2 c2 a3 c3 wr)/\Hid (MayA x gone k)/\Hid (Below w.heap.size w wr)) (λi _=>gone.length-(intOf i).toNat)
 case atStart=>exact⟨0,zL,rfl,HF0,⟨λj g h=>absurd h (Nat.not_lt_zero _),λj s t h=>absurd h (Nat.not_lt_zero _)⟩,by show Below _ _ _;go_grown⟩
 case round =>
  clear HF0;obtain⟨k,hk,rfl,hF,hA,hB⟩:=hrel;by_cases hlt:k<gone.length
  .obtain⟨g,hgk⟩:=gXe hlt
   obtain⟨b,o,rfl,_,_,hc⟩:=(HG.out.below StrC.holds hB.out nL).at hgk;obtain⟨r0,_⟩:=hc;simp only[Nat.mul_one,Nat.add_zero]at r0;have HX:=iH hgk;have HC0:=iH r0;have hbl:w.heap.size<wr.heap.size:=block_lt_of_cell hF.out.1;clear hgk r0;go_upto_region 4 with fail;refine wp_region_held_drew (S:=zR w.heap.size x a1 c1 a2 c2 a3 c3 b (o+k) g) (by kernel_rfl) ⟨hF.out.drew,by simpa using HC0.out⟩ (λhS=>?_);refine x8 0 18 (.agg (ffA x a1 c1 a2 c2 a3 c3)) ?_;refine x8 1 19 (.slice (some ⟨b,o,none⟩) gone.length gc) ?_;refine x8 2 20 (.int .i64 (k:Int)) ?_;refine x8 3 21 (.pointer (some ⟨b,o+k,none⟩)) ?_;refine x8 4 22 (.string g) ?_;refine rd1 5 ⟨some 23,_,_,_,_,none⟩ rfl (λK hK=>?_);go_simp;refine(Il x a1 c1 a2 c2 a3 c3 lo g _ (N3.out.below CpyC.holds hB.out.drew nL) (by omega)).mono ?_;rintro e w5⟨rfl,hb5⟩;have hd5:Below wr.heap.size wr w5:=(Below.refl _ wr).drew.trans hb5;have HB5:=qTH hB hd5;have HF5:Hid (FltIn w.heap.size x a1 c1 a2 c2 a3 c3 w5):=hF.out.below hd5 hbl;have r0:w5.cell? ⟨b,o+k,none⟩=some (.string g):=(hd5.cell (p:=⟨b,o+k,none⟩) (block_lt_of_cell HC0)).trans HC0;refine hK.out _ _ ⟨HF5,r0⟩ (λhS=>?_);clear hK K hb5 hd5;refine x8 6 6 (.int .i64 (Ei x.copies g)) ?_;refine td ?_;clear hS;obtain⟨f0,f1,f2,f3⟩:=HF5.out;generalize hI:Ei x.copies g=I at *;by_cases hneg:I<0
   .have HN:Hid (¬May x gone):=by
     intro h;have:=(h.1.1 k g hlt HX).1;omega
    clear hI;go_wp2_with fail
    go_region
    go_wp2
    go_ret;exact⟨⟨false,rfl,⟨(λh=>by cases h),(λh=>absurd h HN)⟩⟩,by have:=HB5.out;go_grown⟩
   .obtain⟨n,y,hn,hy⟩:=dS (cs:=x.copies) (g:=g) (by rw[hI];omega)
    have hIn:I=(n:Int):=hI.symm.trans hn;subst hIn;have HI:=iH hI;have HY:=iH hy;have hnl:n<x.copies.length:=Ac hy;obtain⟨b3,o3,rfl,_,_,hc⟩:=(N3.out.below CpyC.holds HB5 nL).at hy;obtain⟨a7,c7,q0,q1,q2,q3,q4,q5,q6,q7,q8,q9,q10,q11,z0,z1,z6,z9,z10,z11,z7⟩:=hc;clear hn hI hy q0 q1 q2 q3 q4 q5 q6 q7 q8 q9 q10 z0 z1 z6 z9 z10 z11 z7;by_cases hat:y.at_=⟨#[]⟩
    .have HN:Hid (¬May x gone):=by
      intro h;obtain⟨_,c,h1,h2⟩:=h.1.1 k g hlt HX;rw[HI.out,Int.toNat_natCast,HY.out]at h1;cases h1
      exact h2 hat
     have hte:=Bj hat;have hte2:y.at_.toList.isEmpty=true:=by rw[hte];rfl
     clear hat;go_wp2_with fail;refine wp_region_held_drew (S:=Pe w.heap.size x a1 c1 a2 c2 (some ⟨b3,o3,none⟩) c3 b (o+k) g b3 (o3+n*12+11) y.at_ b (o+k) g) (by kernel_rfl) ⟨HF5.out.drew,by simpa using r0,by simpa using q11,by simpa using r0⟩ (λhS=>?_);refine x0 0 24 (.int .i64 (n:Int)) ?_;refine x0 1 25 (.bool false) ?_;refine x0 2 26 (.bool false) ?_;refine x0 3 27 (.pointer (some ⟨w.heap.size,3,none⟩)) ?_;refine x0 4 28 (.slice (some ⟨b3,o3,none⟩) x.copies.length c3) ?_;refine x0 5 29 (.int .i64 (n:Int)) ?_;refine x0 6 30 (.pointer (some ⟨b3,o3+n*12,none⟩)) ?_;refine x0 7 31 (.pointer (some ⟨b3,o3+n*12+11,none⟩)) ?_;refine x0 8 32 (.string y.at_) ?_;refine x0 9 33 (.bool true) ?_;refine x0 10 34 (.bool true) ?_;refine x0 11 35 (.bool true) ?_;refine ts 12 36 ?_;refine ts 13 37 ?_;refine ts 14 38 ?_;refine ts 15 39 ?_;refine ts 16 40 ?_;refine ts 17 41 ?_;refine ts 18 42 ?_;refine ts 19 43 ?_;refine ts 20 44 ?_;refine ts 21 45 ?_;refine ts 22 46 ?_;refine ts 23 47 ?_;refine ts 24 48 ?_;refine ts 25 49 ?_;refine x0 26 50 (.bool true) ?_;refine td ?_;clear hS
     go_wp2
     go_ret;exact⟨⟨false,rfl,⟨(λh=>by cases h),(λh=>absurd h HN)⟩⟩,by have:=HB5.out;go_grown⟩
    .have hte:=Ay hat
     have hte2:y.at_.toList.isEmpty=false:=by
      try unfold ffA
      cases h:y.at_.toList with
      |nil=>exact absurd h hte
      |cons a l=>rfl
     have HK:Hid (0<=Ei x.copies g/\∃c,x.copies[(Ei x.copies g).toNat]?=some c/\¬c.at_=⟨#[]⟩):=⟨by rw[HI.out];omega,y,by rw[HI.out,Int.toNat_natCast];exact HY.out,hat⟩;clear hat
     cases k with
     |zero =>
      have r0':w5.cell? ⟨b,o,none⟩=some (.string g):=by simpa using r0
      go_wp2_with fail;refine wp_region_held_drew (S:=Pe w.heap.size x a1 c1 a2 c2 (some ⟨b3,o3,none⟩) c3 b (o) g b3 (o3+n*12+11) y.at_ b (o) g) (by kernel_rfl) ⟨HF5.out.drew,by simpa using r0',by simpa using q11,by simpa using r0'⟩ (λhS=>?_);refine x0 0 24 (.int .i64 (n:Int)) ?_;refine x0 1 25 (.bool false) ?_;refine x0 2 26 (.bool false) ?_;refine x0 3 27 (.pointer (some ⟨w.heap.size,3,none⟩)) ?_;refine x0 4 28 (.slice (some ⟨b3,o3,none⟩) x.copies.length c3) ?_;refine x0 5 29 (.int .i64 (n:Int)) ?_;refine x0 6 30 (.pointer (some ⟨b3,o3+n*12,none⟩)) ?_;refine x0 7 31 (.pointer (some ⟨b3,o3+n*12+11,none⟩)) ?_;refine x0 8 32 (.string y.at_) ?_;refine x0 9 33 (.bool false) ?_;refine x0 10 34 (.bool false) ?_;refine x0 11 35 (.bool false) ?_;refine x0 12 36 (.int .i64 ((0:Nat):Int)) ?_;refine x0 13 37 (.bool false) ?_;refine x0 14 38 (.bool false) ?_;refine ts 15 39 ?_;refine ts 16 40 ?_;refine ts 17 41 ?_;refine ts 18 42 ?_;refine ts 19 43 ?_;refine ts 20 44 ?_;refine ts 21 45 ?_;refine ts 22 46 ?_;refine ts 23 47 ?_;refine ts 24 48 ?_;refine x0 25 49 (.bool false) ?_;refine x0 26 50 (.bool false) ?_;refine td ?_;clear hS
      go_wp2
      go_roundw
      case rel=>exact⟨0+1,by omega,by go_num,HF5.out.drew,hA.out.step HX HK (λm s e _=>by omega),HB5.out.drew⟩
      case measure=>simp[intOf];omega
     | succ m =>
      obtain⟨t,ht⟩:∃t,gone[m]?=some t:=⟨gone[m],gE (by omega)⟩;have r1:w5.cell? ⟨b,o+m,none⟩=some (.string t):=by
       obtain⟨b4,o4,e,_,_,hc4⟩:=(HG.out.below StrC.holds HB5 nL).at ht;cases e
       have:=hc4.1;simpa only[Nat.mul_one,Nat.add_zero]using this
      have HT:=iH ht;clear ht
      cases hbl2:Op.bytesLess t.toList g.toList with
      | false =>
       have HN:Hid (¬May x gone):=by
        intro h;have:=h.1.2 m t g hlt HT HX;rw[hbl2]at this;cases this
       go_wp2_with fail;refine wp_region_held_drew (S:=Pe w.heap.size x a1 c1 a2 c2 (some ⟨b3,o3,none⟩) c3 b (o+(m+1)) g b3 (o3+n*12+11) y.at_ b (o+m) t) (by kernel_rfl) ⟨HF5.out.drew,by simpa using r0,by simpa using q11,by simpa using r1⟩ (λhS=>?_);refine x0 0 24 (.int .i64 (n:Int)) ?_;refine x0 1 25 (.bool false) ?_;refine x0 2 26 (.bool false) ?_;refine x0 3 27 (.pointer (some ⟨w.heap.size,3,none⟩)) ?_;refine x0 4 28 (.slice (some ⟨b3,o3,none⟩) x.copies.length c3) ?_;refine x0 5 29 (.int .i64 (n:Int)) ?_;refine x0 6 30 (.pointer (some ⟨b3,o3+n*12,none⟩)) ?_;refine x0 7 31 (.pointer (some ⟨b3,o3+n*12+11,none⟩)) ?_;refine x0 8 32 (.string y.at_) ?_;refine x0 9 33 (.bool false) ?_;refine x0 10 34 (.bool false) ?_;refine x0 11 35 (.bool false) ?_;refine x0 12 36 (.int .i64 ((m+1:Nat):Int)) ?_;refine x0 13 37 (.bool true) ?_;refine x0 14 38 (.bool true) ?_;refine x0 15 39 (.slice (some ⟨b,o,none⟩) gone.length gc) ?_;refine x0 16 40 (.int .i64 ((m+1:Nat):Int)) ?_;refine ty 17 ⟨some 41,_,_,_,_,some (14,true)⟩ (.int .i64 (m:Int)) ?_ ?_
       .intro wy hy
        obtain⟨⟨y0,y1,y2,y3⟩,yr,yc,yv⟩:=hy;go_simp;rw[IntKind.wrap_i64];omega
       refine x9 18 42 (.pointer (some ⟨b,o+m,none⟩)) ?_;refine x0 19 43 (.string t) ?_;refine x0 20 44 (.slice (some ⟨b,o,none⟩) gone.length gc) ?_;refine x0 21 45 (.int .i64 ((m+1:Nat):Int)) ?_;refine x9 22 46 (.pointer (some ⟨b,o+(m+1),none⟩)) ?_;refine x0 23 47 (.string g) ?_;refine x0 24 48 (.bool true) ?_;refine x0 25 49 (.bool true) ?_;refine x0 26 50 (.bool true) ?_;refine td ?_;clear hS
       go_wp2
       go_ret;exact⟨⟨false,rfl,⟨(λh=>by cases h),(λh=>absurd h HN)⟩⟩,by have:=HB5.out;go_grown⟩
      | true =>
       have HS:Hid (∀(m':Nat)(s:BA),m+1=m'+1->gone[m']?=some s->Op.bytesLess s.toList g.toList=true):=by
        intro m' s e hs;have:m'=m:=by omega
        subst this;rw[HT.out]at hs;cases hs
        exact hbl2
       go_wp2_with fail;refine wp_region_held_drew (S:=Pe w.heap.size x a1 c1 a2 c2 (some ⟨b3,o3,none⟩) c3 b (o+(m+1)) g b3 (o3+n*12+11) y.at_ b (o+m) t) (by kernel_rfl) ⟨HF5.out.drew,by simpa using r0,by simpa using q11,by simpa using r1⟩ (λhS=>?_);refine x0 0 24 (.int .i64 (n:Int)) ?_;refine x0 1 25 (.bool false) ?_;refine x0 2 26 (.bool false) ?_;refine x0 3 27 (.pointer (some ⟨w.heap.size,3,none⟩)) ?_;refine x0 4 28 (.slice (some ⟨b3,o3,none⟩) x.copies.length c3) ?_;refine x0 5 29 (.int .i64 (n:Int)) ?_;refine x0 6 30 (.pointer (some ⟨b3,o3+n*12,none⟩)) ?_;refine x0 7 31 (.pointer (some ⟨b3,o3+n*12+11,none⟩)) ?_;refine x0 8 32 (.string y.at_) ?_;refine x0 9 33 (.bool false) ?_;refine x0 10 34 (.bool false) ?_;refine x0 11 35 (.bool false) ?_;refine x0 12 36 (.int .i64 ((m+1:Nat):Int)) ?_;refine x0 13 37 (.bool true) ?_;refine x0 14 38 (.bool true) ?_;refine x0 15 39 (.slice (some ⟨b,o,none⟩) gone.length gc) ?_;refine x0 16 40 (.int .i64 ((m+1:Nat):Int)) ?_;refine ty 17 ⟨some 41,_,_,_,_,some (14,true)⟩ (.int .i64 (m:Int)) ?_ ?_
       .intro wy hy
        obtain⟨⟨y0,y1,y2,y3⟩,yr,yc,yv⟩:=hy;go_simp;rw[IntKind.wrap_i64];omega
       refine x9 18 42 (.pointer (some ⟨b,o+m,none⟩)) ?_;refine x0 19 43 (.string t) ?_;refine x0 20 44 (.slice (some ⟨b,o,none⟩) gone.length gc) ?_;refine x0 21 45 (.int .i64 ((m+1:Nat):Int)) ?_;refine x9 22 46 (.pointer (some ⟨b,o+(m+1),none⟩)) ?_;refine x0 23 47 (.string g) ?_;refine x0 24 48 (.bool false) ?_;refine x0 25 49 (.bool false) ?_;refine x0 26 50 (.bool false) ?_;refine td ?_;clear hS
       go_wp2
       go_roundw
       case rel=>exact⟨m+1+1,by omega,by go_num,HF5.out.drew,hA.out.step HX HK HS,HB5.out.drew⟩
       case measure=>simp[intOf];omega
  ·have hke:k=gone.length:=by omega
   subst hke;have HA:=iH hA.out
   go_wp2
   go_loopw [7] (λi wr=>∃(s:Nat),s<=x.services.length/\i=.int .i64 s/\Hid (FltIn w.heap.size x a1 c1 a2 c2 a3 c3 wr)/\Hid (MayC x gone s)/\Hid (Below w.heap.size w wr)) (λi _=>x.services.length-(intOf i).toNat)
   case atStart=>exact⟨0,zL,rfl,hF,λs y h=>absurd h (Nat.not_lt_zero _),hB⟩
   case round =>
    clear hF hB hA;obtain⟨s,hs,rfl,hF,hC,hB⟩:=hrel;obtain⟨f0,f1,f2,f3⟩:=hF.out;by_cases hlt2:s<x.services.length
    .obtain⟨y,hy⟩:=gXe hlt2
     have HY:=iH hy;obtain⟨b2,o2,rfl,_,_,hc⟩:=(N2.out.below SvcC.holds hB.out nL).at hy;obtain⟨q0,q1,_⟩:=hc;simp only[Nat.add_zero]at q0;have HV:=iH (HSP s y hy);clear hy
     go_wp2
     go_loopw [8,10] (λl i wr=>∃(k:Nat)(M:Int),k<=x.copies.length/\i=.int .i64 k/\l=.int .i64 M/\-60<=M/\M<=60/\Hid (M=y.spare-(Bp (Lq x y.name) k:Nat))/\Hid (FltIn w.heap.size x a1 c1 (some ⟨b2,o2,none⟩) c2 a3 c3 wr)/\Hid (Below w.heap.size w wr)) (λ_ i _=>x.copies.length-(intOf i).toNat)
     case atStart =>
      have h1:=HV.out;exact⟨0,y.spare,zL,rfl,rfl,by omega,by omega,by show _=_;simp[Bp],hF,hB⟩
     case round =>
      clear hF hB f0 f1 f2 f3 q0 q1;obtain⟨k,M,hk,rfl,rfl,hM0,hM1,hM,hF,hB⟩:=hrel;obtain⟨f0,f1,f2,f3⟩:=hF.out;by_cases hlt3:k<x.copies.length
      .obtain⟨c,hc⟩:=gXe hlt3
       have HC:=iH hc;have q0:wr.cell? ⟨b2,o2+s*2,none⟩=some (.string y.name):=by
        obtain⟨b4,o4,e,_,_,hc4⟩:=(N2.out.below SvcC.holds hB.out nL).at HY;cases e
        have:=hc4.1;simpa only[Nat.add_zero]using this
       obtain⟨b3,o3,rfl,_,_,hcc⟩:=(N3.out.below CpyC.holds hB.out nL).at hc;obtain⟨a7,c7,_,p1,_,_,_,_,_,_,_,_,_,p11,_,_,_,_,_,_,_⟩:=hcc;clear hc;by_cases hsv:c.service=y.name
       .have hsb:=Br hsv
        by_cases hat:c.at_=⟨#[]⟩
        .have HW:Hid (Lq x y.name k=true):=by show _=_;unfold Lq;rw[HC.out];simp[hsv,hat]
         have hte:=Bj hat;have hte2:c.at_.toList.isEmpty=true:=by rw[hte];rfl
         have HBD:Hid (-60<=M-1):=by
          have h1:=HV.out;have h2:=Jw (Lq x y.name) (k+1);have h3:=hM.out;rw[Gr HW.out]at h2;show _<=_
          omega
         clear hsv hat;go_wp2_with fail
         go_region
         go_wp2
         go_roundw
         case rel=>exact⟨k+1,M-1,by omega,by go_num,rfl,HBD,by omega,by show _=_;rw[Gr HW.out,hM.out];omega,hF.out.drew,hB.out.drew⟩
         case measure=>simp[intOf];omega
        .have HW:Hid (Lq x y.name k=false):=by show _=_;unfold Lq;rw[HC.out];simp[hat]
         have hte:=Ay hat;have hte2:c.at_.toList.isEmpty=false:=by
          cases h:c.at_.toList with
          |nil=>exact absurd h hte
          |cons a l=>rfl
         clear hsv hat;go_wp2_with fail
         go_region
         go_wp2
         go_roundw
         case rel=>exact⟨k+1,M,by omega,by go_num,rfl,by omega,by omega,by show _=_;rw[Ii HW.out,hM.out],hF.out.drew,hB.out.drew⟩
         case measure=>simp[intOf];omega
       .have hsb:=Bu hsv
        have HW:Hid (Lq x y.name k=false):=by show _=_;unfold Lq;rw[HC.out];simp[hsv]
        clear hsv;go_wp2_with fail
        go_region
        go_wp2
        go_roundw
        case rel=>exact⟨k+1,M,by omega,by go_num,rfl,by omega,by omega,by show _=_;rw[Ii HW.out,hM.out],hF.out.drew,hB.out.drew⟩
        case measure=>simp[intOf];omega
      .have hke:k=x.copies.length:=by omega
       subst hke
       go_wp2
       go_loopw [9,11] (λl i wr=>∃(k:Nat)(G:Int),k<=gone.length/\i=.int .i64 k/\l=.int .i64 G/\0<=G/\G<=1048576/\Hid (G=(Bp (goS x gone y.name) k:Nat))/\Hid (FltIn w.heap.size x a1 c1 (some ⟨b2,o2,none⟩) c2 a3 c3 wr)/\Hid (Below w.heap.size w wr)) (λ_ i _=>gone.length-(intOf i).toNat)
       case atStart=>exact⟨0,0,zL,rfl,rfl,by omega,by omega,rfl,hF,hB⟩
       case round =>
        clear hF hB f0 f1 f2 f3;obtain⟨k,G,hk,rfl,rfl,hG0,hG1,hG,hF,hB⟩:=hrel;by_cases hlt4:k<gone.length
        .obtain⟨g,hgk⟩:=gXe hlt4
         have HX:=iH hgk;obtain⟨n,c0,hn,hcn0⟩:=dS (cs:=x.copies) (g:=g) (HA.out.1 k g hlt4 hgk).1;obtain⟨c,hcn⟩:∃c,x.copies[n]?=some c:=⟨c0,hcn0⟩;have HN:=iH hn;have HC:=iH hcn;have hnl:n<x.copies.length:=Ac hcn;have hbl:w.heap.size<wr.heap.size:=block_lt_of_cell hF.out.1;have HW:Hid (wr.cell? ⟨b2,o2+s*2,none⟩=some (.string y.name)):=by
          obtain⟨b4,o4,e,_,_,hc4⟩:=(N2.out.below SvcC.holds hB.out nL).at HY;cases e
          have:=hc4.1;simp only[Nat.add_zero]at this;exact this
         obtain⟨b,o,rfl,_,_,hcg⟩:=(HG.out.below StrC.holds hB.out nL).at hgk;have HR:Hid (wr.cell? ⟨b,o+k,none⟩=some (.string g)):=by
          have:=hcg.1;simp only[Nat.mul_one,Nat.add_zero]at this;exact this
         obtain⟨b3,o3,rfl,_,_,hcc⟩:=(N3.out.below CpyC.holds hB.out nL).at hcn;obtain⟨a7,c7,_,p1,_,_,_,_,_,_,_,_,_,p11,_,_,_,_,_,_,_⟩:=hcc;have HQ:=iH p1;obtain⟨bb,hbb⟩:∃bb,(c.service.toList==y.name.toList)=bb:=⟨_,rfl⟩;have HT:Hid (goS x gone y.name k=bb):=by
          show _=_
          unfold goS;rw[HX.out];simp only[HN.out,Int.toNat_natCast,HC.out];by_cases e:c.service=y.name
          .rw[Br e]at hbb
           rw[<-hbb];simp[e]
          .rw[Bu e]at hbb
           rw[<-hbb];simp[e]
         clear hgk hn hcn hcn0 hcg p1 p11;go_upto_region 20 with fail;refine wp_region_held_drew (S:=Pe w.heap.size x a1 c1 (some ⟨b2,o2,none⟩) c2 (some ⟨b3,o3,none⟩) c3 b (o+k) g b3 (o3+n*12+1) c.service b2 (o2+s*2) y.name) (by kernel_rfl) ⟨hF.out.drew,by simpa using HR.out,by simpa using HQ.out,by simpa using HW.out⟩ (λhS=>?_);refine x0 0 101 (.pointer (some ⟨w.heap.size,3,none⟩)) ?_;refine x0 1 102 (.slice (some ⟨b3,o3,none⟩) x.copies.length c3) ?_;refine x0 2 103 (.agg (ffA x a1 c1 (some ⟨b2,o2,none⟩) c2 (some ⟨b3,o3,none⟩) c3)) ?_;refine x0 3 104 (.slice (some ⟨b,o,none⟩) gone.length gc) ?_;refine x0 4 105 (.int .i64 (k:Int)) ?_;refine x0 5 106 (.pointer (some ⟨b,o+k,none⟩)) ?_;refine x0 6 107 (.string g) ?_;refine x0 11 112 (.pointer (some ⟨w.heap.size,2,none⟩)) ?_;refine x0 12 113 (.slice (some ⟨b2,o2,none⟩) x.services.length c2) ?_;refine x0 13 114 (.int .i64 (s:Int)) ?_;refine x0 14 115 (.pointer (some ⟨b2,o2+s*2,none⟩)) ?_;refine x0 15 116 (.pointer (some ⟨b2,o2+s*2,none⟩)) ?_;refine x0 16 117 (.string y.name) ?_;refine rd1 7 ⟨some 108,_,_,_,_,none⟩ rfl (λK hK=>?_);go_simp;refine(Il x a1 c1 (some ⟨b2,o2,none⟩) c2 (some ⟨b3,o3,none⟩) c3 lo g _ (N3.out.below CpyC.holds hB.out.drew nL) (by omega)).mono ?_;rintro e w5⟨rfl,hb5⟩;rw[HN.out];have hd5:Below wr.heap.size wr w5:=(Below.refl _ wr).drew.trans hb5;have HB5:=qTH hB hd5;have HF5:Hid (FltIn w.heap.size x a1 c1 (some ⟨b2,o2,none⟩) c2 (some ⟨b3,o3,none⟩) c3 w5):=hF.out.below hd5 hbl;refine hK.out _ _ ⟨HF5,(hd5.cell (p:=⟨b,o+k,none⟩) (block_lt_of_cell HR)).trans HR,(hd5.cell (p:=⟨b3,o3+n*12+1,none⟩) (block_lt_of_cell HQ)).trans HQ,(hd5.cell (p:=⟨b2,o2+s*2,none⟩) (block_lt_of_cell HW)).trans HW⟩ (λhS=>?_);clear hK K hb5 hd5;refine x0 8 109 (.pointer (some ⟨b3,o3+n*12,none⟩)) ?_;refine x0 9 110 (.pointer (some ⟨b3,o3+n*12+1,none⟩)) ?_;refine x0 10 111 (.string c.service) ?_;refine x0 17 118 (.bool bb) ?_;refine td ?_;clear hS
         cases bb with
         |true =>
          go_wp2
          go_roundw
          case rel=>exact⟨k+1,G+1,by omega,by go_num,rfl,by omega,by have h1:=Jw (goS x gone y.name) k;have h2:=hG.out;omega,by show _=_;rw[Gr HT.out,hG.out];omega,HF5,HB5⟩
          case measure=>simp[intOf];omega
         |false =>
          go_wp2
          go_roundw
          case rel=>exact⟨k+1,G,by omega,by go_num,rfl,by omega,by omega,by show _=_;rw[Ii HT.out,hG.out],HF5,HB5⟩
          case measure=>simp[intOf];omega
        .have hke:k=gone.length:=by omega
         subst hke;by_cases hbad:0<G/\M<G
         .have HN:Hid (¬May x gone):=by
           intro h;have h1:=h.2 s y hlt2 HY;have h2:=hG.out;have h3:=hM.out;have h4:=h1 (by omega);omega
          obtain⟨hb1,hb2⟩:=hbad
          go_wp2
          go_ret;exact⟨⟨false,rfl,⟨(λh=>by cases h),(λh=>absurd h HN)⟩⟩,hB.out⟩
         .have HS:Hid (MayC x gone (s+1)):=by
           refine hC.out.step HY (λh0=>?_);have h2:=hG.out;have h3:=hM.out;omega
          by_cases hg0:0<G
          .have hgm:G<=M:=by omega
           clear hbad
           go_wp2
           go_roundw
           case rel=>exact⟨s+1,by omega,by go_num,hF,HS,hB⟩
           case measure=>simp[intOf];omega
          .clear hbad
           go_wp2
           go_roundw
           case rel=>exact⟨s+1,by omega,by go_num,hF,HS,hB⟩
           case measure=>simp[intOf];omega
    .have hse:s=x.services.length:=by omega
     subst hse
     go_wp2
     go_ret;exact⟨⟨true,rfl,⟨λ_=>⟨HA,hC.out⟩,λ_=>rfl⟩⟩,hB.out⟩
end Go.Proofs.YtpidfnfilnkhkaaGreat
