import Derived.Test.YthboopnmbglkjaaGreatJ9
import Derived.Test.YthboopnmbglkjaaGreatCpy
import Derived.Maps.Own
import Derived.Maps.OwnSet
import Derived.Maps.Views
import Derived.Maps.OwnOps
import Derived.Laws.Cover1
set_option maxHeartbeats 2000000
set_option maxRecDepth 100000
namespace Go.Proofs.YthboopnmbglkjaaGreat
open Go.RowKit Tryz
structure Flt where
 pack:Bool
 berths:List Brt
 services:List Svc
 copies:List Cpy
abbrev ffL(x:Flt)(a1:OA)(c1:Nat)(a2:OA)(c2:Nat)(a3:OA)(c3:Nat):List Value:=[.bool x.pack,.slice a1 x.berths.length c1,.slice a2 x.services.length c2,.slice a3 x.copies.length c3]
abbrev ffA(x:Flt)(a1:OA)(c1:Nat)(a2:OA)(c2:Nat)(a3:OA)(c3:Nat):Array Value:=#[.bool x.pack,.slice a1 x.berths.length c1,.slice a2 x.services.length c2,.slice a3 x.copies.length c3]
abbrev wT(x:Flt)(a1:OA)(c1:Nat)(a2:OA)(c2:Nat)(a3:OA)(c3 m1 m2 m3 m4:Nat):List Value:=[.bool x.pack,.slice a1 x.berths.length c1,.slice a2 x.services.length c2,.slice a3 x.copies.length c3,.map (some m1),.map (some m2),.map (some m3),.map (some m4)]
abbrev xB(x:Flt)(a1:OA)(c1:Nat)(a2:OA)(c2:Nat)(a3:OA)(c3 m1 m2 m3 m4:Nat):Array Value:=#[.bool x.pack,.slice a1 x.berths.length c1,.slice a2 x.services.length c2,.slice a3 x.copies.length c3,.map (some m1),.map (some m2),.map (some m3),.map (some m4)]
abbrev fgL(p:Bool)(a1:OA)(n1 c1:Nat)(a2:OA)(n2 c2:Nat)(a3:OA)(n3 c3:Nat):List Value:=[.bool p,.slice a1 n1 c1,.slice a2 n2 c2,.slice a3 n3 c3]
abbrev fgA(p:Bool)(a1:OA)(n1 c1:Nat)(a2:OA)(n2 c2:Nat)(a3:OA)(n3 c3:Nat):Array Value:=#[.bool p,.slice a1 n1 c1,.slice a2 n2 c2,.slice a3 n3 c3]
abbrev FfL:List Value:=[.bool false,.slice none 0 0,.slice none 0 0,.slice none 0 0]
abbrev FfA:Array Value:=#[.bool false,.slice none 0 0,.slice none 0 0,.slice none 0 0]
def Ei(x:Flt):Nat:=(wS Cn x.berths)+(wS Dj x.services)+(wS Cr x.copies)
def FltC:Eh Flt:=λlo w f x=>∃(a1:OA)(c1:Nat)(a2:OA)(c2:Nat)(a3:OA)(c3:Nat),f 0=some (.bool x.pack)/\f 1=some (.slice a1 x.berths.length c1)/\f 2=some (.slice a2 x.services.length c2)/\f 3=some (.slice a3 x.copies.length c3)/\sB lo w a1 x.berths/\sV lo w a2 x.services/\sC lo w a3 x.copies
theorem FltC.holds:Eu FltC 4:=by
 rintro lo lo' w w' f g x h k hl⟨a1,c1,a2,c2,a3,c3,q0,q1,q2,q3,n1,n2,n3⟩;exact⟨a1,c1,a2,c2,a3,c3,(h 0 (by omega)).trans q0,(h 1 (by omega)).trans q1,(h 2 (by omega)).trans q2,(h 3 (by omega)).trans q3,n1.keep BrtC.holds k hl,n2.keep SvcC.holds k hl,n3.keep CpyC.holds k hl⟩
theorem oC(x:Flt)(a1:OA)(c1:Nat)(a2:OA)(c2:Nat)(a3:OA)(c3:Nat)(lo:Nat)(L:Int)(w:World)(n1:sB lo w a1 x.berths)(n2:sV lo w a2 x.services)(n3:sC lo w a3 x.copies)(h0:0<=L)(h1:L<=1048576) :
  Calls prog 4 #[.agg (ffA x a1 c1 a2 c2 a3 c3),X L] w (Rt (X (szR (Ei x) L)) w):=by
 have N1:=iH n1;have N2:=iH n2;have N3:=iH n3;clear n1 n2 n3;have HW:Hid (Ei x=(wS Cn x.berths)+(wS Dj x.services)+(wS Cr x.copies)):=rfl;generalize Ei x=W at *;go_enter func4,ntmps4;go_wp2_with fail;refine(iZ x.berths a1 c1 lo _ _ (N1.out.below BrtC.holds (B:=w.heap.size) (by go_grown) nL) (by omega) (by omega)).mono ?_;rintro e w1⟨rfl,hb1⟩;have hB1:bW w w1:=(show bW w _ by go_grown).trans (hb1.mono (by simp));have k1_2:w1.cell? (E w.heap.size 2)=some (.slice a2 x.services.length c2):=(hb1.cell (p:=(E w.heap.size 2)) (by simp)).trans (by simp);have k1_3:w1.cell? (E w.heap.size 3)=some (.slice a3 x.copies.length c3):=(hb1.cell (p:=(E w.heap.size 3)) (by simp)).trans (by simp);have hs1:w.heap.size<w1.heap.size:=by have:=hb1.size;simp at this;omega
 clear hb1;by_cases d1:(((wS Cn x.berths):Nat):Int)<=L
 .rw[Ha d1]
  go_wp2_with fail;refine(kU x.services a2 c2 lo _ _ (N2.out.below SvcC.holds (B:=w.heap.size) (hB1) nL) (by omega) (by omega)).mono ?_;rintro e w2⟨rfl,hb2⟩;have hB2:=hB1.trans (hb2.mono (by omega));have k2_3:w2.cell? (E w.heap.size 3)=some (.slice a3 x.copies.length c3):=(hb2.cell (p:=(E w.heap.size 3)) hs1).trans k1_3;have hs2:w.heap.size<w2.heap.size:=by have:=hb2.size;omega
  clear hb2 hB1 hs1 k1_2 k1_3;by_cases d2:(((wS Dj x.services):Nat):Int)<=L-((wS Cn x.berths):Nat)
  .rw[Ha d2]
   go_wp2_with fail;refine(kZ x.copies a3 c3 lo _ _ (N3.out.below CpyC.holds (B:=w.heap.size) (hB2) nL) (by omega) (by omega)).mono ?_;rintro e w3⟨rfl,hb3⟩;have hB3:=hB2.trans (hb3.mono (by omega));have hs3:w.heap.size<w3.heap.size:=by have:=hb3.size;omega
   clear hb3 hB2 hs2 k2_3;by_cases d3:(((wS Cr x.copies):Nat):Int)<=L-((wS Cn x.berths):Nat)-((wS Dj x.services):Nat)
   .rw[Ha d3]
    go_wp2
    go_ret;exact⟨Al (by have:=HW.out;unfold szR;rw[if_pos (by omega)];omega),hB3⟩
   rw[Gz d3]
   go_wp2
   go_ret;exact⟨Al (by have:=HW.out;unfold szR;rw[if_neg (by omega)]),hB3⟩
  rw[Gz d2]
  go_wp2
  go_ret;exact⟨Al (by have:=HW.out;unfold szR;rw[if_neg (by omega)]),hB2⟩
 rw[Gz d1]
 go_wp2
 go_ret;exact⟨Al (by have:=HW.out;unfold szR;rw[if_neg (by omega)]),hB1⟩
theorem Cf:(prog.info? 32).map (·.size)=some 4:=by kernel_rfl
theorem Mc:Po 32 4:=⟨_,underlying32,rfl,Cf⟩
theorem oM(x:Flt)(a1:OA)(c1:Nat)(a2:OA)(c2:Nat)(a3:OA)(c3:Nat)(lo:Nat)(w:World)(n1:sB lo w a1 x.berths)(n2:sV lo w a2 x.services)(n3:sC lo w a3 x.copies)(hsm:Ei x<=1048576) :
  Calls prog 6 #[.agg (ffA x a1 c1 a2 c2 a3 c3)] w λe w'=>∃g1 g2 g3,e=.returned (.agg (ffA x (O g1 0) x.berths.length (O g2 0) x.services.length (O g3 0) x.copies.length))/\sB w.heap.size w' (O g1 0) x.berths/\sV w.heap.size w' (O g2 0) x.services/\sC w.heap.size w' (O g3 0) x.copies/\bW w w':=by
 have N1:=iH n1;have M1:wS Cn x.berths<=1048576:=by unfold Ei at hsm;omega
 have N2:=iH n2;have M2:wS Dj x.services<=1048576:=by unfold Ei at hsm;omega
 have N3:=iH n3;have M3:wS Cr x.copies<=1048576:=by unfold Ei at hsm;omega
 clear hsm n1 n2 n3;go_enter func6,ntmps6;go_wp2_with fail;refine(kS x.berths a1 c1 lo _ (N1.out.below BrtC.holds (B:=w.heap.size) (by go_grown) nL) M1).mono ?_;rintro e w1⟨g1,rfl,hg1,hn1,hb1⟩;have hz1:w.heap.size+1+1<w1.heap.size:=by have:=hb1.size;simp at this;omega
 have ko1_0:w1.cell? (E (w.heap.size+1+1) 0)=some (.bool x.pack):=(hb1.cell (p:=(E (w.heap.size+1+1) 0)) (by simp<;>omega)).trans (by simp[go_sem]);have fo1_0:w1.frozen? (E (w.heap.size+1+1) 0)=false:=(hb1.frozen (p:=(E (w.heap.size+1+1) 0)) (by simp<;>omega)).trans (by simp[go_sem]);have kr1_0:w1.cell? (E (w.heap.size+1) 0)=some (.bool false):=(hb1.cell (p:=(E (w.heap.size+1) 0)) (by simp<;>omega)).trans (by simp[go_sem]);have fr1_0:w1.frozen? (E (w.heap.size+1) 0)=false:=(hb1.frozen (p:=(E (w.heap.size+1) 0)) (by simp<;>omega)).trans (by simp[go_sem]);have ko1_1:w1.cell? (E (w.heap.size+1+1) 1)=some (.slice none 0 0):=(hb1.cell (p:=(E (w.heap.size+1+1) 1)) (by simp<;>omega)).trans (by simp[go_sem]);have fo1_1:w1.frozen? (E (w.heap.size+1+1) 1)=false:=(hb1.frozen (p:=(E (w.heap.size+1+1) 1)) (by simp<;>omega)).trans (by simp[go_sem]);have kr1_1:w1.cell? (E (w.heap.size+1) 1)=some (.slice none 0 0):=(hb1.cell (p:=(E (w.heap.size+1) 1)) (by simp<;>omega)).trans (by simp[go_sem]);have fr1_1:w1.frozen? (E (w.heap.size+1) 1)=false:=(hb1.frozen (p:=(E (w.heap.size+1) 1)) (by simp<;>omega)).trans (by simp[go_sem]);have ka1_2:w1.cell? (E w.heap.size 2)=some (.slice a2 x.services.length c2):=(hb1.cell (p:=(E w.heap.size 2)) (by simp<;>omega)).trans (by simp[go_sem]);have ko1_2:w1.cell? (E (w.heap.size+1+1) 2)=some (.slice none 0 0):=(hb1.cell (p:=(E (w.heap.size+1+1) 2)) (by simp<;>omega)).trans (by simp[go_sem]);have fo1_2:w1.frozen? (E (w.heap.size+1+1) 2)=false:=(hb1.frozen (p:=(E (w.heap.size+1+1) 2)) (by simp<;>omega)).trans (by simp[go_sem]);have kr1_2:w1.cell? (E (w.heap.size+1) 2)=some (.slice none 0 0):=(hb1.cell (p:=(E (w.heap.size+1) 2)) (by simp<;>omega)).trans (by simp[go_sem]);have fr1_2:w1.frozen? (E (w.heap.size+1) 2)=false:=(hb1.frozen (p:=(E (w.heap.size+1) 2)) (by simp<;>omega)).trans (by simp[go_sem]);have ka1_3:w1.cell? (E w.heap.size 3)=some (.slice a3 x.copies.length c3):=(hb1.cell (p:=(E w.heap.size 3)) (by simp<;>omega)).trans (by simp[go_sem]);have ko1_3:w1.cell? (E (w.heap.size+1+1) 3)=some (.slice none 0 0):=(hb1.cell (p:=(E (w.heap.size+1+1) 3)) (by simp<;>omega)).trans (by simp[go_sem]);have fo1_3:w1.frozen? (E (w.heap.size+1+1) 3)=false:=(hb1.frozen (p:=(E (w.heap.size+1+1) 3)) (by simp<;>omega)).trans (by simp[go_sem]);have kr1_3:w1.cell? (E (w.heap.size+1) 3)=some (.slice none 0 0):=(hb1.cell (p:=(E (w.heap.size+1) 3)) (by simp<;>omega)).trans (by simp[go_sem]);have fr1_3:w1.frozen? (E (w.heap.size+1) 3)=false:=(hb1.frozen (p:=(E (w.heap.size+1) 3)) (by simp<;>omega)).trans (by simp[go_sem]);have hg1':w.heap.size+1+1<g1:=by simp at hg1;omega
 have hB1:bW w w1:=(show bW w _ by go_grown).trans (hb1.mono (by simp<;>omega));have HN1:Hid (sB (w.heap.size+3) w1 (O g1 0) x.berths):=hn1.keep BrtC.holds (Keeps.refl _ _) (by simp<;>omega);clear hn1 hb1 hg1;go_wp2_with fail;refine(iT x.services a2 c2 lo _ (N2.out.below SvcC.holds (B:=w.heap.size) (by go_grown) nL) M2).mono ?_;rintro e w2⟨g2,rfl,hg2,hn2,hb2⟩;have hz2:w.heap.size+1+1<w2.heap.size:=by have:=hb2.size;simp at this;omega
 have ko2_0:w2.cell? (E (w.heap.size+1+1) 0)=some (.bool x.pack):=(hb2.cell (p:=(E (w.heap.size+1+1) 0)) (by simp<;>omega)).trans (by simp[go_sem,ko1_0]);have fo2_0:w2.frozen? (E (w.heap.size+1+1) 0)=false:=(hb2.frozen (p:=(E (w.heap.size+1+1) 0)) (by simp<;>omega)).trans (by simp[go_sem,fo1_0]);have kr2_0:w2.cell? (E (w.heap.size+1) 0)=some (.bool false):=(hb2.cell (p:=(E (w.heap.size+1) 0)) (by simp<;>omega)).trans (by simp[go_sem,kr1_0]);have fr2_0:w2.frozen? (E (w.heap.size+1) 0)=false:=(hb2.frozen (p:=(E (w.heap.size+1) 0)) (by simp<;>omega)).trans (by simp[go_sem,fr1_0]);have ko2_1:w2.cell? (E (w.heap.size+1+1) 1)=some (sP g1 0 x.berths.length x.berths.length):=(hb2.cell (p:=(E (w.heap.size+1+1) 1)) (by simp<;>omega)).trans (by simp[go_sem,ko1_1]);have fo2_1:w2.frozen? (E (w.heap.size+1+1) 1)=false:=(hb2.frozen (p:=(E (w.heap.size+1+1) 1)) (by simp<;>omega)).trans (by simp[go_sem,fo1_1]);have kr2_1:w2.cell? (E (w.heap.size+1) 1)=some (.slice none 0 0):=(hb2.cell (p:=(E (w.heap.size+1) 1)) (by simp<;>omega)).trans (by simp[go_sem,kr1_1]);have fr2_1:w2.frozen? (E (w.heap.size+1) 1)=false:=(hb2.frozen (p:=(E (w.heap.size+1) 1)) (by simp<;>omega)).trans (by simp[go_sem,fr1_1]);have ko2_2:w2.cell? (E (w.heap.size+1+1) 2)=some (.slice none 0 0):=(hb2.cell (p:=(E (w.heap.size+1+1) 2)) (by simp<;>omega)).trans (by simp[go_sem,ko1_2]);have fo2_2:w2.frozen? (E (w.heap.size+1+1) 2)=false:=(hb2.frozen (p:=(E (w.heap.size+1+1) 2)) (by simp<;>omega)).trans (by simp[go_sem,fo1_2]);have kr2_2:w2.cell? (E (w.heap.size+1) 2)=some (.slice none 0 0):=(hb2.cell (p:=(E (w.heap.size+1) 2)) (by simp<;>omega)).trans (by simp[go_sem,kr1_2]);have fr2_2:w2.frozen? (E (w.heap.size+1) 2)=false:=(hb2.frozen (p:=(E (w.heap.size+1) 2)) (by simp<;>omega)).trans (by simp[go_sem,fr1_2]);have ka2_3:w2.cell? (E w.heap.size 3)=some (.slice a3 x.copies.length c3):=(hb2.cell (p:=(E w.heap.size 3)) (by simp<;>omega)).trans (by simp[go_sem,ka1_3]);have ko2_3:w2.cell? (E (w.heap.size+1+1) 3)=some (.slice none 0 0):=(hb2.cell (p:=(E (w.heap.size+1+1) 3)) (by simp<;>omega)).trans (by simp[go_sem,ko1_3]);have fo2_3:w2.frozen? (E (w.heap.size+1+1) 3)=false:=(hb2.frozen (p:=(E (w.heap.size+1+1) 3)) (by simp<;>omega)).trans (by simp[go_sem,fo1_3]);have kr2_3:w2.cell? (E (w.heap.size+1) 3)=some (.slice none 0 0):=(hb2.cell (p:=(E (w.heap.size+1) 3)) (by simp<;>omega)).trans (by simp[go_sem,kr1_3]);have fr2_3:w2.frozen? (E (w.heap.size+1) 3)=false:=(hb2.frozen (p:=(E (w.heap.size+1) 3)) (by simp<;>omega)).trans (by simp[go_sem,fr1_3]);have hg2':w.heap.size+1+1<g2:=by simp at hg2;omega
 have hB2:bW w w2:=(show bW w _ by go_grown).trans (hb2.mono (by simp<;>omega));have HN2:Hid (sV (w.heap.size+3) w2 (O g2 0) x.services):=hn2.keep SvcC.holds (Keeps.refl _ _) (by simp<;>omega);have HN1':Hid (sB (w.heap.size+3) w2 (O g1 0) x.berths):=HN1.out.keep BrtC.holds (Keeps.trans (by repeat(first|exact Keeps.refl _ _|refine Keeps.trans ?_ (Keeps.set (by simp<;>omega) _))) (Keeps.of_below hb2 nL _)) nL;clear HN1;have HN1:=HN1';clear HN1';clear hn2 hb2 hg2;go_wp2_with fail;refine(kV x.copies a3 c3 lo _ (N3.out.below CpyC.holds (B:=w.heap.size) (by go_grown) nL) M3).mono ?_;rintro e w3⟨g3,rfl,hg3,hn3,hb3⟩;have hz3:w.heap.size+1+1<w3.heap.size:=by have:=hb3.size;simp at this;omega
 have ko3_0:w3.cell? (E (w.heap.size+1+1) 0)=some (.bool x.pack):=(hb3.cell (p:=(E (w.heap.size+1+1) 0)) (by simp<;>omega)).trans (by simp[go_sem,ko2_0]);have fo3_0:w3.frozen? (E (w.heap.size+1+1) 0)=false:=(hb3.frozen (p:=(E (w.heap.size+1+1) 0)) (by simp<;>omega)).trans (by simp[go_sem,fo2_0]);have kr3_0:w3.cell? (E (w.heap.size+1) 0)=some (.bool false):=(hb3.cell (p:=(E (w.heap.size+1) 0)) (by simp<;>omega)).trans (by simp[go_sem,kr2_0]);have fr3_0:w3.frozen? (E (w.heap.size+1) 0)=false:=(hb3.frozen (p:=(E (w.heap.size+1) 0)) (by simp<;>omega)).trans (by simp[go_sem,fr2_0]);have ko3_1:w3.cell? (E (w.heap.size+1+1) 1)=some (sP g1 0 x.berths.length x.berths.length):=(hb3.cell (p:=(E (w.heap.size+1+1) 1)) (by simp<;>omega)).trans (by simp[go_sem,ko2_1]);have fo3_1:w3.frozen? (E (w.heap.size+1+1) 1)=false:=(hb3.frozen (p:=(E (w.heap.size+1+1) 1)) (by simp<;>omega)).trans (by simp[go_sem,fo2_1]);have kr3_1:w3.cell? (E (w.heap.size+1) 1)=some (.slice none 0 0):=(hb3.cell (p:=(E (w.heap.size+1) 1)) (by simp<;>omega)).trans (by simp[go_sem,kr2_1]);have fr3_1:w3.frozen? (E (w.heap.size+1) 1)=false:=(hb3.frozen (p:=(E (w.heap.size+1) 1)) (by simp<;>omega)).trans (by simp[go_sem,fr2_1]);have ko3_2:w3.cell? (E (w.heap.size+1+1) 2)=some (sP g2 0 x.services.length x.services.length):=(hb3.cell (p:=(E (w.heap.size+1+1) 2)) (by simp<;>omega)).trans (by simp[go_sem,ko2_2]);have fo3_2:w3.frozen? (E (w.heap.size+1+1) 2)=false:=(hb3.frozen (p:=(E (w.heap.size+1+1) 2)) (by simp<;>omega)).trans (by simp[go_sem,fo2_2]);have kr3_2:w3.cell? (E (w.heap.size+1) 2)=some (.slice none 0 0):=(hb3.cell (p:=(E (w.heap.size+1) 2)) (by simp<;>omega)).trans (by simp[go_sem,kr2_2]);have fr3_2:w3.frozen? (E (w.heap.size+1) 2)=false:=(hb3.frozen (p:=(E (w.heap.size+1) 2)) (by simp<;>omega)).trans (by simp[go_sem,fr2_2]);have ko3_3:w3.cell? (E (w.heap.size+1+1) 3)=some (.slice none 0 0):=(hb3.cell (p:=(E (w.heap.size+1+1) 3)) (by simp<;>omega)).trans (by simp[go_sem,ko2_3]);have fo3_3:w3.frozen? (E (w.heap.size+1+1) 3)=false:=(hb3.frozen (p:=(E (w.heap.size+1+1) 3)) (by simp<;>omega)).trans (by simp[go_sem,fo2_3]);have kr3_3:w3.cell? (E (w.heap.size+1) 3)=some (.slice none 0 0):=(hb3.cell (p:=(E (w.heap.size+1) 3)) (by simp<;>omega)).trans (by simp[go_sem,kr2_3]);have fr3_3:w3.frozen? (E (w.heap.size+1) 3)=false:=(hb3.frozen (p:=(E (w.heap.size+1) 3)) (by simp<;>omega)).trans (by simp[go_sem,fr2_3]);have hg3':w.heap.size+1+1<g3:=by simp at hg3;omega
 have hB3:bW w w3:=(show bW w _ by go_grown).trans (hb3.mono (by simp<;>omega));have HN3:Hid (sC (w.heap.size+3) w3 (O g3 0) x.copies):=hn3.keep CpyC.holds (Keeps.refl _ _) (by simp<;>omega);have HN1':Hid (sB (w.heap.size+3) w3 (O g1 0) x.berths):=HN1.out.keep BrtC.holds (Keeps.trans (by repeat(first|exact Keeps.refl _ _|refine Keeps.trans ?_ (Keeps.set (by simp<;>omega) _))) (Keeps.of_below hb3 nL _)) nL;clear HN1;have HN1:=HN1';clear HN1';have HN2':Hid (sV (w.heap.size+3) w3 (O g2 0) x.services):=HN2.out.keep SvcC.holds (Keeps.trans (by repeat(first|exact Keeps.refl _ _|refine Keeps.trans ?_ (Keeps.set (by simp<;>omega) _))) (Keeps.of_below hb3 nL _)) nL;clear HN2;have HN2:=HN2';clear HN2';clear hn3 hb3 hg3;have HPR:Hid (w3.rangeAt (w.heap.size+1+1) 0 [.bool x.pack,sP g1 0 x.berths.length x.berths.length,sP g2 0 x.services.length x.services.length]):=Aa ko3_0 (Aa ko3_1 (Aa ko3_2 (Am _ _ _)));have HTO:Hid (w3.there (w.heap.size+1+1) 3 1):=Ah ko3_3 fo3_3 (Fa _ _ _);have HTR:Hid (w3.there (w.heap.size+1) 0 4):=Ah kr3_0 fr3_0 (Ah kr3_1 fr3_1 (Ah kr3_2 fr3_2 (Ah kr3_3 fr3_3 (Fa _ _ _))));clear kr3_0 fr3_0 kr3_1 fr3_1 kr3_2 fr3_2 kr3_3 fr3_3 ko3_0 fo3_0 ko3_1 fo3_1 ko3_2 fo3_2;go_upto_region 6 with fail;have HRG:Hid (World.rangeAt (w3.setCell (E (w.heap.size+1+1) 3) (sP g3 0 x.copies.length x.copies.length)) (w.heap.size+1+1) 0 (ffL x (O g1 0) x.berths.length (O g2 0) x.services.length (O g3 0) x.copies.length)):=Oa (vs:=[sP g3 0 x.copies.length x.copies.length]) HPR rfl HTO;have HTG:Hid (World.there (w3.setCell (E (w.heap.size+1+1) 3) (sP g3 0 x.copies.length x.copies.length)) (w.heap.size+1) 0 4):=World.there_setCells HTR (w.heap.size+1+1) 3 [sP g3 0 x.copies.length x.copies.length];have HBG:Hid (bW w (w3.setCell (E (w.heap.size+1+1) 3) (sP g3 0 x.copies.length x.copies.length))):=Ae (b:=w.heap.size+1+1) (by omega) [sP g3 0 x.copies.length x.copies.length] 3 _ hB3;have HG1:Hid (sB (w.heap.size+3) (w3.setCell (E (w.heap.size+1+1) 3) (sP g3 0 x.copies.length x.copies.length)) (O g1 0) x.berths):=HN1.out.keep BrtC.holds (Keeps.setCells (b:=w.heap.size+1+1) (by omega) [sP g3 0 x.copies.length x.copies.length] 3 _) nL;have HG2:Hid (sV (w.heap.size+3) (w3.setCell (E (w.heap.size+1+1) 3) (sP g3 0 x.copies.length x.copies.length)) (O g2 0) x.services):=HN2.out.keep SvcC.holds (Keeps.setCells (b:=w.heap.size+1+1) (by omega) [sP g3 0 x.copies.length x.copies.length] 3 _) nL;have HG3:Hid (sC (w.heap.size+3) (w3.setCell (E (w.heap.size+1+1) 3) (sP g3 0 x.copies.length x.copies.length)) (O g3 0) x.copies):=HN3.out.keep CpyC.holds (Keeps.setCells (b:=w.heap.size+1+1) (by omega) [sP g3 0 x.copies.length x.copies.length] 3 _) nL;clear ko3_3 fo3_3  HPR HTO HTR hz3 hB3 HN1 hg1' HN2 hg2' HN3 hg3';generalize(w3.setCell (E (w.heap.size+1+1) 3) (sP g3 0 x.copies.length x.copies.length))=w9 at *
 obtain⟨w10,hw10⟩:∃w',w'=w9.setCells (w.heap.size+1) 0 (ffL x (O g1 0) x.berths.length (O g2 0) x.services.length (O g3 0) x.copies.length):=⟨_,rfl⟩;have HR10:Hid (w10.rangeAt (w.heap.size+1) 0 (ffL x (O g1 0) x.berths.length (O g2 0) x.services.length (O g3 0) x.copies.length)):=by rw[hw10];exact World.rangeAt_setCells_same _ _ _ _ HTG
 have HB10:Hid (bW w w10):=by rw[hw10];exact Ae (by omega) _ _ _ HBG
 have HS1:Hid (sB w.heap.size w10 (O g1 0) x.berths):=by rw[hw10];exact HG1.out.keep BrtC.holds (Keeps.setCells (by omega) _ _ _) (by omega)
 have HS2:Hid (sV w.heap.size w10 (O g2 0) x.services):=by rw[hw10];exact HG2.out.keep SvcC.holds (Keeps.setCells (by omega) _ _ _) (by omega)
 have HS3:Hid (sC w.heap.size w10 (O g3 0) x.copies):=by rw[hw10];exact HG3.out.keep CpyC.holds (Keeps.setCells (by omega) _ _ _) (by omega)
 have HW10:=iH hw10;clear hw10 HBG HG1 HG2 HG3;go_wp2_with(first|(refine qLr Mc HRG ?_)|(refine Ai rfl 32 _ _ rfl (w.heap.size+1) 0 (ffA x (O g1 0) x.berths.length (O g2 0) x.services.length (O g3 0) x.copies.length) rfl rfl HTG Cf (by simp[Value.oneCell']) w10 HW10 ?_));exact bodyPost_ret (Ay rfl _ _ (w.heap.size+1) (ffL x (O g1 0) x.berths.length (O g2 0) x.services.length (O g3 0) x.copies.length) _ rfl HR10 underlying32 rfl Cf) rfl ⟨g1,g2,g3,rfl,HS1,HS2,HS3,HB10⟩
theorem Nj(x:Flt)(a1:OA)(c1:Nat)(a2:OA)(c2:Nat)(a3:OA)(c3:Nat)(a1p:OA)(c1p:Nat)(a2p:OA)(c2p:Nat)(a3p:OA)(c3p:Nat)(lo lo':Nat)(w:World)(n1:sB lo w a1 x.berths)(n2:sV lo w a2 x.services)(n3:sC lo w a3 x.copies)(p1:sB lo' w a1p x.berths)(p2:sV lo' w a2p x.services)(p3:sC lo' w a3p x.copies)(hsm:Ei x<=1048576) :
  Calls prog 8 #[.agg (ffA x a1 c1 a2 c2 a3 c3),.agg (ffA x a1p c1p a2p c2p a3p c3p)] w (Rt (.bool true) w):=by
 have N1:=iH n1;have P1:=iH p1;have M1:wS Cn x.berths<=1048576:=by unfold Ei at hsm;omega
 have N2:=iH n2;have P2:=iH p2;have M2:wS Dj x.services<=1048576:=by unfold Ei at hsm;omega
 have N3:=iH n3;have P3:=iH p3;have M3:wS Cr x.copies<=1048576:=by unfold Ei at hsm;omega
 clear hsm n1 p1 n2 p2 n3 p3;go_enter func8,ntmps8;go_wp2_with fail;refine(kE x.berths a1 a1p c1 c1p lo lo' _ (N1.out.below BrtC.holds (B:=w.heap.size) (by go_grown) nL) (P1.out.below BrtC.holds (B:=w.heap.size) (by go_grown) nL) M1).mono ?_;rintro e w1⟨rfl,hb1⟩;have hB1:bW w w1:=(show bW w _ by go_grown).trans (hb1.mono (by simp;omega));have k1_2:w1.cell? (E w.heap.size 2)=some (.slice a2 x.services.length c2):=(hb1.cell (p:=(E w.heap.size 2)) (by simp;omega)).trans (by simp);have l1_2:w1.cell? (E (w.heap.size+1) 2)=some (.slice a2p x.services.length c2p):=(hb1.cell (p:=(E (w.heap.size+1) 2)) (by simp)).trans (by simp);have k1_3:w1.cell? (E w.heap.size 3)=some (.slice a3 x.copies.length c3):=(hb1.cell (p:=(E w.heap.size 3)) (by simp;omega)).trans (by simp);have l1_3:w1.cell? (E (w.heap.size+1) 3)=some (.slice a3p x.copies.length c3p):=(hb1.cell (p:=(E (w.heap.size+1) 3)) (by simp)).trans (by simp);have hs1:w.heap.size+1<w1.heap.size:=by have:=hb1.size;simp at this;omega
 clear hb1;go_wp2_with fail;refine(jY x.services a2 a2p c2 c2p lo lo' _ (N2.out.below SvcC.holds (B:=w.heap.size) (hB1) nL) (P2.out.below SvcC.holds (B:=w.heap.size) (hB1) nL) M2).mono ?_;rintro e w2⟨rfl,hb2⟩;have hB2:=hB1.trans (hb2.mono (by omega));have k2_3:w2.cell? (E w.heap.size 3)=some (.slice a3 x.copies.length c3):=(hb2.cell (p:=(E w.heap.size 3)) (show w.heap.size<w1.heap.size by omega)).trans k1_3;have l2_3:w2.cell? (E (w.heap.size+1) 3)=some (.slice a3p x.copies.length c3p):=(hb2.cell (p:=(E (w.heap.size+1) 3)) hs1).trans l1_3;have hs2:w.heap.size+1<w2.heap.size:=by have:=hb2.size;omega
 clear hb2 hB1 hs1 k1_2 l1_2 k1_3 l1_3;go_wp2_with fail;refine(lC x.copies a3 a3p c3 c3p lo lo' _ (N3.out.below CpyC.holds (B:=w.heap.size) (hB2) nL) (P3.out.below CpyC.holds (B:=w.heap.size) (hB2) nL) M3).mono ?_;rintro e w3⟨rfl,hb3⟩;have hB3:=hB2.trans (hb3.mono (by omega));have hs3:w.heap.size+1<w3.heap.size:=by have:=hb3.size;omega
 clear hb3 hB2 hs2 k2_3 l2_3
 go_wp2
 go_ret;exact⟨rfl,hB3⟩
open Go.WideMaps Go.Maps Tryz
theorem El:Keyed prog 9:=string_keyed underlying9
theorem Ga(w:World):(zeroValue 3).run prog w=.ok (X 0) w:=by kernel_rfl
theorem Hj{P:Program}{t k e:TypeId}(hu:P.underlying t=some (.map k e))(q:IntKind)(n:Int)(w:World):(Instr.makeMap t (some (.int q n))).run P w=.ok (.map (some w.heap.size)) (w.alloc (.map #[] 0)):=by
 simp[Instr.makeMap,run_underlying hu,asInt,asIntOf,Result.andThen]
theorem Ag{H:Type}{P:Program}{k:TypeId}{R:Value->Option (DataW H×List MemPlace)}{b n:Nat}{D:DataW H}{w w':World}{B:Nat}(h:w.ownsMap P k R b n D)(hb:Below B w w')(hB:b<B):w'.ownsMap P k R b n D:=by
 obtain⟨es,clock,h1,h2,h3,h4⟩:=h;exact⟨es,clock,(hb.block b hB).trans h1,h2,h3,h4⟩
def kOf(s:BA):Lit:=.string s.data.toList
def Aj(ns:List BA):Nat->DataW Unit
 |0=>.map []
 |k+1=>match ns[k]? with
  |some s=>(Aj ns k).put (kOf s) (.lit (.int .i64 k))
  |none=>Aj ns k
theorem Fw(ns:List BA):∀k,IsMap (Aj ns k)
 |0=>⟨_,rfl⟩
 |k+1=>by
  unfold Aj
  split
  .exact IsMap.put (Fw ns k) _ _
  exact Fw ns k
theorem aY{s t:BA}(h:kOf s=kOf t):s=t:=by
 unfold kOf at h;injection h with h
 cases s with|mk a=>cases t with|mk b=>simp at h;simp[h]
def Ar(ns:List BA)(s:BA):Nat->Option Nat
 |0=>none
 |k+1=>if ns[k]?=some s then some k else Ar ns s k
theorem Lj(ns:List BA)(s:BA):∀k,has (Aj ns k) (kOf s)=(Ar ns s k).isSome
 |0=>rfl
 | k+1=>by
  unfold Aj Ar
  cases hk:ns[k]? with
  |none=>simp;exact Lj ns s k
  | some t =>
   by_cases e:t=s
   .subst e
    simp;exact has_put_same (Fw ns k) (show WideAt.IsKeyLit (kOf _)from trivial) _
   simp[e];rw[has_put_other (λh=>e (aY h).symm)];exact Lj ns s k
theorem Rq(ns:List BA)(s:BA):∀k,(Aj ns k).atKey (kOf s) (.lit (.int .i64 0))=.lit (.int .i64 (((Ar ns s k).getD 0:Nat):Int))
 |0=>rfl
 | k+1=>by
  unfold Aj Ar
  cases hk:ns[k]? with
  |none=>simp;exact Rq ns s k
  | some t =>
   by_cases e:t=s
   .subst e
    simp;exact atKey_put_same (Fw ns k) (show WideAt.IsKeyLit (kOf _)from trivial) _ _
   simp[e];rw[atKey_put_other (λh=>e (aY h).symm)];exact Rq ns s k
theorem Ft(x:Brt)(a2:OA)(c2:Nat)(w:World) :
  Calls prog 89 #[.agg (bbA x a2 c2)] w (Rt (Y x.name) w):=by
 go_enter func89,ntmps89
 go_wp2
 go_ret;exact⟨rfl,by go_grown⟩
theorem Yb(xs:List Brt)(a:OA)(cap lo:Nat)(w:World)(hin:sB lo w a xs)(hsm:xs.length<=1048576) :
  Calls prog 88 #[.slice a xs.length cap,.func (.func 89) #[] #[]] w λe w'=>e=.returned (.map (some w.heap.size))/\w'.ownsMap prog 9 (plainElem prog 3) w.heap.size xs.length (Aj (xs.map (·.name)) xs.length)/\bW w w':=by
 have hmm:∀q n w,(Instr.makeMap 62 (some (.int q n))).run prog w=.ok (.map (some w.heap.size)) (w.alloc (.map #[] 0)):=λq n w=>Hj underlying62 q n w
 have HI:=iH hin;clear hin;go_enter func88,ntmps88
 go_wp2
 go_loopw [13] (λi wr=>∃k:Nat,k<=xs.length/\i=X k/\wr.ownsMap prog 9 (plainElem prog 3) w.heap.size k (Aj (xs.map (·.name)) k)/\bW w wr)
  (λi _=>xs.length-(intOf i).toNat)
 case atStart=>exact⟨0,zL,rfl,World.ownsMap_made _ _ _ _,(Below.refl _ _).alloc nL _⟩
 obtain⟨k,hk,rfl,hown,hbel⟩:=hrel;by_cases hlt:k<xs.length
 .obtain⟨x,hx⟩:=gXe hlt
  obtain⟨b,o,rfl,_,_,hc⟩:=(HI.out.below BrtC.holds hbel nL).at hx;obtain⟨a2,c2,q0,q1,q2,q3,q4,q5,z0,_,_⟩:=hc;simp only[Nat.add_zero]at q0 q1 q2 q3 q4 q5;have HP:Hid (Aj (xs.map (·.name)) (k+1)=(Aj (xs.map (·.name)) k).put (kOf x.name) (.lit (.int .i64 k))):=by
   show _=_
   simp[Aj,hx]
  have hkey:keyOf prog 9 (Y x.name)=some (kOf x.name):=keyOf_string_mk underlying9 z0;have HO:=iH hown;have HB:=iH hbel;have hws:w.heap.size<wr.heap.size:=hown.lt;have HRA:Hid (wr.rangeAt b (o+k*6) (bbL x a2 c2)):=Aa q0 (Aa q1 (Aa q2 (Aa q3 (Aa q4 (Aa q5 (Am _ _ _))))));clear hx hown hbel q0 q1 q2 q3 q4 q5;generalize Aj (xs.map (·.name)) k=D at *;go_upto_region 5 with(first|(refine qLr Ki HRA ?_));have HR4:=qRa wr (bbA x a2 c2) 92 (bbL x a2 c2);have HO4:Hid ((wr.alloc (Obj.cells (bbA x a2 c2) 92)).ownsMap prog 9 (plainElem prog 3) w.heap.size k D):=HO.out.alloc _;have HB4:Hid (bW w (wr.alloc (Obj.cells (bbA x a2 c2) 92))):=HB.out.alloc (by omega) _;generalize wr.alloc (Obj.cells (bbA x a2 c2) 92)=w4 at *;go_wp2_with(first|(refine qLr Ki HR4 ?_));refine(Ft x a2 c2 _).mono ?_;rintro e w5⟨rfl,hb5⟩;have HO5:=iH (Ag HO4 hb5 HO4.out.lt);have HB5:=qTH HB4 hb5;clear hb5 HO4 HB4 HR4;go_wp2_with(at_mapUpdate;refine wpList_mapUpdate_own _ rfl _ _ _ 62 rfl 9 3 El underlying62 _ w.heap.size k _ rfl HO5 (by unfold maxLen;omega) _ _ _ rfl rfl hkey _ [] (plainElem_int underlying3 (WalkArith.wf_i64 (by omega))) ?_;intro w6 hown6 hgrow6);have R1:=HP.out.symm▸hown6;have R2:=HB5.out.grown hgrow6 HB5.out.size (λj hj=>by cases hj;exact Nat.le_refl _);have HR1:Hid (w6.ownsMap prog 9 (plainElem prog 3) w.heap.size (k+1) (Aj (xs.map (·.name)) (k+1))):=R1;clear hown6 hgrow6 R1 hkey
  go_wp2
  go_roundw
  case rel=>exact⟨k+1,by omega,by go_num,HR1,R2⟩
  simp[intOf];omega
 have HO:=iH hown;clear hown
 go_wp2
 go_ret;have hke:k=xs.length:=by omega
 subst hke;exact⟨rfl,HO,hbel⟩
theorem Fp(x:Svc)(w:World) :
  Calls prog 91 #[.agg #[Y x.name,X x.spare]] w (Rt (Y x.name) w):=by
 go_enter func91,ntmps91
 go_wp2
 go_ret;exact⟨rfl,by go_grown⟩
theorem Xv(xs:List Svc)(a:OA)(cap lo:Nat)(w:World)(hin:sV lo w a xs)(hsm:xs.length<=1048576) :
  Calls prog 90 #[.slice a xs.length cap,.func (.func 91) #[] #[]] w λe w'=>e=.returned (.map (some w.heap.size))/\w'.ownsMap prog 9 (plainElem prog 3) w.heap.size xs.length (Aj (xs.map (·.name)) xs.length)/\bW w w':=by
 have hmm:∀q n w,(Instr.makeMap 62 (some (.int q n))).run prog w=.ok (.map (some w.heap.size)) (w.alloc (.map #[] 0)):=λq n w=>Hj underlying62 q n w
 have HI:=iH hin;clear hin;go_enter func90,ntmps90
 go_wp2
 go_loopw [13] (λi wr=>∃k:Nat,k<=xs.length/\i=X k/\wr.ownsMap prog 9 (plainElem prog 3) w.heap.size k (Aj (xs.map (·.name)) k)/\bW w wr)
  (λi _=>xs.length-(intOf i).toNat)
 case atStart=>exact⟨0,zL,rfl,World.ownsMap_made _ _ _ _,(Below.refl _ _).alloc nL _⟩
 obtain⟨k,hk,rfl,hown,hbel⟩:=hrel;by_cases hlt:k<xs.length
 .obtain⟨x,hx⟩:=gXe hlt
  obtain⟨b,o,rfl,_,_,hc⟩:=(HI.out.below SvcC.holds hbel nL).at hx;obtain⟨q0,q1,z0⟩:=hc;simp only[Nat.add_zero]at q0 q1;have HP:Hid (Aj (xs.map (·.name)) (k+1)=(Aj (xs.map (·.name)) k).put (kOf x.name) (.lit (.int .i64 k))):=by
   show _=_
   simp[Aj,hx]
  have hkey:keyOf prog 9 (Y x.name)=some (kOf x.name):=keyOf_string_mk underlying9 z0;have HO:=iH hown;have HB:=iH hbel;have hws:w.heap.size<wr.heap.size:=hown.lt;have HRA:Hid (wr.rangeAt b (o+k*2) [Y x.name,X x.spare]):=Aa q0 (Aa q1 (Am _ _ _));clear hx hown hbel q0 q1;generalize Aj (xs.map (·.name)) k=D at *;go_upto_region 5 with(first|(refine qLr Vf HRA ?_));have HR4:=qRa wr #[Y x.name,X x.spare] 88 [Y x.name,X x.spare];have HO4:Hid ((wr.alloc (Obj.cells #[Y x.name,X x.spare] 88)).ownsMap prog 9 (plainElem prog 3) w.heap.size k D):=HO.out.alloc _;have HB4:Hid (bW w (wr.alloc (Obj.cells #[Y x.name,X x.spare] 88))):=HB.out.alloc (by omega) _;generalize wr.alloc (Obj.cells #[Y x.name,X x.spare] 88)=w4 at *;go_wp2_with(first|(refine qLr Vf HR4 ?_));refine(Fp x  _).mono ?_;rintro e w5⟨rfl,hb5⟩;have HO5:=iH (Ag HO4 hb5 HO4.out.lt);have HB5:=qTH HB4 hb5;clear hb5 HO4 HB4 HR4;go_wp2_with(at_mapUpdate;refine wpList_mapUpdate_own _ rfl _ _ _ 62 rfl 9 3 El underlying62 _ w.heap.size k _ rfl HO5 (by unfold maxLen;omega) _ _ _ rfl rfl hkey _ [] (plainElem_int underlying3 (WalkArith.wf_i64 (by omega))) ?_;intro w6 hown6 hgrow6);have R1:=HP.out.symm▸hown6;have R2:=HB5.out.grown hgrow6 HB5.out.size (λj hj=>by cases hj;exact Nat.le_refl _);have HR1:Hid (w6.ownsMap prog 9 (plainElem prog 3) w.heap.size (k+1) (Aj (xs.map (·.name)) (k+1))):=R1;clear hown6 hgrow6 R1 hkey
  go_wp2
  go_roundw
  case rel=>exact⟨k+1,by omega,by go_num,HR1,R2⟩
  simp[intOf];omega
 have HO:=iH hown;clear hown
 go_wp2
 go_ret;have hke:k=xs.length:=by omega
 subst hke;exact⟨rfl,HO,hbel⟩
theorem Fu(x:Cpy)(a7:OA)(c7:Nat)(w:World) :
  Calls prog 93 #[.agg (ccA x a7 c7)] w (Rt (Y x.name) w):=by
 go_enter func93,ntmps93
 go_wp2
 go_ret;exact⟨rfl,by go_grown⟩
theorem Xt(xs:List Cpy)(a:OA)(cap lo:Nat)(w:World)(hin:sC lo w a xs)(hsm:xs.length<=1048576) :
  Calls prog 92 #[.slice a xs.length cap,.func (.func 93) #[] #[]] w λe w'=>e=.returned (.map (some w.heap.size))/\w'.ownsMap prog 9 (plainElem prog 3) w.heap.size xs.length (Aj (xs.map (·.name)) xs.length)/\bW w w':=by
 have hmm:∀q n w,(Instr.makeMap 62 (some (.int q n))).run prog w=.ok (.map (some w.heap.size)) (w.alloc (.map #[] 0)):=λq n w=>Hj underlying62 q n w
 have HI:=iH hin;clear hin;go_enter func92,ntmps92
 go_wp2
 go_loopw [13] (λi wr=>∃k:Nat,k<=xs.length/\i=X k/\wr.ownsMap prog 9 (plainElem prog 3) w.heap.size k (Aj (xs.map (·.name)) k)/\bW w wr)
  (λi _=>xs.length-(intOf i).toNat)
 case atStart=>exact⟨0,zL,rfl,World.ownsMap_made _ _ _ _,(Below.refl _ _).alloc nL _⟩
 obtain⟨k,hk,rfl,hown,hbel⟩:=hrel;by_cases hlt:k<xs.length
 .obtain⟨x,hx⟩:=gXe hlt
  obtain⟨b,o,rfl,_,_,hc⟩:=(HI.out.below CpyC.holds hbel nL).at hx;obtain⟨a7,c7,q0,q1,q2,q3,q4,q5,q6,q7,q8,q9,q10,q11,z0,_,_,_,_,_,_⟩:=hc;simp only[Nat.add_zero]at q0 q1 q2 q3 q4 q5 q6 q7 q8 q9 q10 q11;have HP:Hid (Aj (xs.map (·.name)) (k+1)=(Aj (xs.map (·.name)) k).put (kOf x.name) (.lit (.int .i64 k))):=by
   show _=_
   simp[Aj,hx]
  have hkey:keyOf prog 9 (Y x.name)=some (kOf x.name):=keyOf_string_mk underlying9 z0;have HO:=iH hown;have HB:=iH hbel;have hws:w.heap.size<wr.heap.size:=hown.lt;have HRA:Hid (wr.rangeAt b (o+k*12) (ccL x a7 c7)):=Aa q0 (Aa q1 (Aa q2 (Aa q3 (Aa q4 (Aa q5 (Aa q6 (Aa q7 (Aa q8 (Aa q9 (Aa q10 (Aa q11 (Am _ _ _))))))))))));clear hx hown hbel q0 q1 q2 q3 q4 q5 q6 q7 q8 q9 q10 q11;generalize Aj (xs.map (·.name)) k=D at *;go_upto_region 5 with(first|(refine qLr Hb HRA ?_));have HR4:=qRa wr (ccA x a7 c7) 54 (ccL x a7 c7);have HO4:Hid ((wr.alloc (Obj.cells (ccA x a7 c7) 54)).ownsMap prog 9 (plainElem prog 3) w.heap.size k D):=HO.out.alloc _;have HB4:Hid (bW w (wr.alloc (Obj.cells (ccA x a7 c7) 54))):=HB.out.alloc (by omega) _;generalize wr.alloc (Obj.cells (ccA x a7 c7) 54)=w4 at *;go_wp2_with(first|(refine qLr Hb HR4 ?_));refine(Fu x a7 c7 _).mono ?_;rintro e w5⟨rfl,hb5⟩;have HO5:=iH (Ag HO4 hb5 HO4.out.lt);have HB5:=qTH HB4 hb5;clear hb5 HO4 HB4 HR4;go_wp2_with(at_mapUpdate;refine wpList_mapUpdate_own _ rfl _ _ _ 62 rfl 9 3 El underlying62 _ w.heap.size k _ rfl HO5 (by unfold maxLen;omega) _ _ _ rfl rfl hkey _ [] (plainElem_int underlying3 (WalkArith.wf_i64 (by omega))) ?_;intro w6 hown6 hgrow6);have R1:=HP.out.symm▸hown6;have R2:=HB5.out.grown hgrow6 HB5.out.size (λj hj=>by cases hj;exact Nat.le_refl _);have HR1:Hid (w6.ownsMap prog 9 (plainElem prog 3) w.heap.size (k+1) (Aj (xs.map (·.name)) (k+1))):=R1;clear hown6 hgrow6 R1 hkey
  go_wp2
  go_roundw
  case rel=>exact⟨k+1,by omega,by go_num,HR1,R2⟩
  simp[intOf];omega
 have HO:=iH hown;clear hown
 go_wp2
 go_ret;have hke:k=xs.length:=by omega
 subst hke;exact⟨rfl,HO,hbel⟩
def Cm(t:BA)(r:List BA):Nat:=r.countP (λs=>decide (s=t))
theorem gP(t:BA)(r:List BA):Cm t r<=r.length:=List.countP_le_length
theorem Kz(t:BA)(r:List BA):Cm t (t::r)=Cm t r+1:=by simp[Cm]
theorem Hd{t s:BA}(h:¬s=t)(r:List BA):Cm t (s::r)=Cm t r:=by simp[Cm,h]
def Fy:List BA->DataW Unit
 |[]=>.map []
 |s::r=>(Fy r).put (kOf s) (.lit (.int .i64 (((Cm s r:Nat):Int)+1)))
theorem Uj:∀r,IsMap (Fy r)
 |[]=>⟨_,rfl⟩
 |_::r=>IsMap.put (Uj r) _ _
theorem Ns(t:BA):∀r:List BA,(Fy r).atKey (kOf t) (.lit (.int .i64 0))=.lit (.int .i64 ((Cm t r:Nat):Int))
 |[]=>rfl
 | s::r=>by
  unfold Fy;by_cases e:s=t
  .subst e
   rw[atKey_put_same (Uj r) (show WideAt.IsKeyLit (kOf _)from trivial),Kz];simp
  rw[atKey_put_other (λh=>e (aY h).symm),Ns t r,Hd e]
def Qv(m:BA):List BA:=if Eb m=true then(if Cd m<0 then[Av m]else [m,Av m])else []
def Db(ms:List BA):Nat->List BA
 |0=>[]
 |k+1=>match ms[k]? with
  |some m=>Qv m++Db ms k
  |none=>Db ms k
theorem sA(m:BA):(Qv m).length<=2:=by
 unfold Qv
 split
 .split<;>simp
 simp
theorem Re(ms:List BA):∀k,(Db ms k).length<=2*k
 |0=>by simp[Db]
 | k+1=>by
  unfold Db;have:=Re ms k
  split
  .rename_i m _
   have:=sA m;simp;omega
  omega
theorem Oz{ms:List BA}{k:Nat}{m:BA}(h:ms[k]?=some m):Db ms (k+1)=Qv m++Db ms k:=by
 simp[Db,h]
theorem gH{P:Program}{w:World}(t:TypeId):(Instr.makeMap t none).run P w=.ok (.map (some w.heap.size)) (w.alloc (.map #[] 0)):=rfl
theorem Ef{a b:Int}(h:(DataW.lit (Lit.int .i64 a):DataW Unit)=.lit (.int .i64 b)):a=b:=by
 injection h with h;injection h
theorem Sr(ms:List BA)(a:OA)(cap lo:Nat)(w:World)(hin:sX lo w a ms)(hsm:ms.length<=1048576) :
  Calls prog 154 #[.slice a ms.length cap] w λe w'=>∃m n,e=.returned (.map (some m))/\w'.ownsMap prog 9 (plainElem prog 3) m n (Fy (Db ms ms.length))/\bW w w':=by
 have hmm:∀w,(Instr.makeMap 218 none).run prog w=.ok (.map (some w.heap.size)) (w.alloc (.map #[] 0)):=λw=>gH _
 have HI:=iH hin;clear hin;go_enter func154,ntmps154
 go_wp2
 go_loopw [12] (λi wr=>∃k n:Nat,k<=ms.length/\i=X k/\Hid (n<=2*k)/\Hid (wr.ownsMap prog 9 (plainElem prog 3) w.heap.size n (Fy (Db ms k)))/\Hid (bW w wr))
  (λi _=>ms.length-(intOf i).toNat)
 case atStart=>exact⟨0,0,zL,rfl,Nat.le_refl _,World.ownsMap_made _ _ _ _,(Below.refl _ _).alloc nL _⟩
 obtain⟨k,n,hk,rfl,hn,ho,hbel⟩:=hrel;by_cases hlt:k<ms.length
 .obtain⟨m,hm⟩:=gXe hlt
  obtain⟨b,o,rfl,_,_,hc⟩:=(HI.out.below StrC.holds hbel.out nL).at hm;obtain⟨q0,z0⟩:=hc;simp only[Nat.mul_one,Nat.add_zero]at q0;have HX:=iH hm;have HZ:=iH z0;clear hm z0;go_wp2_with fail;refine(Vl m _ HZ).mono ?_;rintro e w1⟨rfl,hb1⟩;have HB1:=qTH hbel hb1;have HO1:=iH (Ag ho.out hb1 ho.out.lt);clear hb1 hbel ho q0
  cases hmk:Eb m with
  |false =>
   have HK:Hid (Db ms (k+1)=Db ms k):=by show _=_;rw[Oz HX.out];simp[Qv,hmk]
   clear hmk
   go_wp2
   go_roundw
   case rel=>exact⟨k+1,n,by omega,by go_num,by have:=hn.out;show _<=_;omega,by show World.ownsMap _ _ _ _ _ _ _;rw[HK.out];exact HO1.out,HB1⟩
   simp[intOf];omega
  | true =>
   go_wp2_with fail;refine(Tg m _ HZ).mono ?_;rintro e w2⟨rfl,hb2⟩;have HB2:=qTH HB1 hb2;have HO2:=iH (Ag HO1 hb2 HO1.out.lt);clear hb2 HB1 HO1;have ZN:Hid ((Av m).size<=maxLen):=Lp HZ;have HKR:Hid (Qv m=if Cd m<0 then[Av m]else [m,Av m]):=by show _=_;simp[Qv,hmk]
   clear hmk;have hkn:keyOf prog 9 (Y (Av m))=some (kOf (Av m)):=keyOf_string_mk underlying9 ZN;have hkm:keyOf prog 9 (Y m)=some (kOf m):=keyOf_string_mk underlying9 HZ;have HL:Hid ((Db ms k).length<=2*k):=Re ms k;obtain⟨R,hR⟩:∃R,R=Db ms k:=⟨_,rfl⟩;have HR:=iH hR;rw[<-hR]at HO2 HL;clear hR;generalize Av m=nm at *;generalize Ff m=vl at *;obtain⟨c0,hc0⟩:∃c0:Nat,c0=Cm nm R:=⟨_,rfl⟩;have HA0:Hid ((Fy R).atKey (kOf nm) (.lit (.int .i64 0))=.lit (.int .i64 (c0:Int))):=by show _=_;rw[hc0];exact Ns nm R
   have hc0l:c0<=2097152:=by have:=gP nm R;have:=HL.out;omega
   have HC0:Hid (Fy (nm::R)=(Fy R).put (kOf nm) (.lit (.int .i64 ((c0:Int)+1)))):=by show _=_;rw[hc0];rfl
   clear hc0;go_upto_region 8 with(first|(at_lookup;refine wpList_lookup_own_int _ rfl _ _ 218 rfl 9 3 .i64 El underlying218 underlying3 (Ga _) w.heap.size _ _ rfl HO2 _ _ rfl hkn ?_;intro c hcc _;obtain rfl:=Ef (hcc.symm.trans HA0))|(at_mapUpdate;refine wpList_mapUpdate_own _ rfl _ _ _ 218 rfl 9 3 El underlying218 _ w.heap.size n _ rfl HO2 (by have:=hn.out;unfold maxLen;omega) _ _ _ rfl rfl hkn _ [] (plainElem_int underlying3 (WalkArith.wf_i64 (by omega))) ?_;intro w3 hown3 hgrow3));have HO3:Hid (w3.ownsMap prog 9 (plainElem prog 3) w.heap.size (n+1) (Fy (nm::R))):=HC0.out.symm▸hown3;have HB3:Hid (bW w w3):=HB2.out.grown hgrow3 HB2.out.size (λj hj=>by cases hj;exact Nat.le_refl _);clear hown3 hgrow3 HO2 HB2 HA0 HC0 hkn;by_cases hv:Cd m<0
   .have HK:Hid (Db ms (k+1)=nm::R):=by show _=_;rw[Oz HX.out,HKR.out,if_pos hv,<-HR.out];rfl
    have hvd:decide (Cd m<0)=true:=decide_eq_true hv;rw[hvd];clear hv hvd HKR
    go_wp2
    go_roundw
    case rel=>exact⟨k+1,n+1,by omega,by go_num,by have:=hn.out;show _<=_;omega,by show World.ownsMap _ _ _ _ _ _ _;rw[HK.out];exact HO3.out,HB3⟩
    simp[intOf];omega
   have HK:Hid (Db ms (k+1)=m::nm::R):=by show _=_;rw[Oz HX.out,HKR.out,if_neg hv,<-HR.out];rfl
   have hvd:decide (Cd m<0)=false:=decide_eq_false hv;rw[hvd];clear hv hvd HKR;obtain⟨c1,hc1⟩:∃c1:Nat,c1=Cm m (nm::R):=⟨_,rfl⟩;have HA1:Hid ((Fy (nm::R)).atKey (kOf m) (.lit (.int .i64 0))=.lit (.int .i64 (c1:Int))):=by show _=_;rw[hc1];exact Ns m _
   have hc1l:c1<=2097153:=by have:=gP m (nm::R);have:=HL.out;simp at *;omega
   have HC1:Hid (Fy (m::nm::R)=(Fy (nm::R)).put (kOf m) (.lit (.int .i64 ((c1:Int)+1)))):=by show _=_;rw[hc1];rfl
   clear hc1;generalize Fy (nm::R)=D at *;go_upto_region 10 with(first|(at_lookup;refine wpList_lookup_own_int _ rfl _ _ 218 rfl 9 3 .i64 El underlying218 underlying3 (Ga _) w.heap.size _ _ rfl HO3 _ _ rfl hkm ?_;intro c hcc _;obtain rfl:=Ef (hcc.symm.trans HA1))|(at_mapUpdate;refine wpList_mapUpdate_own _ rfl _ _ _ 218 rfl 9 3 El underlying218 _ w.heap.size (n+1) _ rfl HO3 (by have:=hn.out;unfold maxLen;omega) _ _ _ rfl rfl hkm _ [] (plainElem_int underlying3 (WalkArith.wf_i64 (by omega))) ?_;intro w4 hown4 hgrow4));have HO4:Hid (w4.ownsMap prog 9 (plainElem prog 3) w.heap.size (n+1+1) (Fy (m::nm::R))):=HC1.out.symm▸hown4;have HB4:Hid (bW w w4):=HB3.out.grown hgrow4 HB3.out.size (λj hj=>by cases hj;exact Nat.le_refl _);clear hown4 hgrow4 HO3 HB3 HA1 HC1 hkm
   go_wp2
   go_roundw
   case rel=>exact⟨k+1,n+1+1,by omega,by go_num,by have:=hn.out;show _<=_;omega,by show World.ownsMap _ _ _ _ _ _ _;rw[HK.out];exact HO4.out,HB4⟩
   simp[intOf];omega
 have hke:k=ms.length:=by omega
 subst hke
 go_wp2
 go_ret;exact⟨_,n,rfl,ho.out,hbel.out⟩
def Cj(x:Cpy):Bool :=
 inR x.rank 0 100&&inR x.born 0 1000000&&inR x.room 0 1000&&inR x.hold 0 1000&&decide (Ap x.select=0)&&Dv x.likes&&inR x.apart 0 2&&Cb x.near&&Cb x.fixed
theorem Ac{w w':World}{g o B:Nat}{l:List Value}(h:w.rangeAt g o l)(hb:Below B w w')(hB:g<B):w'.rangeAt g o l:=by
 intro j v hj;rw[hb.cell (p:=⟨g,_,none⟩) hB];exact h j v hj
theorem Vd(x:Cpy)(a7:OA)(c7 lo:Nat)(w:World)(z6:x.select.size<=maxLen)(hin:sK lo w a7 x.likes)(z9:x.near.size<=maxLen)(z10:x.fixed.size<=maxLen) :
  Calls prog 132 #[.agg (ccA x a7 c7)] w (Rt (.bool (Cj x)) w):=by
 have HI:=iH hin;have Z6:=iH z6;have Z9:=iH z9;have Z10:=iH z10;have hlen:=hin.1;unfold maxLen at hlen;clear hin z6 z9 z10;go_enter func132,ntmps132;go_wp2_with fail;have HR:=qRa w (ccA x a7 c7) 54 (ccL x a7 c7);have HB:=iH ((Below.refl _ w).alloc nL (Obj.cells (ccA x a7 c7) 54));have HS:Hid (w.heap.size<(w.alloc (Obj.cells (ccA x a7 c7) 54)).heap.size):=by show _<_;simp
 generalize w.alloc (Obj.cells (ccA x a7 c7) 54)=w0 at *;refine(Jv _ _ _ _).mono ?_;rintro e w1⟨rfl,hb⟩;have HR1:=iH (Ac HR hb HS);have HB1:=qTH HB hb;have HS1:Hid (w.heap.size<w1.heap.size):=lL HS hb.size;clear HR HB HS hb;have HR:=HR1;have HB:=HB1;have HS:=HS1;clear HR1 HB1 HS1;cases h:inR x.rank 0 100
 .have HC:Hid (Cj x=false):=by show _=_;simp only[Cj,h,Bool.false_and]
  clear h
  go_wp2
  go_ret;exact⟨Ab HC.out.symm,HB⟩
 have H1:=iH h;clear h;have e0:w1.cell? (E w.heap.size 3)=some (X x.born):=HR.out 3 _ rfl;go_wp2_with fail;clear e0;refine(Jv _ _ _ _).mono ?_;rintro e w2⟨rfl,hb⟩;have HR2:=iH (Ac HR hb HS);have HB2:=qTH HB hb;have HS2:Hid (w.heap.size<w2.heap.size):=lL HS hb.size;clear HR HB HS hb;have HR:=HR2;have HB:=HB2;have HS:=HS2;clear HR2 HB2 HS2;cases h:inR x.born 0 1000000
 .have HC:Hid (Cj x=false):=by show _=_;simp only[Cj,h,Bool.and_false,Bool.false_and]
  clear h
  go_wp2
  go_ret;exact⟨Ab HC.out.symm,HB⟩
 have H2:=iH h;clear h;have e0:w2.cell? (E w.heap.size 4)=some (X x.room):=HR.out 4 _ rfl;go_wp2_with fail;clear e0;refine(Lm _ _).mono ?_;rintro e w3⟨rfl,hb⟩;have HR3:=iH (Ac HR hb HS);have HB3:=qTH HB hb;have HS3:Hid (w.heap.size<w3.heap.size):=lL HS hb.size;clear HR HB HS hb;have HR:=HR3;have HB:=HB3;have HS:=HS3;clear HR3 HB3 HS3;cases h:inR x.room 0 1000
 .have HC:Hid (Cj x=false):=by show _=_;simp only[Cj,h,Bool.and_false,Bool.false_and]
  clear h
  go_wp2
  go_ret;exact⟨Ab HC.out.symm,HB⟩
 have H3:=iH h;clear h;have e0:w3.cell? (E w.heap.size 5)=some (X x.hold):=HR.out 5 _ rfl;go_wp2_with fail;clear e0;refine(Lm _ _).mono ?_;rintro e w4⟨rfl,hb⟩;have HR4:=iH (Ac HR hb HS);have HB4:=qTH HB hb;have HS4:Hid (w.heap.size<w4.heap.size):=lL HS hb.size;clear HR HB HS hb;have HR:=HR4;have HB:=HB4;have HS:=HS4;clear HR4 HB4 HS4;cases h:inR x.hold 0 1000
 .have HC:Hid (Cj x=false):=by show _=_;simp only[Cj,h,Bool.and_false,Bool.false_and]
  clear h
  go_wp2
  go_ret;exact⟨Ab HC.out.symm,HB⟩
 have H4:=iH h;clear h;have e0:w4.cell? (E w.heap.size 6)=some (Y x.select):=HR.out 6 _ rfl;go_wp2_with fail;clear e0;refine(Ob _ _ Z6).mono ?_;rintro e w5⟨rfl,hb⟩;have HR5:=iH (Ac HR hb HS);have HB5:=qTH HB hb;have HS5:Hid (w.heap.size<w5.heap.size):=lL HS hb.size;clear HR HB HS hb;have HR:=HR5;have HB:=HB5;have HS:=HS5;clear HR5 HB5 HS5;cases h:decide (Ap x.select=0)
 .have HC:Hid (Cj x=false):=by show _=_;simp only[Cj,h,Bool.and_false,Bool.false_and]
  clear h
  go_wp2
  go_ret;exact⟨Ab HC.out.symm,HB⟩
 have H5:=iH h;clear h;have e0:w5.cell? (E w.heap.size 7)=some (.slice a7 x.likes.length c7):=HR.out 7 _ rfl;go_wp2_with fail;clear e0;refine(eJ x.likes a7 c7 lo _ (HI.out.below LikC.holds HB nL)).mono ?_;rintro e w6⟨rfl,hb⟩;have HR6:=iH (Ac HR hb HS);have HB6:=qTH HB hb;have HS6:Hid (w.heap.size<w6.heap.size):=lL HS hb.size;clear HR HB HS hb;have HR:=HR6;have HB:=HB6;have HS:=HS6;clear HR6 HB6 HS6;cases h:Dv x.likes
 .have HC:Hid (Cj x=false):=by show _=_;simp only[Cj,h,Bool.and_false,Bool.false_and]
  clear h
  go_wp2
  go_ret;exact⟨Ab HC.out.symm,HB⟩
 have H6:=iH h;clear h;have e0:w6.cell? (E w.heap.size 8)=some (X x.apart):=HR.out 8 _ rfl;go_wp2_with fail;clear e0;refine(Jv _ _ _ _).mono ?_;rintro e w7⟨rfl,hb⟩;have HR7:=iH (Ac HR hb HS);have HB7:=qTH HB hb;have HS7:Hid (w.heap.size<w7.heap.size):=lL HS hb.size;clear HR HB HS hb;have HR:=HR7;have HB:=HB7;have HS:=HS7;clear HR7 HB7 HS7;cases h:inR x.apart 0 2
 .have HC:Hid (Cj x=false):=by show _=_;simp only[Cj,h,Bool.and_false,Bool.false_and]
  clear h
  go_wp2
  go_ret;exact⟨Ab HC.out.symm,HB⟩
 have H7:=iH h;clear h;have e0:w7.cell? (E w.heap.size 9)=some (Y x.near):=HR.out 9 _ rfl;go_wp2_with fail;clear e0;refine(Kg _ _ Z9).mono ?_;rintro e w8⟨rfl,hb⟩;have HR8:=iH (Ac HR hb HS);have HB8:=qTH HB hb;have HS8:Hid (w.heap.size<w8.heap.size):=lL HS hb.size;clear HR HB HS hb;have HR:=HR8;have HB:=HB8;have HS:=HS8;clear HR8 HB8 HS8;cases h:Cb x.near
 .have HC:Hid (Cj x=false):=by show _=_;simp only[Cj,h,Bool.and_false,Bool.false_and]
  clear h
  go_wp2
  go_ret;exact⟨Ab HC.out.symm,HB⟩
 have H8:=iH h;clear h;have e0:w8.cell? (E w.heap.size 10)=some (Y x.fixed):=HR.out 10 _ rfl;go_wp2_with fail;clear e0;refine(Kg _ _ Z10).mono ?_;rintro e w9⟨rfl,hb⟩;have HR9:=iH (Ac HR hb HS);have HB9:=qTH HB hb;have HS9:Hid (w.heap.size<w9.heap.size):=lL HS hb.size;clear HR HB HS hb;have HR:=HR9;have HB:=HB9;have HS:=HS9;clear HR9 HB9 HS9;cases h:Cb x.fixed
 .have HC:Hid (Cj x=false):=by show _=_;simp only[Cj,h,Bool.and_false]
  clear h
  go_wp2
  go_ret;exact⟨Ab HC.out.symm,HB⟩
 have H9:=iH h;clear h;have HC:Hid (Cj x=true):=by show _=_;simp only[Cj,H1.out,H2.out,H3.out,H4.out,H5.out,H6.out,H7.out,H8.out,H9.out,Bool.and_self]
 go_wp2
 go_ret;exact⟨Ab HC.out.symm,HB⟩
end Go.Proofs.YthboopnmbglkjaaGreat
