import Derived.Test.YtihnjndnkgnmaaaGreatJ6
import Derived.Test.YtihnjndnkgnmaaaGreatCpy
import Derived.Test.YtihnjndnkgnmaaaGreatBlk
import Derived.Lib.Walk
import Derived.Lib.SliceRun
set_option maxHeartbeats 2000000
namespace Go.Proofs.YtihnjndnkgnmaaaGreat
open Go.RowKit
structure Flt where
 pack:Bool
 berths:List Brt
 services:List Svc
 copies:List Cpy
abbrev ffL (x:Flt) (a1:OA) (c1:Nat) (a2:OA) (c2:Nat) (a3:OA) (c3:Nat):List Value:=[.bool x.pack,.slice a1 x.berths.length c1,.slice a2 x.services.length c2,.slice a3 x.copies.length c3]
abbrev ffA (x:Flt) (a1:OA) (c1:Nat) (a2:OA) (c2:Nat) (a3:OA) (c3:Nat):Array Value:=#[.bool x.pack,.slice a1 x.berths.length c1,.slice a2 x.services.length c2,.slice a3 x.copies.length c3]
abbrev cF (x:Flt) (a1:OA) (c1:Nat) (a2:OA) (c2:Nat) (a3:OA) (c3 m1 m2 m3 m4:Nat):List Value:=[.bool x.pack,.slice a1 x.berths.length c1,.slice a2 x.services.length c2,.slice a3 x.copies.length c3,.map (some m1),.map (some m2),.map (some m3),.map (some m4)]
abbrev Dr (x:Flt) (a1:OA) (c1:Nat) (a2:OA) (c2:Nat) (a3:OA) (c3 m1 m2 m3 m4:Nat):Array Value:=#[.bool x.pack,.slice a1 x.berths.length c1,.slice a2 x.services.length c2,.slice a3 x.copies.length c3,.map (some m1),.map (some m2),.map (some m3),.map (some m4)]
abbrev fgL (p:Bool) (a1:OA) (n1 c1:Nat) (a2:OA) (n2 c2:Nat) (a3:OA) (n3 c3:Nat):List Value:=[.bool p,.slice a1 n1 c1,.slice a2 n2 c2,.slice a3 n3 c3]
abbrev fgA (p:Bool) (a1:OA) (n1 c1:Nat) (a2:OA) (n2 c2:Nat) (a3:OA) (n3 c3:Nat):Array Value:=#[.bool p,.slice a1 n1 c1,.slice a2 n2 c2,.slice a3 n3 c3]
abbrev zzL:List Value:=[.bool false,.slice none 0 0,.slice none 0 0,.slice none 0 0]
abbrev zzA:Array Value:=#[.bool false,.slice none 0 0,.slice none 0 0,.slice none 0 0]
def Dx (x:Flt):Nat:=(wS Bs x.berths)+(wS Cq x.services)+(wS Bt x.copies)
def FltC:Db Flt:=fun lo w f x=>∃ (a1:OA) (c1:Nat) (a2:OA) (c2:Nat) (a3:OA) (c3:Nat),f 0=some (.bool x.pack)∧f 1=some (.slice a1 x.berths.length c1)∧f 2=some (.slice a2 x.services.length c2)∧f 3=some (.slice a3 x.copies.length c3)∧SliceC BrtC 6 lo w a1 x.berths∧SliceC SvcC 2 lo w a2 x.services∧SliceC CpyC 12 lo w a3 x.copies
theorem FltC.holds:Dy FltC 4:=by
 rintro lo lo' w w' f g x h k hl ⟨a1,c1,a2,c2,a3,c3,q0,q1,q2,q3,n1,n2,n3⟩;exact ⟨a1,c1,a2,c2,a3,c3,(h 0 (by omega)).trans q0,(h 1 (by omega)).trans q1,(h 2 (by omega)).trans q2,(h 3 (by omega)).trans q3,n1.keep BrtC.holds k hl,n2.keep SvcC.holds k hl,n3.keep CpyC.holds k hl⟩
theorem cQ (x:Flt) (a1:OA) (c1:Nat) (a2:OA) (c2:Nat) (a3:OA) (c3:Nat) (lo:Nat) (L:Int) (w:World)  (n1:SliceC BrtC 6 lo w a1 x.berths) (n2:SliceC SvcC 2 lo w a2 x.services) (n3:SliceC CpyC 12 lo w a3 x.copies) (h0:0≤L) (h1:L≤1048576) :
  Calls Tryz.prog 4 #[.agg (ffA x a1 c1 a2 c2 a3 c3),.int .i64 L] w (Rt (.int .i64 (szR (Dx x) L)) w):=by
 have N1:=iH n1;have N2:=iH n2;have N3:=iH n3;clear n1 n2 n3;have HW:Hid (Dx x=(wS Bs x.berths)+(wS Cq x.services)+(wS Bt x.copies)):=rfl;generalize Dx x=W at *;go_enter Tryz.func4,Tryz.ntmps4;go_wp2_with fail;refine (Yo x.berths a1 c1 lo _ _ (N1.out.below BrtC.holds (B:=w.heap.size) (by go_grown) nL) (by omega) (by omega)).mono ?_;rintro e w1 ⟨rfl,hb1⟩;have hB1:Below w.heap.size w w1:=(show Below w.heap.size w _ by go_grown).trans (hb1.mono (by simp));have k1_2:w1.cell? ⟨w.heap.size,2,none⟩=some (.slice a2 x.services.length c2):=(hb1.cell (p:=⟨w.heap.size,2,none⟩) (by simp)).trans (by simp);have k1_3:w1.cell? ⟨w.heap.size,3,none⟩=some (.slice a3 x.copies.length c3):=(hb1.cell (p:=⟨w.heap.size,3,none⟩) (by simp)).trans (by simp);have hs1:w.heap.size<w1.heap.size:=by have:=hb1.size;simp at this;omega
 clear hb1;by_cases d1:(((wS Bs x.berths):Nat):Int)≤L
 ·rw [Ea d1]
  go_wp2_with fail;refine (Yw x.services a2 c2 lo _ _ (N2.out.below SvcC.holds (B:=w.heap.size) (hB1) nL) (by omega) (by omega)).mono ?_;rintro e w2 ⟨rfl,hb2⟩;have hB2:=hB1.trans (hb2.mono (by omega));have k2_3:w2.cell? ⟨w.heap.size,3,none⟩=some (.slice a3 x.copies.length c3):=(hb2.cell (p:=⟨w.heap.size,3,none⟩) hs1).trans k1_3;have hs2:w.heap.size<w2.heap.size:=by have:=hb2.size;omega
  clear hb2 hB1 hs1 k1_2 k1_3;by_cases d2:(((wS Cq x.services):Nat):Int)≤L - ((wS Bs x.berths):Nat)
  ·rw [Ea d2]
   go_wp2_with fail;refine (Zr x.copies a3 c3 lo _ _ (N3.out.below CpyC.holds (B:=w.heap.size) (hB2) nL) (by omega) (by omega)).mono ?_;rintro e w3 ⟨rfl,hb3⟩;have hB3:=hB2.trans (hb3.mono (by omega));have hs3:w.heap.size<w3.heap.size:=by have:=hb3.size;omega
   clear hb3 hB2 hs2 k2_3;by_cases d3:(((wS Bt x.copies):Nat):Int)≤L - ((wS Bs x.berths):Nat) - ((wS Cq x.services):Nat)
   ·rw [Ea d3]
    go_wp2_with fail;go_ret;exact ⟨Atq (by have:=HW.out;unfold szR;rw [if_pos (by omega)];omega),hB3⟩
   ·rw [Eb d3]
    go_wp2_with fail;go_ret;exact ⟨Atq (by have:=HW.out;unfold szR;rw [if_neg (by omega)]),hB3⟩
  ·rw [Eb d2]
   go_wp2_with fail;go_ret;exact ⟨Atq (by have:=HW.out;unfold szR;rw [if_neg (by omega)]),hB2⟩
 ·rw [Eb d1]
  go_wp2_with fail;go_ret;exact ⟨Atq (by have:=HW.out;unfold szR;rw [if_neg (by omega)]),hB1⟩
theorem Ak:(Tryz.prog.info? 41).map (·.size)=some 4:=by kernel_rfl
theorem Bw:Ls 41 4:=⟨_,Tryz.underlying41,rfl,Ak⟩
theorem Ga (x:Flt) (a1:OA) (c1:Nat) (a2:OA) (c2:Nat) (a3:OA) (c3:Nat) (lo:Nat) (w:World) (n1:SliceC BrtC 6 lo w a1 x.berths) (n2:SliceC SvcC 2 lo w a2 x.services) (n3:SliceC CpyC 12 lo w a3 x.copies) (hsm:Dx x≤1048576) :
  Calls Tryz.prog 7 #[.agg (ffA x a1 c1 a2 c2 a3 c3)] w fun e w'=>∃ g1 g2 g3,e=.returned (.agg (ffA x (some ⟨g1,0,none⟩) x.berths.length (some ⟨g2,0,none⟩) x.services.length (some ⟨g3,0,none⟩) x.copies.length))∧SliceC BrtC 6 w.heap.size w' (some ⟨g1,0,none⟩) x.berths∧SliceC SvcC 2 w.heap.size w' (some ⟨g2,0,none⟩) x.services∧SliceC CpyC 12 w.heap.size w' (some ⟨g3,0,none⟩) x.copies∧Below w.heap.size w w':=by
 have N1:=iH n1;have M1:wS Bs x.berths≤1048576:=by unfold Dx at hsm;omega
 have N2:=iH n2;have M2:wS Cq x.services≤1048576:=by unfold Dx at hsm;omega
 have N3:=iH n3;have M3:wS Bt x.copies≤1048576:=by unfold Dx at hsm;omega
 clear hsm n1 n2 n3;go_enter Tryz.func7,Tryz.ntmps7;go_wp2_with fail;refine (Zi x.berths a1 c1 lo _ (N1.out.below BrtC.holds (B:=w.heap.size) (by go_grown) nL) M1).mono ?_;rintro e w1 ⟨g1,rfl,hg1,hn1,hb1⟩;have hz1:w.heap.size+1+1<w1.heap.size:=by have:=hb1.size;simp at this;omega
 have ko1_0:w1.cell? ⟨w.heap.size+1+1,0,none⟩=some (.bool x.pack):=(hb1.cell (p:=⟨w.heap.size+1+1,0,none⟩) (by simp <;> omega)).trans (by simp [go_sem]);have fo1_0:w1.frozen? ⟨w.heap.size+1+1,0,none⟩=false:=(hb1.frozen (p:=⟨w.heap.size+1+1,0,none⟩) (by simp <;> omega)).trans (by simp [go_sem]);have kr1_0:w1.cell? ⟨w.heap.size+1,0,none⟩=some (.bool false):=(hb1.cell (p:=⟨w.heap.size+1,0,none⟩) (by simp <;> omega)).trans (by simp [go_sem]);have fr1_0:w1.frozen? ⟨w.heap.size+1,0,none⟩=false:=(hb1.frozen (p:=⟨w.heap.size+1,0,none⟩) (by simp <;> omega)).trans (by simp [go_sem]);have ko1_1:w1.cell? ⟨w.heap.size+1+1,1,none⟩=some (.slice none 0 0):=(hb1.cell (p:=⟨w.heap.size+1+1,1,none⟩) (by simp <;> omega)).trans (by simp [go_sem]);have fo1_1:w1.frozen? ⟨w.heap.size+1+1,1,none⟩=false:=(hb1.frozen (p:=⟨w.heap.size+1+1,1,none⟩) (by simp <;> omega)).trans (by simp [go_sem]);have kr1_1:w1.cell? ⟨w.heap.size+1,1,none⟩=some (.slice none 0 0):=(hb1.cell (p:=⟨w.heap.size+1,1,none⟩) (by simp <;> omega)).trans (by simp [go_sem]);have fr1_1:w1.frozen? ⟨w.heap.size+1,1,none⟩=false:=(hb1.frozen (p:=⟨w.heap.size+1,1,none⟩) (by simp <;> omega)).trans (by simp [go_sem]);have ka1_2:w1.cell? ⟨w.heap.size,2,none⟩=some (.slice a2 x.services.length c2):=(hb1.cell (p:=⟨w.heap.size,2,none⟩) (by simp <;> omega)).trans (by simp [go_sem]);have ko1_2:w1.cell? ⟨w.heap.size+1+1,2,none⟩=some (.slice none 0 0):=(hb1.cell (p:=⟨w.heap.size+1+1,2,none⟩) (by simp <;> omega)).trans (by simp [go_sem]);have fo1_2:w1.frozen? ⟨w.heap.size+1+1,2,none⟩=false:=(hb1.frozen (p:=⟨w.heap.size+1+1,2,none⟩) (by simp <;> omega)).trans (by simp [go_sem]);have kr1_2:w1.cell? ⟨w.heap.size+1,2,none⟩=some (.slice none 0 0):=(hb1.cell (p:=⟨w.heap.size+1,2,none⟩) (by simp <;> omega)).trans (by simp [go_sem]);have fr1_2:w1.frozen? ⟨w.heap.size+1,2,none⟩=false:=(hb1.frozen (p:=⟨w.heap.size+1,2,none⟩) (by simp <;> omega)).trans (by simp [go_sem]);have ka1_3:w1.cell? ⟨w.heap.size,3,none⟩=some (.slice a3 x.copies.length c3):=(hb1.cell (p:=⟨w.heap.size,3,none⟩) (by simp <;> omega)).trans (by simp [go_sem]);have ko1_3:w1.cell? ⟨w.heap.size+1+1,3,none⟩=some (.slice none 0 0):=(hb1.cell (p:=⟨w.heap.size+1+1,3,none⟩) (by simp <;> omega)).trans (by simp [go_sem]);have fo1_3:w1.frozen? ⟨w.heap.size+1+1,3,none⟩=false:=(hb1.frozen (p:=⟨w.heap.size+1+1,3,none⟩) (by simp <;> omega)).trans (by simp [go_sem]);have kr1_3:w1.cell? ⟨w.heap.size+1,3,none⟩=some (.slice none 0 0):=(hb1.cell (p:=⟨w.heap.size+1,3,none⟩) (by simp <;> omega)).trans (by simp [go_sem]);have fr1_3:w1.frozen? ⟨w.heap.size+1,3,none⟩=false:=(hb1.frozen (p:=⟨w.heap.size+1,3,none⟩) (by simp <;> omega)).trans (by simp [go_sem]);have hg1':w.heap.size+1+1<g1:=by simp at hg1;omega
 have hB1:Below w.heap.size w w1:=(show Below w.heap.size w _ by go_grown).trans (hb1.mono (by simp <;> omega));have HN1:Hid (SliceC BrtC 6 (w.heap.size+3) w1 (some ⟨g1,0,none⟩) x.berths):=hn1.keep BrtC.holds (Keeps.refl _ _) (by simp <;> omega);clear hn1 hb1 hg1;go_wp2_with fail;refine (Zh x.services a2 c2 lo _ (N2.out.below SvcC.holds (B:=w.heap.size) (by go_grown) nL) M2).mono ?_;rintro e w2 ⟨g2,rfl,hg2,hn2,hb2⟩;have hz2:w.heap.size+1+1<w2.heap.size:=by have:=hb2.size;simp at this;omega
 have ko2_0:w2.cell? ⟨w.heap.size+1+1,0,none⟩=some (.bool x.pack):=(hb2.cell (p:=⟨w.heap.size+1+1,0,none⟩) (by simp <;> omega)).trans (by simp [go_sem,ko1_0]);have fo2_0:w2.frozen? ⟨w.heap.size+1+1,0,none⟩=false:=(hb2.frozen (p:=⟨w.heap.size+1+1,0,none⟩) (by simp <;> omega)).trans (by simp [go_sem,fo1_0]);have kr2_0:w2.cell? ⟨w.heap.size+1,0,none⟩=some (.bool false):=(hb2.cell (p:=⟨w.heap.size+1,0,none⟩) (by simp <;> omega)).trans (by simp [go_sem,kr1_0]);have fr2_0:w2.frozen? ⟨w.heap.size+1,0,none⟩=false:=(hb2.frozen (p:=⟨w.heap.size+1,0,none⟩) (by simp <;> omega)).trans (by simp [go_sem,fr1_0]);have ko2_1:w2.cell? ⟨w.heap.size+1+1,1,none⟩=some (.slice (some ⟨g1,0,none⟩) x.berths.length x.berths.length):=(hb2.cell (p:=⟨w.heap.size+1+1,1,none⟩) (by simp <;> omega)).trans (by simp [go_sem,ko1_1]);have fo2_1:w2.frozen? ⟨w.heap.size+1+1,1,none⟩=false:=(hb2.frozen (p:=⟨w.heap.size+1+1,1,none⟩) (by simp <;> omega)).trans (by simp [go_sem,fo1_1]);have kr2_1:w2.cell? ⟨w.heap.size+1,1,none⟩=some (.slice none 0 0):=(hb2.cell (p:=⟨w.heap.size+1,1,none⟩) (by simp <;> omega)).trans (by simp [go_sem,kr1_1]);have fr2_1:w2.frozen? ⟨w.heap.size+1,1,none⟩=false:=(hb2.frozen (p:=⟨w.heap.size+1,1,none⟩) (by simp <;> omega)).trans (by simp [go_sem,fr1_1]);have ko2_2:w2.cell? ⟨w.heap.size+1+1,2,none⟩=some (.slice none 0 0):=(hb2.cell (p:=⟨w.heap.size+1+1,2,none⟩) (by simp <;> omega)).trans (by simp [go_sem,ko1_2]);have fo2_2:w2.frozen? ⟨w.heap.size+1+1,2,none⟩=false:=(hb2.frozen (p:=⟨w.heap.size+1+1,2,none⟩) (by simp <;> omega)).trans (by simp [go_sem,fo1_2]);have kr2_2:w2.cell? ⟨w.heap.size+1,2,none⟩=some (.slice none 0 0):=(hb2.cell (p:=⟨w.heap.size+1,2,none⟩) (by simp <;> omega)).trans (by simp [go_sem,kr1_2]);have fr2_2:w2.frozen? ⟨w.heap.size+1,2,none⟩=false:=(hb2.frozen (p:=⟨w.heap.size+1,2,none⟩) (by simp <;> omega)).trans (by simp [go_sem,fr1_2]);have ka2_3:w2.cell? ⟨w.heap.size,3,none⟩=some (.slice a3 x.copies.length c3):=(hb2.cell (p:=⟨w.heap.size,3,none⟩) (by simp <;> omega)).trans (by simp [go_sem,ka1_3]);have ko2_3:w2.cell? ⟨w.heap.size+1+1,3,none⟩=some (.slice none 0 0):=(hb2.cell (p:=⟨w.heap.size+1+1,3,none⟩) (by simp <;> omega)).trans (by simp [go_sem,ko1_3]);have fo2_3:w2.frozen? ⟨w.heap.size+1+1,3,none⟩=false:=(hb2.frozen (p:=⟨w.heap.size+1+1,3,none⟩) (by simp <;> omega)).trans (by simp [go_sem,fo1_3]);have kr2_3:w2.cell? ⟨w.heap.size+1,3,none⟩=some (.slice none 0 0):=(hb2.cell (p:=⟨w.heap.size+1,3,none⟩) (by simp <;> omega)).trans (by simp [go_sem,kr1_3]);have fr2_3:w2.frozen? ⟨w.heap.size+1,3,none⟩=false:=(hb2.frozen (p:=⟨w.heap.size+1,3,none⟩) (by simp <;> omega)).trans (by simp [go_sem,fr1_3]);have hg2':w.heap.size+1+1<g2:=by simp at hg2;omega
 have hB2:Below w.heap.size w w2:=(show Below w.heap.size w _ by go_grown).trans (hb2.mono (by simp <;> omega));have HN2:Hid (SliceC SvcC 2 (w.heap.size+3) w2 (some ⟨g2,0,none⟩) x.services):=hn2.keep SvcC.holds (Keeps.refl _ _) (by simp <;> omega);have HN1':Hid (SliceC BrtC 6 (w.heap.size+3) w2 (some ⟨g1,0,none⟩) x.berths):=HN1.out.keep BrtC.holds (Keeps.trans (by repeat (first | exact Keeps.refl _ _ | refine Keeps.trans ?_ (Keeps.set (by simp <;> omega) _))) (Keeps.of_below hb2 nL _)) nL;clear HN1;have HN1:=HN1';clear HN1';clear hn2 hb2 hg2;go_wp2_with fail;refine (Za x.copies a3 c3 lo _ (N3.out.below CpyC.holds (B:=w.heap.size) (by go_grown) nL) M3).mono ?_;rintro e w3 ⟨g3,rfl,hg3,hn3,hb3⟩;have hz3:w.heap.size+1+1<w3.heap.size:=by have:=hb3.size;simp at this;omega
 have ko3_0:w3.cell? ⟨w.heap.size+1+1,0,none⟩=some (.bool x.pack):=(hb3.cell (p:=⟨w.heap.size+1+1,0,none⟩) (by simp <;> omega)).trans (by simp [go_sem,ko2_0]);have fo3_0:w3.frozen? ⟨w.heap.size+1+1,0,none⟩=false:=(hb3.frozen (p:=⟨w.heap.size+1+1,0,none⟩) (by simp <;> omega)).trans (by simp [go_sem,fo2_0]);have kr3_0:w3.cell? ⟨w.heap.size+1,0,none⟩=some (.bool false):=(hb3.cell (p:=⟨w.heap.size+1,0,none⟩) (by simp <;> omega)).trans (by simp [go_sem,kr2_0]);have fr3_0:w3.frozen? ⟨w.heap.size+1,0,none⟩=false:=(hb3.frozen (p:=⟨w.heap.size+1,0,none⟩) (by simp <;> omega)).trans (by simp [go_sem,fr2_0]);have ko3_1:w3.cell? ⟨w.heap.size+1+1,1,none⟩=some (.slice (some ⟨g1,0,none⟩) x.berths.length x.berths.length):=(hb3.cell (p:=⟨w.heap.size+1+1,1,none⟩) (by simp <;> omega)).trans (by simp [go_sem,ko2_1]);have fo3_1:w3.frozen? ⟨w.heap.size+1+1,1,none⟩=false:=(hb3.frozen (p:=⟨w.heap.size+1+1,1,none⟩) (by simp <;> omega)).trans (by simp [go_sem,fo2_1]);have kr3_1:w3.cell? ⟨w.heap.size+1,1,none⟩=some (.slice none 0 0):=(hb3.cell (p:=⟨w.heap.size+1,1,none⟩) (by simp <;> omega)).trans (by simp [go_sem,kr2_1]);have fr3_1:w3.frozen? ⟨w.heap.size+1,1,none⟩=false:=(hb3.frozen (p:=⟨w.heap.size+1,1,none⟩) (by simp <;> omega)).trans (by simp [go_sem,fr2_1]);have ko3_2:w3.cell? ⟨w.heap.size+1+1,2,none⟩=some (.slice (some ⟨g2,0,none⟩) x.services.length x.services.length):=(hb3.cell (p:=⟨w.heap.size+1+1,2,none⟩) (by simp <;> omega)).trans (by simp [go_sem,ko2_2]);have fo3_2:w3.frozen? ⟨w.heap.size+1+1,2,none⟩=false:=(hb3.frozen (p:=⟨w.heap.size+1+1,2,none⟩) (by simp <;> omega)).trans (by simp [go_sem,fo2_2]);have kr3_2:w3.cell? ⟨w.heap.size+1,2,none⟩=some (.slice none 0 0):=(hb3.cell (p:=⟨w.heap.size+1,2,none⟩) (by simp <;> omega)).trans (by simp [go_sem,kr2_2]);have fr3_2:w3.frozen? ⟨w.heap.size+1,2,none⟩=false:=(hb3.frozen (p:=⟨w.heap.size+1,2,none⟩) (by simp <;> omega)).trans (by simp [go_sem,fr2_2]);have ko3_3:w3.cell? ⟨w.heap.size+1+1,3,none⟩=some (.slice none 0 0):=(hb3.cell (p:=⟨w.heap.size+1+1,3,none⟩) (by simp <;> omega)).trans (by simp [go_sem,ko2_3]);have fo3_3:w3.frozen? ⟨w.heap.size+1+1,3,none⟩=false:=(hb3.frozen (p:=⟨w.heap.size+1+1,3,none⟩) (by simp <;> omega)).trans (by simp [go_sem,fo2_3]);have kr3_3:w3.cell? ⟨w.heap.size+1,3,none⟩=some (.slice none 0 0):=(hb3.cell (p:=⟨w.heap.size+1,3,none⟩) (by simp <;> omega)).trans (by simp [go_sem,kr2_3]);have fr3_3:w3.frozen? ⟨w.heap.size+1,3,none⟩=false:=(hb3.frozen (p:=⟨w.heap.size+1,3,none⟩) (by simp <;> omega)).trans (by simp [go_sem,fr2_3]);have hg3':w.heap.size+1+1<g3:=by simp at hg3;omega
 have hB3:Below w.heap.size w w3:=(show Below w.heap.size w _ by go_grown).trans (hb3.mono (by simp <;> omega));have HN3:Hid (SliceC CpyC 12 (w.heap.size+3) w3 (some ⟨g3,0,none⟩) x.copies):=hn3.keep CpyC.holds (Keeps.refl _ _) (by simp <;> omega);have HN1':Hid (SliceC BrtC 6 (w.heap.size+3) w3 (some ⟨g1,0,none⟩) x.berths):=HN1.out.keep BrtC.holds (Keeps.trans (by repeat (first | exact Keeps.refl _ _ | refine Keeps.trans ?_ (Keeps.set (by simp <;> omega) _))) (Keeps.of_below hb3 nL _)) nL;clear HN1;have HN1:=HN1';clear HN1';have HN2':Hid (SliceC SvcC 2 (w.heap.size+3) w3 (some ⟨g2,0,none⟩) x.services):=HN2.out.keep SvcC.holds (Keeps.trans (by repeat (first | exact Keeps.refl _ _ | refine Keeps.trans ?_ (Keeps.set (by simp <;> omega) _))) (Keeps.of_below hb3 nL _)) nL;clear HN2;have HN2:=HN2';clear HN2';clear hn3 hb3 hg3;have HPR:Hid (w3.rangeAt (w.heap.size+1+1) 0 [.bool x.pack,.slice (some ⟨g1,0,none⟩) x.berths.length x.berths.length,.slice (some ⟨g2,0,none⟩) x.services.length x.services.length]):=Aa ko3_0 (Aa ko3_1 (Aa ko3_2 (Ap _ _ _)));have HTO:Hid (w3.there (w.heap.size+1+1) 3 1):=An ko3_3 fo3_3 (Ev _ _ _);have HTR:Hid (w3.there (w.heap.size+1) 0 4):=An kr3_0 fr3_0 (An kr3_1 fr3_1 (An kr3_2 fr3_2 (An kr3_3 fr3_3 (Ev _ _ _))));clear kr3_0 fr3_0 kr3_1 fr3_1 kr3_2 fr3_2 kr3_3 fr3_3 ko3_0 fo3_0 ko3_1 fo3_1 ko3_2 fo3_2;go_upto_region 6 with fail;have HRG:Hid (World.rangeAt (w3.setCell ⟨w.heap.size+1+1,3,none⟩ (.slice (some ⟨g3,0,none⟩) x.copies.length x.copies.length)) (w.heap.size+1+1) 0 (ffL x (some ⟨g1,0,none⟩) x.berths.length (some ⟨g2,0,none⟩) x.services.length (some ⟨g3,0,none⟩) x.copies.length)):=Kh (vs:=[.slice (some ⟨g3,0,none⟩) x.copies.length x.copies.length]) HPR rfl HTO;have HTG:Hid (World.there (w3.setCell ⟨w.heap.size+1+1,3,none⟩ (.slice (some ⟨g3,0,none⟩) x.copies.length x.copies.length)) (w.heap.size+1) 0 4):=World.there_setCells HTR (w.heap.size+1+1) 3 [.slice (some ⟨g3,0,none⟩) x.copies.length x.copies.length];have HBG:Hid (Below w.heap.size w (w3.setCell ⟨w.heap.size+1+1,3,none⟩ (.slice (some ⟨g3,0,none⟩) x.copies.length x.copies.length))):=Ac (b:=w.heap.size+1+1) (by omega) [.slice (some ⟨g3,0,none⟩) x.copies.length x.copies.length] 3 _ hB3;have HG1:Hid (SliceC BrtC 6 (w.heap.size+3) (w3.setCell ⟨w.heap.size+1+1,3,none⟩ (.slice (some ⟨g3,0,none⟩) x.copies.length x.copies.length)) (some ⟨g1,0,none⟩) x.berths):=HN1.out.keep BrtC.holds (Keeps.setCells (b:=w.heap.size+1+1) (by omega) [.slice (some ⟨g3,0,none⟩) x.copies.length x.copies.length] 3 _) nL;have HG2:Hid (SliceC SvcC 2 (w.heap.size+3) (w3.setCell ⟨w.heap.size+1+1,3,none⟩ (.slice (some ⟨g3,0,none⟩) x.copies.length x.copies.length)) (some ⟨g2,0,none⟩) x.services):=HN2.out.keep SvcC.holds (Keeps.setCells (b:=w.heap.size+1+1) (by omega) [.slice (some ⟨g3,0,none⟩) x.copies.length x.copies.length] 3 _) nL;have HG3:Hid (SliceC CpyC 12 (w.heap.size+3) (w3.setCell ⟨w.heap.size+1+1,3,none⟩ (.slice (some ⟨g3,0,none⟩) x.copies.length x.copies.length)) (some ⟨g3,0,none⟩) x.copies):=HN3.out.keep CpyC.holds (Keeps.setCells (b:=w.heap.size+1+1) (by omega) [.slice (some ⟨g3,0,none⟩) x.copies.length x.copies.length] 3 _) nL
 clear ko3_3 fo3_3  HPR HTO HTR hz3 hB3 HN1 hg1' HN2 hg2' HN3 hg3';generalize (w3.setCell ⟨w.heap.size+1+1,3,none⟩ (.slice (some ⟨g3,0,none⟩) x.copies.length x.copies.length))=w9 at *;obtain ⟨w10,hw10⟩:∃ w',w'=w9.setCells (w.heap.size+1) 0 (ffL x (some ⟨g1,0,none⟩) x.berths.length (some ⟨g2,0,none⟩) x.services.length (some ⟨g3,0,none⟩) x.copies.length):=⟨_,rfl⟩;have HR10:Hid (w10.rangeAt (w.heap.size+1) 0 (ffL x (some ⟨g1,0,none⟩) x.berths.length (some ⟨g2,0,none⟩) x.services.length (some ⟨g3,0,none⟩) x.copies.length)):=by rw [hw10];exact World.rangeAt_setCells_same _ _ _ _ HTG
 have HB10:Hid (Below w.heap.size w w10):=by rw [hw10];exact Ac (by omega) _ _ _ HBG
 have HS1:Hid (SliceC BrtC 6 w.heap.size w10 (some ⟨g1,0,none⟩) x.berths):=by rw [hw10];exact HG1.out.keep BrtC.holds (Keeps.setCells (by omega) _ _ _) (by omega)
 have HS2:Hid (SliceC SvcC 2 w.heap.size w10 (some ⟨g2,0,none⟩) x.services):=by rw [hw10];exact HG2.out.keep SvcC.holds (Keeps.setCells (by omega) _ _ _) (by omega)
 have HS3:Hid (SliceC CpyC 12 w.heap.size w10 (some ⟨g3,0,none⟩) x.copies):=by rw [hw10];exact HG3.out.keep CpyC.holds (Keeps.setCells (by omega) _ _ _) (by omega)
 have HW10:=iH hw10;clear hw10 HBG HG1 HG2 HG3;go_wp2_with (first | (refine lr Bw HRG ?_) | (refine Ad rfl 41 _ _ rfl (w.heap.size+1) 0 (ffA x (some ⟨g1,0,none⟩) x.berths.length (some ⟨g2,0,none⟩) x.services.length (some ⟨g3,0,none⟩) x.copies.length) rfl rfl HTG Ak (by simp [Value.oneCell']) w10 HW10 ?_));exact bodyPost_ret (Ax rfl _ _ (w.heap.size+1) (ffL x (some ⟨g1,0,none⟩) x.berths.length (some ⟨g2,0,none⟩) x.services.length (some ⟨g3,0,none⟩) x.copies.length) _ rfl HR10 Tryz.underlying41 rfl Ak) rfl ⟨g1,g2,g3,rfl,HS1,HS2,HS3,HB10⟩
theorem Jr (x:Flt) (a1:OA) (c1:Nat) (a2:OA) (c2:Nat) (a3:OA) (c3:Nat) (a1p:OA) (c1p:Nat) (a2p:OA) (c2p:Nat) (a3p:OA) (c3p:Nat) (lo lo':Nat) (w:World) (n1:SliceC BrtC 6 lo w a1 x.berths) (n2:SliceC SvcC 2 lo w a2 x.services) (n3:SliceC CpyC 12 lo w a3 x.copies) (p1:SliceC BrtC 6 lo' w a1p x.berths) (p2:SliceC SvcC 2 lo' w a2p x.services) (p3:SliceC CpyC 12 lo' w a3p x.copies) (hsm:Dx x≤1048576) :
  Calls Tryz.prog 10 #[.agg (ffA x a1 c1 a2 c2 a3 c3),.agg (ffA x a1p c1p a2p c2p a3p c3p)] w (Rt (.bool true) w):=by
 have N1:=iH n1;have P1:=iH p1;have M1:wS Bs x.berths≤1048576:=by unfold Dx at hsm;omega
 have N2:=iH n2;have P2:=iH p2;have M2:wS Cq x.services≤1048576:=by unfold Dx at hsm;omega
 have N3:=iH n3;have P3:=iH p3;have M3:wS Bt x.copies≤1048576:=by unfold Dx at hsm;omega
 clear hsm n1 p1 n2 p2 n3 p3;go_enter Tryz.func10,Tryz.ntmps10;go_wp2_with fail;refine (Yi x.berths a1 a1p c1 c1p lo lo' _ (N1.out.below BrtC.holds (B:=w.heap.size) (by go_grown) nL) (P1.out.below BrtC.holds (B:=w.heap.size) (by go_grown) nL) M1).mono ?_;rintro e w1 ⟨rfl,hb1⟩;have hB1:Below w.heap.size w w1:=(show Below w.heap.size w _ by go_grown).trans (hb1.mono (by simp;omega));have k1_2:w1.cell? ⟨w.heap.size,2,none⟩=some (.slice a2 x.services.length c2):=(hb1.cell (p:=⟨w.heap.size,2,none⟩) (by simp;omega)).trans (by simp);have l1_2:w1.cell? ⟨w.heap.size+1,2,none⟩=some (.slice a2p x.services.length c2p):=(hb1.cell (p:=⟨w.heap.size+1,2,none⟩) (by simp)).trans (by simp);have k1_3:w1.cell? ⟨w.heap.size,3,none⟩=some (.slice a3 x.copies.length c3):=(hb1.cell (p:=⟨w.heap.size,3,none⟩) (by simp;omega)).trans (by simp);have l1_3:w1.cell? ⟨w.heap.size+1,3,none⟩=some (.slice a3p x.copies.length c3p):=(hb1.cell (p:=⟨w.heap.size+1,3,none⟩) (by simp)).trans (by simp);have hs1:w.heap.size+1<w1.heap.size:=by have:=hb1.size;simp at this;omega
 clear hb1;go_wp2_with fail;refine (Xz x.services a2 a2p c2 c2p lo lo' _ (N2.out.below SvcC.holds (B:=w.heap.size) (hB1) nL) (P2.out.below SvcC.holds (B:=w.heap.size) (hB1) nL) M2).mono ?_;rintro e w2 ⟨rfl,hb2⟩;have hB2:=hB1.trans (hb2.mono (by omega));have k2_3:w2.cell? ⟨w.heap.size,3,none⟩=some (.slice a3 x.copies.length c3):=(hb2.cell (p:=⟨w.heap.size,3,none⟩) (show w.heap.size<w1.heap.size by omega)).trans k1_3;have l2_3:w2.cell? ⟨w.heap.size+1,3,none⟩=some (.slice a3p x.copies.length c3p):=(hb2.cell (p:=⟨w.heap.size+1,3,none⟩) hs1).trans l1_3;have hs2:w.heap.size+1<w2.heap.size:=by have:=hb2.size;omega
 clear hb2 hB1 hs1 k1_2 l1_2 k1_3 l1_3;go_wp2_with fail;refine (Yg x.copies a3 a3p c3 c3p lo lo' _ (N3.out.below CpyC.holds (B:=w.heap.size) (hB2) nL) (P3.out.below CpyC.holds (B:=w.heap.size) (hB2) nL) M3).mono ?_;rintro e w3 ⟨rfl,hb3⟩;have hB3:=hB2.trans (hb3.mono (by omega));have hs3:w.heap.size+1<w3.heap.size:=by have:=hb3.size;omega
 clear hb3 hB2 hs2 k2_3 l2_3;go_wp2_with fail;go_ret;exact ⟨rfl,hB3⟩
def setRow (cs:Array Value):Nat→List Value→Array Value
 | _,[]=>cs
 | o,v::r=>setRow (cs.setIfInBounds o v) (o+1) r
theorem Kb (v:Value):∀ (l:List Value) (o:Nat),o<l.length→(l.set o v).take (o+1)=l.take o++[v]
 | [],_,h=>by simp at h
 | a::l,0,_=>by simp
 | a::l,o+1,h=>by
  have ih:=Kb v l o (by simpa using h);simp [ih]
theorem Ng:∀ (vs:List Value) (cs:Array Value) (o:Nat),o+vs.length=cs.size→(setRow cs o vs).toList=cs.toList.take o++vs
 | [],cs,o,h=>by
  have:cs.toList.length≤o:=by simp at h;simp;omega
  simp [setRow,List.take_of_length_le this]
 | v::r,cs,o,h=>by
  have h':o+(r.length+1)=cs.size:=by simpa using h
  have ih:=Ng r (cs.setIfInBounds o v) (o+1) (by simp;omega);simp only [setRow];rw [ih,Array.toList_setIfInBounds,Kb v _ _ (by simp;omega)];simp
theorem Zj (vs:List Value) (cs:Array Value) (h:vs.length=cs.size):setRow cs 0 vs=vs.toArray:=by
 have:=Ng vs cs 0 (by omega);apply Array.toList_inj.1;rw [this];simp
theorem Blk.setRow {g:Nat} {t:TypeId}:∀ (vs:List Value) (o:Nat) (cs:Array Value) (w:World),Blk g cs t w→Blk g (setRow cs o vs) t (w.setCells g o vs)
 | [],_,_,_,h=>h
 | v::r,o,_,_,h=>Blk.setRow r (o+1) _ _ (h.set o v)
theorem Blk.setAll {g:Nat} {cs:Array Value} {t:TypeId} {w:World} (h:Blk g cs t w) (vs:Array Value) (hl:vs.size=cs.size):Blk g vs t (w.setCells g 0 vs.toList):=by
 have:=h.setRow vs.toList 0;rw [Zj vs.toList cs (by simpa using hl)] at this;simpa using this
theorem Blk.grown {g:Nat} {cs:Array Value} {t:TypeId} {w w':World} {row:Option Nat} (h:Blk g cs t w) (hg:w.grownBy w' row) (hr:some g≠row):Blk g cs t w':=(hg.block g h.lt hr).trans h
theorem Cr {g b:Nat} {cs:Array Value} {t:TypeId} (hne:g≠b):∀ (vs:List Value) (o:Nat) (w:World),Blk g cs t w→Blk g cs t (w.setCells b o vs)
 | [],_,_,h=>h
 | v::r,o,_,h=>Cr hne r (o+1) _ (h.other (a:=⟨b,o,none⟩) hne v)
theorem Km:∀ (vs a b:List Value) (o:Nat),a.length≤o→Bu (a++b) o vs=a++Bu b (o - a.length) vs
 | [],_,_,_,_=>rfl
 | v::vs,a,b,o,h=>by
  simp only [Bu];rw [List.set_append_right _ _ h,Km vs a _ (o+1) (by omega),show o+1 - a.length=o - a.length+1 by omega]
theorem Ui {base g cap n:Nat} {w:World} {e:TypeId} {s:Nat} {cs:List Value} (h:w.ownsRow base e s (.slice (some ⟨g,0,none⟩) n cap) n cs):base≤g:=by
 rcases h.2 with ⟨h1,_⟩ | ⟨g',cap',cur,h1,h2,_⟩
 ·cases h1
 ·cases h1;exact h2
theorem Dj {base n:Nat} {w:World} {e:TypeId} {s:Nat} {cs:List Value} {v:Value} (h:w.ownsRow base e s v n cs) (hn:v≠.slice none 0 0):∃ g cap,v=.slice (some ⟨g,0,none⟩) n cap:=by
 rcases h.2 with ⟨h1,_⟩ | ⟨g',cap',cur,h1,_⟩
 ·exact absurd h1 hn
 ·exact ⟨g',cap',h1⟩
def Ji (x:Lik):List Value:=[.string x.select,.int .i64 x.weight]
def Dd:List Lik→List Value
 | []=>[]
 | x::r=>Ji x++Dd r
theorem Gb (x:Lik):(Ji x).length=2:=rfl
theorem Hk:∀ xs:List Lik,(Dd xs).length=xs.length*2
 | []=>rfl
 | x::r=>by
  have:=Hk r;simp only [Dd,List.length_append,List.length_cons,Gb];omega
theorem Lc:∀ (xs:List Lik) (k:Nat) (x:Lik) (j:Nat),xs[k]?=some x→j<2→(Dd xs)[k*2+j]?=(Ji x)[j]?
 | [],_,_,_,h,_=>by simp at h
 | y::r,0,x,j,h,hj=>by
  simp at h;subst h;simp only [Dd];rw [List.getElem?_append_left (by rw [Gb];omega)];simp
 | y::r,k+1,x,j,h,hj=>by
  simp at h;simp only [Dd];rw [List.getElem?_append_right (by rw [Gb];omega),Gb,show (k+1)*2+j - 2=k*2+j by omega];exact Lc r k x j h hj
theorem Qf:∀ (xs:List Lik) (k:Nat) (x:Lik),xs[k]?=some x→Bu (Dd xs) (k*2) (Ji x)=Dd xs
 | [],_,_,h=>by simp at h
 | z::r,0,x,h=>by
  simp at h;subst h;rfl
 | z::r,k+1,x,h=>by
  simp at h;simp only [Dd];rw [Km _ _ _ _ (by rw [Gb];omega),Gb,show (k+1)*2 - 2=k*2 by omega,Qf r k x h]
theorem Mn:∀ (xs:List Lik),∀ u∈Dd xs,u.oneCell'=true
 | [],u,h=>by cases h
 | x::r,u,h=>by
  simp only [Dd,List.mem_append] at h;rcases h with h | h
  ·have:∀ v∈Ji x,v.oneCell'=true:=by
    intro v hv;simp only [Ji,List.mem_cons,List.not_mem_nil,or_false] at hv;rcases hv with rfl | rfl <;> rfl
   exact this u h
  ·exact Mn r u h
theorem Wl {lo:Nat} {w:World} {f:Nat→Option Value} {x:Lik} (h:LikC lo w f x) (j:Nat) (v:Value) (hv:(Ji x)[j]?=some v):f j=some v:=by
 obtain ⟨q0,q1,_⟩:=h;have hj:j<2:=Ae hv;have hc:j=0∨j=1:=by omega
 rcases hc with rfl | rfl <;> (cases hv;assumption)
theorem Vk {lo:Nat} {w:World} {f:Nat→Option Value} {x:Lik} (h:∀ j v,(Ji x)[j]?=some v→f j=some v) (z0:x.select.size≤maxLen):LikC lo w f x :=
 ⟨h 0 _ rfl,h 1 _ rfl,z0⟩
theorem jK {lo:Nat} {w:World} {b o:Nat} {xs:List Lik} (h:SliceC LikC 2 lo w (some ⟨b,o,none⟩) xs) (j:Nat) (u:Value) (hu:(Dd xs)[j]?=some u):w.cell? ((⟨b,o,none⟩:Addr).add j)=some u:=by
 have hl:j<xs.length*2:=by have:=Ae hu;rwa [Hk] at this
 obtain ⟨x,hx⟩:∃ x,xs[j / 2]?=some x:=⟨xs[j / 2]'(by omega),gE (by omega)⟩;obtain ⟨b',o',e,_,_,hc⟩:=h.at hx;cases e
 rw [show j=j / 2*2+j % 2 by omega,Lc xs (j / 2) x (j % 2) hx (by omega)] at hu;have:=Wl hc (j % 2) u hu;rw [Addr.add_mid,show o+j=o+j / 2*2+j % 2 by omega];exact this
def Rp (xs:List Lik) (m:Nat):Prop:=∀ x∈xs,x.select.size≤m
theorem Vp {base cap:Nat} {a:OA} {w:World} {xs:List Lik} (h:w.ownsRow base 125 2 (.slice a xs.length cap) xs.length (Dd xs)) (hm:xs.length≤1048576) (hz:Rp xs maxLen):SliceC LikC 2 base w a xs:=by
 rcases h.2 with ⟨h1,_⟩ | ⟨g',cap',cur,h1,_⟩
 ·have:xs.length=0:=by injection h1
  rw [List.length_eq_zero_iff.1 this];exact SliceC.nil
 ·have e:a=some ⟨g',0,none⟩:=by injection h1
  subst e;refine ⟨by unfold maxLen;omega,.inr ⟨g',0,rfl,⟨Ui h,fun _ p=>h.frozenAt p⟩,(h.lt g' rfl).2,fun k x hk=>?_⟩⟩;have hlt:=Ae hk;have hzz:=hz x (List.mem_of_getElem? hk);refine Vk (fun j v hv=>?_) hzz;have hj:j<2:=Ae hv;show w.cell? ⟨g',0+k*2+j,none⟩=some v
  have:=h.cellAt (k*2+j) (by omega);rw [Nat.zero_add];rw [this,Lc xs k x j hk hj];exact hv
theorem Nh {lo:Nat} {w:World} {a:OA} {xs:List Lik} (h:SliceC LikC 2 lo w a xs):Rp xs maxLen:=by
 intro x hx;obtain ⟨j,hj⟩:=List.getElem?_of_mem hx;obtain ⟨_,_,_,_,_,hc⟩:=h.at hj;obtain ⟨_,_,z0⟩:=hc;exact z0
def Jg (x:Svc):List Value:=[.string x.name,.int .i64 x.spare]
def Cy:List Svc→List Value
 | []=>[]
 | x::r=>Jg x++Cy r
theorem Gc (x:Svc):(Jg x).length=2:=rfl
theorem Et:∀ xs:List Svc,(Cy xs).length=xs.length*2
 | []=>rfl
 | x::r=>by
  have:=Et r;simp only [Cy,List.length_append,List.length_cons,Gc];omega
theorem Lr:∀ (xs:List Svc) (k:Nat) (x:Svc) (j:Nat),xs[k]?=some x→j<2→(Cy xs)[k*2+j]?=(Jg x)[j]?
 | [],_,_,_,h,_=>by simp at h
 | y::r,0,x,j,h,hj=>by
  simp at h;subst h;simp only [Cy];rw [List.getElem?_append_left (by rw [Gc];omega)];simp
 | y::r,k+1,x,j,h,hj=>by
  simp at h;simp only [Cy];rw [List.getElem?_append_right (by rw [Gc];omega),Gc,show (k+1)*2+j - 2=k*2+j by omega];exact Lr r k x j h hj
theorem Pe:∀ (xs:List Svc) (k:Nat) (x:Svc),xs[k]?=some x→Bu (Cy xs) (k*2) (Jg x)=Cy xs
 | [],_,_,h=>by simp at h
 | z::r,0,x,h=>by
  simp at h;subst h;rfl
 | z::r,k+1,x,h=>by
  simp at h;simp only [Cy];rw [Km _ _ _ _ (by rw [Gc];omega),Gc,show (k+1)*2 - 2=k*2 by omega,Pe r k x h]
theorem Hw:∀ (xs:List Svc),∀ u∈Cy xs,u.oneCell'=true
 | [],u,h=>by cases h
 | x::r,u,h=>by
  simp only [Cy,List.mem_append] at h;rcases h with h | h
  ·have:∀ v∈Jg x,v.oneCell'=true:=by
    intro v hv;simp only [Jg,List.mem_cons,List.not_mem_nil,or_false] at hv;rcases hv with rfl | rfl <;> rfl
   exact this u h
  ·exact Hw r u h
theorem Xg {lo:Nat} {w:World} {f:Nat→Option Value} {x:Svc} (h:SvcC lo w f x) (j:Nat) (v:Value) (hv:(Jg x)[j]?=some v):f j=some v:=by
 obtain ⟨q0,q1,_⟩:=h;have hj:j<2:=Ae hv;have hc:j=0∨j=1:=by omega
 rcases hc with rfl | rfl <;> (cases hv;assumption)
theorem Wb {lo:Nat} {w:World} {f:Nat→Option Value} {x:Svc} (h:∀ j v,(Jg x)[j]?=some v→f j=some v) (z0:x.name.size≤maxLen):SvcC lo w f x :=
 ⟨h 0 _ rfl,h 1 _ rfl,z0⟩
theorem Nt {lo:Nat} {w:World} {b o:Nat} {xs:List Svc} (h:SliceC SvcC 2 lo w (some ⟨b,o,none⟩) xs) (j:Nat) (u:Value) (hu:(Cy xs)[j]?=some u):w.cell? ((⟨b,o,none⟩:Addr).add j)=some u:=by
 have hl:j<xs.length*2:=by have:=Ae hu;rwa [Et] at this
 obtain ⟨x,hx⟩:∃ x,xs[j / 2]?=some x:=⟨xs[j / 2]'(by omega),gE (by omega)⟩;obtain ⟨b',o',e,_,_,hc⟩:=h.at hx;cases e
 rw [show j=j / 2*2+j % 2 by omega,Lr xs (j / 2) x (j % 2) hx (by omega)] at hu;have:=Xg hc (j % 2) u hu;rw [Addr.add_mid,show o+j=o+j / 2*2+j % 2 by omega];exact this
def Ra (xs:List Svc) (m:Nat):Prop:=∀ x∈xs,x.name.size≤m
theorem Lf {base cap:Nat} {a:OA} {w:World} {xs:List Svc} (h:w.ownsRow base 94 2 (.slice a xs.length cap) xs.length (Cy xs)) (hm:xs.length≤1048576) (hz:Ra xs maxLen):SliceC SvcC 2 base w a xs:=by
 rcases h.2 with ⟨h1,_⟩ | ⟨g',cap',cur,h1,_⟩
 ·have:xs.length=0:=by injection h1
  rw [List.length_eq_zero_iff.1 this];exact SliceC.nil
 ·have e:a=some ⟨g',0,none⟩:=by injection h1
  subst e;refine ⟨by unfold maxLen;omega,.inr ⟨g',0,rfl,⟨Ui h,fun _ p=>h.frozenAt p⟩,(h.lt g' rfl).2,fun k x hk=>?_⟩⟩;have hlt:=Ae hk;have hzz:=hz x (List.mem_of_getElem? hk);refine Wb (fun j v hv=>?_) hzz;have hj:j<2:=Ae hv;show w.cell? ⟨g',0+k*2+j,none⟩=some v
  have:=h.cellAt (k*2+j) (by omega);rw [Nat.zero_add];rw [this,Lr xs k x j hk hj];exact hv
theorem Ir {lo:Nat} {w:World} {a:OA} {xs:List Svc} (h:SliceC SvcC 2 lo w a xs):Ra xs maxLen:=by
 intro x hx;obtain ⟨j,hj⟩:=List.getElem?_of_mem hx;obtain ⟨_,_,_,_,_,hc⟩:=h.at hj;obtain ⟨_,_,z0⟩:=hc;exact z0
abbrev Ed (xs:List BA):List Value:=xs.map Value.string
theorem Rm (xs:List BA):(Ed xs).length=xs.length*1:=by simp
theorem Rs (ms:List BA):∀ u∈Ed ms,u.oneCell'=true:=by
 intro u hu;obtain ⟨x,_,rfl⟩:=List.mem_map.1 hu;rfl
theorem gC {ms:List BA} {j:Nat} {u:Value} (h:(Ed ms)[j]?=some u):∃ s,ms[j]?=some s∧u=.string s:=by
 rw [List.getElem?_map] at h
 cases e:ms[j]? with
 | none=>rw [e] at h;cases h
 | some s=>rw [e] at h;cases h;exact ⟨s,rfl,rfl⟩
theorem iZ {lo:Nat} {w:World} {b o:Nat} {xs:List BA} (h:SliceC StrC 1 lo w (some ⟨b,o,none⟩) xs) (j:Nat) (u:Value) (hu:(Ed xs)[j]?=some u):w.cell? ((⟨b,o,none⟩:Addr).add j)=some u:=by
 obtain ⟨s,hs,rfl⟩:=gC hu;obtain ⟨b',o',e,_,_,hc⟩:=h.at hs;cases e
 have:=hc.1;simp only [Nat.mul_one,Nat.add_zero] at this;rw [Addr.add_mid];exact this
def Si (xs:List BA) (m:Nat):Prop:=∀ x∈xs,x.size≤m
theorem Nf {lo:Nat} {w:World} {a:OA} {xs:List BA} (h:SliceC StrC 1 lo w a xs):Si xs maxLen:=by
 intro x hx;obtain ⟨j,hj⟩:=List.getElem?_of_mem hx;obtain ⟨_,_,_,_,_,hc⟩:=h.at hj;exact hc.2
theorem Uu {base cap:Nat} {a:OA} {w:World} {xs:List BA} (h:w.ownsRow base 9 1 (.slice a xs.length cap) xs.length (Ed xs)) (hm:xs.length≤1048576) (hz:Si xs maxLen):SliceC StrC 1 base w a xs:=by
 rcases h.2 with ⟨h1,_⟩ | ⟨g',cap',cur,h1,_⟩
 ·have:xs.length=0:=by injection h1
  rw [List.length_eq_zero_iff.1 this];exact SliceC.nil
 ·have e:a=some ⟨g',0,none⟩:=by injection h1
  subst e;refine ⟨by unfold maxLen;omega,.inr ⟨g',0,rfl,⟨Ui h,fun _ p=>h.frozenAt p⟩,(h.lt g' rfl).2,fun k x hk=>⟨?_,hz x (List.mem_of_getElem? hk)⟩⟩⟩;have hlt:=Ae hk;have:=h.cellAt k (by omega);simp only [Nat.mul_one,Nat.add_zero,Nat.zero_add];rw [this,List.getElem?_map,hk];rfl
theorem Hu {P:Program} {w:World} (base:Nat) (t ty e:TypeId) (i:TypeInfo) (size c:Nat) (ht:P.underlying t=some (.slice e)) (hi:P.info? e=some i)
  (v:Value) (n:Nat) (xs:List Value) (hown:w.ownsRow base e size v n xs) :
  (Builtin.append_ #[t,t] ty #[v,.slice none 0 c]).run P w=.ok v w:=by
 rcases hown.2 with ⟨rfl,rfl⟩ | ⟨g,cap,cur,rfl,_,_,hnc,_⟩
 ·simp [Builtin.append_,run_underlying ht,sizeOf,typeInfo,hi,Builtin.lenOf,Builtin.firstCells]
 ·simp [Builtin.append_,run_underlying ht,sizeOf,typeInfo,hi,Builtin.lenOf,Builtin.firstCells,hnc,storeCells]
theorem Eo {P:Program} {w:World} {ops:Array Oper} {rest:List Oper} {o:Oper} {a:Act} {Q:Exit→Act→World→Prop} (hgd:o.guard=none) (s x:Operand) (t:TypeId)
  (ho:o.op=.call { callee:=.builtin .append,args:=#[s,x],argTypes:=#[t,t] })
  (base:Nat) (e:TypeId) (i:TypeInfo) (z:Value) (size bytes:Nat) (ht:P.underlying t=some (.slice e)) (hi:P.info? e=some i) (hz:i.zero=some z)
  (hsize:i.size=size) (hby:i.bytes=bytes) (hzs:z.cells.size=size) (hsz:0<size)
  (v:Value) (n:Nat) (xs:List Value) (hs:a.eval s=v) (hown:w.ownsRow base e size v n xs)
  (ao:OA) (m c:Nat) (news:List Value) (hx:a.eval x=.slice ao m c) (hno:ao=none→m=0) (hl:news.length=m*size) (hnews:∀ ad,ao=some ad→∀ j u,news[j]?=some u→w.cell? (ad.add j)=some u) (h1:∀ u∈news,u.oneCell'=true)
  (h63:n+m≤maxLen) (hbytes:(n+m)*bytes≤140737488355328) (hbase:base≤w.heap.size)
  (h:∀ v' w',w'.ownsRow base e size v' (n+m) (xs++news)→w.grownBy w' v.ownBlock→(v'=.slice none 0 0↔v=.slice none 0 0∧m=0)→wpList P ops Q rest (a.put o.dst v') w'):wpList P ops Q (o::rest) a w:=by
 cases ao with
 | some ad=>exact wpList_append_own w hgd s x t ho base e i z size bytes ht hi hz hsize hby hzs hsz v n xs hs hown ad m c news hx hl (hnews ad rfl) h1 h63 hbytes hbase h
 | none =>
  obtain rfl:=hno rfl;have hn:news=[]:=List.length_eq_zero_iff.1 (by omega);subst hn;have hrun:=Hu (P:=P) (w:=w) base t o.type e i size c ht hi v n xs hown;refine wpList_plain hgd fun K hK=>?_
  unfold Oper.wp;simp [execOp,ho,resolve,invoke,builtin,hs,hx,hrun,Result.andThen];exact hK _ _ (h v w (by simpa using hown) ⟨rfl,rfl,rfl,Nat.le_refl _,fun _ _ _=>rfl⟩ (by simp))
theorem SliceC.nilD {α:Type} {C:Db α} {n lo:Nat} {w:World} {a:OA} {xs:List α} (h:SliceC C n lo w a xs) (e:a=none):xs.length=0:=by
 rcases h.2 with h | ⟨b,o,h,_⟩
 ·rw [h];rfl
 ·rw [e] at h;cases h
theorem Wy {lo:Nat} {w:World} {a:OA} {xs:List BA} (h:SliceC StrC 1 lo w a xs):∀ ad,a=some ad→∀ j u,(Ed xs)[j]?=some u→w.cell? (ad.add j)=some u:=by
 intro ad e j u hu;rcases h.2 with h' | ⟨b,o,e',_⟩
 ·subst h';cases hu
 ·rw [e] at e';cases e';subst e;exact iZ h j u hu
theorem Uw {lo:Nat} {w:World} {a:OA} {xs:List Lik} (h:SliceC LikC 2 lo w a xs):∀ ad,a=some ad→∀ j u,(Dd xs)[j]?=some u→w.cell? (ad.add j)=some u:=by
 intro ad e j u hu;rcases h.2 with h' | ⟨b,o,e',_⟩
 ·subst h';cases hu
 ·rw [e] at e';cases e';subst e;exact jK h j u hu
theorem gF {lo:Nat} {w:World} {a:OA} {xs:List Svc} (h:SliceC SvcC 2 lo w a xs):∀ ad,a=some ad→∀ j u,(Cy xs)[j]?=some u→w.cell? (ad.add j)=some u:=by
 intro ad e j u hu;rcases h.2 with h' | ⟨b,o,e',_⟩
 ·subst h';cases hu
 ·rw [e] at e';cases e';subst e;exact Nt h j u hu
end Go.Proofs.YtihnjndnkgnmaaaGreat
