import Derived.Test.YtihnjndnkgnmaaaGreatShp
set_option maxHeartbeats 2000000
namespace Go.Proofs.YtihnjndnkgnmaaaGreat
open Go.RowKit
structure Brt where
 name:BA
 zone:BA
 marks:List BA
 room:Int
 hold:Int
 closed:Bool
abbrev bbL (x:Brt) (a:OA) (c:Nat):List Value:=[.string x.name,.string x.zone,.slice a x.marks.length c,.int .i64 x.room,.int .i64 x.hold,.bool x.closed]
abbrev bbA (x:Brt) (a:OA) (c:Nat):Array Value:=#[.string x.name,.string x.zone,.slice a x.marks.length c,.int .i64 x.room,.int .i64 x.hold,.bool x.closed]
abbrev yyL:List Value:=[.string ⟨#[]⟩,.string ⟨#[]⟩,.slice none 0 0,.int .i64 0,.int .i64 0,.bool false]
abbrev yyA:Array Value:=#[.string ⟨#[]⟩,.string ⟨#[]⟩,.slice none 0 0,.int .i64 0,.int .i64 0,.bool false]
def Bs (x:Brt):Nat:=x.name.size+x.zone.size+(wS ByteArray.size x.marks)
def BrtC:Db Brt:=fun lo w f x=>∃ (a2:OA) (c2:Nat),f 0=some (.string x.name)∧f 1=some (.string x.zone)∧f 2=some (.slice a2 x.marks.length c2)∧f 3=some (.int .i64 x.room)∧f 4=some (.int .i64 x.hold)∧f 5=some (.bool x.closed)∧x.name.size≤maxLen∧x.zone.size≤maxLen∧SliceC StrC 1 lo w a2 x.marks
theorem BrtC.holds:Dy BrtC 6:=by
 rintro lo lo' w w' f g x h k hl ⟨a2,c2,q0,q1,q2,q3,q4,q5,z0,z1,n2⟩;exact ⟨a2,c2,(h 0 (by omega)).trans q0,(h 1 (by omega)).trans q1,(h 2 (by omega)).trans q2,(h 3 (by omega)).trans q3,(h 4 (by omega)).trans q4,(h 5 (by omega)).trans q5,z0,z1,n2.keep StrC.holds k hl⟩
theorem Ry (x:Brt) (a2:OA) (c2:Nat) (lo:Nat) (L:Int) (w:World) (z0:x.name.size≤maxLen) (z1:x.zone.size≤maxLen) (n2:SliceC StrC 1 lo w a2 x.marks) (h0:0≤L) (h1:L≤1048576) :
  Calls Tryz.prog 18 #[.agg (bbA x a2 c2),.int .i64 L] w (Rt (.int .i64 (szR (Bs x) L)) w):=by
 unfold maxLen at z0 z1;have N2:=iH n2;clear n2;have HW:Hid (Bs x=x.name.size+x.zone.size+(wS ByteArray.size x.marks)):=rfl;generalize Bs x=W at *;by_cases d0:L - (x.name.size:Nat)<0
 ·go_enter Tryz.func18,Tryz.ntmps18
  go_wp2_with fail;go_ret;exact ⟨Atq (by have:=HW.out;unfold szR;rw [if_neg (by omega)]),by go_grown⟩
 ·skip
  by_cases d1:L - (x.name.size:Nat) - (x.zone.size:Nat)<0
  ·go_enter Tryz.func18,Tryz.ntmps18
   go_wp2_with fail;go_ret;exact ⟨Atq (by have:=HW.out;unfold szR;rw [if_neg (by omega)]),by go_grown⟩
  ·skip
   go_enter Tryz.func18,Tryz.ntmps18;go_wp2_with fail;refine (Zm x.marks a2 c2 lo _ _ (N2.out.below StrC.holds (B:=w.heap.size) (by go_grown) nL) (by omega) (by omega)).mono ?_;rintro e w1 ⟨rfl,hb1⟩;have hB1:Below w.heap.size w w1:=(show Below w.heap.size w _ by go_grown).trans (hb1.mono (by simp));have hs1:w.heap.size<w1.heap.size:=by have:=hb1.size;simp at this;omega
   clear hb1;by_cases d2:(((wS ByteArray.size x.marks):Nat):Int)≤L - (x.name.size:Nat) - (x.zone.size:Nat)
   ·rw [Ea d2]
    go_wp2_with fail;go_ret;exact ⟨Atq (by have:=HW.out;unfold szR;rw [if_pos (by omega)];omega),hB1⟩
   ·rw [Eb d2]
    go_wp2_with fail;go_ret;exact ⟨Atq (by have:=HW.out;unfold szR;rw [if_neg (by omega)]),hB1⟩
theorem Cc:(Tryz.prog.info? 45).map (·.size)=some 6:=by kernel_rfl
theorem Gg:Ls 45 6:=⟨_,Tryz.underlying45,rfl,Cc⟩
theorem Qu (x:Brt) (a2:OA) (c2:Nat) (lo:Nat) (w:World) (n2:SliceC StrC 1 lo w a2 x.marks) (hsm:Bs x≤1048576) :
  Calls Tryz.prog 26 #[.agg (bbA x a2 c2)] w fun e w'=>∃ g2,e=.returned (.agg (bbA x (some ⟨g2,0,none⟩) x.marks.length))∧SliceC StrC 1 w.heap.size w' (some ⟨g2,0,none⟩) x.marks∧Below w.heap.size w w':=by
 have N2:=iH n2;have M2:wS ByteArray.size x.marks≤1048576:=by unfold Bs at hsm;omega
 clear hsm n2;go_enter Tryz.func26,Tryz.ntmps26;go_wp2_with fail;refine (Zf x.marks a2 c2 lo _ (N2.out.below StrC.holds (B:=w.heap.size) (by go_grown) nL) M2).mono ?_;rintro e w1 ⟨g2,rfl,hg2,hn2,hb1⟩;have hz1:w.heap.size+1+1<w1.heap.size:=by have:=hb1.size;simp at this;omega
 have ko1_0:w1.cell? ⟨w.heap.size+1+1,0,none⟩=some (.string x.name):=(hb1.cell (p:=⟨w.heap.size+1+1,0,none⟩) (by simp <;> omega)).trans (by simp [go_sem]);have fo1_0:w1.frozen? ⟨w.heap.size+1+1,0,none⟩=false:=(hb1.frozen (p:=⟨w.heap.size+1+1,0,none⟩) (by simp <;> omega)).trans (by simp [go_sem]);have kr1_0:w1.cell? ⟨w.heap.size+1,0,none⟩=some (.string ⟨#[]⟩):=(hb1.cell (p:=⟨w.heap.size+1,0,none⟩) (by simp <;> omega)).trans (by simp [go_sem]);have fr1_0:w1.frozen? ⟨w.heap.size+1,0,none⟩=false:=(hb1.frozen (p:=⟨w.heap.size+1,0,none⟩) (by simp <;> omega)).trans (by simp [go_sem]);have ko1_1:w1.cell? ⟨w.heap.size+1+1,1,none⟩=some (.string x.zone):=(hb1.cell (p:=⟨w.heap.size+1+1,1,none⟩) (by simp <;> omega)).trans (by simp [go_sem]);have fo1_1:w1.frozen? ⟨w.heap.size+1+1,1,none⟩=false:=(hb1.frozen (p:=⟨w.heap.size+1+1,1,none⟩) (by simp <;> omega)).trans (by simp [go_sem]);have kr1_1:w1.cell? ⟨w.heap.size+1,1,none⟩=some (.string ⟨#[]⟩):=(hb1.cell (p:=⟨w.heap.size+1,1,none⟩) (by simp <;> omega)).trans (by simp [go_sem]);have fr1_1:w1.frozen? ⟨w.heap.size+1,1,none⟩=false:=(hb1.frozen (p:=⟨w.heap.size+1,1,none⟩) (by simp <;> omega)).trans (by simp [go_sem]);have ko1_2:w1.cell? ⟨w.heap.size+1+1,2,none⟩=some (.slice none 0 0):=(hb1.cell (p:=⟨w.heap.size+1+1,2,none⟩) (by simp <;> omega)).trans (by simp [go_sem]);have fo1_2:w1.frozen? ⟨w.heap.size+1+1,2,none⟩=false:=(hb1.frozen (p:=⟨w.heap.size+1+1,2,none⟩) (by simp <;> omega)).trans (by simp [go_sem]);have kr1_2:w1.cell? ⟨w.heap.size+1,2,none⟩=some (.slice none 0 0):=(hb1.cell (p:=⟨w.heap.size+1,2,none⟩) (by simp <;> omega)).trans (by simp [go_sem]);have fr1_2:w1.frozen? ⟨w.heap.size+1,2,none⟩=false:=(hb1.frozen (p:=⟨w.heap.size+1,2,none⟩) (by simp <;> omega)).trans (by simp [go_sem]);have ka1_3:w1.cell? ⟨w.heap.size,3,none⟩=some (.int .i64 x.room):=(hb1.cell (p:=⟨w.heap.size,3,none⟩) (by simp <;> omega)).trans (by simp [go_sem]);have ko1_3:w1.cell? ⟨w.heap.size+1+1,3,none⟩=some (.int .i64 0):=(hb1.cell (p:=⟨w.heap.size+1+1,3,none⟩) (by simp <;> omega)).trans (by simp [go_sem]);have fo1_3:w1.frozen? ⟨w.heap.size+1+1,3,none⟩=false:=(hb1.frozen (p:=⟨w.heap.size+1+1,3,none⟩) (by simp <;> omega)).trans (by simp [go_sem]);have kr1_3:w1.cell? ⟨w.heap.size+1,3,none⟩=some (.int .i64 0):=(hb1.cell (p:=⟨w.heap.size+1,3,none⟩) (by simp <;> omega)).trans (by simp [go_sem]);have fr1_3:w1.frozen? ⟨w.heap.size+1,3,none⟩=false:=(hb1.frozen (p:=⟨w.heap.size+1,3,none⟩) (by simp <;> omega)).trans (by simp [go_sem]);have ka1_4:w1.cell? ⟨w.heap.size,4,none⟩=some (.int .i64 x.hold):=(hb1.cell (p:=⟨w.heap.size,4,none⟩) (by simp <;> omega)).trans (by simp [go_sem]);have ko1_4:w1.cell? ⟨w.heap.size+1+1,4,none⟩=some (.int .i64 0):=(hb1.cell (p:=⟨w.heap.size+1+1,4,none⟩) (by simp <;> omega)).trans (by simp [go_sem])
 have fo1_4:w1.frozen? ⟨w.heap.size+1+1,4,none⟩=false:=(hb1.frozen (p:=⟨w.heap.size+1+1,4,none⟩) (by simp <;> omega)).trans (by simp [go_sem]);have kr1_4:w1.cell? ⟨w.heap.size+1,4,none⟩=some (.int .i64 0):=(hb1.cell (p:=⟨w.heap.size+1,4,none⟩) (by simp <;> omega)).trans (by simp [go_sem]);have fr1_4:w1.frozen? ⟨w.heap.size+1,4,none⟩=false:=(hb1.frozen (p:=⟨w.heap.size+1,4,none⟩) (by simp <;> omega)).trans (by simp [go_sem]);have ka1_5:w1.cell? ⟨w.heap.size,5,none⟩=some (.bool x.closed):=(hb1.cell (p:=⟨w.heap.size,5,none⟩) (by simp <;> omega)).trans (by simp [go_sem]);have ko1_5:w1.cell? ⟨w.heap.size+1+1,5,none⟩=some (.bool false):=(hb1.cell (p:=⟨w.heap.size+1+1,5,none⟩) (by simp <;> omega)).trans (by simp [go_sem]);have fo1_5:w1.frozen? ⟨w.heap.size+1+1,5,none⟩=false:=(hb1.frozen (p:=⟨w.heap.size+1+1,5,none⟩) (by simp <;> omega)).trans (by simp [go_sem]);have kr1_5:w1.cell? ⟨w.heap.size+1,5,none⟩=some (.bool false):=(hb1.cell (p:=⟨w.heap.size+1,5,none⟩) (by simp <;> omega)).trans (by simp [go_sem]);have fr1_5:w1.frozen? ⟨w.heap.size+1,5,none⟩=false:=(hb1.frozen (p:=⟨w.heap.size+1,5,none⟩) (by simp <;> omega)).trans (by simp [go_sem]);have hg2':w.heap.size+1+1<g2:=by simp at hg2;omega
 have hB1:Below w.heap.size w w1:=(show Below w.heap.size w _ by go_grown).trans (hb1.mono (by simp <;> omega));have HN2:Hid (SliceC StrC 1 (w.heap.size+3) w1 (some ⟨g2,0,none⟩) x.marks):=hn2.keep StrC.holds (Keeps.refl _ _) (by simp <;> omega);clear hn2 hb1 hg2;have HPR:Hid (w1.rangeAt (w.heap.size+1+1) 0 [.string x.name,.string x.zone]):=Aa ko1_0 (Aa ko1_1 (Ap _ _ _));have HTO:Hid (w1.there (w.heap.size+1+1) 2 4):=An ko1_2 fo1_2 (An ko1_3 fo1_3 (An ko1_4 fo1_4 (An ko1_5 fo1_5 (Ev _ _ _))));have HTR:Hid (w1.there (w.heap.size+1) 0 6):=An kr1_0 fr1_0 (An kr1_1 fr1_1 (An kr1_2 fr1_2 (An kr1_3 fr1_3 (An kr1_4 fr1_4 (An kr1_5 fr1_5 (Ev _ _ _))))));clear kr1_0 fr1_0 kr1_1 fr1_1 kr1_2 fr1_2 kr1_3 fr1_3 kr1_4 fr1_4 kr1_5 fr1_5 ko1_0 fo1_0 ko1_1 fo1_1;go_upto_region 8 with fail;have HRG:Hid (World.rangeAt ((((w1.setCell ⟨w.heap.size+1+1,2,none⟩ (.slice (some ⟨g2,0,none⟩) x.marks.length x.marks.length)).setCell ⟨w.heap.size+1+1,3,none⟩ (.int .i64 x.room)).setCell ⟨w.heap.size+1+1,4,none⟩ (.int .i64 x.hold)).setCell ⟨w.heap.size+1+1,5,none⟩ (.bool x.closed)) (w.heap.size+1+1) 0 (bbL x (some ⟨g2,0,none⟩) x.marks.length)):=Kh (vs:=[.slice (some ⟨g2,0,none⟩) x.marks.length x.marks.length,.int .i64 x.room,.int .i64 x.hold,.bool x.closed]) HPR rfl HTO;have HTG:Hid (World.there ((((w1.setCell ⟨w.heap.size+1+1,2,none⟩ (.slice (some ⟨g2,0,none⟩) x.marks.length x.marks.length)).setCell ⟨w.heap.size+1+1,3,none⟩ (.int .i64 x.room)).setCell ⟨w.heap.size+1+1,4,none⟩ (.int .i64 x.hold)).setCell ⟨w.heap.size+1+1,5,none⟩ (.bool x.closed)) (w.heap.size+1) 0 6):=World.there_setCells HTR (w.heap.size+1+1) 2 [.slice (some ⟨g2,0,none⟩) x.marks.length x.marks.length,.int .i64 x.room,.int .i64 x.hold,.bool x.closed];have HBG:Hid (Below w.heap.size w ((((w1.setCell ⟨w.heap.size+1+1,2,none⟩ (.slice (some ⟨g2,0,none⟩) x.marks.length x.marks.length)).setCell ⟨w.heap.size+1+1,3,none⟩ (.int .i64 x.room)).setCell ⟨w.heap.size+1+1,4,none⟩ (.int .i64 x.hold)).setCell ⟨w.heap.size+1+1,5,none⟩ (.bool x.closed))):=Ac (b:=w.heap.size+1+1) (by omega) [.slice (some ⟨g2,0,none⟩) x.marks.length x.marks.length,.int .i64 x.room,.int .i64 x.hold,.bool x.closed] 2 _ hB1;have HG2:Hid (SliceC StrC 1 (w.heap.size+3) ((((w1.setCell ⟨w.heap.size+1+1,2,none⟩ (.slice (some ⟨g2,0,none⟩) x.marks.length x.marks.length)).setCell ⟨w.heap.size+1+1,3,none⟩ (.int .i64 x.room)).setCell ⟨w.heap.size+1+1,4,none⟩ (.int .i64 x.hold)).setCell ⟨w.heap.size+1+1,5,none⟩ (.bool x.closed)) (some ⟨g2,0,none⟩) x.marks):=HN2.out.keep StrC.holds (Keeps.setCells (b:=w.heap.size+1+1) (by omega) [.slice (some ⟨g2,0,none⟩) x.marks.length x.marks.length,.int .i64 x.room,.int .i64 x.hold,.bool x.closed] 2 _) nL;clear ko1_2 fo1_2 ko1_3 fo1_3 ko1_4 fo1_4 ko1_5 fo1_5 ka1_3 ka1_4 ka1_5 HPR HTO HTR hz1 hB1 HN2 hg2';generalize ((((w1.setCell ⟨w.heap.size+1+1,2,none⟩ (.slice (some ⟨g2,0,none⟩) x.marks.length x.marks.length)).setCell ⟨w.heap.size+1+1,3,none⟩ (.int .i64 x.room)).setCell ⟨w.heap.size+1+1,4,none⟩ (.int .i64 x.hold)).setCell ⟨w.heap.size+1+1,5,none⟩ (.bool x.closed))=w9 at *
 obtain ⟨w10,hw10⟩:∃ w',w'=w9.setCells (w.heap.size+1) 0 (bbL x (some ⟨g2,0,none⟩) x.marks.length):=⟨_,rfl⟩;have HR10:Hid (w10.rangeAt (w.heap.size+1) 0 (bbL x (some ⟨g2,0,none⟩) x.marks.length)):=by rw [hw10];exact World.rangeAt_setCells_same _ _ _ _ HTG
 have HB10:Hid (Below w.heap.size w w10):=by rw [hw10];exact Ac (by omega) _ _ _ HBG
 have HS2:Hid (SliceC StrC 1 w.heap.size w10 (some ⟨g2,0,none⟩) x.marks):=by rw [hw10];exact HG2.out.keep StrC.holds (Keeps.setCells (by omega) _ _ _) (by omega)
 have HW10:=iH hw10;clear hw10 HBG HG2;go_wp2_with (first | (refine lr Gg HRG ?_) | (refine Ad rfl 45 _ _ rfl (w.heap.size+1) 0 (bbA x (some ⟨g2,0,none⟩) x.marks.length) rfl rfl HTG Cc (by simp [Value.oneCell']) w10 HW10 ?_));exact bodyPost_ret (Ax rfl _ _ (w.heap.size+1) (bbL x (some ⟨g2,0,none⟩) x.marks.length) _ rfl HR10 Tryz.underlying45 rfl Cc) rfl ⟨g2,rfl,HS2,HB10⟩
theorem Rl (x:Brt) (a2:OA) (c2:Nat) (a2p:OA) (c2p:Nat) (lo lo':Nat) (w:World) (n2:SliceC StrC 1 lo w a2 x.marks) (p2:SliceC StrC 1 lo' w a2p x.marks) (hsm:Bs x≤1048576) :
  Calls Tryz.prog 34 #[.agg (bbA x a2 c2),.agg (bbA x a2p c2p)] w (Rt (.bool true) w):=by
 have N2:=iH n2;have P2:=iH p2;have M2:wS ByteArray.size x.marks≤1048576:=by unfold Bs at hsm;omega
 clear hsm n2 p2;go_enter Tryz.func34,Tryz.ntmps34;go_wp2_with fail;refine (Zc x.marks a2 a2p c2 c2p lo lo' _ (N2.out.below StrC.holds (B:=w.heap.size) (by go_grown) nL) (P2.out.below StrC.holds (B:=w.heap.size) (by go_grown) nL) M2).mono ?_;rintro e w1 ⟨rfl,hb1⟩;have hB1:Below w.heap.size w w1:=(show Below w.heap.size w _ by go_grown).trans (hb1.mono (by simp;omega));have k1_3:w1.cell? ⟨w.heap.size,3,none⟩=some (.int .i64 x.room):=(hb1.cell (p:=⟨w.heap.size,3,none⟩) (by simp;omega)).trans (by simp);have l1_3:w1.cell? ⟨w.heap.size+1,3,none⟩=some (.int .i64 x.room):=(hb1.cell (p:=⟨w.heap.size+1,3,none⟩) (by simp)).trans (by simp);have k1_4:w1.cell? ⟨w.heap.size,4,none⟩=some (.int .i64 x.hold):=(hb1.cell (p:=⟨w.heap.size,4,none⟩) (by simp;omega)).trans (by simp);have l1_4:w1.cell? ⟨w.heap.size+1,4,none⟩=some (.int .i64 x.hold):=(hb1.cell (p:=⟨w.heap.size+1,4,none⟩) (by simp)).trans (by simp);have k1_5:w1.cell? ⟨w.heap.size,5,none⟩=some (.bool x.closed):=(hb1.cell (p:=⟨w.heap.size,5,none⟩) (by simp;omega)).trans (by simp);have l1_5:w1.cell? ⟨w.heap.size+1,5,none⟩=some (.bool x.closed):=(hb1.cell (p:=⟨w.heap.size+1,5,none⟩) (by simp)).trans (by simp);have hs1:w.heap.size+1<w1.heap.size:=by have:=hb1.size;simp at this;omega
 clear hb1;go_wp2_with fail;go_ret;exact ⟨rfl,hB1⟩
theorem Yo (xs:List Brt) (a:OA) (cap lo:Nat) (L:Int) (w:World) (hin:SliceC BrtC 6 lo w a xs) (h0:0≤L) (h1:L≤1048576) :
  Calls Tryz.prog 15 #[.slice a xs.length cap,.int .i64 L] w (Rt (.int .i64 (szR (wS Bs xs) L)) w):=by
 have hlen:=hin.1;unfold maxLen at hlen;have HI:=iH hin;clear hin;have HW:Hid (wS Bs xs=xs.length+(xs.map Bs).sum):=rfl;generalize wS Bs xs=W at *;by_cases c1:L - xs.length<0
 ·go_enter Tryz.func15,Tryz.ntmps15
  go_wp2_with fail;go_ret;exact ⟨Atq (by have:=HW.out;unfold szR;rw [if_neg (by omega)]),Below.refl _ _⟩
 ·go_enter Tryz.func15,Tryz.ntmps15
  go_wp2_with fail;go_loopw [1,5] (fun l i wr=>∃ (k:Nat) (M:Int),k≤xs.length∧i=.int .i64 k∧l=.int .i64 M∧0≤M∧M≤1048576∧Hid (M=L - xs.length - ((xs.take k).map Bs).sum)∧Below w.heap.size w wr) (fun _ i _=>xs.length - (intOf i).toNat)
  case atStart=>exact ⟨0,_,zL,rfl,rfl,by omega,by omega,by show _=_;simp,Below.refl _ _⟩
  case round =>
   obtain ⟨k,M,hk,rfl,rfl,hM0,hM1,hM,hbel⟩:=hrel;by_cases hlt:k<xs.length
   ·obtain ⟨x,hx⟩:=gX hlt
    obtain ⟨b,o,rfl,_,_,hc⟩:=(HI.out.below BrtC.holds hbel nL).at hx;obtain ⟨a2,c2,q0,q1,q2,q3,q4,q5,z0,z1,n2⟩:=hc;simp only [Nat.add_zero] at q0 q1 q2 q3 q4 q5;have HX:Hid (((xs.take (k+1)).map Bs).sum=((xs.take k).map Bs).sum+Bs x):=Dm _ _ _ _ hx;have HY:Hid (((xs.take (k+1)).map Bs).sum≤(xs.map Bs).sum):=Co _ _ _;have CT:=Ry x a2 c2 lo M wr z0 z1 n2 hM0 hM1;have HCT:=iH CT;clear hx CT;by_cases hr:(Bs x:Int)≤M
    ·rw [Ea hr] at HCT
     generalize hV:Bs x=V at *;clear hV;go_wp2_with fail;refine HCT.out.mono ?_;rintro e w1 ⟨rfl,hb1⟩;clear HCT;go_wp2_with fail;go_roundw
     case rel =>
      refine ⟨k+1,M - V,by omega,by go_num,rfl,by omega,by omega,?_,qt hbel hb1⟩;have:=hM.out;have:=HX.out;show _=_
      omega
     case measure=>simp [intOf];omega
    ·rw [Eb hr] at HCT
     generalize hV:Bs x=V at *;clear hV;go_wp2_with fail;refine HCT.out.mono ?_;rintro e w1 ⟨rfl,hb1⟩;clear HCT;go_wp2_with fail;go_ret;refine ⟨Atq ?_,qt hbel hb1⟩;have:=HW.out;have:=HX.out;have:=HY.out;have:=hM.out;unfold szR;rw [if_neg (by omega)]
   ·go_wp2_with fail
    go_ret;refine ⟨Atq ?_,hbel⟩;have hke:k=xs.length:=by omega
    subst hke;have h3:=hM.out;have h4:=HW.out;simp only [List.take_length] at h3;unfold szR;rw [if_pos (by omega)];omega
theorem Ge:(Tryz.prog.info? 45).map (fun i=>(i.zero,i.size,i.bytes))=some (some (.agg yyA),6,80):=by kernel_rfl
theorem Zi (xs:List Brt) (a:OA) (cap lo:Nat) (w:World) (hin:SliceC BrtC 6 lo w a xs) (hsm:wS Bs xs≤1048576) :
  Calls Tryz.prog 23 #[.slice a xs.length cap] w fun e w'=>∃ g,e=.returned (.slice (some ⟨g,0,none⟩) xs.length xs.length)∧w.heap.size≤g∧SliceC BrtC 6 w.heap.size w' (some ⟨g,0,none⟩) xs∧Below w.heap.size w w':=by
 obtain ⟨i0,hi,hz0,hz1,hz2⟩:=info_parts Ge;have hlen:xs.length≤1048576:=lT Dq hsm;have HI:=iH hin;have HSM:=iH hsm;clear hin hsm;go_enter Tryz.func23,Tryz.ntmps23;go_wp2_with (at_make;refine wpList_make_full _ rfl _ _ 37 rfl w.heap.size 45 i0 _ 6 Tryz.underlying37 hi hz0 hz1 .i64 .i64 _ _ xs.length rfl rfl rfl rfl (by rw [hz2];omega) (by unfold maxLen;omega) nL ?_;intro w1 hown hgrow);have hb1:Below w.heap.size w w1:=(Below.refl _ _).grown hgrow nL (fun k h=>by cases h);have hsz1:=(hown.lt w.heap.size rfl).2;generalize hX:(madeCells _ (xs.length*6)).toList=xs0 at hown;clear hX hgrow hi hz0 hz1 hz2;go_loopw [4] (fun i wr=>∃ (k:Nat) (cs:List Value),k≤xs.length∧i=.int .i64 k∧w.heap.size<wr.heap.size∧wr.ownsRow w.heap.size 45 6 (.slice (some ⟨w.heap.size,0,none⟩) xs.length xs.length) xs.length cs∧RowC BrtC 6 (w.heap.size+1) wr cs xs k∧Below w.heap.size w wr) (fun i _=>xs.length - (intOf i).toNat)
 case atStart=>exact ⟨0,xs0,zL,rfl,hsz1,hown,fun j n h=>by omega,hb1⟩
 case round =>
  clear hown hb1 hsz1;obtain ⟨k,cs,hk,rfl,hszr,hown,hfil,hbel⟩:=hrel;by_cases hlt:k<xs.length
  ·obtain ⟨x,hx⟩:=gX hlt
   obtain ⟨b,o,rfl,_,_,hc⟩:=(HI.out.below BrtC.holds hbel nL).at hx;obtain ⟨a2,c2,q0,q1,q2,q3,q4,q5,z0,z1,n2⟩:=hc;simp only [Nat.add_zero] at q0 q1 q2 q3 q4 q5;have HN:=iH hx;have hwx:Bs x≤1048576:=lT (Ko (List.mem_of_getElem? hx)) HSM;have HO:=iH hown;have HF:=iH hfil;have HS:=iH hszr;have CT:=Qu x a2 c2 lo wr n2 hwx;have HCT:=iH CT;clear hx hown hfil CT hszr;go_wp2_with fail;refine HCT.out.mono ?_;rintro e w2 ⟨g2,rfl,m2,hb2⟩;clear HCT q0 q1 q2 q3 q4 q5 n2;have ho2:=Al HO hb2;have HB2:=iH (qt hbel hb2);have HF2:Hid (RowC BrtC 6 (w.heap.size+1) w2 cs xs k):=HF.out.keep BrtC.holds (Keeps.of_below hb2 nL _);have hs2:Hid (w.heap.size<w2.heap.size):=lL HS hb2.size;have HR:Hid (BrtC (w.heap.size+1) w2 (fun i=>((bbL x (some ⟨g2,0,none⟩) x.marks.length):List Value)[i]?) x):=⟨_,_,rfl,rfl,rfl,rfl,rfl,rfl,z0,z1,m2.keep StrC.holds (Keeps.refl _ _) (by have:=hbel.size;have:=HS.out;omega)⟩;have hxl:cs.length=xs.length*6:=ho2.1;have HT:Hid (w2.there w.heap.size (k*6) 6):=Ck ho2 (by omega);have HL:=iH hxl;have HO2:=iH ho2;clear hxl ho2 HO hb2 hwx m2;obtain ⟨w3,hw3⟩:∃ w',w'=w2.setCells w.heap.size (k*6) (bbL x (some ⟨g2,0,none⟩) x.marks.length):=⟨_,rfl⟩;have HW3:=iH hw3;have HS3:Hid (w.heap.size<w3.heap.size):=by rw [hw3,Bf];exact hs2
   have HO3:Hid (w3.ownsRow w.heap.size 45 6 (.slice (some ⟨w.heap.size,0,none⟩) xs.length xs.length) xs.length (Bu cs (k*6) (bbL x (some ⟨g2,0,none⟩) x.marks.length))):=by rw [hw3];exact Cl _ _ _ _ HO2
   have HB3:Hid (Below w.heap.size w w3):=by rw [hw3];exact Ac nL _ _ _ HB2
   have HR3:Hid (RowC BrtC 6 (w.heap.size+1) w3 (Bu cs (k*6) (bbL x (some ⟨g2,0,none⟩) x.marks.length)) xs (k+1)):=by
    rw [hw3];exact (HF2.out.step (vs:=(bbL x (some ⟨g2,0,none⟩) x.marks.length)) BrtC.holds HN rfl (by have:=HL.out;omega) HR).keep BrtC.holds (Keeps.setCells (by omega) _ _ _)
   clear hw3 HB2 HF2 hs2 HR HL HO2;go_wp2_with (refine Ad rfl 45 _ _ rfl w.heap.size (k*6) (bbA x (some ⟨g2,0,none⟩) x.marks.length) (by first | rfl | (simp [go_sem];done)) rfl HT Cc (by simp [Value.oneCell']) w3 HW3 ?_);go_roundw
   case rel=>exact ⟨k+1,_,by omega,by go_num,HS3,HO3,HR3,HB3⟩
   case measure=>simp [intOf];omega
  ·have HO:=iH hown
   have HF:=iH hfil;clear hown hfil;go_wp2_with fail;go_ret;have hke:k=xs.length:=by omega
   subst hke;exact ⟨_,rfl,Nat.le_refl _,Ej HO HF BrtC.holds HI.out.1 (by omega) nL,hbel⟩
theorem Yi (xs:List Brt) (a a':OA) (cap cap' lo lo':Nat) (w:World) (hg:SliceC BrtC 6 lo w a xs) (hh:SliceC BrtC 6 lo' w a' xs) (hsm:wS Bs xs≤1048576) :
  Calls Tryz.prog 31 #[.slice a xs.length cap,.slice a' xs.length cap'] w (Rt (.bool true) w):=by
 have hlen:xs.length≤1048576:=lT Dq hsm;have HG:=iH hg;have HH:=iH hh;have HSM:=iH hsm;clear hg hh hsm;go_enter Tryz.func31,Tryz.ntmps31;go_wp2_with fail;go_loopw [5] (fun i wr=>∃ (k:Nat),k≤xs.length∧i=.int .i64 k∧Below w.heap.size w wr) (fun i _=>xs.length - (intOf i).toNat)
 case atStart=>exact ⟨0,zL,rfl,Below.refl _ _⟩
 case round =>
  obtain ⟨k,hk,rfl,hbel⟩:=hrel;by_cases hlt:k<xs.length
  ·obtain ⟨x,hx⟩:=gX hlt
   obtain ⟨b,o,rfl,_,_,hc⟩:=(HG.out.below BrtC.holds hbel nL).at hx;obtain ⟨b',o',rfl,_,_,hc'⟩:=(HH.out.below BrtC.holds hbel nL).at hx;obtain ⟨a2,c2,q0,q1,q2,q3,q4,q5,_,_,n2⟩:=hc;obtain ⟨a2p,c2p,r0,r1,r2,r3,r4,r5,_,_,p2⟩:=hc';simp only [Nat.add_zero] at q0 q1 q2 q3 q4 q5 r0 r1 r2 r3 r4 r5;have hwx:Bs x≤1048576:=lT (Ko (List.mem_of_getElem? hx)) HSM;have k0:=cell_regrown q0;have l0:=cell_regrown r0;have k1:=cell_regrown q1;have l1:=cell_regrown r1;have k2:=cell_regrown q2;have l2:=cell_regrown r2;have k3:=cell_regrown q3;have l3:=cell_regrown r3;have k4:=cell_regrown q4;have l4:=cell_regrown r4;have k5:=cell_regrown q5;have l5:=cell_regrown r5;have cE:∀ d os,Calls Tryz.prog 34 #[.agg (bbA x a2 c2),.agg (bbA x a2p c2p)] (Sort.grow (redrawn wr d) os) fun e w''=>e=.returned (.bool true)∧∃ p:Regrown,w''=Sort.grow (redrawn wr p.d) p.os:=fun d os=>Calls.regrown_of (Rl x a2 c2 a2p c2p lo lo' _ (n2.below StrC.holds (below_regrown wr d os) nL) (p2.below StrC.holds (below_regrown wr d os) nL) hwx)
   have i0:(0:Int)≤(k:Int):=by omega
   have i1:(k:Int)<(xs.length:Int):=by omega
   clear hx q0 q1 q2 q3 q4 q5 r0 r1 r2 r3 r4 r5 n2 p2 hwx;go_wp2_with fail;refine wp_region_quiet_below (by kernel_rfl) (by kernel_rfl) ?_
   repeat (quiet_step (first | exact cE _ _))
   refine wpQuiet_nil ?_;intro _ hw';obtain ⟨⟨dq,osq⟩,hw''⟩:=hw';have hB:=hbel.trans ((below_regrown wr dq osq).mono hbel.size);simp only [] at hw'';rw [← hw''] at hB;clear hw'' cE k0 l0 k1 l1 k2 l2 k3 l3 k4 l4 k5 l5;go_wp2_with fail;go_roundw
   case rel=>exact ⟨k+1,by omega,by go_num,hB⟩
   case measure=>simp [intOf];omega
  ·go_wp2_with fail
   go_ret;exact ⟨rfl,hbel⟩
structure Lik where
 select:BA
 weight:Int
def Cn (x:Lik):Nat:=x.select.size
def LikC:Db Lik:=fun _ _ f x=>f 0=some (.string x.select)∧f 1=some (.int .i64 x.weight)∧x.select.size≤maxLen
theorem LikC.holds:Dy LikC 2:=by
 rintro lo lo' w w' f g x h _ _ ⟨q0,q1,z0⟩;exact ⟨(h 0 (by omega)).trans q0,(h 1 (by omega)).trans q1,z0⟩
theorem bN (x:Lik)  (L:Int) (w:World) (z0:x.select.size≤maxLen)  (h0:0≤L) (h1:L≤1048576) :
  Calls Tryz.prog 80 #[.agg #[.string x.select,.int .i64 x.weight],.int .i64 L] w (Rt (.int .i64 (szR (Cn x) L)) w):=by
 unfold maxLen at z0;have HW:Hid (Cn x=x.select.size):=rfl;generalize Cn x=W at *;by_cases d0:L - (x.select.size:Nat)<0
 ·go_enter Tryz.func80,Tryz.ntmps80
  go_wp2_with fail;go_ret;exact ⟨Atq (by have:=HW.out;unfold szR;rw [if_neg (by omega)]),by go_grown⟩
 ·skip
  go_enter Tryz.func80,Tryz.ntmps80;go_wp2_with fail;go_ret;exact ⟨Atq (by have:=HW.out;unfold szR;rw [if_pos (by omega)];omega),by go_grown⟩
theorem Jw:(Tryz.prog.info? 125).map (·.size)=some 2:=by kernel_rfl
theorem fB:Ls 125 2:=⟨_,Tryz.underlying125,rfl,Jw⟩
theorem cL (x:Lik) (w:World) :
  Calls Tryz.prog 84 #[.agg #[.string x.select,.int .i64 x.weight]] w (Rt (.agg #[.string x.select,.int .i64 x.weight]) w):=by
 go_enter Tryz.func84,Tryz.ntmps84
 go_wp2
 go_returns
 exact ⟨rfl,by go_grown⟩
theorem bW (x:Lik) (w:World) :
  Calls Tryz.prog 109 #[.agg #[.string x.select,.int .i64 x.weight],.agg #[.string x.select,.int .i64 x.weight]] w (Rt (.bool true) w):=by
 go_enter Tryz.func109,Tryz.ntmps109
 go_wp2
 go_ret;exact ⟨rfl,by go_grown⟩
theorem Yb (xs:List Lik) (a:OA) (cap lo:Nat) (L:Int) (w:World) (hin:SliceC LikC 2 lo w a xs) (h0:0≤L) (h1:L≤1048576) :
  Calls Tryz.prog 46 #[.slice a xs.length cap,.int .i64 L] w (Rt (.int .i64 (szR (wS Cn xs) L)) w):=by
 have hlen:=hin.1;unfold maxLen at hlen;have HI:=iH hin;clear hin;have HW:Hid (wS Cn xs=xs.length+(xs.map Cn).sum):=rfl;generalize wS Cn xs=W at *;by_cases c1:L - xs.length<0
 ·go_enter Tryz.func46,Tryz.ntmps46
  go_wp2_with fail;go_ret;exact ⟨Atq (by have:=HW.out;unfold szR;rw [if_neg (by omega)]),Below.refl _ _⟩
 ·go_enter Tryz.func46,Tryz.ntmps46
  go_wp2_with fail;go_loopw [1,5] (fun l i wr=>∃ (k:Nat) (M:Int),k≤xs.length∧i=.int .i64 k∧l=.int .i64 M∧0≤M∧M≤1048576∧Hid (M=L - xs.length - ((xs.take k).map Cn).sum)∧Below w.heap.size w wr) (fun _ i _=>xs.length - (intOf i).toNat)
  case atStart=>exact ⟨0,_,zL,rfl,rfl,by omega,by omega,by show _=_;simp,Below.refl _ _⟩
  case round =>
   obtain ⟨k,M,hk,rfl,rfl,hM0,hM1,hM,hbel⟩:=hrel;by_cases hlt:k<xs.length
   ·obtain ⟨x,hx⟩:=gX hlt
    obtain ⟨b,o,rfl,_,_,hc⟩:=(HI.out.below LikC.holds hbel nL).at hx;obtain ⟨q0,q1,z0⟩:=hc;simp only [Nat.add_zero] at q0 q1;have HX:Hid (((xs.take (k+1)).map Cn).sum=((xs.take k).map Cn).sum+Cn x):=Dm _ _ _ _ hx;have HY:Hid (((xs.take (k+1)).map Cn).sum≤(xs.map Cn).sum):=Co _ _ _;have CT:=bN x M wr z0 hM0 hM1;have HCT:=iH CT;clear hx CT;by_cases hr:(Cn x:Int)≤M
    ·rw [Ea hr] at HCT
     generalize hV:Cn x=V at *;clear hV;go_wp2_with fail;refine HCT.out.mono ?_;rintro e w1 ⟨rfl,hb1⟩;clear HCT;go_wp2_with fail;go_roundw
     case rel =>
      refine ⟨k+1,M - V,by omega,by go_num,rfl,by omega,by omega,?_,qt hbel hb1⟩;have:=hM.out;have:=HX.out;show _=_
      omega
     case measure=>simp [intOf];omega
    ·rw [Eb hr] at HCT
     generalize hV:Cn x=V at *;clear hV;go_wp2_with fail;refine HCT.out.mono ?_;rintro e w1 ⟨rfl,hb1⟩;clear HCT;go_wp2_with fail;go_ret;refine ⟨Atq ?_,qt hbel hb1⟩;have:=HW.out;have:=HX.out;have:=HY.out;have:=hM.out;unfold szR;rw [if_neg (by omega)]
   ·go_wp2_with fail
    go_ret;refine ⟨Atq ?_,hbel⟩;have hke:k=xs.length:=by omega
    subst hke;have h3:=hM.out;have h4:=HW.out;simp only [List.take_length] at h3;unfold szR;rw [if_pos (by omega)];omega
theorem Px:(Tryz.prog.info? 125).map (fun i=>(i.zero,i.size,i.bytes))=some (some (.agg #[.string ⟨#[]⟩,.int .i64 0]),2,24):=by kernel_rfl
theorem Yj (xs:List Lik) (a:OA) (cap lo:Nat) (w:World) (hin:SliceC LikC 2 lo w a xs) (hsm:wS Cn xs≤1048576) :
  Calls Tryz.prog 60 #[.slice a xs.length cap] w fun e w'=>∃ g,e=.returned (.slice (some ⟨g,0,none⟩) xs.length xs.length)∧w.heap.size≤g∧SliceC LikC 2 w.heap.size w' (some ⟨g,0,none⟩) xs∧Below w.heap.size w w':=by
 obtain ⟨i0,hi,hz0,hz1,hz2⟩:=info_parts Px;have hlen:xs.length≤1048576:=lT Dq hsm;have HI:=iH hin;have HSM:=iH hsm;clear hin hsm;go_enter Tryz.func60,Tryz.ntmps60;go_wp2_with (at_make;refine wpList_make_full _ rfl _ _ 46 rfl w.heap.size 125 i0 _ 2 Tryz.underlying46 hi hz0 hz1 .i64 .i64 _ _ xs.length rfl rfl rfl rfl (by rw [hz2];omega) (by unfold maxLen;omega) nL ?_;intro w1 hown hgrow);have hb1:Below w.heap.size w w1:=(Below.refl _ _).grown hgrow nL (fun k h=>by cases h);have hsz1:=(hown.lt w.heap.size rfl).2;generalize hX:(madeCells _ (xs.length*2)).toList=xs0 at hown;clear hX hgrow hi hz0 hz1 hz2;go_loopw [4] (fun i wr=>∃ (k:Nat) (cs:List Value),k≤xs.length∧i=.int .i64 k∧w.heap.size<wr.heap.size∧wr.ownsRow w.heap.size 125 2 (.slice (some ⟨w.heap.size,0,none⟩) xs.length xs.length) xs.length cs∧RowC LikC 2 (w.heap.size+1) wr cs xs k∧Below w.heap.size w wr) (fun i _=>xs.length - (intOf i).toNat)
 case atStart=>exact ⟨0,xs0,zL,rfl,hsz1,hown,fun j n h=>by omega,hb1⟩
 case round =>
  clear hown hb1 hsz1;obtain ⟨k,cs,hk,rfl,hszr,hown,hfil,hbel⟩:=hrel;by_cases hlt:k<xs.length
  ·obtain ⟨x,hx⟩:=gX hlt
   obtain ⟨b,o,rfl,_,_,hc⟩:=(HI.out.below LikC.holds hbel nL).at hx;obtain ⟨q0,q1,z0⟩:=hc;simp only [Nat.add_zero] at q0 q1;have HN:=iH hx;have hwx:Cn x≤1048576:=lT (Ko (List.mem_of_getElem? hx)) HSM;have HO:=iH hown;have HF:=iH hfil;have HS:=iH hszr;have CT:=cL x wr;have HCT:=iH CT;clear hx hown hfil CT hszr;go_wp2_with fail;refine HCT.out.mono ?_;rintro e w2 ⟨rfl,hb2⟩;clear HCT q0 q1;have ho2:=Al HO hb2;have HB2:=iH (qt hbel hb2);have HF2:Hid (RowC LikC 2 (w.heap.size+1) w2 cs xs k):=HF.out.keep LikC.holds (Keeps.of_below hb2 nL _);have hs2:Hid (w.heap.size<w2.heap.size):=lL HS hb2.size;have HR:Hid (LikC (w.heap.size+1) w2 (fun i=>([.string x.select,.int .i64 x.weight]:List Value)[i]?) x):=⟨rfl,rfl,z0⟩;have hxl:cs.length=xs.length*2:=ho2.1;have HT:Hid (w2.there w.heap.size (k*2) 2):=Ck ho2 (by omega);have HL:=iH hxl;have HO2:=iH ho2;clear hxl ho2 HO hb2 hwx;obtain ⟨w3,hw3⟩:∃ w',w'=w2.setCells w.heap.size (k*2) [.string x.select,.int .i64 x.weight]:=⟨_,rfl⟩;have HW3:=iH hw3;have HS3:Hid (w.heap.size<w3.heap.size):=by rw [hw3,Bf];exact hs2
   have HO3:Hid (w3.ownsRow w.heap.size 125 2 (.slice (some ⟨w.heap.size,0,none⟩) xs.length xs.length) xs.length (Bu cs (k*2) [.string x.select,.int .i64 x.weight])):=by rw [hw3];exact Cl _ _ _ _ HO2
   have HB3:Hid (Below w.heap.size w w3):=by rw [hw3];exact Ac nL _ _ _ HB2
   have HR3:Hid (RowC LikC 2 (w.heap.size+1) w3 (Bu cs (k*2) [.string x.select,.int .i64 x.weight]) xs (k+1)):=by
    rw [hw3];exact (HF2.out.step (vs:=[.string x.select,.int .i64 x.weight]) LikC.holds HN rfl (by have:=HL.out;omega) HR).keep LikC.holds (Keeps.setCells (by omega) _ _ _)
   clear hw3 HB2 HF2 hs2 HR HL HO2;go_wp2_with (refine Ad rfl 125 _ _ rfl w.heap.size (k*2) #[.string x.select,.int .i64 x.weight] (by first | rfl | (simp [go_sem];done)) rfl HT Jw (by simp [Value.oneCell']) w3 HW3 ?_);go_roundw
   case rel=>exact ⟨k+1,_,by omega,by go_num,HS3,HO3,HR3,HB3⟩
   case measure=>simp [intOf];omega
  ·have HO:=iH hown
   have HF:=iH hfil;clear hown hfil;go_wp2_with fail;go_ret;have hke:k=xs.length:=by omega
   subst hke;exact ⟨_,rfl,Nat.le_refl _,Ej HO HF LikC.holds HI.out.1 (by omega) nL,hbel⟩
theorem Zn (xs:List Lik) (a a':OA) (cap cap' lo lo':Nat) (w:World) (hg:SliceC LikC 2 lo w a xs) (hh:SliceC LikC 2 lo' w a' xs) (hsm:wS Cn xs≤1048576) :
  Calls Tryz.prog 74 #[.slice a xs.length cap,.slice a' xs.length cap'] w (Rt (.bool true) w):=by
 have hlen:xs.length≤1048576:=lT Dq hsm;have HG:=iH hg;have HH:=iH hh;clear hg hh hsm;go_enter Tryz.func74,Tryz.ntmps74;go_wp2_with fail;go_loopw [5] (fun i wr=>∃ (k:Nat),k≤xs.length∧i=.int .i64 k∧Below w.heap.size w wr) (fun i _=>xs.length - (intOf i).toNat)
 case atStart=>exact ⟨0,zL,rfl,Below.refl _ _⟩
 case round =>
  obtain ⟨k,hk,rfl,hbel⟩:=hrel;by_cases hlt:k<xs.length
  ·obtain ⟨x,hx⟩:=gX hlt
   obtain ⟨b,o,rfl,_,_,hc⟩:=(HG.out.below LikC.holds hbel nL).at hx;obtain ⟨b',o',rfl,_,_,hc'⟩:=(HH.out.below LikC.holds hbel nL).at hx;obtain ⟨q0,q1,_⟩:=hc;obtain ⟨r0,r1,_⟩:=hc';simp only [Nat.add_zero] at q0 q1 r0 r1;have k0:=cell_regrown q0;have l0:=cell_regrown r0;have k1:=cell_regrown q1;have l1:=cell_regrown r1;have cE:∀ d os,Calls Tryz.prog 109 #[.agg #[.string x.select,.int .i64 x.weight],.agg #[.string x.select,.int .i64 x.weight]] (Sort.grow (redrawn wr d) os) fun e w''=>e=.returned (.bool true)∧∃ p:Regrown,w''=Sort.grow (redrawn wr p.d) p.os:=fun d os=>Calls.regrown_of (bW x _)
   have i0:(0:Int)≤(k:Int):=by omega
   have i1:(k:Int)<(xs.length:Int):=by omega
   clear hx q0 q1 r0 r1;go_wp2_with fail;refine wp_region_quiet_below (by kernel_rfl) (by kernel_rfl) ?_
   repeat (quiet_step (first | exact cE _ _))
   refine wpQuiet_nil ?_;intro _ hw';obtain ⟨⟨dq,osq⟩,hw''⟩:=hw';have hB:=hbel.trans ((below_regrown wr dq osq).mono hbel.size);simp only [] at hw'';rw [← hw''] at hB;clear hw'' cE k0 l0 k1 l1;go_wp2_with fail;go_roundw
   case rel=>exact ⟨k+1,by omega,by go_num,hB⟩
   case measure=>simp [intOf];omega
  ·go_wp2_with fail
   go_ret;exact ⟨rfl,hbel⟩
end Go.Proofs.YtihnjndnkgnmaaaGreat
