import Derived.Test.YtpidfnfilnkhkaaGreatJ9
set_option maxHeartbeats 2000000
namespace Go.Proofs.YtpidfnfilnkhkaaGreat
open Go.RowKit Tryz
structure Cpy where
 name:BA
 service:BA
 rank:Int
 born:Int
 room:Int
 hold:Int
 select:BA
 likes:List Lik
 apart:Int
 near:BA
 fixed:BA
 at_:BA
abbrev ccL(x:Cpy)(a1:OA)(c1:Nat):List Value:=[.string x.name,.string x.service,.int .i64 x.rank,.int .i64 x.born,.int .i64 x.room,.int .i64 x.hold,.string x.select,.slice a1 x.likes.length c1,.int .i64 x.apart,.string x.near,.string x.fixed,.string x.at_]
abbrev ccA(x:Cpy)(a1:OA)(c1:Nat):Array Value:=#[.string x.name,.string x.service,.int .i64 x.rank,.int .i64 x.born,.int .i64 x.room,.int .i64 x.hold,.string x.select,.slice a1 x.likes.length c1,.int .i64 x.apart,.string x.near,.string x.fixed,.string x.at_]
abbrev CcL:List Value:=[.string ⟨#[]⟩,.string ⟨#[]⟩,.int .i64 0,.int .i64 0,.int .i64 0,.int .i64 0,.string ⟨#[]⟩,.slice none 0 0,.int .i64 0,.string ⟨#[]⟩,.string ⟨#[]⟩,.string ⟨#[]⟩]
abbrev CcA:Array Value:=#[.string ⟨#[]⟩,.string ⟨#[]⟩,.int .i64 0,.int .i64 0,.int .i64 0,.int .i64 0,.string ⟨#[]⟩,.slice none 0 0,.int .i64 0,.string ⟨#[]⟩,.string ⟨#[]⟩,.string ⟨#[]⟩]
def Cq(x:Cpy):Nat:=x.name.size+x.service.size+x.select.size+(wS Dr x.likes)+x.near.size+x.fixed.size+x.at_.size
def CpyC:En Cpy:=λlo w f x=>∃(a7:OA)(c7:Nat),f 0=some (.string x.name)/\f 1=some (.string x.service)/\f 2=some (.int .i64 x.rank)/\f 3=some (.int .i64 x.born)/\f 4=some (.int .i64 x.room)/\f 5=some (.int .i64 x.hold)/\f 6=some (.string x.select)/\f 7=some (.slice a7 x.likes.length c7)/\f 8=some (.int .i64 x.apart)/\f 9=some (.string x.near)/\f 10=some (.string x.fixed)/\f 11=some (.string x.at_)/\x.name.size<=maxLen/\x.service.size<=maxLen/\x.select.size<=maxLen/\x.near.size<=maxLen/\x.fixed.size<=maxLen/\x.at_.size<=maxLen/\SliceC LikC 2 lo w a7 x.likes
theorem CpyC.holds:Holds CpyC 12:=by
 rintro lo lo' w w' f g x h k hl⟨a7,c7,q0,q1,q2,q3,q4,q5,q6,q7,q8,q9,q10,q11,z0,z1,z6,z9,z10,z11,n7⟩;exact⟨a7,c7,(h 0 (by omega)).trans q0,(h 1 (by omega)).trans q1,(h 2 (by omega)).trans q2,(h 3 (by omega)).trans q3,(h 4 (by omega)).trans q4,(h 5 (by omega)).trans q5,(h 6 (by omega)).trans q6,(h 7 (by omega)).trans q7,(h 8 (by omega)).trans q8,(h 9 (by omega)).trans q9,(h 10 (by omega)).trans q10,(h 11 (by omega)).trans q11,z0,z1,z6,z9,z10,z11,n7.keep LikC.holds k hl⟩
theorem pS(x:Cpy)(a7:OA)(c7:Nat)(lo:Nat)(L:Int)(w:World)(z0:x.name.size<=maxLen)(z1:x.service.size<=maxLen)(z6:x.select.size<=maxLen)(z9:x.near.size<=maxLen)(z10:x.fixed.size<=maxLen)(z11:x.at_.size<=maxLen)(n7:SliceC LikC 2 lo w a7 x.likes)(h0:0<=L)(h1:L<=1048576) :
  Calls prog 36 #[.agg (ccA x a7 c7),.int .i64 L] w (Rt (.int .i64 (szR (Cq x) L)) w):=by
 unfold maxLen at z0 z1 z6 z9 z10 z11;have N7:=iH n7;clear n7;have HW:Hid (Cq x=x.name.size+x.service.size+x.select.size+(wS Dr x.likes)+x.near.size+x.fixed.size+x.at_.size):=rfl;generalize Cq x=W at *;by_cases d0:L-(x.name.size:Nat)<0
 .go_enter func36,ntmps36
  go_wp2
  go_ret;exact⟨Am (by have:=HW.out;unfold szR;rw[if_neg (by omega)]),by go_grown⟩
 .skip
  by_cases d1:L-(x.name.size:Nat)-(x.service.size:Nat)<0
  .go_enter func36,ntmps36
   go_wp2
   go_ret;exact⟨Am (by have:=HW.out;unfold szR;rw[if_neg (by omega)]),by go_grown⟩
  .skip
   by_cases d6:L-(x.name.size:Nat)-(x.service.size:Nat)-(x.select.size:Nat)<0
   .go_enter func36,ntmps36
    go_wp2
    go_ret;exact⟨Am (by have:=HW.out;unfold szR;rw[if_neg (by omega)]),by go_grown⟩
   .skip
    go_enter func36,ntmps36;go_wp2_with fail;refine(gS x.likes a7 c7 lo _ _ (N7.out.below LikC.holds (B:=w.heap.size) (by go_grown) nL) (by omega) (by omega)).mono ?_;rintro e w1⟨rfl,hb1⟩;have hB1:Below w.heap.size w w1:=(show Below w.heap.size w _ by go_grown).trans (hb1.mono (by simp));have k1_9:w1.cell? ⟨w.heap.size,9,none⟩=some (.string x.near):=(hb1.cell (p:=⟨w.heap.size,9,none⟩) (by simp)).trans (by simp);have k1_10:w1.cell? ⟨w.heap.size,10,none⟩=some (.string x.fixed):=(hb1.cell (p:=⟨w.heap.size,10,none⟩) (by simp)).trans (by simp);have k1_11:w1.cell? ⟨w.heap.size,11,none⟩=some (.string x.at_):=(hb1.cell (p:=⟨w.heap.size,11,none⟩) (by simp)).trans (by simp);have hs1:w.heap.size<w1.heap.size:=by have:=hb1.size;simp at this;omega
    clear hb1;by_cases d7:(((wS Dr x.likes):Nat):Int)<=L-(x.name.size:Nat)-(x.service.size:Nat)-(x.select.size:Nat)
    ·rw [Gx d7]
     by_cases d9:L-(x.name.size:Nat)-(x.service.size:Nat)-(x.select.size:Nat)-((wS Dr x.likes):Nat)-(x.near.size:Nat)<0
     .go_wp2
      go_ret;exact⟨Am (by have:=HW.out;unfold szR;rw[if_neg (by omega)]),hB1⟩
     .skip
      by_cases d10:L-(x.name.size:Nat)-(x.service.size:Nat)-(x.select.size:Nat)-((wS Dr x.likes):Nat)-(x.near.size:Nat)-(x.fixed.size:Nat)<0
      .go_wp2
       go_ret;exact⟨Am (by have:=HW.out;unfold szR;rw[if_neg (by omega)]),hB1⟩
      .skip
       by_cases d11:L-(x.name.size:Nat)-(x.service.size:Nat)-(x.select.size:Nat)-((wS Dr x.likes):Nat)-(x.near.size:Nat)-(x.fixed.size:Nat)-(x.at_.size:Nat)<0
       .go_wp2
        go_ret;exact⟨Am (by have:=HW.out;unfold szR;rw[if_neg (by omega)]),hB1⟩
       .skip
        go_wp2
        go_ret;exact⟨Am (by have:=HW.out;unfold szR;rw[if_pos (by omega)];omega),hB1⟩
    .rw[Hb d7]
     go_wp2
     go_ret;exact⟨Am (by have:=HW.out;unfold szR;rw[if_neg (by omega)]),hB1⟩
theorem Dk:(prog.info? 49).map (·.size)=some 12:=by kernel_rfl
theorem Jg:Qo 49 12:=⟨_,underlying49,rfl,Dk⟩
theorem nA(x:Cpy)(a7:OA)(c7:Nat)(lo:Nat)(w:World)(n7:SliceC LikC 2 lo w a7 x.likes)(hsm:Cq x<=1048576) :
  Calls prog 52 #[.agg (ccA x a7 c7)] w λe w'=>∃g7,e=.returned (.agg (ccA x (some ⟨g7,0,none⟩) x.likes.length))/\SliceC LikC 2 w.heap.size w' (some ⟨g7,0,none⟩) x.likes/\Below w.heap.size w w':=by
 have N7:=iH n7;have M7:wS Dr x.likes<=1048576:=by unfold Cq at hsm;omega
 clear hsm n7;go_enter func52,ntmps52;go_wp2_with fail;refine(jN x.likes a7 c7 lo _ (N7.out.below LikC.holds (B:=w.heap.size) (by go_grown) nL) M7).mono ?_;rintro e w1⟨g7,rfl,hg7,hn7,hb1⟩;have hz1:w.heap.size+1+1<w1.heap.size:=by have:=hb1.size;simp at this;omega
 have ko1_0:w1.cell? ⟨w.heap.size+1+1,0,none⟩=some (.string x.name):=(hb1.cell (p:=⟨w.heap.size+1+1,0,none⟩) (by simp<;>omega)).trans (by simp[go_sem]);have fo1_0:w1.frozen? ⟨w.heap.size+1+1,0,none⟩=false:=(hb1.frozen (p:=⟨w.heap.size+1+1,0,none⟩) (by simp<;>omega)).trans (by simp[go_sem]);have kr1_0:w1.cell? ⟨w.heap.size+1,0,none⟩=some (.string ⟨#[]⟩):=(hb1.cell (p:=⟨w.heap.size+1,0,none⟩) (by simp<;>omega)).trans (by simp[go_sem]);have fr1_0:w1.frozen? ⟨w.heap.size+1,0,none⟩=false:=(hb1.frozen (p:=⟨w.heap.size+1,0,none⟩) (by simp<;>omega)).trans (by simp[go_sem]);have ko1_1:w1.cell? ⟨w.heap.size+1+1,1,none⟩=some (.string x.service):=(hb1.cell (p:=⟨w.heap.size+1+1,1,none⟩) (by simp<;>omega)).trans (by simp[go_sem]);have fo1_1:w1.frozen? ⟨w.heap.size+1+1,1,none⟩=false:=(hb1.frozen (p:=⟨w.heap.size+1+1,1,none⟩) (by simp<;>omega)).trans (by simp[go_sem]);have kr1_1:w1.cell? ⟨w.heap.size+1,1,none⟩=some (.string ⟨#[]⟩):=(hb1.cell (p:=⟨w.heap.size+1,1,none⟩) (by simp<;>omega)).trans (by simp[go_sem]);have fr1_1:w1.frozen? ⟨w.heap.size+1,1,none⟩=false:=(hb1.frozen (p:=⟨w.heap.size+1,1,none⟩) (by simp<;>omega)).trans (by simp[go_sem]);have ko1_2:w1.cell? ⟨w.heap.size+1+1,2,none⟩=some (.int .i64 x.rank):=(hb1.cell (p:=⟨w.heap.size+1+1,2,none⟩) (by simp<;>omega)).trans (by simp[go_sem]);have fo1_2:w1.frozen? ⟨w.heap.size+1+1,2,none⟩=false:=(hb1.frozen (p:=⟨w.heap.size+1+1,2,none⟩) (by simp<;>omega)).trans (by simp[go_sem]);have kr1_2:w1.cell? ⟨w.heap.size+1,2,none⟩=some (.int .i64 0):=(hb1.cell (p:=⟨w.heap.size+1,2,none⟩) (by simp<;>omega)).trans (by simp[go_sem]);have fr1_2:w1.frozen? ⟨w.heap.size+1,2,none⟩=false:=(hb1.frozen (p:=⟨w.heap.size+1,2,none⟩) (by simp<;>omega)).trans (by simp[go_sem]);have ko1_3:w1.cell? ⟨w.heap.size+1+1,3,none⟩=some (.int .i64 x.born):=(hb1.cell (p:=⟨w.heap.size+1+1,3,none⟩) (by simp<;>omega)).trans (by simp[go_sem]);have fo1_3:w1.frozen? ⟨w.heap.size+1+1,3,none⟩=false:=(hb1.frozen (p:=⟨w.heap.size+1+1,3,none⟩) (by simp<;>omega)).trans (by simp[go_sem]);have kr1_3:w1.cell? ⟨w.heap.size+1,3,none⟩=some (.int .i64 0):=(hb1.cell (p:=⟨w.heap.size+1,3,none⟩) (by simp<;>omega)).trans (by simp[go_sem]);have fr1_3:w1.frozen? ⟨w.heap.size+1,3,none⟩=false:=(hb1.frozen (p:=⟨w.heap.size+1,3,none⟩) (by simp<;>omega)).trans (by simp[go_sem]);have ko1_4:w1.cell? ⟨w.heap.size+1+1,4,none⟩=some (.int .i64 x.room):=(hb1.cell (p:=⟨w.heap.size+1+1,4,none⟩) (by simp<;>omega)).trans (by simp[go_sem]);have fo1_4:w1.frozen? ⟨w.heap.size+1+1,4,none⟩=false:=(hb1.frozen (p:=⟨w.heap.size+1+1,4,none⟩) (by simp<;>omega)).trans (by simp[go_sem]);have kr1_4:w1.cell? ⟨w.heap.size+1,4,none⟩=some (.int .i64 0):=(hb1.cell (p:=⟨w.heap.size+1,4,none⟩) (by simp<;>omega)).trans (by simp[go_sem])
 have fr1_4:w1.frozen? ⟨w.heap.size+1,4,none⟩=false:=(hb1.frozen (p:=⟨w.heap.size+1,4,none⟩) (by simp<;>omega)).trans (by simp[go_sem]);have ko1_5:w1.cell? ⟨w.heap.size+1+1,5,none⟩=some (.int .i64 x.hold):=(hb1.cell (p:=⟨w.heap.size+1+1,5,none⟩) (by simp<;>omega)).trans (by simp[go_sem]);have fo1_5:w1.frozen? ⟨w.heap.size+1+1,5,none⟩=false:=(hb1.frozen (p:=⟨w.heap.size+1+1,5,none⟩) (by simp<;>omega)).trans (by simp[go_sem]);have kr1_5:w1.cell? ⟨w.heap.size+1,5,none⟩=some (.int .i64 0):=(hb1.cell (p:=⟨w.heap.size+1,5,none⟩) (by simp<;>omega)).trans (by simp[go_sem]);have fr1_5:w1.frozen? ⟨w.heap.size+1,5,none⟩=false:=(hb1.frozen (p:=⟨w.heap.size+1,5,none⟩) (by simp<;>omega)).trans (by simp[go_sem]);have ko1_6:w1.cell? ⟨w.heap.size+1+1,6,none⟩=some (.string x.select):=(hb1.cell (p:=⟨w.heap.size+1+1,6,none⟩) (by simp<;>omega)).trans (by simp[go_sem]);have fo1_6:w1.frozen? ⟨w.heap.size+1+1,6,none⟩=false:=(hb1.frozen (p:=⟨w.heap.size+1+1,6,none⟩) (by simp<;>omega)).trans (by simp[go_sem]);have kr1_6:w1.cell? ⟨w.heap.size+1,6,none⟩=some (.string ⟨#[]⟩):=(hb1.cell (p:=⟨w.heap.size+1,6,none⟩) (by simp<;>omega)).trans (by simp[go_sem]);have fr1_6:w1.frozen? ⟨w.heap.size+1,6,none⟩=false:=(hb1.frozen (p:=⟨w.heap.size+1,6,none⟩) (by simp<;>omega)).trans (by simp[go_sem]);have ko1_7:w1.cell? ⟨w.heap.size+1+1,7,none⟩=some (.slice none 0 0):=(hb1.cell (p:=⟨w.heap.size+1+1,7,none⟩) (by simp<;>omega)).trans (by simp[go_sem]);have fo1_7:w1.frozen? ⟨w.heap.size+1+1,7,none⟩=false:=(hb1.frozen (p:=⟨w.heap.size+1+1,7,none⟩) (by simp<;>omega)).trans (by simp[go_sem]);have kr1_7:w1.cell? ⟨w.heap.size+1,7,none⟩=some (.slice none 0 0):=(hb1.cell (p:=⟨w.heap.size+1,7,none⟩) (by simp<;>omega)).trans (by simp[go_sem]);have fr1_7:w1.frozen? ⟨w.heap.size+1,7,none⟩=false:=(hb1.frozen (p:=⟨w.heap.size+1,7,none⟩) (by simp<;>omega)).trans (by simp[go_sem]);have ka1_8:w1.cell? ⟨w.heap.size,8,none⟩=some (.int .i64 x.apart):=(hb1.cell (p:=⟨w.heap.size,8,none⟩) (by simp<;>omega)).trans (by simp[go_sem]);have ko1_8:w1.cell? ⟨w.heap.size+1+1,8,none⟩=some (.int .i64 0):=(hb1.cell (p:=⟨w.heap.size+1+1,8,none⟩) (by simp<;>omega)).trans (by simp[go_sem]);have fo1_8:w1.frozen? ⟨w.heap.size+1+1,8,none⟩=false:=(hb1.frozen (p:=⟨w.heap.size+1+1,8,none⟩) (by simp<;>omega)).trans (by simp[go_sem]);have kr1_8:w1.cell? ⟨w.heap.size+1,8,none⟩=some (.int .i64 0):=(hb1.cell (p:=⟨w.heap.size+1,8,none⟩) (by simp<;>omega)).trans (by simp[go_sem]);have fr1_8:w1.frozen? ⟨w.heap.size+1,8,none⟩=false:=(hb1.frozen (p:=⟨w.heap.size+1,8,none⟩) (by simp<;>omega)).trans (by simp[go_sem]);have ka1_9:w1.cell? ⟨w.heap.size,9,none⟩=some (.string x.near):=(hb1.cell (p:=⟨w.heap.size,9,none⟩) (by simp<;>omega)).trans (by simp[go_sem])
 have ko1_9:w1.cell? ⟨w.heap.size+1+1,9,none⟩=some (.string ⟨#[]⟩):=(hb1.cell (p:=⟨w.heap.size+1+1,9,none⟩) (by simp<;>omega)).trans (by simp[go_sem]);have fo1_9:w1.frozen? ⟨w.heap.size+1+1,9,none⟩=false:=(hb1.frozen (p:=⟨w.heap.size+1+1,9,none⟩) (by simp<;>omega)).trans (by simp[go_sem]);have kr1_9:w1.cell? ⟨w.heap.size+1,9,none⟩=some (.string ⟨#[]⟩):=(hb1.cell (p:=⟨w.heap.size+1,9,none⟩) (by simp<;>omega)).trans (by simp[go_sem]);have fr1_9:w1.frozen? ⟨w.heap.size+1,9,none⟩=false:=(hb1.frozen (p:=⟨w.heap.size+1,9,none⟩) (by simp<;>omega)).trans (by simp[go_sem]);have ka1_10:w1.cell? ⟨w.heap.size,10,none⟩=some (.string x.fixed):=(hb1.cell (p:=⟨w.heap.size,10,none⟩) (by simp<;>omega)).trans (by simp[go_sem]);have ko1_10:w1.cell? ⟨w.heap.size+1+1,10,none⟩=some (.string ⟨#[]⟩):=(hb1.cell (p:=⟨w.heap.size+1+1,10,none⟩) (by simp<;>omega)).trans (by simp[go_sem]);have fo1_10:w1.frozen? ⟨w.heap.size+1+1,10,none⟩=false:=(hb1.frozen (p:=⟨w.heap.size+1+1,10,none⟩) (by simp<;>omega)).trans (by simp[go_sem]);have kr1_10:w1.cell? ⟨w.heap.size+1,10,none⟩=some (.string ⟨#[]⟩):=(hb1.cell (p:=⟨w.heap.size+1,10,none⟩) (by simp<;>omega)).trans (by simp[go_sem]);have fr1_10:w1.frozen? ⟨w.heap.size+1,10,none⟩=false:=(hb1.frozen (p:=⟨w.heap.size+1,10,none⟩) (by simp<;>omega)).trans (by simp[go_sem]);have ka1_11:w1.cell? ⟨w.heap.size,11,none⟩=some (.string x.at_):=(hb1.cell (p:=⟨w.heap.size,11,none⟩) (by simp<;>omega)).trans (by simp[go_sem]);have ko1_11:w1.cell? ⟨w.heap.size+1+1,11,none⟩=some (.string ⟨#[]⟩):=(hb1.cell (p:=⟨w.heap.size+1+1,11,none⟩) (by simp<;>omega)).trans (by simp[go_sem]);have fo1_11:w1.frozen? ⟨w.heap.size+1+1,11,none⟩=false:=(hb1.frozen (p:=⟨w.heap.size+1+1,11,none⟩) (by simp<;>omega)).trans (by simp[go_sem]);have kr1_11:w1.cell? ⟨w.heap.size+1,11,none⟩=some (.string ⟨#[]⟩):=(hb1.cell (p:=⟨w.heap.size+1,11,none⟩) (by simp<;>omega)).trans (by simp[go_sem]);have fr1_11:w1.frozen? ⟨w.heap.size+1,11,none⟩=false:=(hb1.frozen (p:=⟨w.heap.size+1,11,none⟩) (by simp<;>omega)).trans (by simp[go_sem]);have hg7':w.heap.size+1+1<g7:=by simp at hg7;omega
 have hB1:Below w.heap.size w w1:=(show Below w.heap.size w _ by go_grown).trans (hb1.mono (by simp<;>omega));have HN7:Hid (SliceC LikC 2 (w.heap.size+3) w1 (some ⟨g7,0,none⟩) x.likes):=hn7.keep LikC.holds (Keeps.refl _ _) (by simp<;>omega);clear hn7 hb1 hg7;have HPR:Hid (w1.rangeAt (w.heap.size+1+1) 0 [.string x.name,.string x.service,.int .i64 x.rank,.int .i64 x.born,.int .i64 x.room,.int .i64 x.hold,.string x.select]):=Aa ko1_0 (Aa ko1_1 (Aa ko1_2 (Aa ko1_3 (Aa ko1_4 (Aa ko1_5 (Aa ko1_6 (Ao _ _ _)))))));have HTO:Hid (w1.there (w.heap.size+1+1) 7 5):=Ag ko1_7 fo1_7 (Ag ko1_8 fo1_8 (Ag ko1_9 fo1_9 (Ag ko1_10 fo1_10 (Ag ko1_11 fo1_11 (Ez _ _ _)))));have HTR:Hid (w1.there (w.heap.size+1) 0 12):=Ag kr1_0 fr1_0 (Ag kr1_1 fr1_1 (Ag kr1_2 fr1_2 (Ag kr1_3 fr1_3 (Ag kr1_4 fr1_4 (Ag kr1_5 fr1_5 (Ag kr1_6 fr1_6 (Ag kr1_7 fr1_7 (Ag kr1_8 fr1_8 (Ag kr1_9 fr1_9 (Ag kr1_10 fr1_10 (Ag kr1_11 fr1_11 (Ez _ _ _))))))))))));clear kr1_0 fr1_0 kr1_1 fr1_1 kr1_2 fr1_2 kr1_3 fr1_3 kr1_4 fr1_4 kr1_5 fr1_5 kr1_6 fr1_6 kr1_7 fr1_7 kr1_8 fr1_8 kr1_9 fr1_9 kr1_10 fr1_10 kr1_11 fr1_11 ko1_0 fo1_0 ko1_1 fo1_1 ko1_2 fo1_2 ko1_3 fo1_3 ko1_4 fo1_4 ko1_5 fo1_5 ko1_6 fo1_6;go_upto_region 14 with fail;have HRG:Hid (World.rangeAt (((((w1.setCell ⟨w.heap.size+1+1,7,none⟩ (.slice (some ⟨g7,0,none⟩) x.likes.length x.likes.length)).setCell ⟨w.heap.size+1+1,8,none⟩ (.int .i64 x.apart)).setCell ⟨w.heap.size+1+1,9,none⟩ (.string x.near)).setCell ⟨w.heap.size+1+1,10,none⟩ (.string x.fixed)).setCell ⟨w.heap.size+1+1,11,none⟩ (.string x.at_)) (w.heap.size+1+1) 0 (ccL x (some ⟨g7,0,none⟩) x.likes.length)):=Kp (vs:=[.slice (some ⟨g7,0,none⟩) x.likes.length x.likes.length,.int .i64 x.apart,.string x.near,.string x.fixed,.string x.at_]) HPR rfl HTO;have HTG:Hid (World.there (((((w1.setCell ⟨w.heap.size+1+1,7,none⟩ (.slice (some ⟨g7,0,none⟩) x.likes.length x.likes.length)).setCell ⟨w.heap.size+1+1,8,none⟩ (.int .i64 x.apart)).setCell ⟨w.heap.size+1+1,9,none⟩ (.string x.near)).setCell ⟨w.heap.size+1+1,10,none⟩ (.string x.fixed)).setCell ⟨w.heap.size+1+1,11,none⟩ (.string x.at_)) (w.heap.size+1) 0 12):=World.there_setCells HTR (w.heap.size+1+1) 7 [.slice (some ⟨g7,0,none⟩) x.likes.length x.likes.length,.int .i64 x.apart,.string x.near,.string x.fixed,.string x.at_];have HBG:Hid (Below w.heap.size w (((((w1.setCell ⟨w.heap.size+1+1,7,none⟩ (.slice (some ⟨g7,0,none⟩) x.likes.length x.likes.length)).setCell ⟨w.heap.size+1+1,8,none⟩ (.int .i64 x.apart)).setCell ⟨w.heap.size+1+1,9,none⟩ (.string x.near)).setCell ⟨w.heap.size+1+1,10,none⟩ (.string x.fixed)).setCell ⟨w.heap.size+1+1,11,none⟩ (.string x.at_))):=Aj (b:=w.heap.size+1+1) (by omega) [.slice (some ⟨g7,0,none⟩) x.likes.length x.likes.length,.int .i64 x.apart,.string x.near,.string x.fixed,.string x.at_] 7 _ hB1;have HG7:Hid (SliceC LikC 2 (w.heap.size+3) (((((w1.setCell ⟨w.heap.size+1+1,7,none⟩ (.slice (some ⟨g7,0,none⟩) x.likes.length x.likes.length)).setCell ⟨w.heap.size+1+1,8,none⟩ (.int .i64 x.apart)).setCell ⟨w.heap.size+1+1,9,none⟩ (.string x.near)).setCell ⟨w.heap.size+1+1,10,none⟩ (.string x.fixed)).setCell ⟨w.heap.size+1+1,11,none⟩ (.string x.at_)) (some ⟨g7,0,none⟩) x.likes):=HN7.out.keep LikC.holds (Keeps.setCells (b:=w.heap.size+1+1) (by omega) [.slice (some ⟨g7,0,none⟩) x.likes.length x.likes.length,.int .i64 x.apart,.string x.near,.string x.fixed,.string x.at_] 7 _) nL
 clear ko1_7 fo1_7 ko1_8 fo1_8 ko1_9 fo1_9 ko1_10 fo1_10 ko1_11 fo1_11 ka1_8 ka1_9 ka1_10 ka1_11 HPR HTO HTR hz1 hB1 HN7 hg7';generalize(((((w1.setCell ⟨w.heap.size+1+1,7,none⟩ (.slice (some ⟨g7,0,none⟩) x.likes.length x.likes.length)).setCell ⟨w.heap.size+1+1,8,none⟩ (.int .i64 x.apart)).setCell ⟨w.heap.size+1+1,9,none⟩ (.string x.near)).setCell ⟨w.heap.size+1+1,10,none⟩ (.string x.fixed)).setCell ⟨w.heap.size+1+1,11,none⟩ (.string x.at_))=w9 at *;obtain⟨w10,hw10⟩:∃w',w'=w9.setCells (w.heap.size+1) 0 (ccL x (some ⟨g7,0,none⟩) x.likes.length):=⟨_,rfl⟩;have HR10:Hid (w10.rangeAt (w.heap.size+1) 0 (ccL x (some ⟨g7,0,none⟩) x.likes.length)):=by rw[hw10];exact World.rangeAt_setCells_same _ _ _ _ HTG
 have HB10:Hid (Below w.heap.size w w10):=by rw[hw10];exact Aj (by omega) _ _ _ HBG
 have HS7:Hid (SliceC LikC 2 w.heap.size w10 (some ⟨g7,0,none⟩) x.likes):=by rw[hw10];exact HG7.out.keep LikC.holds (Keeps.setCells (by omega) _ _ _) (by omega)
 have HW10:=iH hw10;clear hw10 HBG HG7;go_wp2_with(first|(refine qLr Jg HRG ?_)|(refine An rfl 49 _ _ rfl (w.heap.size+1) 0 (ccA x (some ⟨g7,0,none⟩) x.likes.length) rfl rfl HTG Dk (by simp[Value.oneCell']) w10 HW10 ?_));exact bodyPost_ret (Bi rfl _ _ (w.heap.size+1) (ccL x (some ⟨g7,0,none⟩) x.likes.length) _ rfl HR10 underlying49 rfl Dk) rfl ⟨g7,rfl,HS7,HB10⟩
theorem oN(x:Cpy)(a7:OA)(c7:Nat)(a7p:OA)(c7p:Nat)(lo lo':Nat)(w:World)(n7:SliceC LikC 2 lo w a7 x.likes)(p7:SliceC LikC 2 lo' w a7p x.likes)(hsm:Cq x<=1048576) :
  Calls prog 62 #[.agg (ccA x a7 c7),.agg (ccA x a7p c7p)] w (Rt (.bool true) w):=by
 have N7:=iH n7;have P7:=iH p7;have M7:wS Dr x.likes<=1048576:=by unfold Cq at hsm;omega
 clear hsm n7 p7;go_enter func62,ntmps62;go_wp2_with fail;refine(jB x.likes a7 a7p c7 c7p lo lo' _ (N7.out.below LikC.holds (B:=w.heap.size) (by go_grown) nL) (P7.out.below LikC.holds (B:=w.heap.size) (by go_grown) nL) M7).mono ?_;rintro e w1⟨rfl,hb1⟩;have hB1:Below w.heap.size w w1:=(show Below w.heap.size w _ by go_grown).trans (hb1.mono (by simp;omega));have k1_8:w1.cell? ⟨w.heap.size,8,none⟩=some (.int .i64 x.apart):=(hb1.cell (p:=⟨w.heap.size,8,none⟩) (by simp;omega)).trans (by simp);have l1_8:w1.cell? ⟨w.heap.size+1,8,none⟩=some (.int .i64 x.apart):=(hb1.cell (p:=⟨w.heap.size+1,8,none⟩) (by simp)).trans (by simp);have k1_9:w1.cell? ⟨w.heap.size,9,none⟩=some (.string x.near):=(hb1.cell (p:=⟨w.heap.size,9,none⟩) (by simp;omega)).trans (by simp);have l1_9:w1.cell? ⟨w.heap.size+1,9,none⟩=some (.string x.near):=(hb1.cell (p:=⟨w.heap.size+1,9,none⟩) (by simp)).trans (by simp);have k1_10:w1.cell? ⟨w.heap.size,10,none⟩=some (.string x.fixed):=(hb1.cell (p:=⟨w.heap.size,10,none⟩) (by simp;omega)).trans (by simp);have l1_10:w1.cell? ⟨w.heap.size+1,10,none⟩=some (.string x.fixed):=(hb1.cell (p:=⟨w.heap.size+1,10,none⟩) (by simp)).trans (by simp);have k1_11:w1.cell? ⟨w.heap.size,11,none⟩=some (.string x.at_):=(hb1.cell (p:=⟨w.heap.size,11,none⟩) (by simp;omega)).trans (by simp);have l1_11:w1.cell? ⟨w.heap.size+1,11,none⟩=some (.string x.at_):=(hb1.cell (p:=⟨w.heap.size+1,11,none⟩) (by simp)).trans (by simp);have hs1:w.heap.size+1<w1.heap.size:=by have:=hb1.size;simp at this;omega
 clear hb1
 go_wp2
 go_ret;exact⟨rfl,hB1⟩
theorem jK(xs:List Cpy)(a:OA)(cap lo:Nat)(L:Int)(w:World)(hin:SliceC CpyC 12 lo w a xs)(h0:0<=L)(h1:L<=1048576) :
  Calls prog 15 #[.slice a xs.length cap,.int .i64 L] w (Rt (.int .i64 (szR (wS Cq xs) L)) w):=by
 have hlen:=hin.1;unfold maxLen at hlen;have HI:=iH hin;clear hin;have HW:Hid (wS Cq xs=xs.length+(xs.map Cq).sum):=rfl;generalize wS Cq xs=W at *;by_cases c1:L-xs.length<0
 .go_enter func15,ntmps15
  go_wp2
  go_ret;exact⟨Am (by have:=HW.out;unfold szR;rw[if_neg (by omega)]),Below.refl _ _⟩
 .go_enter func15,ntmps15
  go_wp2
  go_loopw [1,5] (λl i wr=>∃(k:Nat)(M:Int),k<=xs.length/\i=.int .i64 k/\l=.int .i64 M/\0<=M/\M<=1048576/\Hid (M=L-xs.length-((xs.take k).map Cq).sum)/\Below w.heap.size w wr) (λ_ i _=>xs.length-(intOf i).toNat)
  case atStart=>exact⟨0,_,zL,rfl,rfl,by omega,by omega,by show _=_;simp,Below.refl _ _⟩
  case round =>
   obtain⟨k,M,hk,rfl,rfl,hM0,hM1,hM,hbel⟩:=hrel;by_cases hlt:k<xs.length
   .obtain⟨x,hx⟩:=gXe hlt
    obtain⟨b,o,rfl,_,_,hc⟩:=(HI.out.below CpyC.holds hbel nL).at hx;obtain⟨a7,c7,q0,q1,q2,q3,q4,q5,q6,q7,q8,q9,q10,q11,z0,z1,z6,z9,z10,z11,n7⟩:=hc;simp only[Nat.add_zero]at q0 q1 q2 q3 q4 q5 q6 q7 q8 q9 q10 q11;have HX:Hid (((xs.take (k+1)).map Cq).sum=((xs.take k).map Cq).sum+Cq x):=Fi _ _ _ _ hx;have HY:Hid (((xs.take (k+1)).map Cq).sum<=(xs.map Cq).sum):=Df _ _ _;have CT:=pS x a7 c7 lo M wr z0 z1 z6 z9 z10 z11 n7 hM0 hM1;have HCT:=iH CT;clear hx CT;by_cases hr:(Cq x:Int)<=M
    .rw[Gx hr]at HCT
     generalize hV:Cq x=V at *;clear hV;go_wp2_with fail;refine HCT.out.mono ?_;rintro e w1⟨rfl,hb1⟩;clear HCT
     go_wp2
     go_roundw
     case rel =>
      refine⟨k+1,M-V,by omega,by go_num,rfl,by omega,by omega,?_,qTr hbel hb1⟩;have:=hM.out;have:=HX.out;show _=_
      omega
     case measure=>simp[intOf];omega
    .rw[Hb hr]at HCT
     generalize hV:Cq x=V at *;clear hV;go_wp2_with fail;refine HCT.out.mono ?_;rintro e w1⟨rfl,hb1⟩;clear HCT
     go_wp2
     go_ret;refine⟨Am ?_,qTr hbel hb1⟩;have:=HW.out;have:=HX.out;have:=HY.out;have:=hM.out;unfold szR;rw[if_neg (by omega)]
   .go_wp2
    go_ret;refine⟨Am ?_,hbel⟩;have hke:k=xs.length:=by omega
    subst hke;have h3:=hM.out;have h4:=HW.out;simp only[List.take_length]at h3;unfold szR;rw[if_pos (by omega)];omega
theorem Uz:(prog.info? 49).map (λi=>(i.zero,i.size,i.bytes))=some (some (.agg CcA),12,160):=by kernel_rfl
theorem jR(xs:List Cpy)(a:OA)(cap lo:Nat)(w:World)(hin:SliceC CpyC 12 lo w a xs)(hsm:wS Cq xs<=1048576) :
  Calls prog 22 #[.slice a xs.length cap] w λe w'=>∃g,e=.returned (.slice (some ⟨g,0,none⟩) xs.length xs.length)/\w.heap.size<=g/\SliceC CpyC 12 w.heap.size w' (some ⟨g,0,none⟩) xs/\Below w.heap.size w w':=by
 obtain⟨i0,hi,hz0,hz1,hz2⟩:=info_parts Uz;have hlen:xs.length<=1048576:=lT Fd hsm;have HI:=iH hin;have HSM:=iH hsm;clear hin hsm;go_enter func22,ntmps22;go_wp2_with(at_make;refine wpList_make_full _ rfl _ _ 33 rfl w.heap.size 49 i0 _ 12 underlying33 hi hz0 hz1 .i64 .i64 _ _ xs.length rfl rfl rfl rfl (by rw[hz2];omega) (by unfold maxLen;omega) nL ?_;intro w1 hown hgrow);have hb1:Below w.heap.size w w1:=(Below.refl _ _).grown hgrow nL (λk h=>by cases h);have hsz1:=(hown.lt w.heap.size rfl).2;generalize hX:(madeCells _ (xs.length*12)).toList=xs0 at hown;clear hX hgrow hi hz0 hz1 hz2;go_loopw [4] (λi wr=>∃(k:Nat)(cs:List Value),k<=xs.length/\i=.int .i64 k/\w.heap.size<wr.heap.size/\wr.ownsRow w.heap.size 49 12 (.slice (some ⟨w.heap.size,0,none⟩) xs.length xs.length) xs.length cs/\RowC CpyC 12 (w.heap.size+1) wr cs xs k/\Below w.heap.size w wr) (λi _=>xs.length-(intOf i).toNat)
 case atStart=>exact⟨0,xs0,zL,rfl,hsz1,hown,λj n h=>by omega,hb1⟩
 case round =>
  clear hown hb1 hsz1;obtain⟨k,cs,hk,rfl,hszr,hown,hfil,hbel⟩:=hrel;by_cases hlt:k<xs.length
  .obtain⟨x,hx⟩:=gXe hlt
   obtain⟨b,o,rfl,_,_,hc⟩:=(HI.out.below CpyC.holds hbel nL).at hx;obtain⟨a7,c7,q0,q1,q2,q3,q4,q5,q6,q7,q8,q9,q10,q11,z0,z1,z6,z9,z10,z11,n7⟩:=hc;simp only[Nat.add_zero]at q0 q1 q2 q3 q4 q5 q6 q7 q8 q9 q10 q11;have HN:=iH hx;have hwx:Cq x<=1048576:=lT (Jo (List.mem_of_getElem? hx)) HSM;have HO:=iH hown;have HF:=iH hfil;have HS:=iH hszr;have CT:=nA x a7 c7 lo wr n7 hwx;have HCT:=iH CT;clear hx hown hfil CT hszr;go_wp2_with fail;refine HCT.out.mono ?_;rintro e w2⟨g7,rfl,m7,hb2⟩;clear HCT q0 q1 q2 q3 q4 q5 q6 q7 q8 q9 q10 q11 n7;have ho2:=Ak HO hb2;have HB2:=iH (qTr hbel hb2);have HF2:Hid (RowC CpyC 12 (w.heap.size+1) w2 cs xs k):=HF.out.keep CpyC.holds (Keeps.of_below hb2 nL _);have hs2:Hid (w.heap.size<w2.heap.size):=lL HS hb2.size;have HR:Hid (CpyC (w.heap.size+1) w2 (λi=>((ccL x (some ⟨g7,0,none⟩) x.likes.length):List Value)[i]?) x):=⟨_,_,rfl,rfl,rfl,rfl,rfl,rfl,rfl,rfl,rfl,rfl,rfl,rfl,z0,z1,z6,z9,z10,z11,m7.keep LikC.holds (Keeps.refl _ _) (by have:=hbel.size;have:=HS.out;omega)⟩;have hxl:cs.length=xs.length*12:=ho2.1;have HT:Hid (w2.there w.heap.size (k*12) 12):=Ha ho2 (by omega);have HL:=iH hxl;have HO2:=iH ho2;clear hxl ho2 HO hb2 hwx m7;obtain⟨w3,hw3⟩:∃w',w'=w2.setCells w.heap.size (k*12) (ccL x (some ⟨g7,0,none⟩) x.likes.length):=⟨_,rfl⟩;have HW3:=iH hw3;have HS3:Hid (w.heap.size<w3.heap.size):=by rw[hw3,Az];exact hs2
   have HO3:Hid (w3.ownsRow w.heap.size 49 12 (.slice (some ⟨w.heap.size,0,none⟩) xs.length xs.length) xs.length (Eh cs (k*12) (ccL x (some ⟨g7,0,none⟩) x.likes.length))):=by rw[hw3];exact Hf _ _ _ _ HO2
   have HB3:Hid (Below w.heap.size w w3):=by rw[hw3];exact Aj nL _ _ _ HB2
   have HR3:Hid (RowC CpyC 12 (w.heap.size+1) w3 (Eh cs (k*12) (ccL x (some ⟨g7,0,none⟩) x.likes.length)) xs (k+1)):=by
    rw[hw3];exact(HF2.out.step (vs:=(ccL x (some ⟨g7,0,none⟩) x.likes.length)) CpyC.holds HN rfl (by have:=HL.out;omega) HR).keep CpyC.holds (Keeps.setCells (by omega) _ _ _)
   clear hw3 HB2 HF2 hs2 HR HL HO2;go_wp2_with(refine An rfl 49 _ _ rfl w.heap.size (k*12) (ccA x (some ⟨g7,0,none⟩) x.likes.length) (by first|rfl|(simp[go_sem];done)) rfl HT Dk (by simp[Value.oneCell']) w3 HW3 ?_);go_roundw
   case rel=>exact⟨k+1,_,by omega,by go_num,HS3,HO3,HR3,HB3⟩
   case measure=>simp[intOf];omega
  .have HO:=iH hown
   have HF:=iH hfil;clear hown hfil
   go_wp2
   go_ret;have hke:k=xs.length:=by omega
   subst hke;exact⟨_,rfl,Nat.le_refl _,Fg HO HF CpyC.holds HI.out.1 (by omega) nL,hbel⟩
theorem iD(xs:List Cpy)(a a':OA)(cap cap' lo lo':Nat)(w:World)(hg:SliceC CpyC 12 lo w a xs)(hh:SliceC CpyC 12 lo' w a' xs)(hsm:wS Cq xs<=1048576) :
  Calls prog 29 #[.slice a xs.length cap,.slice a' xs.length cap'] w (Rt (.bool true) w):=by
 have hlen:xs.length<=1048576:=lT Fd hsm;have HG:=iH hg;have HH:=iH hh;have HSM:=iH hsm;clear hg hh hsm;go_enter func29,ntmps29
 go_wp2
 go_loopw [5] (λi wr=>∃(k:Nat),k<=xs.length/\i=.int .i64 k/\Below w.heap.size w wr) (λi _=>xs.length-(intOf i).toNat)
 case atStart=>exact⟨0,zL,rfl,Below.refl _ _⟩
 case round =>
  obtain⟨k,hk,rfl,hbel⟩:=hrel;by_cases hlt:k<xs.length
  .obtain⟨x,hx⟩:=gXe hlt
   obtain⟨b,o,rfl,_,_,hc⟩:=(HG.out.below CpyC.holds hbel nL).at hx;obtain⟨b',o',rfl,_,_,hc'⟩:=(HH.out.below CpyC.holds hbel nL).at hx;obtain⟨a7,c7,q0,q1,q2,q3,q4,q5,q6,q7,q8,q9,q10,q11,_,_,_,_,_,_,n7⟩:=hc;obtain⟨a7p,c7p,r0,r1,r2,r3,r4,r5,r6,r7,r8,r9,r10,r11,_,_,_,_,_,_,p7⟩:=hc';simp only[Nat.add_zero]at q0 q1 q2 q3 q4 q5 q6 q7 q8 q9 q10 q11 r0 r1 r2 r3 r4 r5 r6 r7 r8 r9 r10 r11;have hwx:Cq x<=1048576:=lT (Jo (List.mem_of_getElem? hx)) HSM;have k0:=cell_regrown q0;have l0:=cell_regrown r0;have k1:=cell_regrown q1;have l1:=cell_regrown r1;have k2:=cell_regrown q2;have l2:=cell_regrown r2;have k3:=cell_regrown q3;have l3:=cell_regrown r3;have k4:=cell_regrown q4;have l4:=cell_regrown r4;have k5:=cell_regrown q5;have l5:=cell_regrown r5;have k6:=cell_regrown q6;have l6:=cell_regrown r6;have k7:=cell_regrown q7;have l7:=cell_regrown r7;have k8:=cell_regrown q8;have l8:=cell_regrown r8;have k9:=cell_regrown q9;have l9:=cell_regrown r9;have k10:=cell_regrown q10;have l10:=cell_regrown r10;have k11:=cell_regrown q11;have l11:=cell_regrown r11;have cE:∀d os,Calls prog 62 #[.agg (ccA x a7 c7),.agg (ccA x a7p c7p)] (Sort.grow (redrawn wr d) os) λe w''=>e=.returned (.bool true)/\∃p:Regrown,w''=Sort.grow (redrawn wr p.d) p.os:=λd os=>Calls.regrown_of (oN x a7 c7 a7p c7p lo lo' _ (n7.below LikC.holds (below_regrown wr d os) nL) (p7.below LikC.holds (below_regrown wr d os) nL) hwx)
   have i0:(0:Int)<=(k:Int):=by omega
   have i1:(k:Int)<(xs.length:Int):=by omega
   clear hx q0 q1 q2 q3 q4 q5 q6 q7 q8 q9 q10 q11 r0 r1 r2 r3 r4 r5 r6 r7 r8 r9 r10 r11 n7 p7 hwx;go_wp2_with fail;refine wp_region_quiet_below (by kernel_rfl) (by kernel_rfl) ?_
   repeat(quiet_step (first|exact cE _ _))
   refine wpQuiet_nil ?_;intro _ hw';obtain⟨⟨dq,osq⟩,hw''⟩:=hw';have hB:=hbel.trans ((below_regrown wr dq osq).mono hbel.size);simp only[]at hw'';rw[<-hw'']at hB;clear hw'' cE k0 l0 k1 l1 k2 l2 k3 l3 k4 l4 k5 l5 k6 l6 k7 l7 k8 l8 k9 l9 k10 l10 k11 l11
   go_wp2
   go_roundw
   case rel=>exact⟨k+1,by omega,by go_num,hB⟩
   case measure=>simp[intOf];omega
  .go_wp2
   go_ret;exact⟨rfl,hbel⟩
end Go.Proofs.YtpidfnfilnkhkaaGreat
