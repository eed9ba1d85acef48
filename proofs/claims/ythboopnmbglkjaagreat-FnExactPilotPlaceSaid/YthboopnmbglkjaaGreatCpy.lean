import Derived.Test.YthboopnmbglkjaaGreatJ8
set_option maxHeartbeats 2000000
namespace Go.Proofs.YthboopnmbglkjaaGreat
open Go.RowKit Tryz
structure Cpy where
 name:BA
 service:BA
 rank:Int
 born:Int
 room:Int
 hold:Int
 select:BA
 likes:List Lik
 apart:Int
 near:BA
 fixed:BA
 at_:BA
abbrev ccL(x:Cpy)(a1:OA)(c1:Nat):List Value:=[Y x.name,Y x.service,X x.rank,X x.born,X x.room,X x.hold,Y x.select,.slice a1 x.likes.length c1,X x.apart,Y x.near,Y x.fixed,Y x.at_]
abbrev ccA(x:Cpy)(a1:OA)(c1:Nat):Array Value:=#[Y x.name,Y x.service,X x.rank,X x.born,X x.room,X x.hold,Y x.select,.slice a1 x.likes.length c1,X x.apart,Y x.near,Y x.fixed,Y x.at_]
abbrev CcL:List Value:=[Y ⟨#[]⟩,Y ⟨#[]⟩,X 0,X 0,X 0,X 0,Y ⟨#[]⟩,.slice none 0 0,X 0,Y ⟨#[]⟩,Y ⟨#[]⟩,Y ⟨#[]⟩]
abbrev CcA:Array Value:=#[Y ⟨#[]⟩,Y ⟨#[]⟩,X 0,X 0,X 0,X 0,Y ⟨#[]⟩,.slice none 0 0,X 0,Y ⟨#[]⟩,Y ⟨#[]⟩,Y ⟨#[]⟩]
def Cr(x:Cpy):Nat:=x.name.size+x.service.size+x.select.size+(wS Dm x.likes)+x.near.size+x.fixed.size+x.at_.size
def CpyC:Eh Cpy:=λlo w f x=>∃(a7:OA)(c7:Nat),f 0=some (Y x.name)/\f 1=some (Y x.service)/\f 2=some (X x.rank)/\f 3=some (X x.born)/\f 4=some (X x.room)/\f 5=some (X x.hold)/\f 6=some (Y x.select)/\f 7=some (.slice a7 x.likes.length c7)/\f 8=some (X x.apart)/\f 9=some (Y x.near)/\f 10=some (Y x.fixed)/\f 11=some (Y x.at_)/\x.name.size<=maxLen/\x.service.size<=maxLen/\x.select.size<=maxLen/\x.near.size<=maxLen/\x.fixed.size<=maxLen/\x.at_.size<=maxLen/\sK lo w a7 x.likes
abbrev sC:=SliceC CpyC 12
theorem CpyC.holds:Eu CpyC 12:=by
 rintro lo lo' w w' f g x h k hl⟨a7,c7,q0,q1,q2,q3,q4,q5,q6,q7,q8,q9,q10,q11,z0,z1,z6,z9,z10,z11,n7⟩;exact⟨a7,c7,(h 0 (by omega)).trans q0,(h 1 (by omega)).trans q1,(h 2 (by omega)).trans q2,(h 3 (by omega)).trans q3,(h 4 (by omega)).trans q4,(h 5 (by omega)).trans q5,(h 6 (by omega)).trans q6,(h 7 (by omega)).trans q7,(h 8 (by omega)).trans q8,(h 9 (by omega)).trans q9,(h 10 (by omega)).trans q10,(h 11 (by omega)).trans q11,z0,z1,z6,z9,z10,z11,n7.keep LikC.holds k hl⟩
theorem nU(x:Cpy)(a7:OA)(c7:Nat)(lo:Nat)(L:Int)(w:World)(z0:x.name.size<=maxLen)(z1:x.service.size<=maxLen)(z6:x.select.size<=maxLen)(z9:x.near.size<=maxLen)(z10:x.fixed.size<=maxLen)(z11:x.at_.size<=maxLen)(n7:sK lo w a7 x.likes)(h0:0<=L)(h1:L<=1048576) :
  Calls prog 43 #[.agg (ccA x a7 c7),X L] w (Rt (X (szR (Cr x) L)) w):=by
 unfold maxLen at z0 z1 z6 z9 z10 z11;have N7:=iH n7;clear n7;have HW:Hid (Cr x=x.name.size+x.service.size+x.select.size+(wS Dm x.likes)+x.near.size+x.fixed.size+x.at_.size):=rfl;generalize Cr x=W at *;by_cases d0:L-(x.name.size:Nat)<0
 .go_enter func43,ntmps43
  go_wp2
  go_ret;exact⟨Al (by have:=HW.out;unfold szR;rw[if_neg (by omega)]),by go_grown⟩
 .skip
  by_cases d1:L-(x.name.size:Nat)-(x.service.size:Nat)<0
  .go_enter func43,ntmps43
   go_wp2
   go_ret;exact⟨Al (by have:=HW.out;unfold szR;rw[if_neg (by omega)]),by go_grown⟩
  .skip
   by_cases d6:L-(x.name.size:Nat)-(x.service.size:Nat)-(x.select.size:Nat)<0
   .go_enter func43,ntmps43
    go_wp2
    go_ret;exact⟨Al (by have:=HW.out;unfold szR;rw[if_neg (by omega)]),by go_grown⟩
   .skip
    go_enter func43,ntmps43;go_wp2_with fail;refine(jC x.likes a7 c7 lo _ _ (N7.out.below LikC.holds (B:=w.heap.size) (by go_grown) nL) (by omega) (by omega)).mono ?_;rintro e w1⟨rfl,hb1⟩;have hB1:bW w w1:=(show bW w _ by go_grown).trans (hb1.mono (by simp));have k1_9:w1.cell? (E w.heap.size 9)=some (Y x.near):=(hb1.cell (p:=(E w.heap.size 9)) (by simp)).trans (by simp);have k1_10:w1.cell? (E w.heap.size 10)=some (Y x.fixed):=(hb1.cell (p:=(E w.heap.size 10)) (by simp)).trans (by simp);have k1_11:w1.cell? (E w.heap.size 11)=some (Y x.at_):=(hb1.cell (p:=(E w.heap.size 11)) (by simp)).trans (by simp);have hs1:w.heap.size<w1.heap.size:=by have:=hb1.size;simp at this;omega
    clear hb1;by_cases d7:(((wS Dm x.likes):Nat):Int)<=L-(x.name.size:Nat)-(x.service.size:Nat)-(x.select.size:Nat)
    ·rw [Ha d7]
     by_cases d9:L-(x.name.size:Nat)-(x.service.size:Nat)-(x.select.size:Nat)-((wS Dm x.likes):Nat)-(x.near.size:Nat)<0
     .go_wp2
      go_ret;exact⟨Al (by have:=HW.out;unfold szR;rw[if_neg (by omega)]),hB1⟩
     .skip
      by_cases d10:L-(x.name.size:Nat)-(x.service.size:Nat)-(x.select.size:Nat)-((wS Dm x.likes):Nat)-(x.near.size:Nat)-(x.fixed.size:Nat)<0
      .go_wp2
       go_ret;exact⟨Al (by have:=HW.out;unfold szR;rw[if_neg (by omega)]),hB1⟩
      .skip
       by_cases d11:L-(x.name.size:Nat)-(x.service.size:Nat)-(x.select.size:Nat)-((wS Dm x.likes):Nat)-(x.near.size:Nat)-(x.fixed.size:Nat)-(x.at_.size:Nat)<0
       .go_wp2
        go_ret;exact⟨Al (by have:=HW.out;unfold szR;rw[if_neg (by omega)]),hB1⟩
       .skip
        go_wp2
        go_ret;exact⟨Al (by have:=HW.out;unfold szR;rw[if_pos (by omega)];omega),hB1⟩
    rw[Gz d7]
    go_wp2
    go_ret;exact⟨Al (by have:=HW.out;unfold szR;rw[if_neg (by omega)]),hB1⟩
theorem Bz:(prog.info? 54).map (·.size)=some 12:=by kernel_rfl
theorem Hb:Po 54 12:=⟨_,underlying54,rfl,Bz⟩
theorem nT(x:Cpy)(a7:OA)(c7:Nat)(lo:Nat)(w:World)(n7:sK lo w a7 x.likes)(hsm:Cr x<=1048576) :
  Calls prog 58 #[.agg (ccA x a7 c7)] w λe w'=>∃g7,e=.returned (.agg (ccA x (O g7 0) x.likes.length))/\sK w.heap.size w' (O g7 0) x.likes/\bW w w':=by
 have N7:=iH n7;have M7:wS Dm x.likes<=1048576:=by unfold Cr at hsm;omega
 clear hsm n7;go_enter func58,ntmps58;go_wp2_with fail;refine(kN x.likes a7 c7 lo _ (N7.out.below LikC.holds (B:=w.heap.size) (by go_grown) nL) M7).mono ?_;rintro e w1⟨g7,rfl,hg7,hn7,hb1⟩;have hz1:w.heap.size+1+1<w1.heap.size:=by have:=hb1.size;simp at this;omega
 have ko1_0:w1.cell? (E (w.heap.size+1+1) 0)=some (Y x.name):=(hb1.cell (p:=(E (w.heap.size+1+1) 0)) (by simp<;>omega)).trans (by simp[go_sem]);have fo1_0:w1.frozen? (E (w.heap.size+1+1) 0)=false:=(hb1.frozen (p:=(E (w.heap.size+1+1) 0)) (by simp<;>omega)).trans (by simp[go_sem]);have kr1_0:w1.cell? (E (w.heap.size+1) 0)=some (Y ⟨#[]⟩):=(hb1.cell (p:=(E (w.heap.size+1) 0)) (by simp<;>omega)).trans (by simp[go_sem]);have fr1_0:w1.frozen? (E (w.heap.size+1) 0)=false:=(hb1.frozen (p:=(E (w.heap.size+1) 0)) (by simp<;>omega)).trans (by simp[go_sem]);have ko1_1:w1.cell? (E (w.heap.size+1+1) 1)=some (Y x.service):=(hb1.cell (p:=(E (w.heap.size+1+1) 1)) (by simp<;>omega)).trans (by simp[go_sem]);have fo1_1:w1.frozen? (E (w.heap.size+1+1) 1)=false:=(hb1.frozen (p:=(E (w.heap.size+1+1) 1)) (by simp<;>omega)).trans (by simp[go_sem]);have kr1_1:w1.cell? (E (w.heap.size+1) 1)=some (Y ⟨#[]⟩):=(hb1.cell (p:=(E (w.heap.size+1) 1)) (by simp<;>omega)).trans (by simp[go_sem]);have fr1_1:w1.frozen? (E (w.heap.size+1) 1)=false:=(hb1.frozen (p:=(E (w.heap.size+1) 1)) (by simp<;>omega)).trans (by simp[go_sem]);have ko1_2:w1.cell? (E (w.heap.size+1+1) 2)=some (X x.rank):=(hb1.cell (p:=(E (w.heap.size+1+1) 2)) (by simp<;>omega)).trans (by simp[go_sem]);have fo1_2:w1.frozen? (E (w.heap.size+1+1) 2)=false:=(hb1.frozen (p:=(E (w.heap.size+1+1) 2)) (by simp<;>omega)).trans (by simp[go_sem]);have kr1_2:w1.cell? (E (w.heap.size+1) 2)=some (X 0):=(hb1.cell (p:=(E (w.heap.size+1) 2)) (by simp<;>omega)).trans (by simp[go_sem]);have fr1_2:w1.frozen? (E (w.heap.size+1) 2)=false:=(hb1.frozen (p:=(E (w.heap.size+1) 2)) (by simp<;>omega)).trans (by simp[go_sem]);have ko1_3:w1.cell? (E (w.heap.size+1+1) 3)=some (X x.born):=(hb1.cell (p:=(E (w.heap.size+1+1) 3)) (by simp<;>omega)).trans (by simp[go_sem]);have fo1_3:w1.frozen? (E (w.heap.size+1+1) 3)=false:=(hb1.frozen (p:=(E (w.heap.size+1+1) 3)) (by simp<;>omega)).trans (by simp[go_sem]);have kr1_3:w1.cell? (E (w.heap.size+1) 3)=some (X 0):=(hb1.cell (p:=(E (w.heap.size+1) 3)) (by simp<;>omega)).trans (by simp[go_sem]);have fr1_3:w1.frozen? (E (w.heap.size+1) 3)=false:=(hb1.frozen (p:=(E (w.heap.size+1) 3)) (by simp<;>omega)).trans (by simp[go_sem]);have ko1_4:w1.cell? (E (w.heap.size+1+1) 4)=some (X x.room):=(hb1.cell (p:=(E (w.heap.size+1+1) 4)) (by simp<;>omega)).trans (by simp[go_sem]);have fo1_4:w1.frozen? (E (w.heap.size+1+1) 4)=false:=(hb1.frozen (p:=(E (w.heap.size+1+1) 4)) (by simp<;>omega)).trans (by simp[go_sem]);have kr1_4:w1.cell? (E (w.heap.size+1) 4)=some (X 0):=(hb1.cell (p:=(E (w.heap.size+1) 4)) (by simp<;>omega)).trans (by simp[go_sem]);have fr1_4:w1.frozen? (E (w.heap.size+1) 4)=false:=(hb1.frozen (p:=(E (w.heap.size+1) 4)) (by simp<;>omega)).trans (by simp[go_sem])
 have ko1_5:w1.cell? (E (w.heap.size+1+1) 5)=some (X x.hold):=(hb1.cell (p:=(E (w.heap.size+1+1) 5)) (by simp<;>omega)).trans (by simp[go_sem]);have fo1_5:w1.frozen? (E (w.heap.size+1+1) 5)=false:=(hb1.frozen (p:=(E (w.heap.size+1+1) 5)) (by simp<;>omega)).trans (by simp[go_sem]);have kr1_5:w1.cell? (E (w.heap.size+1) 5)=some (X 0):=(hb1.cell (p:=(E (w.heap.size+1) 5)) (by simp<;>omega)).trans (by simp[go_sem]);have fr1_5:w1.frozen? (E (w.heap.size+1) 5)=false:=(hb1.frozen (p:=(E (w.heap.size+1) 5)) (by simp<;>omega)).trans (by simp[go_sem]);have ko1_6:w1.cell? (E (w.heap.size+1+1) 6)=some (Y x.select):=(hb1.cell (p:=(E (w.heap.size+1+1) 6)) (by simp<;>omega)).trans (by simp[go_sem]);have fo1_6:w1.frozen? (E (w.heap.size+1+1) 6)=false:=(hb1.frozen (p:=(E (w.heap.size+1+1) 6)) (by simp<;>omega)).trans (by simp[go_sem]);have kr1_6:w1.cell? (E (w.heap.size+1) 6)=some (Y ⟨#[]⟩):=(hb1.cell (p:=(E (w.heap.size+1) 6)) (by simp<;>omega)).trans (by simp[go_sem]);have fr1_6:w1.frozen? (E (w.heap.size+1) 6)=false:=(hb1.frozen (p:=(E (w.heap.size+1) 6)) (by simp<;>omega)).trans (by simp[go_sem]);have ko1_7:w1.cell? (E (w.heap.size+1+1) 7)=some (.slice none 0 0):=(hb1.cell (p:=(E (w.heap.size+1+1) 7)) (by simp<;>omega)).trans (by simp[go_sem]);have fo1_7:w1.frozen? (E (w.heap.size+1+1) 7)=false:=(hb1.frozen (p:=(E (w.heap.size+1+1) 7)) (by simp<;>omega)).trans (by simp[go_sem]);have kr1_7:w1.cell? (E (w.heap.size+1) 7)=some (.slice none 0 0):=(hb1.cell (p:=(E (w.heap.size+1) 7)) (by simp<;>omega)).trans (by simp[go_sem]);have fr1_7:w1.frozen? (E (w.heap.size+1) 7)=false:=(hb1.frozen (p:=(E (w.heap.size+1) 7)) (by simp<;>omega)).trans (by simp[go_sem]);have ka1_8:w1.cell? (E w.heap.size 8)=some (X x.apart):=(hb1.cell (p:=(E w.heap.size 8)) (by simp<;>omega)).trans (by simp[go_sem]);have ko1_8:w1.cell? (E (w.heap.size+1+1) 8)=some (X 0):=(hb1.cell (p:=(E (w.heap.size+1+1) 8)) (by simp<;>omega)).trans (by simp[go_sem]);have fo1_8:w1.frozen? (E (w.heap.size+1+1) 8)=false:=(hb1.frozen (p:=(E (w.heap.size+1+1) 8)) (by simp<;>omega)).trans (by simp[go_sem]);have kr1_8:w1.cell? (E (w.heap.size+1) 8)=some (X 0):=(hb1.cell (p:=(E (w.heap.size+1) 8)) (by simp<;>omega)).trans (by simp[go_sem]);have fr1_8:w1.frozen? (E (w.heap.size+1) 8)=false:=(hb1.frozen (p:=(E (w.heap.size+1) 8)) (by simp<;>omega)).trans (by simp[go_sem]);have ka1_9:w1.cell? (E w.heap.size 9)=some (Y x.near):=(hb1.cell (p:=(E w.heap.size 9)) (by simp<;>omega)).trans (by simp[go_sem]);have ko1_9:w1.cell? (E (w.heap.size+1+1) 9)=some (Y ⟨#[]⟩):=(hb1.cell (p:=(E (w.heap.size+1+1) 9)) (by simp<;>omega)).trans (by simp[go_sem]);have fo1_9:w1.frozen? (E (w.heap.size+1+1) 9)=false:=(hb1.frozen (p:=(E (w.heap.size+1+1) 9)) (by simp<;>omega)).trans (by simp[go_sem])
 have kr1_9:w1.cell? (E (w.heap.size+1) 9)=some (Y ⟨#[]⟩):=(hb1.cell (p:=(E (w.heap.size+1) 9)) (by simp<;>omega)).trans (by simp[go_sem]);have fr1_9:w1.frozen? (E (w.heap.size+1) 9)=false:=(hb1.frozen (p:=(E (w.heap.size+1) 9)) (by simp<;>omega)).trans (by simp[go_sem]);have ka1_10:w1.cell? (E w.heap.size 10)=some (Y x.fixed):=(hb1.cell (p:=(E w.heap.size 10)) (by simp<;>omega)).trans (by simp[go_sem]);have ko1_10:w1.cell? (E (w.heap.size+1+1) 10)=some (Y ⟨#[]⟩):=(hb1.cell (p:=(E (w.heap.size+1+1) 10)) (by simp<;>omega)).trans (by simp[go_sem]);have fo1_10:w1.frozen? (E (w.heap.size+1+1) 10)=false:=(hb1.frozen (p:=(E (w.heap.size+1+1) 10)) (by simp<;>omega)).trans (by simp[go_sem]);have kr1_10:w1.cell? (E (w.heap.size+1) 10)=some (Y ⟨#[]⟩):=(hb1.cell (p:=(E (w.heap.size+1) 10)) (by simp<;>omega)).trans (by simp[go_sem]);have fr1_10:w1.frozen? (E (w.heap.size+1) 10)=false:=(hb1.frozen (p:=(E (w.heap.size+1) 10)) (by simp<;>omega)).trans (by simp[go_sem]);have ka1_11:w1.cell? (E w.heap.size 11)=some (Y x.at_):=(hb1.cell (p:=(E w.heap.size 11)) (by simp<;>omega)).trans (by simp[go_sem]);have ko1_11:w1.cell? (E (w.heap.size+1+1) 11)=some (Y ⟨#[]⟩):=(hb1.cell (p:=(E (w.heap.size+1+1) 11)) (by simp<;>omega)).trans (by simp[go_sem]);have fo1_11:w1.frozen? (E (w.heap.size+1+1) 11)=false:=(hb1.frozen (p:=(E (w.heap.size+1+1) 11)) (by simp<;>omega)).trans (by simp[go_sem]);have kr1_11:w1.cell? (E (w.heap.size+1) 11)=some (Y ⟨#[]⟩):=(hb1.cell (p:=(E (w.heap.size+1) 11)) (by simp<;>omega)).trans (by simp[go_sem]);have fr1_11:w1.frozen? (E (w.heap.size+1) 11)=false:=(hb1.frozen (p:=(E (w.heap.size+1) 11)) (by simp<;>omega)).trans (by simp[go_sem]);have hg7':w.heap.size+1+1<g7:=by simp at hg7;omega
 have hB1:bW w w1:=(show bW w _ by go_grown).trans (hb1.mono (by simp<;>omega));have HN7:Hid (sK (w.heap.size+3) w1 (O g7 0) x.likes):=hn7.keep LikC.holds (Keeps.refl _ _) (by simp<;>omega);clear hn7 hb1 hg7;have HPR:Hid (w1.rangeAt (w.heap.size+1+1) 0 [Y x.name,Y x.service,X x.rank,X x.born,X x.room,X x.hold,Y x.select]):=Aa ko1_0 (Aa ko1_1 (Aa ko1_2 (Aa ko1_3 (Aa ko1_4 (Aa ko1_5 (Aa ko1_6 (Am _ _ _)))))));have HTO:Hid (w1.there (w.heap.size+1+1) 7 5):=Ah ko1_7 fo1_7 (Ah ko1_8 fo1_8 (Ah ko1_9 fo1_9 (Ah ko1_10 fo1_10 (Ah ko1_11 fo1_11 (Fa _ _ _)))));have HTR:Hid (w1.there (w.heap.size+1) 0 12):=Ah kr1_0 fr1_0 (Ah kr1_1 fr1_1 (Ah kr1_2 fr1_2 (Ah kr1_3 fr1_3 (Ah kr1_4 fr1_4 (Ah kr1_5 fr1_5 (Ah kr1_6 fr1_6 (Ah kr1_7 fr1_7 (Ah kr1_8 fr1_8 (Ah kr1_9 fr1_9 (Ah kr1_10 fr1_10 (Ah kr1_11 fr1_11 (Fa _ _ _))))))))))));clear kr1_0 fr1_0 kr1_1 fr1_1 kr1_2 fr1_2 kr1_3 fr1_3 kr1_4 fr1_4 kr1_5 fr1_5 kr1_6 fr1_6 kr1_7 fr1_7 kr1_8 fr1_8 kr1_9 fr1_9 kr1_10 fr1_10 kr1_11 fr1_11 ko1_0 fo1_0 ko1_1 fo1_1 ko1_2 fo1_2 ko1_3 fo1_3 ko1_4 fo1_4 ko1_5 fo1_5 ko1_6 fo1_6;go_upto_region 14 with fail;have HRG:Hid (World.rangeAt (((((w1.setCell (E (w.heap.size+1+1) 7) (sP g7 0 x.likes.length x.likes.length)).setCell (E (w.heap.size+1+1) 8) (X x.apart)).setCell (E (w.heap.size+1+1) 9) (Y x.near)).setCell (E (w.heap.size+1+1) 10) (Y x.fixed)).setCell (E (w.heap.size+1+1) 11) (Y x.at_)) (w.heap.size+1+1) 0 (ccL x (O g7 0) x.likes.length)):=Oa (vs:=[sP g7 0 x.likes.length x.likes.length,X x.apart,Y x.near,Y x.fixed,Y x.at_]) HPR rfl HTO;have HTG:Hid (World.there (((((w1.setCell (E (w.heap.size+1+1) 7) (sP g7 0 x.likes.length x.likes.length)).setCell (E (w.heap.size+1+1) 8) (X x.apart)).setCell (E (w.heap.size+1+1) 9) (Y x.near)).setCell (E (w.heap.size+1+1) 10) (Y x.fixed)).setCell (E (w.heap.size+1+1) 11) (Y x.at_)) (w.heap.size+1) 0 12):=World.there_setCells HTR (w.heap.size+1+1) 7 [sP g7 0 x.likes.length x.likes.length,X x.apart,Y x.near,Y x.fixed,Y x.at_];have HBG:Hid (bW w (((((w1.setCell (E (w.heap.size+1+1) 7) (sP g7 0 x.likes.length x.likes.length)).setCell (E (w.heap.size+1+1) 8) (X x.apart)).setCell (E (w.heap.size+1+1) 9) (Y x.near)).setCell (E (w.heap.size+1+1) 10) (Y x.fixed)).setCell (E (w.heap.size+1+1) 11) (Y x.at_))):=Ae (b:=w.heap.size+1+1) (by omega) [sP g7 0 x.likes.length x.likes.length,X x.apart,Y x.near,Y x.fixed,Y x.at_] 7 _ hB1;have HG7:Hid (sK (w.heap.size+3) (((((w1.setCell (E (w.heap.size+1+1) 7) (sP g7 0 x.likes.length x.likes.length)).setCell (E (w.heap.size+1+1) 8) (X x.apart)).setCell (E (w.heap.size+1+1) 9) (Y x.near)).setCell (E (w.heap.size+1+1) 10) (Y x.fixed)).setCell (E (w.heap.size+1+1) 11) (Y x.at_)) (O g7 0) x.likes):=HN7.out.keep LikC.holds (Keeps.setCells (b:=w.heap.size+1+1) (by omega) [sP g7 0 x.likes.length x.likes.length,X x.apart,Y x.near,Y x.fixed,Y x.at_] 7 _) nL
 clear ko1_7 fo1_7 ko1_8 fo1_8 ko1_9 fo1_9 ko1_10 fo1_10 ko1_11 fo1_11 ka1_8 ka1_9 ka1_10 ka1_11 HPR HTO HTR hz1 hB1 HN7 hg7';generalize(((((w1.setCell (E (w.heap.size+1+1) 7) (sP g7 0 x.likes.length x.likes.length)).setCell (E (w.heap.size+1+1) 8) (X x.apart)).setCell (E (w.heap.size+1+1) 9) (Y x.near)).setCell (E (w.heap.size+1+1) 10) (Y x.fixed)).setCell (E (w.heap.size+1+1) 11) (Y x.at_))=w9 at *;obtain⟨w10,hw10⟩:∃w',w'=w9.setCells (w.heap.size+1) 0 (ccL x (O g7 0) x.likes.length):=⟨_,rfl⟩;have HR10:Hid (w10.rangeAt (w.heap.size+1) 0 (ccL x (O g7 0) x.likes.length)):=by rw[hw10];exact World.rangeAt_setCells_same _ _ _ _ HTG
 have HB10:Hid (bW w w10):=by rw[hw10];exact Ae (by omega) _ _ _ HBG
 have HS7:Hid (sK w.heap.size w10 (O g7 0) x.likes):=by rw[hw10];exact HG7.out.keep LikC.holds (Keeps.setCells (by omega) _ _ _) (by omega)
 have HW10:=iH hw10;clear hw10 HBG HG7;go_wp2_with(first|(refine qLr Hb HRG ?_)|(refine Ai rfl 54 _ _ rfl (w.heap.size+1) 0 (ccA x (O g7 0) x.likes.length) rfl rfl HTG Bz (by simp[Value.oneCell']) w10 HW10 ?_));exact bodyPost_ret (Ay rfl _ _ (w.heap.size+1) (ccL x (O g7 0) x.likes.length) _ rfl HR10 underlying54 rfl Bz) rfl ⟨g7,rfl,HS7,HB10⟩
theorem pE(x:Cpy)(a7:OA)(c7:Nat)(a7p:OA)(c7p:Nat)(lo lo':Nat)(w:World)(n7:sK lo w a7 x.likes)(p7:sK lo' w a7p x.likes)(hsm:Cr x<=1048576) :
  Calls prog 73 #[.agg (ccA x a7 c7),.agg (ccA x a7p c7p)] w (Rt (.bool true) w):=by
 have N7:=iH n7;have P7:=iH p7;have M7:wS Dm x.likes<=1048576:=by unfold Cr at hsm;omega
 clear hsm n7 p7;go_enter func73,ntmps73;go_wp2_with fail;refine(jJ x.likes a7 a7p c7 c7p lo lo' _ (N7.out.below LikC.holds (B:=w.heap.size) (by go_grown) nL) (P7.out.below LikC.holds (B:=w.heap.size) (by go_grown) nL) M7).mono ?_;rintro e w1⟨rfl,hb1⟩;have hB1:bW w w1:=(show bW w _ by go_grown).trans (hb1.mono (by simp;omega));have k1_8:w1.cell? (E w.heap.size 8)=some (X x.apart):=(hb1.cell (p:=(E w.heap.size 8)) (by simp;omega)).trans (by simp);have l1_8:w1.cell? (E (w.heap.size+1) 8)=some (X x.apart):=(hb1.cell (p:=(E (w.heap.size+1) 8)) (by simp)).trans (by simp);have k1_9:w1.cell? (E w.heap.size 9)=some (Y x.near):=(hb1.cell (p:=(E w.heap.size 9)) (by simp;omega)).trans (by simp);have l1_9:w1.cell? (E (w.heap.size+1) 9)=some (Y x.near):=(hb1.cell (p:=(E (w.heap.size+1) 9)) (by simp)).trans (by simp);have k1_10:w1.cell? (E w.heap.size 10)=some (Y x.fixed):=(hb1.cell (p:=(E w.heap.size 10)) (by simp;omega)).trans (by simp);have l1_10:w1.cell? (E (w.heap.size+1) 10)=some (Y x.fixed):=(hb1.cell (p:=(E (w.heap.size+1) 10)) (by simp)).trans (by simp);have k1_11:w1.cell? (E w.heap.size 11)=some (Y x.at_):=(hb1.cell (p:=(E w.heap.size 11)) (by simp;omega)).trans (by simp);have l1_11:w1.cell? (E (w.heap.size+1) 11)=some (Y x.at_):=(hb1.cell (p:=(E (w.heap.size+1) 11)) (by simp)).trans (by simp);have hs1:w.heap.size+1<w1.heap.size:=by have:=hb1.size;simp at this;omega
 clear hb1
 go_wp2
 go_ret;exact⟨rfl,hB1⟩
theorem kZ(xs:List Cpy)(a:OA)(cap lo:Nat)(L:Int)(w:World)(hin:sC lo w a xs)(h0:0<=L)(h1:L<=1048576) :
  Calls prog 16 #[.slice a xs.length cap,X L] w (Rt (X (szR (wS Cr xs) L)) w):=by
 have hlen:=hin.1;unfold maxLen at hlen;have HI:=iH hin;clear hin;have HW:Hid (wS Cr xs=xs.length+(xs.map Cr).sum):=rfl;generalize wS Cr xs=W at *;by_cases c1:L-xs.length<0
 .go_enter func16,ntmps16
  go_wp2
  go_ret;exact⟨Al (by have:=HW.out;unfold szR;rw[if_neg (by omega)]),Below.refl _ _⟩
 go_enter func16,ntmps16
 go_wp2
 go_loopw [1,5] (λl i wr=>∃(k:Nat)(M:Int),k<=xs.length/\i=X k/\l=X M/\0<=M/\M<=1048576/\Hid (M=L-xs.length-((xs.take k).map Cr).sum)/\bW w wr) (λ_ i _=>xs.length-(intOf i).toNat)
 case atStart=>exact⟨0,_,zL,rfl,rfl,by omega,by omega,by show _=_;simp,Below.refl _ _⟩
 obtain⟨k,M,hk,rfl,rfl,hM0,hM1,hM,hbel⟩:=hrel;by_cases hlt:k<xs.length
 .obtain⟨x,hx⟩:=gXe hlt
  obtain⟨b,o,rfl,_,_,hc⟩:=(HI.out.below CpyC.holds hbel nL).at hx;obtain⟨a7,c7,q0,q1,q2,q3,q4,q5,q6,q7,q8,q9,q10,q11,z0,z1,z6,z9,z10,z11,n7⟩:=hc;simp only[Nat.add_zero]at q0 q1 q2 q3 q4 q5 q6 q7 q8 q9 q10 q11;have HX:Hid (((xs.take (k+1)).map Cr).sum=((xs.take k).map Cr).sum+Cr x):=Eg _ _ _ _ hx;have HY:Hid (((xs.take (k+1)).map Cr).sum<=(xs.map Cr).sum):=Df _ _ _;have CT:=nU x a7 c7 lo M wr z0 z1 z6 z9 z10 z11 n7 hM0 hM1;have HCT:=iH CT;clear hx CT;by_cases hr:(Cr x:Int)<=M
  .rw[Ha hr]at HCT
   generalize hV:Cr x=V at *;clear hV;go_wp2_with fail;refine HCT.out.mono ?_;rintro e w1⟨rfl,hb1⟩;clear HCT
   go_wp2
   go_roundw
   case rel =>
    refine⟨k+1,M-V,by omega,by go_num,rfl,by omega,by omega,?_,qTr hbel hb1⟩;have:=hM.out;have:=HX.out;show _=_
    omega
   simp[intOf];omega
  rw[Gz hr]at HCT;generalize hV:Cr x=V at *;clear hV;go_wp2_with fail;refine HCT.out.mono ?_;rintro e w1⟨rfl,hb1⟩;clear HCT
  go_wp2
  go_ret;refine⟨Al ?_,qTr hbel hb1⟩;have:=HW.out;have:=HX.out;have:=HY.out;have:=hM.out;unfold szR;rw[if_neg (by omega)]
 go_wp2
 go_ret;refine⟨Al ?_,hbel⟩;have hke:k=xs.length:=by omega
 subst hke;have h3:=hM.out;have h4:=HW.out;simp only[List.take_length]at h3;unfold szR;rw[if_pos (by omega)];omega
theorem Qt:(prog.info? 54).map (λi=>(i.zero,i.size,i.bytes))=some (some (.agg CcA),12,160):=by kernel_rfl
theorem kV(xs:List Cpy)(a:OA)(cap lo:Nat)(w:World)(hin:sC lo w a xs)(hsm:wS Cr xs<=1048576) :
  Calls prog 23 #[.slice a xs.length cap] w λe w'=>∃g,e=.returned (sP g 0 xs.length xs.length)/\w.heap.size<=g/\sC w.heap.size w' (O g 0) xs/\bW w w':=by
 obtain⟨i0,hi,hz0,hz1,hz2⟩:=info_parts Qt;have hlen:xs.length<=1048576:=lT Ep hsm;have HI:=iH hin;have HSM:=iH hsm;clear hin hsm;go_enter func23,ntmps23;go_wp2_with(at_make;refine wpList_make_full _ rfl _ _ 30 rfl w.heap.size 54 i0 _ 12 underlying30 hi hz0 hz1 .i64 .i64 _ _ xs.length rfl rfl rfl rfl (by rw[hz2];omega) (by unfold maxLen;omega) nL ?_;intro w1 hown hgrow);have hb1:bW w w1:=(Below.refl _ _).grown hgrow nL (λk h=>by cases h);have hsz1:=(hown.lt w.heap.size rfl).2;generalize hX:(madeCells _ (xs.length*12)).toList=xs0 at hown;clear hX hgrow hi hz0 hz1 hz2;go_loopw [4] (λi wr=>∃(k:Nat)(cs:List Value),k<=xs.length/\i=X k/\w.heap.size<wr.heap.size/\wr.ownsRow w.heap.size 54 12 (sP w.heap.size 0 xs.length xs.length) xs.length cs/\RowC CpyC 12 (w.heap.size+1) wr cs xs k/\bW w wr) (λi _=>xs.length-(intOf i).toNat)
 case atStart=>exact⟨0,xs0,zL,rfl,hsz1,hown,λj n h=>by omega,hb1⟩
 clear hown hb1 hsz1;obtain⟨k,cs,hk,rfl,hszr,hown,hfil,hbel⟩:=hrel;by_cases hlt:k<xs.length
 .obtain⟨x,hx⟩:=gXe hlt
  obtain⟨b,o,rfl,_,_,hc⟩:=(HI.out.below CpyC.holds hbel nL).at hx;obtain⟨a7,c7,q0,q1,q2,q3,q4,q5,q6,q7,q8,q9,q10,q11,z0,z1,z6,z9,z10,z11,n7⟩:=hc;simp only[Nat.add_zero]at q0 q1 q2 q3 q4 q5 q6 q7 q8 q9 q10 q11;have HN:=iH hx;have hwx:Cr x<=1048576:=lT (Ml (List.mem_of_getElem? hx)) HSM;have HO:=iH hown;have HF:=iH hfil;have HS:=iH hszr;have CT:=nT x a7 c7 lo wr n7 hwx;have HCT:=iH CT;clear hx hown hfil CT hszr;go_wp2_with fail;refine HCT.out.mono ?_;rintro e w2⟨g7,rfl,m7,hb2⟩;clear HCT q0 q1 q2 q3 q4 q5 q6 q7 q8 q9 q10 q11 n7;have ho2:=Ak HO hb2;have HB2:=iH (qTr hbel hb2);have HF2:Hid (RowC CpyC 12 (w.heap.size+1) w2 cs xs k):=HF.out.keep CpyC.holds (Keeps.of_below hb2 nL _);have hs2:Hid (w.heap.size<w2.heap.size):=lL HS hb2.size;have HR:Hid (CpyC (w.heap.size+1) w2 (λi=>((ccL x (O g7 0) x.likes.length):List Value)[i]?) x):=⟨_,_,rfl,rfl,rfl,rfl,rfl,rfl,rfl,rfl,rfl,rfl,rfl,rfl,z0,z1,z6,z9,z10,z11,m7.keep LikC.holds (Keeps.refl _ _) (by have:=hbel.size;have:=HS.out;omega)⟩;have hxl:cs.length=xs.length*12:=ho2.1;have HT:Hid (w2.there w.heap.size (k*12) 12):=Dg ho2 (by omega);have HL:=iH hxl;have HO2:=iH ho2;clear hxl ho2 HO hb2 hwx m7;obtain⟨w3,hw3⟩:∃w',w'=w2.setCells w.heap.size (k*12) (ccL x (O g7 0) x.likes.length):=⟨_,rfl⟩;have HW3:=iH hw3;have HS3:Hid (w.heap.size<w3.heap.size):=by rw[hw3,Be];exact hs2
  have HO3:Hid (w3.ownsRow w.heap.size 54 12 (sP w.heap.size 0 xs.length xs.length) xs.length (Cv cs (k*12) (ccL x (O g7 0) x.likes.length))):=by rw[hw3];exact Dr _ _ _ _ HO2
  have HB3:Hid (bW w w3):=by rw[hw3];exact Ae nL _ _ _ HB2
  have HR3:Hid (RowC CpyC 12 (w.heap.size+1) w3 (Cv cs (k*12) (ccL x (O g7 0) x.likes.length)) xs (k+1)):=by
   rw[hw3];exact(HF2.out.step (vs:=(ccL x (O g7 0) x.likes.length)) CpyC.holds HN rfl (by have:=HL.out;omega) HR).keep CpyC.holds (Keeps.setCells (by omega) _ _ _)
  clear hw3 HB2 HF2 hs2 HR HL HO2;go_wp2_with(refine Ai rfl 54 _ _ rfl w.heap.size (k*12) (ccA x (O g7 0) x.likes.length) (by first|rfl|(simp[go_sem];done)) rfl HT Bz (by simp[Value.oneCell']) w3 HW3 ?_);go_roundw
  case rel=>exact⟨k+1,_,by omega,by go_num,HS3,HO3,HR3,HB3⟩
  simp[intOf];omega
 have HO:=iH hown;have HF:=iH hfil;clear hown hfil
 go_wp2
 go_ret;have hke:k=xs.length:=by omega
 subst hke;exact⟨_,rfl,Nat.le_refl _,Fg HO HF CpyC.holds HI.out.1 (by omega) nL,hbel⟩
theorem lC(xs:List Cpy)(a a':OA)(cap cap' lo lo':Nat)(w:World)(hg:sC lo w a xs)(hh:sC lo' w a' xs)(hsm:wS Cr xs<=1048576) :
  Calls prog 30 #[.slice a xs.length cap,.slice a' xs.length cap'] w (Rt (.bool true) w):=by
 have hlen:xs.length<=1048576:=lT Ep hsm;have HG:=iH hg;have HH:=iH hh;have HSM:=iH hsm;clear hg hh hsm;go_enter func30,ntmps30
 go_wp2
 go_loopw [5] (λi wr=>∃(k:Nat),k<=xs.length/\i=X k/\bW w wr) (λi _=>xs.length-(intOf i).toNat)
 case atStart=>exact⟨0,zL,rfl,Below.refl _ _⟩
 obtain⟨k,hk,rfl,hbel⟩:=hrel;by_cases hlt:k<xs.length
 .obtain⟨x,hx⟩:=gXe hlt
  obtain⟨b,o,rfl,_,_,hc⟩:=(HG.out.below CpyC.holds hbel nL).at hx;obtain⟨b',o',rfl,_,_,hc'⟩:=(HH.out.below CpyC.holds hbel nL).at hx;obtain⟨a7,c7,q0,q1,q2,q3,q4,q5,q6,q7,q8,q9,q10,q11,_,_,_,_,_,_,n7⟩:=hc;obtain⟨a7p,c7p,r0,r1,r2,r3,r4,r5,r6,r7,r8,r9,r10,r11,_,_,_,_,_,_,p7⟩:=hc';simp only[Nat.add_zero]at q0 q1 q2 q3 q4 q5 q6 q7 q8 q9 q10 q11 r0 r1 r2 r3 r4 r5 r6 r7 r8 r9 r10 r11;have hwx:Cr x<=1048576:=lT (Ml (List.mem_of_getElem? hx)) HSM;have k0:=cell_regrown q0;have l0:=cell_regrown r0;have k1:=cell_regrown q1;have l1:=cell_regrown r1;have k2:=cell_regrown q2;have l2:=cell_regrown r2;have k3:=cell_regrown q3;have l3:=cell_regrown r3;have k4:=cell_regrown q4;have l4:=cell_regrown r4;have k5:=cell_regrown q5;have l5:=cell_regrown r5;have k6:=cell_regrown q6;have l6:=cell_regrown r6;have k7:=cell_regrown q7;have l7:=cell_regrown r7;have k8:=cell_regrown q8;have l8:=cell_regrown r8;have k9:=cell_regrown q9;have l9:=cell_regrown r9;have k10:=cell_regrown q10;have l10:=cell_regrown r10;have k11:=cell_regrown q11;have l11:=cell_regrown r11;have cE:∀d os,Calls prog 73 #[.agg (ccA x a7 c7),.agg (ccA x a7p c7p)] (Sort.grow (redrawn wr d) os) λe w''=>e=.returned (.bool true)/\∃p:Regrown,w''=Sort.grow (redrawn wr p.d) p.os:=λd os=>Calls.regrown_of (pE x a7 c7 a7p c7p lo lo' _ (n7.below LikC.holds (below_regrown wr d os) nL) (p7.below LikC.holds (below_regrown wr d os) nL) hwx)
  have i0:(0:Int)<=(k:Int):=by omega
  have i1:(k:Int)<(xs.length:Int):=by omega
  clear hx q0 q1 q2 q3 q4 q5 q6 q7 q8 q9 q10 q11 r0 r1 r2 r3 r4 r5 r6 r7 r8 r9 r10 r11 n7 p7 hwx;go_wp2_with fail;refine wp_region_quiet_below (by kernel_rfl) (by kernel_rfl) ?_
  repeat(quiet_step (first|exact cE _ _))
  refine wpQuiet_nil ?_;intro _ hw';obtain⟨⟨dq,osq⟩,hw''⟩:=hw';have hB:=hbel.trans ((below_regrown wr dq osq).mono hbel.size);simp only[]at hw'';rw[<-hw'']at hB;clear hw'' cE k0 l0 k1 l1 k2 l2 k3 l3 k4 l4 k5 l5 k6 l6 k7 l7 k8 l8 k9 l9 k10 l10 k11 l11
  go_wp2
  go_roundw
  case rel=>exact⟨k+1,by omega,by go_num,hB⟩
  simp[intOf];omega
 go_wp2
 go_ret;exact⟨rfl,hbel⟩
end Go.Proofs.YthboopnmbglkjaaGreat
