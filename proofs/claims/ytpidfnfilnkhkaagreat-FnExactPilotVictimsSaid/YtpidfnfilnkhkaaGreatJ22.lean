import Derived.Test.YtpidfnfilnkhkaaGreatJ17
import Derived.Test.YtpidfnfilnkhkaaGreatJ21
set_option maxHeartbeats 4000000
set_option maxRecDepth 100000
namespace Go.Proofs.YtpidfnfilnkhkaaGreat
open Go.RowKit Tryz
def Pa(l:Lik):Bool:=decide (Aq l.select=0)&&inB l.weight (-9) 9
def Ek(x:Cpy):Bool:=decide (Aq x.select=0)&&(decide (x.likes.length<=5)&&(inB x.apart 0 2&&(Cg x.near&&Cg x.fixed)))
def Jt(x:Cpy):Bool:=!Ek x
def Rw(x:Cpy):Bool:=P.nameOk x.name&&(P.nameOk x.service&&(inB x.rank 0 100&&(inB x.born 0 1000000&&(inB x.room 0 1000&&(inB x.hold 0 1000&&(Ek x&&x.likes.all Pa))))))
theorem Wc{s:BA}(h:s=⟨#[]⟩):Cg s=true:=by subst h;rfl
theorem bD{s:BA}(h:¬s=⟨#[]⟩):Cg s=P.nameOk s:=by
 have:s.size≠0:=λe=>h (ByteArray.ext (Array.eq_empty_of_size_eq_zero e))
 simp[Cg,this]
theorem Rp{s:BA}(h:s=⟨#[]⟩):s.toList=[]:=by rw[ByteArray.toList_eq,h]
theorem Yg{s:BA}(h:¬s=⟨#[]⟩):¬s.toList=[]:=by
 rw[ByteArray.toList_eq];exact λe=>h (by cases s with|mk x=>cases x;simp at e;simp[e])
theorem Tj{s:BA}(h:s=⟨#[]⟩):s.toList.isEmpty=true:=by rw[Rp h];rfl
theorem dK{s:BA}(h:¬s=⟨#[]⟩):s.toList.isEmpty=false:=by simpa using Yg h
theorem eU(x:Cpy)(a7:OA)(c7 lo:Nat)(w:World)(z0:x.name.size<=maxLen)(z1:x.service.size<=maxLen)(z6:x.select.size<=maxLen)(hin:SliceC LikC 2 lo w a7 x.likes)(z9:x.near.size<=maxLen)(z10:x.fixed.size<=maxLen) :
  Calls prog 39 #[.agg (ccA x a7 c7)] w (Rt (.bool (Rw x)) w):=by
 have HI:=iH hin;have Z0:=iH z0;have Z1:=iH z1;have Z6:=iH z6;have Z9:=iH z9;have Z10:=iH z10;have hlen:=hin.1;unfold maxLen at hlen;have HD:Hid (Rw x=(P.nameOk x.name&&(P.nameOk x.service&&(inB x.rank 0 100&&(inB x.born 0 1000000&&(inB x.room 0 1000&&(inB x.hold 0 1000&&(Ek x&&x.likes.all Pa)))))))):=rfl;clear hin z0 z1 z6 z9 z10;generalize Rw x=V at *;go_enter func39,ntmps39;go_wp2_with fail;have HR:=qRa w (ccA x a7 c7) 49 (ccL x a7 c7);have HB:=iH ((Below.refl _ w).alloc nL (Obj.cells (ccA x a7 c7) 49));have HS:Hid (w.heap.size<(w.alloc (Obj.cells (ccA x a7 c7) 49)).heap.size):=by show _<_;simp
 generalize w.alloc (Obj.cells (ccA x a7 c7) 49)=w0 at *;refine(Be _ _ Z0).mono ?_;rintro e w1⟨rfl,rfl⟩
 cases h0:P.nameOk x.name with
 |false =>
  have HC:Hid (V=false):=by show _=_;rw[HD.out,h0];rfl
  clear h0 HD
  go_wp2
  go_ret;exact⟨Ab HC.out.symm,HB⟩
 |true =>
 rw[h0,Bool.true_and]at HD;clear h0;have e0:w1.cell? ⟨w.heap.size,1,none⟩=some (.string x.service):=HR.out 1 _ rfl;go_wp2_with fail;clear e0;refine(Be _ _ Z1).mono ?_;rintro e w1⟨rfl,rfl⟩
 cases h0:P.nameOk x.service with
 |false =>
  have HC:Hid (V=false):=by show _=_;rw[HD.out,h0];rfl
  clear h0 HD
  go_wp2
  go_ret;exact⟨Ab HC.out.symm,HB⟩
 |true =>
 rw[h0,Bool.true_and]at HD;clear h0;have e0:w1.cell? ⟨w.heap.size,2,none⟩=some (.int .i64 x.rank):=HR.out 2 _ rfl;go_wp2_with fail;clear e0;refine(Ff _ _ _ _).mono ?_;rintro e w1⟨rfl,rfl⟩
 cases h0:inB x.rank 0 100 with
 |false =>
  have HC:Hid (V=false):=by show _=_;rw[HD.out,h0];rfl
  clear h0 HD
  go_wp2
  go_ret;exact⟨Ab HC.out.symm,HB⟩
 |true =>
 rw[h0,Bool.true_and]at HD;clear h0;have e0:w1.cell? ⟨w.heap.size,3,none⟩=some (.int .i64 x.born):=HR.out 3 _ rfl;go_wp2_with fail;clear e0;refine(Ff _ _ _ _).mono ?_;rintro e w1⟨rfl,rfl⟩
 cases h0:inB x.born 0 1000000 with
 |false =>
  have HC:Hid (V=false):=by show _=_;rw[HD.out,h0];rfl
  clear h0 HD
  go_wp2
  go_ret;exact⟨Ab HC.out.symm,HB⟩
 |true =>
 rw[h0,Bool.true_and]at HD;clear h0;have e0:w1.cell? ⟨w.heap.size,4,none⟩=some (.int .i64 x.room):=HR.out 4 _ rfl;go_wp2_with fail;clear e0;refine(Ff _ _ _ _).mono ?_;rintro e w1⟨rfl,rfl⟩
 cases h0:inB x.room 0 1000 with
 |false =>
  have HC:Hid (V=false):=by show _=_;rw[HD.out,h0];rfl
  clear h0 HD
  go_wp2
  go_ret;exact⟨Ab HC.out.symm,HB⟩
 |true =>
 rw[h0,Bool.true_and]at HD;clear h0;have e0:w1.cell? ⟨w.heap.size,5,none⟩=some (.int .i64 x.hold):=HR.out 5 _ rfl;go_wp2_with fail;clear e0;refine(Ff _ _ _ _).mono ?_;rintro e w1⟨rfl,rfl⟩
 cases h0:inB x.hold 0 1000 with
 |false =>
  have HC:Hid (V=false):=by show _=_;rw[HD.out,h0];rfl
  clear h0 HD
  go_wp2
  go_ret;exact⟨Ab HC.out.symm,HB⟩
 |true =>
 rw[h0,Bool.true_and]at HD;clear h0;have HD3:Hid (Ek x=(decide (Aq x.select=0)&&(decide (x.likes.length<=5)&&(inB x.apart 0 2&&(Cg x.near&&Cg x.fixed))))):=rfl;go_upto_region 3 with fail
 go_cut [75] (λc wx=>c=.bool (Jt x)/\Hid (Below w1.heap.size w1 wx))
 case first =>
  have e6:w1.cell? ⟨w.heap.size,6,none⟩=some (.string x.select):=HR.out 6 _ rfl;go_wp2_with fail;clear e6;refine(Pv _ _ Z6).mono ?_;rintro e w2⟨rfl,hb⟩;have HR2:=iH (Ae HR hb HS);have HB2:=iH hb;clear hb
  cases h0:decide (Aq x.select=0)with
  |false =>
   have HC:Hid (Ek x=false):=by show _=_;rw[HD3.out,h0];rfl
   clear h0 HD3 HD
   go_wp2
   go_meet;exact⟨by rw[Jt,HC.out];rfl,HB2⟩
  |true =>
  rw[h0,Bool.true_and]at HD3;clear h0;have e7:w2.cell? ⟨w.heap.size,7,none⟩=some (.slice a7 x.likes.length c7):=HR2.out 7 _ rfl;by_cases hl5:x.likes.length<=5
  rotate_left
  .have HC:Hid (Ek x=false):=by show _=_;rw[HD3.out,decide_eq_false hl5];rfl
   clear HD3 HD
   go_wp2
   go_meet;exact⟨by rw[Jt,HC.out];rfl,HB2⟩
  rw[decide_eq_true hl5,Bool.true_and]at HD3;have e8:w2.cell? ⟨w.heap.size,8,none⟩=some (.int .i64 x.apart):=HR2.out 8 _ rfl;go_wp2_with fail;refine(Ff _ _ _ _).mono ?_;rintro e w3⟨rfl,rfl⟩;clear e7 e8
  cases h0:inB x.apart 0 2 with
  |false =>
   have HC:Hid (Ek x=false):=by show _=_;rw[HD3.out,h0];rfl
   clear h0 HD3 HD
   go_wp2
   go_meet;exact⟨by rw[Jt,HC.out];rfl,HB2⟩
  |true =>
  rw[h0,Bool.true_and]at HD3;clear h0;have e9:w3.cell? ⟨w.heap.size,9,none⟩=some (.string x.near):=HR2.out 9 _ rfl;have e10:w3.cell? ⟨w.heap.size,10,none⟩=some (.string x.fixed):=HR2.out 10 _ rfl;by_cases hn:x.near=⟨#[]⟩
  .have htn:=Rp hn
   have htn2:=Tj hn;rw[Wc hn,Bool.true_and]at HD3;clear hn;by_cases hf:x.fixed=⟨#[]⟩
   .have HC:Hid (Ek x=true):=by show _=_;rw[HD3.out,Wc hf]
    have hte:=Rp hf;have hte2:=Tj hf;clear hf HD3 HD
    go_wp2
    go_meet;exact⟨by rw[Jt,HC.out,decide_eq_false (by omega)];rfl,HB2⟩
   .have hte:=Yg hf
    have hte2:=dK hf;rw[bD hf]at HD3;clear hf;go_wp2_with fail;refine(Be _ _ Z10).mono ?_;rintro e w4⟨rfl,rfl⟩
    cases h0:P.nameOk x.fixed with
    |false =>
     have HC:Hid (Ek x=false):=by show _=_;rw[HD3.out,h0]
     clear h0 HD3 HD
     go_wp2
     go_meet;exact⟨by rw[Jt,HC.out];rfl,HB2⟩
    |true =>
     have HC:Hid (Ek x=true):=by show _=_;rw[HD3.out,h0]
     clear h0 HD3 HD
     go_wp2
     go_meet;exact⟨by rw[Jt,HC.out,decide_eq_false (by omega)];rfl,HB2⟩
  .have htn:=Yg hn
   have htn2:=dK hn;rw[bD hn]at HD3;clear hn;go_wp2_with fail;refine(Be _ _ Z9).mono ?_;rintro e w4⟨rfl,rfl⟩
   cases h0:P.nameOk x.near with
   |false =>
    have HC:Hid (Ek x=false):=by show _=_;rw[HD3.out,h0];rfl
    clear h0 HD3 HD
    go_wp2
    go_meet;exact⟨by rw[Jt,HC.out];rfl,HB2⟩
   |true =>
   rw[h0,Bool.true_and]at HD3;clear h0;by_cases hf:x.fixed=⟨#[]⟩
   .have HC:Hid (Ek x=true):=by show _=_;rw[HD3.out,Wc hf]
    have hte:=Rp hf;have hte2:=Tj hf;clear hf HD3 HD
    go_wp2
    go_meet;exact⟨by rw[Jt,HC.out,decide_eq_false (by omega)];rfl,HB2⟩
   .have hte:=Yg hf
    have hte2:=dK hf;rw[bD hf]at HD3;clear hf;go_wp2_with fail;refine(Be _ _ Z10).mono ?_;rintro e w4⟨rfl,rfl⟩
    cases h0:P.nameOk x.fixed with
    |false =>
     have HC:Hid (Ek x=false):=by show _=_;rw[HD3.out,h0]
     clear h0 HD3 HD
     go_wp2
     go_meet;exact⟨by rw[Jt,HC.out];rfl,HB2⟩
    |true =>
     have HC:Hid (Ek x=true):=by show _=_;rw[HD3.out,h0]
     clear h0 HD3 HD
     go_wp2
     go_meet;exact⟨by rw[Jt,HC.out,decide_eq_false (by omega)];rfl,HB2⟩
 case rest =>
  obtain⟨rfl,hbc⟩:=hcut;have HRC:=iH (Ae HR hbc.out HS);have HBC:=iH (HB.out.trans (hbc.out.mono HB.out.size));have HSC:Hid (w.heap.size<wc.heap.size):=lL HS hbc.out.size;clear hbc HR HB HS;have HBD:Hid (Jt x=!Ek x):=rfl
  cases h3:Jt x with
  | true =>
   have HC:Hid (V=false):=by
    have h4:=HBD.out.symm.trans h3;show _=_
    rw[HD.out,show Ek x=false from by simpa using h4];rfl
   clear h3 HD HD3
   go_wp2
   go_ret;exact⟨Ab HC.out.symm,HBC⟩
  |false =>
  have HD2:Hid (V=x.likes.all Pa):=by
   have h4:=HBD.out.symm.trans h3;show _=_
   rw[HD.out,show Ek x=true from by simpa using h4];rfl
  clear h3 HD HD3
  go_wp2
  go_loopw [3] (λi wr=>∃k:Nat,k<=x.likes.length/\i=.int .i64 k/\Hid (∀j y,j<k->x.likes[j]?=some y->Pa y=true)/\wr.cell? ⟨w.heap.size,7,none⟩=some (.slice a7 x.likes.length c7)/\Hid (w.heap.size<wr.heap.size)/\Hid (Below w.heap.size w wr)) (λi _=>x.likes.length-(intOf i).toNat)
  case atStart=>exact⟨0,zL,rfl,λj y h=>absurd h (Nat.not_lt_zero _),HRC 7 _ rfl,HSC,HBC⟩
  case round =>
   clear HRC HSC HBC;obtain⟨k,hk,rfl,ho,hcell,hsz,hbel⟩:=hrel;by_cases hlt:k<x.likes.length
   .obtain⟨y,hy⟩:=gXe hlt
    obtain⟨b,o,rfl,_,hbl,hc⟩:=(HI.out.below LikC.holds hbel.out nL).at hy;obtain⟨q0,q1,z0⟩:=hc;simp only[Nat.add_zero]at q0 q1;have HX:=iH hy;have HZ:=iH z0;have bad:Hid (Pa y=false->V=false):=λh=>by rw[HD2.out];exact List.all_eq_false.mpr ⟨y,List.mem_of_getElem? HX,by simp[h]⟩
    have HSL:Hid (Pa y=(decide (Aq y.select=0)&&inB y.weight (-9) 9)):=rfl;clear hy z0;go_wp2_with fail;refine(Pv _ _ HZ).mono ?_;rintro e w5⟨rfl,hb5⟩;have HB5:=qTH hbel hb5;have HS5:Hid (w.heap.size<w5.heap.size):=lL hsz.out hb5.size;have c5:w5.cell? ⟨w.heap.size,7,none⟩=some (.slice (some ⟨b,o,none⟩) x.likes.length c7):=(hb5.cell (p:=⟨w.heap.size,7,none⟩) hsz.out).trans hcell;have r1:w5.cell? ⟨b,o+k*2+1,none⟩=some (.int .i64 y.weight):=(hb5.cell (p:=⟨b,o+k*2+1,none⟩) hbl).trans q1;clear hb5 q0 q1 hcell hbel hsz
    cases h0:decide (Aq y.select=0)with
    |false =>
     have HC:Hid (V=false):=bad.out (by rw[HSL.out,h0];rfl);clear h0 bad HSL ho HD2
     go_wp2
     go_ret;exact⟨Ab HC.out.symm,HB5⟩
    |true =>
    rw[h0,Bool.true_and]at HSL;clear h0;go_wp2_with fail;refine(Ff _ _ _ _).mono ?_;rintro e w6⟨rfl,rfl⟩;clear r1
    cases h0:inB y.weight (-9) 9 with
    |false =>
     have HC:Hid (V=false):=bad.out (by rw[HSL.out,h0]);clear h0 bad HSL ho HD2
     go_wp2
     go_ret;exact⟨Ab HC.out.symm,HB5⟩
    | true =>
     have HO:Hid (∀j z,j<k+1->x.likes[j]?=some z->Pa z=true):=by
      intro j z hj hz;by_cases e:j=k
      .subst e
       rw[HX.out]at hz;cases hz
       rw[HSL.out,h0]
      .exact ho.out j z (by omega) hz
     clear h0 bad HSL ho
     go_wp2
     go_roundw
     case rel=>exact⟨k+1,by omega,by go_num,HO,c5,HS5,HB5⟩
     case measure=>simp[intOf];omega
   .have hke:k=x.likes.length:=by omega
    have HC:Hid (V=true):=by
     show _=_
     rw[HD2.out];simp only[List.all_eq_true];intro y hy;obtain⟨j,hj,e⟩:=List.mem_iff_getElem.mp hy;exact ho.out j y (by omega) (by rw[gE hj,e])
    clear ho HD2
    go_wp2
    go_ret;exact⟨Ab HC.out.symm,hbel.out⟩
open Go.WideMaps Go.Maps Tryz
theorem Dh(ns:List BA)(s:BA):∀k,Al ns s k=none↔∀j,j<k->ns[j]?≠some s
 |0=>by simp[Al]
 | k+1=>by
  unfold Al;by_cases h:ns[k]?=some s
  .rw[if_pos h]
   constructor
   .intro e;cases e
   .intro e;exact absurd h (e k (by omega))
  .rw[if_neg h,Dh ns s k]
   constructor
   .intro e j hj
    by_cases hjk:j=k
    .subst hjk;exact h
    .exact e j (by omega)
   .intro e j hj
    exact e j (by omega)
theorem Zr(bs:List Brt)(s:BA):Gk bs s<0↔Al (bs.map (·.name)) s bs.length=none:=by
 rw[Dh];unfold Gk
 cases h:bs.findIdx? (λb=>decide (b.name=s))with
 | none =>
  rw[List.findIdx?_eq_none_iff]at h;constructor
  .intro _ j hj e
   rw[List.getElem?_map,gE hj]at e;simp at e;have:=h bs[j] (List.getElem_mem hj);simp at this;exact this e
  .intro _;decide
 | some k =>
  rw[List.findIdx?_eq_some_iff_getElem]at h;obtain⟨hk,h1,_⟩:=h;constructor
  .intro e
   simp at e;omega
  .intro e
   refine absurd ?_ (e k hk);rw[List.getElem?_map,gE hk];simpa using h1
theorem Bj{s:BA}(h:s=⟨#[]⟩):s.toList=[]:=by
 rw[ByteArray.toList_eq,h]
theorem Ay{s:BA}(h:¬s=⟨#[]⟩):¬s.toList=[]:=by
 intro e;rw[ByteArray.toList_eq]at e;apply h
 cases s with|mk x=>cases x;simp at e;simp[e]
def Fo(cs:List Cpy)(s:BA)(k:Nat):Int×Int:=if s=⟨#[]⟩then(0,0)else (Ap cs s (-1) k).2
theorem sP{cs:List Cpy}{s:BA}{k:Nat}{c:Cpy}(hs:¬s=⟨#[]⟩)(hk:cs[k]?=some c)(h1:c.at_=s):Fo cs s (k+1)=(wrap64 ((Fo cs s k).1+c.room),wrap64 ((Fo cs s k).2+c.hold)):=by
 unfold Fo;rw[if_neg hs,if_neg hs,fV hk h1 (by omega)]
theorem Yx{cs:List Cpy}{s:BA}{k:Nat}{c:Cpy}(hk:cs[k]?=some c)(h:s=⟨#[]⟩\/¬c.at_=s):Fo cs s (k+1)=Fo cs s k:=by
 unfold Fo;by_cases hs:s=⟨#[]⟩
 .rw[if_pos hs,if_pos hs]
 .rw[if_neg hs,if_neg hs,Xq hk (λe=>by rcases h with h|h;exact hs h;exact h e.1)]
def Mo(x:Flt)(s:BA):Int×Int:=if Gk x.berths s<0 then(0,0)else Fo x.copies s x.copies.length
theorem aX(x:Flt)(a1:OA)(c1:Nat)(a2:OA)(c2:Nat)(a3:OA)(c3:Nat)(lo:Nat)(s:BA)(w:World)(n1:SliceC BrtC 6 lo w a1 x.berths)(n3:SliceC CpyC 12 lo w a3 x.copies)(l1:x.berths.length<=1048576)(l3:x.copies.length<=1048576) :
  Calls prog 41 #[.agg (ffA x a1 c1 a2 c2 a3 c3),.string s] w (Rt (.tuple #[.int .i64 (Mo x s).1,.int .i64 (Mo x s).2]) w):=by
 have HI:=iH n3;have HJ:=iH n1;clear n1 n3;have HU:Hid (Mo x s=if Gk x.berths s<0 then(0,0)else Fo x.copies s x.copies.length):=rfl;generalize Mo x s=U at *;go_enter func41,ntmps41;go_wp2_with fail;refine(Jd x a1 c1 a2 c2 a3 c3 lo s _ (HJ.out.below BrtC.holds (B:=w.heap.size) (by go_grown) nL) l1).mono ?_;rintro e w1⟨rfl,hb1⟩;have hB1:Below w.heap.size w w1:=(show Below w.heap.size w _ by go_grown).trans (hb1.mono (by simp));have k1:w1.cell? ⟨w.heap.size,3,none⟩=some (.slice a3 x.copies.length c3):=(hb1.cell (p:=⟨w.heap.size,3,none⟩) (by simp)).trans (by simp);clear hb1
 try unfold ffA
 generalize x.copies=cs at *;generalize Gk x.berths s=I at *;by_cases hI:I<0
 .have HU2:Hid (U=(0,0)):=by rw[HU.out,if_pos hI];rfl
  go_wp2
  go_ret2
  exact⟨by rw[HU2.out];rfl,hB1⟩
 .have HU2:Hid (U=Fo cs s cs.length):=by rw[HU.out,if_neg hI];rfl
  have HSE:Hid (s=⟨#[]⟩\/¬s=⟨#[]⟩):=Classical.em _
  go_wp2
  go_loopw [6,7,8] (λr h i wr=>∃k:Nat,k<=cs.length/\i=.int .i64 k/\r=.int .i64 (Fo cs s k).1/\h=.int .i64 (Fo cs s k).2/\wr.cell? ⟨w.heap.size,3,none⟩=some (.slice a3 cs.length c3)/\Below w.heap.size w wr) (λ_ _ i _=>cs.length-(intOf i).toNat)
  case atStart=>exact⟨0,zL,rfl,by simp[Fo,Ap],by simp[Fo,Ap],k1,hB1⟩
  case round =>
   obtain⟨k,hk,rfl,rfl,rfl,hcell,hbel⟩:=hrel;by_cases hlt:k<cs.length
   .obtain⟨x,hx⟩:=gXe hlt
    obtain⟨b,o,rfl,_,_,hc⟩:=(HI.out.below CpyC.holds hbel nL).at hx;obtain⟨a7,c7,q0,q1,q2,q3,q4,q5,q6,q7,q8,q9,q10,q11,_,_,_,_,_,_,_⟩:=hc;have HX:=iH hx;clear hx q0 q1 q2 q3 q6 q7 q8 q9 q10;rcases HSE.out with hs|hs
    .have HV:Hid (Fo cs s (k+1)=Fo cs s k):=Yx HX (.inl hs)
     have hte:=Bj hs;have hte2:s.toList.isEmpty=true:=by rw[hte];rfl
     clear hs
     go_wp2
     go_roundw
     case rel=>exact⟨k+1,by omega,by go_num,by rw[HV.out],by rw[HV.out],hcell,hbel⟩
     case measure=>simp[intOf];omega
    .have hte:=Ay hs
     have hte2:s.toList.isEmpty=false:=by
      cases h:s.toList with
      |nil=>exact absurd h hte
      |cons a l=>rfl
     by_cases h1:x.at_=s
     .have HV:Hid (Fo cs s (k+1)=_):=sP hs HX h1
      have htf:=Br h1;clear h1 hs;generalize hS:Fo cs s k=S at *;have HS:=iH hS;clear hS
      go_wp2
      go_roundw
      case rel=>exact⟨k+1,by omega,by go_num,by rw[HV.out],by rw[HV.out],hcell,hbel⟩
      case measure=>simp[intOf];omega
     .have HV:Hid (Fo cs s (k+1)=Fo cs s k):=Yx HX (.inr h1)
      have htf:=Bu h1;clear h1 hs
      go_wp2
      go_roundw
      case rel=>exact⟨k+1,by omega,by go_num,by rw[HV.out],by rw[HV.out],hcell,hbel⟩
      case measure=>simp[intOf];omega
   .have hke:k=cs.length:=by omega
    subst hke
    go_wp2
    go_ret2
    exact⟨by rw[HU2.out];rfl,hbel⟩
def Iv(ns:List BA):Nat->Bool
 |0=>true
 |j+1=>match ns[j+1]?,ns[j]? with
  |some s,some t=>Op.bytesLess t.toList s.toList
  |_,_=>true
def Dx(f:Nat->Bool):Nat->Bool
 |0=>true
 |k+1=>Dx f k&&f k
theorem Je{f:Nat->Bool}{k:Nat}(h:f k=false):∀n,k<n->Dx f n=false
 |0,hn=>absurd hn (Nat.not_lt_zero _)
 |n+1,hn=>by
  by_cases e:k=n
  .subst e;simp only[Dx,h,Bool.and_false]
  .simp only[Dx,Je h n (by omega),Bool.false_and]
theorem Oh{f:Nat->Bool}{k:Nat}(h:Dx f k=true)(h':f k=true):Dx f (k+1)=true:=by
 simp only[Dx,h,h',Bool.and_self]
def Gt(x:Flt)(k:Nat):Bool:=match x.services[k]? with
 |some y=>P.nameOk y.name&&(Iv (x.services.map (·.name)) k&&inB y.spare 0 60)
 |none=>true
def Gg(x:Flt)(k:Nat):Bool:=match x.copies[k]? with
 |some y=>Rw y&&(Iv (x.copies.map (·.name)) k&&(!decide (Qy x.services y.service<0)&&(decide (y.at_=⟨#[]⟩)||!decide (Gk x.berths y.at_<0))))
 |none=>true
def Fr(x:Flt)(k:Nat):Bool:=match x.berths[k]? with
 |some y=>Mp y&&(Iv (x.berths.map (·.name)) k&&(!decide (y.room<(Mo x y.name).1)&&(!decide (y.hold<(Mo x y.name).2)&&!decide (10<Fk x.copies y.name x.copies.length))))
 |none=>true
def bF(x:Flt)(k:Nat):Bool:=!Gt x k
def Zz(x:Flt)(k:Nat):Bool:=!Gg x k
def Zx(x:Flt)(k:Nat):Bool:=!Fr x k
def Qz(x:Flt):Bool:=Dm x&&(Dx (Gt x) x.services.length&&(Dx (Gg x) x.copies.length&&Dx (Fr x) x.berths.length))
theorem Rm{α:Type}{f:α->BA}{xs:List α}{j k:Nat}{y z:α}(hk:k=j+1)(hy:xs[k]?=some y)(hz:xs[j]?=some z):Iv (xs.map f) k=Op.bytesLess (f z).toList (f y).toList:=by
 subst hk;simp only[Iv,List.getElem?_map,hy,hz,Option.map_some]
theorem Lo{s:BA}(h:P.nameOk s=true):Cc s=-1:=by
 refine gJ (λj hj e=>?_);unfold P.nameOk at h;rw[Bool.and_eq_true,List.all_eq_true]at h;have:=h.2 61 (List.mem_of_getElem? e);revert this
 decide
def Lx(ms:List BA)(nm:BA):Nat->Nat
 |0=>0
 |j+1=>Lx ms nm j+(match ms[j]? with
  |some t=>if Ar t=nm then 1 else 0
  |none=>0)
theorem Qi{m:BA}(h:Ec m=true):P.nameOk (Ar m)=true:=by
 unfold Ec at h;rw[Bool.and_eq_true]at h;exact h.1
theorem jG{m nm:BA}(h:Ec m=true)(hn:P.nameOk nm=true)(r:List BA):Ck nm (Pf m++r)=Ck nm r+(if Ar m=nm then 1 else 0):=by
 unfold Pf;rw[if_pos h];by_cases hv:Cc m<0
 .rw[if_pos hv]
  by_cases e:Ar m=nm
  .rw[if_pos e];subst e;exact Lh _ _
  .rw[if_neg e];exact Hg e _
 .rw[if_neg hv]
  have hne:¬m=nm:=by
   intro e;subst e;rw[Lo hn]at hv;exact hv (by decide)
  show Ck nm (m::Ar m::r)=_
  rw[Hg hne];by_cases e:Ar m=nm
  .rw[if_pos e];subst e;exact Lh _ _
  .rw[if_neg e];exact Hg e _
theorem bH{ms:List BA}{nm:BA}(hn:P.nameOk nm=true)(hall:∀(j:Nat) (t:BA),ms[j]?=some t->Ec t=true):∀n,Ck nm (Cy ms n)=Lx ms nm n
 |0=>rfl
 | n+1=>by
  cases h:ms[n]? with
  |none=>simp only[Cy,Lx,h,Nat.add_zero];exact bH hn hall n
  |some t =>
   simp only[Cy,Lx,h];rw[jG (hall n t h) hn,bH hn hall n]
theorem bJ(ms:List BA)(nm:BA):∀n k,k<=n->Lx ms nm k<=Lx ms nm n
 |0,k,h=>by rw[Nat.le_zero.1 h];exact Nat.le_refl _
 | n+1,k,h=>by
  by_cases e:k=n+1
  .subst e;exact Nat.le_refl _
  .refine lT (bJ ms nm n k (by omega)) ?_
   simp only[Lx];omega
theorem yT{ms:List BA}{nm s t:BA}{j k n:Nat}(hjk:j<k)(hkn:k<n)(hj:ms[j]?=some s)(hk:ms[k]?=some t)(es:Ar s=nm)(et:Ar t=nm):2<=Lx ms nm n:=by
 have h1:1<=Lx ms nm (j+1):=by simp only[Lx,hj,es,if_true];omega
 have h2:=bJ ms nm k (j+1) (by omega);have h3:Lx ms nm (k+1)=Lx ms nm k+1:=by simp only[Lx,hk,et,if_true]
 have h4:=bJ ms nm n (k+1) (by omega);omega
theorem tR{ms:List BA}{nm:BA}{k:Nat}(h:∀j t,j≠k->ms[j]?=some t->Ar t≠nm):∀n,Lx ms nm n<=if k<n then 1 else 0
 |0=>by simp[Lx]
 | n+1=>by
  have ih:=tR h n;simp only[Lx]
  cases hm:ms[n]? with
  |none =>
   show Lx ms nm n+0<=_
   split at ih<;>split<;>omega
  | some t =>
   show Lx ms nm n+(if Ar t=nm then 1 else 0)<=_
   by_cases e:n=k
   .subst e
    rw[if_neg (Nat.lt_irrefl _)]at ih;rw[if_pos (Nat.lt_succ_self _)]
    split<;>omega
   .rw[if_neg (h n t e hm)]
    split at ih<;>split<;>omega
theorem Kn{ms:List BA}{nm:BA}:∀k,Cw ms nm k=true↔∀j t,j<k->ms[j]?=some t->Ar t≠nm
 |0=>by simp[Cw]
 | k+1=>by
  have ih:=Kn (ms:=ms) (nm:=nm) k;simp only[Cw,Bool.and_eq_true,ih];constructor
  .rintro⟨h1,h2⟩j t hj ht
   by_cases e:j=k
   .subst e
    rw[ht]at h2;simpa using h2
   .exact h1 j t (by omega) ht
  .intro h
   refine⟨λj t hj ht=>h j t (by omega) ht,?_⟩
   cases hm:ms[k]? with
   |none=>rfl
   |some t=>simpa using h k t (by omega) hm
theorem eS{ms:List BA}:∀n,Ok ms n=true↔∀k,k<n->Ol ms k=true
 |0=>by simp[Ok]
 | n+1=>by
  simp only[Ok,Bool.and_eq_true,eS n];constructor
  .rintro⟨h1,h2⟩k hk
   by_cases e:k=n
   .subst e;exact h2
   .exact h1 k (by omega)
  .intro h
   exact⟨λk hk=>h k (by omega),h n (by omega)⟩
theorem gI{ms:List BA}:∀n,Ox ms n=true↔∀k,k<n->Lu ms k=true
 |0=>by simp[Ox]
 | n+1=>by
  simp only[Ox,Bool.and_eq_true,gI n];constructor
  .rintro⟨h1,h2⟩k hk
   by_cases e:k=n
   .subst e;exact h2
   .exact h1 k (by omega)
  .intro h
   exact⟨λk hk=>h k (by omega),h n (by omega)⟩
def AW(ms:List BA)(k:Nat):Prop:=∀j m t,k=j+1->ms[k]?=some m->ms[j]?=some t->Op.bytesLess t.toList m.toList=true
theorem Tt{ms:List BA}{k:Nat}{m:BA}(hk:ms[k]?=some m):Ol ms k=true↔Ec m=true/\AW ms k/\Ck (Ar m) (Cy ms ms.length)<=1:=by
 cases k with
 | zero =>
  simp only[Ol,hk,Bool.and_eq_true,decide_eq_true_eq];constructor
  .rintro⟨h1,h2⟩
   exact⟨h1,λj _ _ h=>by omega,h2⟩
  .rintro⟨h1,_,h2⟩
   exact⟨h1,h2⟩
 | succ j =>
  have hlt:j+1<ms.length:=(List.getElem?_eq_some_iff.mp hk).1;have ht:ms[j]?=some ms[j]:=gE (by omega);simp only[Ol,hk,ht,Bool.and_eq_true,decide_eq_true_eq];constructor
  .rintro⟨⟨h1,h2⟩,h3⟩
   refine⟨h1,λi a b hi ha hb=>?_,h3⟩;have:i=j:=by omega
   subst this;rw[hk]at ha;rw[ht]at hb;cases ha
   cases hb
   exact h2
  .rintro⟨h1,h2,h3⟩
   exact⟨⟨h1,h2 j m ms[j] rfl hk ht⟩,h3⟩
theorem Pp{ms:List BA}{k:Nat}{m:BA}(hk:ms[k]?=some m):Lu ms k=true↔Ec m=true/\AW ms k/\Cw ms (Ar m) k=true:=by
 cases k with
 | zero =>
  simp only[Lu,hk,Cw];constructor
  .intro h1
   exact⟨h1,λj _ _ h=>by omega,trivial⟩
  .rintro⟨h1,_,_⟩
   exact h1
 | succ j =>
  have hlt:j+1<ms.length:=(List.getElem?_eq_some_iff.mp hk).1;have ht:ms[j]?=some ms[j]:=gE (by omega);simp only[Lu,hk,ht,Bool.and_eq_true];constructor
  .rintro⟨⟨⟨h1,h2⟩,_⟩,h3⟩
   refine⟨h1,λi a b hi ha hb=>?_,h3⟩;have:i=j:=by omega
   subst this;rw[hk]at ha;rw[ht]at hb;cases ha
   cases hb
   exact h2
  .rintro⟨h1,h2,h3⟩
   refine⟨⟨⟨h1,h2 j m ms[j] rfl hk ht⟩,?_⟩,h3⟩;have:=(Kn _).1 h3 j ms[j] (by omega) ht;simpa using λe=>this e.symm
theorem sS(ms:List BA):Ik ms=Oc ms:=by
 unfold Ik Oc
 congr 1
 rw[Bool.eq_iff_iff,eS,gI];have get:∀k,k<ms.length->∃m,ms[k]?=some m:=λk hk=>⟨ms[k],gE hk⟩
 constructor
 .intro h k hk
  obtain⟨m,hm⟩:=get k hk;have hall:∀(j:Nat)(t:BA),ms[j]?=some t->Ec t=true:=λj t ht=>((Tt ht).1 (h j (List.getElem?_eq_some_iff.mp ht).1)).1
  obtain⟨h1,h2,h3⟩:=(Tt hm).1 (h k hk);refine(Pp hm).2 ⟨h1,h2,(Kn _).2 λj t hj ht e=>?_⟩;rw[bH (Qi h1) hall]at h3;have:=yT hj hk ht hm e rfl;omega
 .intro h k hk
  obtain⟨m,hm⟩:=get k hk;have hall:∀(j:Nat)(t:BA),ms[j]?=some t->Ec t=true:=λj t ht=>((Pp ht).1 (h j (List.getElem?_eq_some_iff.mp ht).1)).1
  obtain⟨h1,h2,h3⟩:=(Pp hm).1 (h k hk);refine(Tt hm).2 ⟨h1,h2,?_⟩;rw[bH (Qi h1) hall];refine lT (tR (k:=k) (λj t hjk ht e=>?_) _) (by split<;>omega);rcases Nat.lt_or_gt_of_ne hjk with hl|hg
  .exact(Kn _).1 h3 j t hl ht e
  .have hj:j<ms.length:=(List.getElem?_eq_some_iff.mp ht).1
   exact(Kn _).1 ((Pp ht).1 (h j hj)).2.2 k m hg hm e.symm
end Go.Proofs.YtpidfnfilnkhkaaGreat
