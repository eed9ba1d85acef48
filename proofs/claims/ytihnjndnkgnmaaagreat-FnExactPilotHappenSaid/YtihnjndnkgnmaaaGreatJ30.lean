import Derived.Test.YtihnjndnkgnmaaaGreatJ29
set_option maxHeartbeats 4000000
set_option maxRecDepth 100000
namespace Go.Proofs.YtihnjndnkgnmaaaGreat
open Go.RowKit
def La (l:Lik):Bool:=decide (Bc l.select=0) && inB l.weight (-9) 9
def Ef (x:Cpy):Bool:=decide (Bc x.select=0) && (decide (x.likes.length≤5) && (inB x.apart 0 2 && (Bq x.near && Bq x.fixed)))
def Ho (x:Cpy):Bool:=!Ef x
def Nj (x:Cpy):Bool:=P.nameOk x.name && (P.nameOk x.service && (inB x.rank 0 100 && (inB x.born 0 1000000 && (inB x.room 0 1000 && (inB x.hold 0 1000 && (Ef x && x.likes.all La))))))
theorem Ph {s:BA} (h:s=⟨#[]⟩):Bq s=true:=by subst h;rfl
theorem Ud {s:BA} (h:¬ s=⟨#[]⟩):Bq s=P.nameOk s:=by
 have:s.size≠0:=fun e=>h (ByteArray.ext (Array.eq_empty_of_size_eq_zero e))
 simp [Bq,this]
theorem Mu {s:BA} (h:s=⟨#[]⟩):s.toList=[]:=by rw [ByteArray.toList_eq,h]
theorem Sh {s:BA} (h:¬ s=⟨#[]⟩):¬ s.toList=[]:=by
 rw [ByteArray.toList_eq];exact fun e=>h (by cases s with | mk x=>cases x;simp at e;simp [e])
theorem Ok {s:BA} (h:s=⟨#[]⟩):s.toList.isEmpty=true:=by rw [Mu h];rfl
theorem Vj {s:BA} (h:¬ s=⟨#[]⟩):s.toList.isEmpty=false:=by simpa using Sh h
theorem Xe (x:Cpy) (a7:OA) (c7 lo:Nat) (w:World) (z0:x.name.size≤maxLen) (z1:x.service.size≤maxLen) (z6:x.select.size≤maxLen) (hin:SliceC LikC 2 lo w a7 x.likes) (z9:x.near.size≤maxLen) (z10:x.fixed.size≤maxLen) :
  Calls Tryz.prog 48 #[.agg (ccA x a7 c7)] w (Rt (.bool (Nj x)) w):=by
 have HI:=iH hin;have Z0:=iH z0;have Z1:=iH z1;have Z6:=iH z6;have Z9:=iH z9;have Z10:=iH z10;have hlen:=hin.1;unfold maxLen at hlen;have HD:Hid (Nj x=(P.nameOk x.name && (P.nameOk x.service && (inB x.rank 0 100 && (inB x.born 0 1000000 && (inB x.room 0 1000 && (inB x.hold 0 1000 && (Ef x && x.likes.all La)))))))):=rfl;clear hin z0 z1 z6 z9 z10;generalize Nj x=V at *;go_enter Tryz.func48,Tryz.ntmps48;go_wp2_with fail;have HR:=ra w (ccA x a7 c7) 48 (ccL x a7 c7);have HB:=iH ((Below.refl _ w).alloc nL (Obj.cells (ccA x a7 c7) 48));have HS:Hid (w.heap.size<(w.alloc (Obj.cells (ccA x a7 c7) 48)).heap.size):=by show _<_;simp
 generalize w.alloc (Obj.cells (ccA x a7 c7) 48)=w0 at *;refine (Bi _ _ Z0).mono ?_;rintro e w1 ⟨rfl,rfl⟩
 cases h0:P.nameOk x.name with
 | false =>
  have HC:Hid (V=false):=by show _=_;rw [HD.out,h0];rfl
  clear h0 HD;go_wp2_with fail;go_ret;exact ⟨Ah HC.out.symm,HB⟩
 | true =>
 rw [h0,Bool.true_and] at HD;clear h0;have e0:w1.cell? ⟨w.heap.size,1,none⟩=some (.string x.service):=HR.out 1 _ rfl;go_wp2_with fail;clear e0;refine (Bi _ _ Z1).mono ?_;rintro e w1 ⟨rfl,rfl⟩
 cases h0:P.nameOk x.service with
 | false =>
  have HC:Hid (V=false):=by show _=_;rw [HD.out,h0];rfl
  clear h0 HD;go_wp2_with fail;go_ret;exact ⟨Ah HC.out.symm,HB⟩
 | true =>
 rw [h0,Bool.true_and] at HD;clear h0;have e0:w1.cell? ⟨w.heap.size,2,none⟩=some (.int .i64 x.rank):=HR.out 2 _ rfl;go_wp2_with fail;clear e0;refine (Dw _ _ _ _).mono ?_;rintro e w1 ⟨rfl,rfl⟩
 cases h0:inB x.rank 0 100 with
 | false =>
  have HC:Hid (V=false):=by show _=_;rw [HD.out,h0];rfl
  clear h0 HD;go_wp2_with fail;go_ret;exact ⟨Ah HC.out.symm,HB⟩
 | true =>
 rw [h0,Bool.true_and] at HD;clear h0;have e0:w1.cell? ⟨w.heap.size,3,none⟩=some (.int .i64 x.born):=HR.out 3 _ rfl;go_wp2_with fail;clear e0;refine (Dw _ _ _ _).mono ?_;rintro e w1 ⟨rfl,rfl⟩
 cases h0:inB x.born 0 1000000 with
 | false =>
  have HC:Hid (V=false):=by show _=_;rw [HD.out,h0];rfl
  clear h0 HD;go_wp2_with fail;go_ret;exact ⟨Ah HC.out.symm,HB⟩
 | true =>
 rw [h0,Bool.true_and] at HD;clear h0;have e0:w1.cell? ⟨w.heap.size,4,none⟩=some (.int .i64 x.room):=HR.out 4 _ rfl;go_wp2_with fail;clear e0;refine (Dw _ _ _ _).mono ?_;rintro e w1 ⟨rfl,rfl⟩
 cases h0:inB x.room 0 1000 with
 | false =>
  have HC:Hid (V=false):=by show _=_;rw [HD.out,h0];rfl
  clear h0 HD;go_wp2_with fail;go_ret;exact ⟨Ah HC.out.symm,HB⟩
 | true =>
 rw [h0,Bool.true_and] at HD;clear h0;have e0:w1.cell? ⟨w.heap.size,5,none⟩=some (.int .i64 x.hold):=HR.out 5 _ rfl;go_wp2_with fail;clear e0;refine (Dw _ _ _ _).mono ?_;rintro e w1 ⟨rfl,rfl⟩
 cases h0:inB x.hold 0 1000 with
 | false =>
  have HC:Hid (V=false):=by show _=_;rw [HD.out,h0];rfl
  clear h0 HD;go_wp2_with fail;go_ret;exact ⟨Ah HC.out.symm,HB⟩
 | true =>
 rw [h0,Bool.true_and] at HD;clear h0;have HD3:Hid (Ef x=(decide (Bc x.select=0) && (decide (x.likes.length≤5) && (inB x.apart 0 2 && (Bq x.near && Bq x.fixed))))):=rfl;go_upto_region 3 with fail
 go_cut [75] (fun c wx=>c=.bool (Ho x)∧Hid (Below w1.heap.size w1 wx))
 case first =>
  have e6:w1.cell? ⟨w.heap.size,6,none⟩=some (.string x.select):=HR.out 6 _ rfl;go_wp2_with fail;clear e6;refine (Lu _ _ Z6).mono ?_;rintro e w2 ⟨rfl,hb⟩;have HR2:=iH (Ab HR hb HS);have HB2:=iH hb;clear hb
  cases h0:decide (Bc x.select=0) with
  | false =>
   have HC:Hid (Ef x=false):=by show _=_;rw [HD3.out,h0];rfl
   clear h0 HD3 HD;go_wp2_with fail;go_meet;exact ⟨by rw [Ho,HC.out];rfl,HB2⟩
  | true =>
  rw [h0,Bool.true_and] at HD3;clear h0;have e7:w2.cell? ⟨w.heap.size,7,none⟩=some (.slice a7 x.likes.length c7):=HR2.out 7 _ rfl;by_cases hl5:x.likes.length≤5
  rotate_left
  ·have HC:Hid (Ef x=false):=by show _=_;rw [HD3.out,decide_eq_false hl5];rfl
   clear HD3 HD;go_wp2_with fail;go_meet;exact ⟨by rw [Ho,HC.out];rfl,HB2⟩
  rw [decide_eq_true hl5,Bool.true_and] at HD3;have e8:w2.cell? ⟨w.heap.size,8,none⟩=some (.int .i64 x.apart):=HR2.out 8 _ rfl;go_wp2_with fail;refine (Dw _ _ _ _).mono ?_;rintro e w3 ⟨rfl,rfl⟩;clear e7 e8
  cases h0:inB x.apart 0 2 with
  | false =>
   have HC:Hid (Ef x=false):=by show _=_;rw [HD3.out,h0];rfl
   clear h0 HD3 HD;go_wp2_with fail;go_meet;exact ⟨by rw [Ho,HC.out];rfl,HB2⟩
  | true =>
  rw [h0,Bool.true_and] at HD3;clear h0;have e9:w3.cell? ⟨w.heap.size,9,none⟩=some (.string x.near):=HR2.out 9 _ rfl;have e10:w3.cell? ⟨w.heap.size,10,none⟩=some (.string x.fixed):=HR2.out 10 _ rfl;by_cases hn:x.near=⟨#[]⟩
  ·have htn:=Mu hn
   have htn2:=Ok hn;rw [Ph hn,Bool.true_and] at HD3;clear hn;by_cases hf:x.fixed=⟨#[]⟩
   ·have HC:Hid (Ef x=true):=by show _=_;rw [HD3.out,Ph hf]
    have hte:=Mu hf;have hte2:=Ok hf;clear hf HD3 HD;go_wp2_with fail;go_meet;exact ⟨by rw [Ho,HC.out,decide_eq_false (by omega)];rfl,HB2⟩
   ·have hte:=Sh hf
    have hte2:=Vj hf;rw [Ud hf] at HD3;clear hf;go_wp2_with fail;refine (Bi _ _ Z10).mono ?_;rintro e w4 ⟨rfl,rfl⟩
    cases h0:P.nameOk x.fixed with
    | false =>
     have HC:Hid (Ef x=false):=by show _=_;rw [HD3.out,h0]
     clear h0 HD3 HD;go_wp2_with fail;go_meet;exact ⟨by rw [Ho,HC.out];rfl,HB2⟩
    | true =>
     have HC:Hid (Ef x=true):=by show _=_;rw [HD3.out,h0]
     clear h0 HD3 HD;go_wp2_with fail;go_meet;exact ⟨by rw [Ho,HC.out,decide_eq_false (by omega)];rfl,HB2⟩
  ·have htn:=Sh hn
   have htn2:=Vj hn;rw [Ud hn] at HD3;clear hn;go_wp2_with fail;refine (Bi _ _ Z9).mono ?_;rintro e w4 ⟨rfl,rfl⟩
   cases h0:P.nameOk x.near with
   | false =>
    have HC:Hid (Ef x=false):=by show _=_;rw [HD3.out,h0];rfl
    clear h0 HD3 HD;go_wp2_with fail;go_meet;exact ⟨by rw [Ho,HC.out];rfl,HB2⟩
   | true =>
   rw [h0,Bool.true_and] at HD3;clear h0;by_cases hf:x.fixed=⟨#[]⟩
   ·have HC:Hid (Ef x=true):=by show _=_;rw [HD3.out,Ph hf]
    have hte:=Mu hf;have hte2:=Ok hf;clear hf HD3 HD;go_wp2_with fail;go_meet;exact ⟨by rw [Ho,HC.out,decide_eq_false (by omega)];rfl,HB2⟩
   ·have hte:=Sh hf
    have hte2:=Vj hf;rw [Ud hf] at HD3;clear hf;go_wp2_with fail;refine (Bi _ _ Z10).mono ?_;rintro e w4 ⟨rfl,rfl⟩
    cases h0:P.nameOk x.fixed with
    | false =>
     have HC:Hid (Ef x=false):=by show _=_;rw [HD3.out,h0]
     clear h0 HD3 HD;go_wp2_with fail;go_meet;exact ⟨by rw [Ho,HC.out];rfl,HB2⟩
    | true =>
     have HC:Hid (Ef x=true):=by show _=_;rw [HD3.out,h0]
     clear h0 HD3 HD;go_wp2_with fail;go_meet;exact ⟨by rw [Ho,HC.out,decide_eq_false (by omega)];rfl,HB2⟩
 case rest =>
  obtain ⟨rfl,hbc⟩:=hcut;have HRC:=iH (Ab HR hbc.out HS);have HBC:=iH (HB.out.trans (hbc.out.mono HB.out.size));have HSC:Hid (w.heap.size<wc.heap.size):=lL HS hbc.out.size;clear hbc HR HB HS;have HBD:Hid (Ho x=!Ef x):=rfl
  cases h3:Ho x with
  | true =>
   have HC:Hid (V=false):=by
    have h4:=HBD.out.symm.trans h3;show _=_
    rw [HD.out,show Ef x=false from by simpa using h4];rfl
   clear h3 HD HD3;go_wp2_with fail;go_ret;exact ⟨Ah HC.out.symm,HBC⟩
  | false =>
  have HD2:Hid (V=x.likes.all La):=by
   have h4:=HBD.out.symm.trans h3;show _=_
   rw [HD.out,show Ef x=true from by simpa using h4];rfl
  clear h3 HD HD3;go_wp2_with fail;go_loopw [3] (fun i wr=>∃ k:Nat,k≤x.likes.length∧i=.int .i64 k∧Hid (∀ j y,j<k→x.likes[j]?=some y→La y=true)∧wr.cell? ⟨w.heap.size,7,none⟩=some (.slice a7 x.likes.length c7)∧Hid (w.heap.size<wr.heap.size)∧Hid (Below w.heap.size w wr)) (fun i _=>x.likes.length - (intOf i).toNat)
  case atStart=>exact ⟨0,zL,rfl,fun j y h=>absurd h (Nat.not_lt_zero _),HRC 7 _ rfl,HSC,HBC⟩
  case round =>
   clear HRC HSC HBC;obtain ⟨k,hk,rfl,ho,hcell,hsz,hbel⟩:=hrel;by_cases hlt:k<x.likes.length
   ·obtain ⟨y,hy⟩:=gX hlt
    obtain ⟨b,o,rfl,_,hbl,hc⟩:=(HI.out.below LikC.holds hbel.out nL).at hy;obtain ⟨q0,q1,z0⟩:=hc;simp only [Nat.add_zero] at q0 q1;have HX:=iH hy;have HZ:=iH z0;have bad:Hid (La y=false→V=false):=fun h=>by rw [HD2.out];exact List.all_eq_false.mpr ⟨y,List.mem_of_getElem? HX,by simp [h]⟩
    have HSL:Hid (La y=(decide (Bc y.select=0) && inB y.weight (-9) 9)):=rfl;clear hy z0;go_wp2_with fail;refine (Lu _ _ HZ).mono ?_;rintro e w5 ⟨rfl,hb5⟩;have HB5:=qT hbel hb5;have HS5:Hid (w.heap.size<w5.heap.size):=lL hsz.out hb5.size;have c5:w5.cell? ⟨w.heap.size,7,none⟩=some (.slice (some ⟨b,o,none⟩) x.likes.length c7):=(hb5.cell (p:=⟨w.heap.size,7,none⟩) hsz.out).trans hcell;have r1:w5.cell? ⟨b,o+k*2+1,none⟩=some (.int .i64 y.weight):=(hb5.cell (p:=⟨b,o+k*2+1,none⟩) hbl).trans q1;clear hb5 q0 q1 hcell hbel hsz
    cases h0:decide (Bc y.select=0) with
    | false =>
     have HC:Hid (V=false):=bad.out (by rw [HSL.out,h0];rfl);clear h0 bad HSL ho HD2;go_wp2_with fail;go_ret;exact ⟨Ah HC.out.symm,HB5⟩
    | true =>
    rw [h0,Bool.true_and] at HSL;clear h0;go_wp2_with fail;refine (Dw _ _ _ _).mono ?_;rintro e w6 ⟨rfl,rfl⟩;clear r1
    cases h0:inB y.weight (-9) 9 with
    | false =>
     have HC:Hid (V=false):=bad.out (by rw [HSL.out,h0]);clear h0 bad HSL ho HD2;go_wp2_with fail;go_ret;exact ⟨Ah HC.out.symm,HB5⟩
    | true =>
     have HO:Hid (∀ j z,j<k+1→x.likes[j]?=some z→La z=true):=by
      intro j z hj hz;by_cases e:j=k
      ·subst e
       rw [HX.out] at hz;cases hz
       rw [HSL.out,h0]
      ·exact ho.out j z (by omega) hz
     clear h0 bad HSL ho;go_wp2_with fail;go_roundw
     case rel=>exact ⟨k+1,by omega,by go_num,HO,c5,HS5,HB5⟩
     case measure=>simp [intOf];omega
   ·have hke:k=x.likes.length:=by omega
    have HC:Hid (V=true):=by
     show _=_
     rw [HD2.out];simp only [List.all_eq_true];intro y hy;obtain ⟨j,hj,e⟩:=List.mem_iff_getElem.mp hy;exact ho.out j y (by omega) (by rw [gE hj,e])
    clear ho HD2;go_wp2_with fail;go_ret;exact ⟨Ah HC.out.symm,hbel.out⟩
end Go.Proofs.YtihnjndnkgnmaaaGreat
namespace Go.Proofs.YtihnjndnkgnmaaaGreat
open Go.RowKit Go.WideMaps Go.Maps
theorem Dh (ns:List BA) (s:BA):∀ k,Asq ns s k=none↔∀ j,j<k→ns[j]?≠some s
 | 0=>by simp [Asq]
 | k+1=>by
  unfold Asq;by_cases h:ns[k]?=some s
  ·rw [if_pos h]
   constructor
   ·intro e;cases e
   ·intro e;exact absurd h (e k (by omega))
  ·rw [if_neg h,Dh ns s k]
   constructor
   ·intro e j hj
    by_cases hjk:j=k
    ·subst hjk;exact h
    ·exact e j (by omega)
   ·intro e j hj
    exact e j (by omega)
theorem Uh (bs:List Brt) (s:BA):Ie bs s<0↔Asq (bs.map (·.name)) s bs.length=none:=by
 rw [Dh];unfold Ie
 cases h:bs.findIdx? (fun b=>decide (b.name=s)) with
 | none =>
  rw [List.findIdx?_eq_none_iff] at h;constructor
  ·intro _ j hj e
   rw [List.getElem?_map,gE hj] at e;simp at e;have:=h bs[j] (List.getElem_mem hj);simp at this;exact this e
  ·intro _;decide
 | some k =>
  rw [List.findIdx?_eq_some_iff_getElem] at h;obtain ⟨hk,h1,_⟩:=h;constructor
  ·intro e
   simp at e;omega
  ·intro e
   refine absurd ?_ (e k hk);rw [List.getElem?_map,gE hk];simpa using h1
theorem Te {s:BA} (h:s=⟨#[]⟩):s.toList=[]:=by
 rw [ByteArray.toList_eq,h]
theorem Nq {s:BA} (h:¬ s=⟨#[]⟩):¬ s.toList=[]:=by
 intro e;rw [ByteArray.toList_eq] at e;apply h
 cases s with | mk x=>cases x;simp at e;simp [e]
def Ek (cs:List Cpy) (s:BA) (k:Nat):Int×Int:=if s=⟨#[]⟩ then (0,0) else (Bo cs s (-1) k).2
theorem fL {cs:List Cpy} {s:BA} {k:Nat} {c:Cpy} (hs:¬ s=⟨#[]⟩) (hk:cs[k]?=some c) (h1:c.at_=s):Ek cs s (k+1)=(wrap64 ((Ek cs s k).1+c.room),wrap64 ((Ek cs s k).2+c.hold)):=by
 unfold Ek;rw [if_neg hs,if_neg hs,Wi hk h1 (by omega)]
theorem Qy {cs:List Cpy} {s:BA} {k:Nat} {c:Cpy} (hk:cs[k]?=some c) (h:s=⟨#[]⟩∨¬ c.at_=s):Ek cs s (k+1)=Ek cs s k:=by
 unfold Ek;by_cases hs:s=⟨#[]⟩
 ·rw [if_pos hs,if_pos hs]
 ·rw [if_neg hs,if_neg hs,Rn hk (fun e=>by rcases h with h | h;exact hs h;exact h e.1)]
def Je (x:Flt) (s:BA):Int×Int:=if Ie x.berths s<0 then (0,0) else Ek x.copies s x.copies.length
theorem Ue (x:Flt) (a1:OA) (c1:Nat) (a2:OA) (c2:Nat) (a3:OA) (c3:Nat) (lo:Nat) (s:BA) (w:World) (n1:SliceC BrtC 6 lo w a1 x.berths) (n3:SliceC CpyC 12 lo w a3 x.copies) (l1:x.berths.length≤1048576) (l3:x.copies.length≤1048576) :
  Calls Tryz.prog 51 #[.agg (ffA x a1 c1 a2 c2 a3 c3),.string s] w (Rt (.tuple #[.int .i64 (Je x s).1,.int .i64 (Je x s).2]) w):=by
 have HI:=iH n3;have HJ:=iH n1;clear n1 n3;have HU:Hid (Je x s=if Ie x.berths s<0 then (0,0) else Ek x.copies s x.copies.length):=rfl;generalize Je x s=U at *;go_enter Tryz.func51,Tryz.ntmps51;go_wp2_with fail;refine (Gx x a1 c1 a2 c2 a3 c3 lo s _ (HJ.out.below BrtC.holds (B:=w.heap.size) (by go_grown) nL) l1).mono ?_;rintro e w1 ⟨rfl,hb1⟩;have hB1:Below w.heap.size w w1:=(show Below w.heap.size w _ by go_grown).trans (hb1.mono (by simp));have k1:w1.cell? ⟨w.heap.size,3,none⟩=some (.slice a3 x.copies.length c3):=(hb1.cell (p:=⟨w.heap.size,3,none⟩) (by simp)).trans (by simp);clear hb1;generalize x.copies=cs at *;generalize Ie x.berths s=I at *;by_cases hI:I<0
 ·have HU2:Hid (U=(0,0)):=by rw [HU.out,if_pos hI];rfl
  go_wp2_with fail
  go_ret2
  exact ⟨by rw [HU2.out];rfl,hB1⟩
 ·have HU2:Hid (U=Ek cs s cs.length):=by rw [HU.out,if_neg hI];rfl
  have HSE:Hid (s=⟨#[]⟩∨¬ s=⟨#[]⟩):=Classical.em _;go_wp2_with fail;go_loopw [6,7,8] (fun r h i wr=>∃ k:Nat,k≤cs.length∧i=.int .i64 k∧r=.int .i64 (Ek cs s k).1∧h=.int .i64 (Ek cs s k).2∧wr.cell? ⟨w.heap.size,3,none⟩=some (.slice a3 cs.length c3)∧Below w.heap.size w wr) (fun _ _ i _=>cs.length - (intOf i).toNat)
  case atStart=>exact ⟨0,zL,rfl,by simp [Ek,Bo],by simp [Ek,Bo],k1,hB1⟩
  case round =>
   obtain ⟨k,hk,rfl,rfl,rfl,hcell,hbel⟩:=hrel;by_cases hlt:k<cs.length
   ·obtain ⟨x,hx⟩:=gX hlt
    obtain ⟨b,o,rfl,_,_,hc⟩:=(HI.out.below CpyC.holds hbel nL).at hx;obtain ⟨a7,c7,q0,q1,q2,q3,q4,q5,q6,q7,q8,q9,q10,q11,_,_,_,_,_,_,_⟩:=hc;have HX:=iH hx;clear hx q0 q1 q2 q3 q6 q7 q8 q9 q10;rcases HSE.out with hs | hs
    ·have HV:Hid (Ek cs s (k+1)=Ek cs s k):=Qy HX (.inl hs)
     have hte:=Te hs;have hte2:s.toList.isEmpty=true:=by rw [hte];rfl
     clear hs;go_wp2_with fail;go_roundw
     case rel=>exact ⟨k+1,by omega,by go_num,by rw [HV.out],by rw [HV.out],hcell,hbel⟩
     case measure=>simp [intOf];omega
    ·have hte:=Nq hs
     have hte2:s.toList.isEmpty=false:=by
      cases h:s.toList with
      | nil=>exact absurd h hte
      | cons a l=>rfl
     by_cases h1:x.at_=s
     ·have HV:Hid (Ek cs s (k+1)=_):=fL hs HX h1
      have htf:=Gf h1;clear h1 hs;generalize hS:Ek cs s k=S at *;have HS:=iH hS;clear hS;go_wp2_with fail;go_roundw
      case rel=>exact ⟨k+1,by omega,by go_num,by rw [HV.out],by rw [HV.out],hcell,hbel⟩
      case measure=>simp [intOf];omega
     ·have HV:Hid (Ek cs s (k+1)=Ek cs s k):=Qy HX (.inr h1)
      have htf:=Fd h1;clear h1 hs;go_wp2_with fail;go_roundw
      case rel=>exact ⟨k+1,by omega,by go_num,by rw [HV.out],by rw [HV.out],hcell,hbel⟩
      case measure=>simp [intOf];omega
   ·have hke:k=cs.length:=by omega
    subst hke;go_wp2_with fail
    go_ret2
    exact ⟨by rw [HU2.out];rfl,hbel⟩
end Go.Proofs.YtihnjndnkgnmaaaGreat
namespace Go.Proofs.YtihnjndnkgnmaaaGreat
open Go.RowKit
def Gs (ns:List BA):Nat→Bool
 | 0=>true
 | j+1=>match ns[j+1]?,ns[j]? with
  | some s,some t=>Op.bytesLess t.toList s.toList
  | _,_=>true
def Cx (f:Nat→Bool):Nat→Bool
 | 0=>true
 | k+1=>Cx f k && f k
theorem Gu {f:Nat→Bool} {k:Nat} (h:f k=false):∀ n,k<n→Cx f n=false
 | 0,hn=>absurd hn (Nat.not_lt_zero _)
 | n+1,hn=>by
  by_cases e:k=n
  ·subst e;simp only [Cx,h,Bool.and_false]
  ·simp only [Cx,Gu h n (by omega),Bool.false_and]
theorem Kg {f:Nat→Bool} {k:Nat} (h:Cx f k=true) (h':f k=true):Cx f (k+1)=true:=by
 simp only [Cx,h,h',Bool.and_self]
def Hi (x:Flt) (k:Nat):Bool:=match x.services[k]? with
 | some y=>P.nameOk y.name && (Gs (x.services.map (·.name)) k && inB y.spare 0 60)
 | none=>true
def Gd (x:Flt) (k:Nat):Bool:=match x.copies[k]? with
 | some y=>Nj y && (Gs (x.copies.map (·.name)) k && (!decide (Mw x.services y.service<0) && (decide (y.at_=⟨#[]⟩) || !decide (Ie x.berths y.at_<0))))
 | none=>true
def Fsq (x:Flt) (k:Nat):Bool:=match x.berths[k]? with
 | some y=>Iw y && (Gs (x.berths.map (·.name)) k && (!decide (y.room<(Je x y.name).1) && (!decide (y.hold<(Je x y.name).2) && !decide (10<Fb x.copies y.name x.copies.length))))
 | none=>true
def Um (x:Flt) (k:Nat):Bool:=!Hi x k
def Ta (x:Flt) (k:Nat):Bool:=!Gd x k
def Tb (x:Flt) (k:Nat):Bool:=!Fsq x k
def Pn (x:Flt):Bool:=Cz x && (Cx (Hi x) x.services.length && (Cx (Gd x) x.copies.length && Cx (Fsq x) x.berths.length))
theorem Mq {α:Type} {f:α→BA} {xs:List α} {j k:Nat} {y z:α} (hk:k=j+1) (hy:xs[k]?=some y) (hz:xs[j]?=some z):Gs (xs.map f) k=Op.bytesLess (f z).toList (f y).toList:=by
 subst hk;simp only [Gs,List.getElem?_map,hy,hz,Option.map_some]
theorem Zo {s:BA} (h:P.nameOk s=true):Cg s=-1:=by
 refine Vn (fun j hj e=>?_);unfold P.nameOk at h;rw [Bool.and_eq_true,List.all_eq_true] at h;have:=h.2 61 (List.mem_of_getElem? e);revert this
 decide
def Ioq (ms:List BA) (nm:BA):Nat→Nat
 | 0=>0
 | j+1=>Ioq ms nm j+(match ms[j]? with
  | some t=>if Az t=nm then 1 else 0
  | none=>0)
theorem Sf {m:BA} (h:Dp m=true):P.nameOk (Az m)=true:=by
 unfold Dp at h;rw [Bool.and_eq_true] at h;exact h.1
theorem Yt {m nm:BA} (h:Dp m=true) (hn:P.nameOk nm=true) (r:List BA):Dc nm (Ur m++r)=Dc nm r+(if Az m=nm then 1 else 0):=by
 unfold Ur;rw [if_pos h];by_cases hv:Cg m<0
 ·rw [if_pos hv]
  by_cases e:Az m=nm
  ·rw [if_pos e];subst e;exact Kv _ _
  ·rw [if_neg e];exact Hb e _
 ·rw [if_neg hv]
  have hne:¬ m=nm:=by
   intro e;subst e;rw [Zo hn] at hv;exact hv (by decide)
  show Dc nm (m::Az m::r)=_
  rw [Hb hne];by_cases e:Az m=nm
  ·rw [if_pos e];subst e;exact Kv _ _
  ·rw [if_neg e];exact Hb e _
theorem Ul {ms:List BA} {nm:BA} (hn:P.nameOk nm=true) (hall:∀ (j:Nat) (t:BA),ms[j]?=some t→Dp t=true):∀ n,Dc nm (Da ms n)=Ioq ms nm n
 | 0=>rfl
 | n+1=>by
  cases h:ms[n]? with
  | none=>simp only [Da,Ioq,h,Nat.add_zero];exact Ul hn hall n
  | some t =>
   simp only [Da,Ioq,h];rw [Yt (hall n t h) hn,Ul hn hall n]
theorem Tq (ms:List BA) (nm:BA):∀ n k,k≤n→Ioq ms nm k≤Ioq ms nm n
 | 0,k,h=>by rw [Nat.le_zero.1 h];exact Nat.le_refl _
 | n+1,k,h=>by
  by_cases e:k=n+1
  ·subst e;exact Nat.le_refl _
  ·refine lT (Tq ms nm n k (by omega)) ?_
   simp only [Ioq];omega
theorem jX {ms:List BA} {nm s t:BA} {j k n:Nat} (hjk:j<k) (hkn:k<n) (hj:ms[j]?=some s) (hk:ms[k]?=some t) (es:Az s=nm) (et:Az t=nm):2≤Ioq ms nm n:=by
 have h1:1≤Ioq ms nm (j+1):=by simp only [Ioq,hj,es,if_true];omega
 have h2:=Tq ms nm k (j+1) (by omega);have h3:Ioq ms nm (k+1)=Ioq ms nm k+1:=by simp only [Ioq,hk,et,if_true]
 have h4:=Tq ms nm n (k+1) (by omega);omega
theorem gL {ms:List BA} {nm:BA} {k:Nat} (h:∀ j t,j≠k→ms[j]?=some t→Az t≠nm):∀ n,Ioq ms nm n≤if k<n then 1 else 0
 | 0=>by simp [Ioq]
 | n+1=>by
  have ih:=gL h n;simp only [Ioq]
  cases hm:ms[n]? with
  | none =>
   show Ioq ms nm n+0≤_
   split at ih <;> split <;> omega
  | some t =>
   show Ioq ms nm n+(if Az t=nm then 1 else 0)≤_
   by_cases e:n=k
   ·subst e
    rw [if_neg (Nat.lt_irrefl _)] at ih;rw [if_pos (Nat.lt_succ_self _)]
    split <;> omega
   ·rw [if_neg (h n t e hm)]
    split at ih <;> split <;> omega
theorem Hl {ms:List BA} {nm:BA}:∀ k,Cm ms nm k=true↔∀ j t,j<k→ms[j]?=some t→Az t≠nm
 | 0=>by simp [Cm]
 | k+1=>by
  have ih:=Hl (ms:=ms) (nm:=nm) k;simp only [Cm,Bool.and_eq_true,ih];constructor
  ·rintro ⟨h1,h2⟩ j t hj ht
   by_cases e:j=k
   ·subst e
    rw [ht] at h2;simpa using h2
   ·exact h1 j t (by omega) ht
  ·intro h
   refine ⟨fun j t hj ht=>h j t (by omega) ht,?_⟩
   cases hm:ms[k]? with
   | none=>rfl
   | some t=>simpa using h k t (by omega) hm
theorem Qd {ms:List BA}:∀ n,Kq ms n=true↔∀ k,k<n→Ix ms k=true
 | 0=>by simp [Kq]
 | n+1=>by
  simp only [Kq,Bool.and_eq_true,Qd n];constructor
  ·rintro ⟨h1,h2⟩ k hk
   by_cases e:k=n
   ·subst e;exact h2
   ·exact h1 k (by omega)
  ·intro h
   exact ⟨fun k hk=>h k (by omega),h n (by omega)⟩
theorem Va {ms:List BA}:∀ n,Mb ms n=true↔∀ k,k<n→Ip ms k=true
 | 0=>by simp [Mb]
 | n+1=>by
  simp only [Mb,Bool.and_eq_true,Va n];constructor
  ·rintro ⟨h1,h2⟩ k hk
   by_cases e:k=n
   ·subst e;exact h2
   ·exact h1 k (by omega)
  ·intro h
   exact ⟨fun k hk=>h k (by omega),h n (by omega)⟩
def lS (ms:List BA) (k:Nat):Prop:=∀ j m t,k=j+1→ms[k]?=some m→ms[j]?=some t→Op.bytesLess t.toList m.toList=true
theorem Pb {ms:List BA} {k:Nat} {m:BA} (hk:ms[k]?=some m):Ix ms k=true↔Dp m=true∧lS ms k∧Dc (Az m) (Da ms ms.length)≤1:=by
 cases k with
 | zero =>
  simp only [Ix,hk,Bool.and_eq_true,decide_eq_true_eq];constructor
  ·rintro ⟨h1,h2⟩
   exact ⟨h1,fun j _ _ h=>by omega,h2⟩
  ·rintro ⟨h1,_,h2⟩
   exact ⟨h1,h2⟩
 | succ j =>
  have hlt:j+1<ms.length:=(List.getElem?_eq_some_iff.mp hk).1;have ht:ms[j]?=some ms[j]:=gE (by omega);simp only [Ix,hk,ht,Bool.and_eq_true,decide_eq_true_eq];constructor
  ·rintro ⟨⟨h1,h2⟩,h3⟩
   refine ⟨h1,fun i a b hi ha hb=>?_,h3⟩;have:i=j:=by omega
   subst this;rw [hk] at ha;rw [ht] at hb;cases ha
   cases hb
   exact h2
  ·rintro ⟨h1,h2,h3⟩
   exact ⟨⟨h1,h2 j m ms[j] rfl hk ht⟩,h3⟩
theorem Lk {ms:List BA} {k:Nat} {m:BA} (hk:ms[k]?=some m):Ip ms k=true↔Dp m=true∧lS ms k∧Cm ms (Az m) k=true:=by
 cases k with
 | zero =>
  simp only [Ip,hk,Cm];constructor
  ·intro h1
   exact ⟨h1,fun j _ _ h=>by omega,trivial⟩
  ·rintro ⟨h1,_,_⟩
   exact h1
 | succ j =>
  have hlt:j+1<ms.length:=(List.getElem?_eq_some_iff.mp hk).1;have ht:ms[j]?=some ms[j]:=gE (by omega);simp only [Ip,hk,ht,Bool.and_eq_true];constructor
  ·rintro ⟨⟨⟨h1,h2⟩,_⟩,h3⟩
   refine ⟨h1,fun i a b hi ha hb=>?_,h3⟩;have:i=j:=by omega
   subst this;rw [hk] at ha;rw [ht] at hb;cases ha
   cases hb
   exact h2
  ·rintro ⟨h1,h2,h3⟩
   refine ⟨⟨⟨h1,h2 j m ms[j] rfl hk ht⟩,?_⟩,h3⟩;have:=(Hl _).1 h3 j ms[j] (by omega) ht;simpa using fun e=>this e.symm
theorem fSq (ms:List BA):Gr ms=Kw ms:=by
 unfold Gr Kw
 congr 1
 rw [Bool.eq_iff_iff,Qd,Va];have get:∀ k,k<ms.length→∃ m,ms[k]?=some m:=fun k hk=>⟨ms[k],gE hk⟩
 constructor
 ·intro h k hk
  obtain ⟨m,hm⟩:=get k hk;have hall:∀ (j:Nat) (t:BA),ms[j]?=some t→Dp t=true:=fun j t ht=>((Pb ht).1 (h j (List.getElem?_eq_some_iff.mp ht).1)).1
  obtain ⟨h1,h2,h3⟩:=(Pb hm).1 (h k hk);refine (Lk hm).2 ⟨h1,h2,(Hl _).2 fun j t hj ht e=>?_⟩;rw [Ul (Sf h1) hall] at h3;have:=jX hj hk ht hm e rfl;omega
 ·intro h k hk
  obtain ⟨m,hm⟩:=get k hk;have hall:∀ (j:Nat) (t:BA),ms[j]?=some t→Dp t=true:=fun j t ht=>((Lk ht).1 (h j (List.getElem?_eq_some_iff.mp ht).1)).1
  obtain ⟨h1,h2,h3⟩:=(Lk hm).1 (h k hk);refine (Pb hm).2 ⟨h1,h2,?_⟩;rw [Ul (Sf h1) hall];refine lT (gL (k:=k) (fun j t hjk ht e=>?_) _) (by split <;> omega);rcases Nat.lt_or_gt_of_ne hjk with hl | hg
  ·exact (Hl _).1 h3 j t hl ht e
  ·have hj:j<ms.length:=(List.getElem?_eq_some_iff.mp ht).1
   exact (Hl _).1 ((Lk ht).1 (h j hj)).2.2 k m hg hm e.symm
end Go.Proofs.YtihnjndnkgnmaaaGreat
