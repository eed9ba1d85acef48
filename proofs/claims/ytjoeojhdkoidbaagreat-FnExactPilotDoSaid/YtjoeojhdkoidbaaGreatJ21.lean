import Derived.Test.YtjoeojhdkoidbaaGreatJ20
set_option maxHeartbeats 4000000
set_option maxRecDepth 100000
namespace Go.Proofs.YtjoeojhdkoidbaaGreat
open Go.RowKit Tryz
def Pc (l:Lik):Bool:=decide (Aw l.select=0) && inB l.weight (-9) 9
def Em (x:Cpy):Bool:=decide (Aw x.select=0) && (decide (x.likes.length≤5) && (inB x.apart 0 2 && (Ch x.near && Ch x.fixed)))
def Jl (x:Cpy):Bool:=!Em x
def Rk (x:Cpy):Bool:=P.nameOk x.name && (P.nameOk x.service && (inB x.rank 0 100 && (inB x.born 0 1000000 && (inB x.room 0 1000 && (inB x.hold 0 1000 && (Em x && x.likes.all Pc))))))
theorem Ur {s:BA} (h:s=⟨#[]⟩):Ch s=true:=by subst h;rfl
theorem Xt {s:BA} (h:¬ s=⟨#[]⟩):Ch s=P.nameOk s:=by
 have:s.size≠0:=fun e=>h (ByteArray.ext (Array.eq_empty_of_size_eq_zero e))
 simp [Ch,this]
theorem Qp {s:BA} (h:s=⟨#[]⟩):s.toList=[]:=by rw [ByteArray.toList_eq,h]
theorem Xd {s:BA} (h:¬ s=⟨#[]⟩):¬ s.toList=[]:=by
 rw [ByteArray.toList_eq];exact fun e=>h (by cases s with | mk x=>cases x;simp at e;simp [e])
theorem Uw {s:BA} (h:s=⟨#[]⟩):s.toList.isEmpty=true:=by rw [Qp h];rfl
theorem Zt {s:BA} (h:¬ s=⟨#[]⟩):s.toList.isEmpty=false:=by simpa using Xd h
theorem cH (x:Cpy) (a7:OA) (c7 lo:Nat) (w:World) (z0:x.name.size≤maxLen) (z1:x.service.size≤maxLen) (z6:x.select.size≤maxLen) (hin:SliceC LikC 2 lo w a7 x.likes) (z9:x.near.size≤maxLen) (z10:x.fixed.size≤maxLen) :
  Calls prog 52 #[.agg (ccA x a7 c7)] w (Rt (.bool (Rk x)) w):=by
 have HI:=iH hin;have Z0:=iH z0;have Z1:=iH z1;have Z6:=iH z6;have Z9:=iH z9;have Z10:=iH z10;have hlen:=hin.1;unfold maxLen at hlen;have HD:Hid (Rk x=(P.nameOk x.name && (P.nameOk x.service && (inB x.rank 0 100 && (inB x.born 0 1000000 && (inB x.room 0 1000 && (inB x.hold 0 1000 && (Em x && x.likes.all Pc)))))))):=rfl;clear hin z0 z1 z6 z9 z10;generalize Rk x=V at *;go_enter func52,ntmps52;go_wp2_with fail;have HR:=qRa w (ccA x a7 c7) 55 (ccL x a7 c7);have HB:=iH ((Below.refl _ w).alloc nL (Obj.cells (ccA x a7 c7) 55));have HS:Hid (w.heap.size<(w.alloc (Obj.cells (ccA x a7 c7) 55)).heap.size):=by show _<_;simp
 generalize w.alloc (Obj.cells (ccA x a7 c7) 55)=w0 at *;refine (Bi _ _ Z0).mono ?_;rintro e w1 ⟨rfl,rfl⟩
 cases h0:P.nameOk x.name with
 | false =>
  have HC:Hid (V=false):=by show _=_;rw [HD.out,h0];rfl
  clear h0 HD;go_wp2_with fail;go_ret;exact ⟨Ac HC.out.symm,HB⟩
 | true =>
 rw [h0,Bool.true_and] at HD;clear h0;have e0:w1.cell? ⟨w.heap.size,1,none⟩=some (.string x.service):=HR.out 1 _ rfl;go_wp2_with fail;clear e0;refine (Bi _ _ Z1).mono ?_;rintro e w1 ⟨rfl,rfl⟩
 cases h0:P.nameOk x.service with
 | false =>
  have HC:Hid (V=false):=by show _=_;rw [HD.out,h0];rfl
  clear h0 HD;go_wp2_with fail;go_ret;exact ⟨Ac HC.out.symm,HB⟩
 | true =>
 rw [h0,Bool.true_and] at HD;clear h0;have e0:w1.cell? ⟨w.heap.size,2,none⟩=some (.int .i64 x.rank):=HR.out 2 _ rfl;go_wp2_with fail;clear e0;refine (Fe _ _ _ _).mono ?_;rintro e w1 ⟨rfl,rfl⟩
 cases h0:inB x.rank 0 100 with
 | false =>
  have HC:Hid (V=false):=by show _=_;rw [HD.out,h0];rfl
  clear h0 HD;go_wp2_with fail;go_ret;exact ⟨Ac HC.out.symm,HB⟩
 | true =>
 rw [h0,Bool.true_and] at HD;clear h0;have e0:w1.cell? ⟨w.heap.size,3,none⟩=some (.int .i64 x.born):=HR.out 3 _ rfl;go_wp2_with fail;clear e0;refine (Fe _ _ _ _).mono ?_;rintro e w1 ⟨rfl,rfl⟩
 cases h0:inB x.born 0 1000000 with
 | false =>
  have HC:Hid (V=false):=by show _=_;rw [HD.out,h0];rfl
  clear h0 HD;go_wp2_with fail;go_ret;exact ⟨Ac HC.out.symm,HB⟩
 | true =>
 rw [h0,Bool.true_and] at HD;clear h0;have e0:w1.cell? ⟨w.heap.size,4,none⟩=some (.int .i64 x.room):=HR.out 4 _ rfl;go_wp2_with fail;clear e0;refine (Fe _ _ _ _).mono ?_;rintro e w1 ⟨rfl,rfl⟩
 cases h0:inB x.room 0 1000 with
 | false =>
  have HC:Hid (V=false):=by show _=_;rw [HD.out,h0];rfl
  clear h0 HD;go_wp2_with fail;go_ret;exact ⟨Ac HC.out.symm,HB⟩
 | true =>
 rw [h0,Bool.true_and] at HD;clear h0;have e0:w1.cell? ⟨w.heap.size,5,none⟩=some (.int .i64 x.hold):=HR.out 5 _ rfl;go_wp2_with fail;clear e0;refine (Fe _ _ _ _).mono ?_;rintro e w1 ⟨rfl,rfl⟩
 cases h0:inB x.hold 0 1000 with
 | false =>
  have HC:Hid (V=false):=by show _=_;rw [HD.out,h0];rfl
  clear h0 HD;go_wp2_with fail;go_ret;exact ⟨Ac HC.out.symm,HB⟩
 | true =>
 rw [h0,Bool.true_and] at HD;clear h0;have HD3:Hid (Em x=(decide (Aw x.select=0) && (decide (x.likes.length≤5) && (inB x.apart 0 2 && (Ch x.near && Ch x.fixed))))):=rfl;go_upto_region 3 with fail
 go_cut [75] (fun c wx=>c=.bool (Jl x)∧Hid (Below w1.heap.size w1 wx))
 case first =>
  have e6:w1.cell? ⟨w.heap.size,6,none⟩=some (.string x.select):=HR.out 6 _ rfl;go_wp2_with fail;clear e6;refine (Nt _ _ Z6).mono ?_;rintro e w2 ⟨rfl,hb⟩;have HR2:=iH (Ab HR hb HS);have HB2:=iH hb;clear hb
  cases h0:decide (Aw x.select=0) with
  | false =>
   have HC:Hid (Em x=false):=by show _=_;rw [HD3.out,h0];rfl
   clear h0 HD3 HD;go_wp2_with fail;go_meet;exact ⟨by rw [Jl,HC.out];rfl,HB2⟩
  | true =>
  rw [h0,Bool.true_and] at HD3;clear h0;have e7:w2.cell? ⟨w.heap.size,7,none⟩=some (.slice a7 x.likes.length c7):=HR2.out 7 _ rfl;by_cases hl5:x.likes.length≤5
  rotate_left
  ·have HC:Hid (Em x=false):=by show _=_;rw [HD3.out,decide_eq_false hl5];rfl
   clear HD3 HD;go_wp2_with fail;go_meet;exact ⟨by rw [Jl,HC.out];rfl,HB2⟩
  rw [decide_eq_true hl5,Bool.true_and] at HD3;have e8:w2.cell? ⟨w.heap.size,8,none⟩=some (.int .i64 x.apart):=HR2.out 8 _ rfl;go_wp2_with fail;refine (Fe _ _ _ _).mono ?_;rintro e w3 ⟨rfl,rfl⟩;clear e7 e8
  cases h0:inB x.apart 0 2 with
  | false =>
   have HC:Hid (Em x=false):=by show _=_;rw [HD3.out,h0];rfl
   clear h0 HD3 HD;go_wp2_with fail;go_meet;exact ⟨by rw [Jl,HC.out];rfl,HB2⟩
  | true =>
  rw [h0,Bool.true_and] at HD3;clear h0;have e9:w3.cell? ⟨w.heap.size,9,none⟩=some (.string x.near):=HR2.out 9 _ rfl;have e10:w3.cell? ⟨w.heap.size,10,none⟩=some (.string x.fixed):=HR2.out 10 _ rfl;by_cases hn:x.near=⟨#[]⟩
  ·have htn:=Qp hn
   have htn2:=Uw hn;rw [Ur hn,Bool.true_and] at HD3;clear hn;by_cases hf:x.fixed=⟨#[]⟩
   ·have HC:Hid (Em x=true):=by show _=_;rw [HD3.out,Ur hf]
    have hte:=Qp hf;have hte2:=Uw hf;clear hf HD3 HD;go_wp2_with fail;go_meet;exact ⟨by rw [Jl,HC.out,decide_eq_false (by omega)];rfl,HB2⟩
   ·have hte:=Xd hf
    have hte2:=Zt hf;rw [Xt hf] at HD3;clear hf;go_wp2_with fail;refine (Bi _ _ Z10).mono ?_;rintro e w4 ⟨rfl,rfl⟩
    cases h0:P.nameOk x.fixed with
    | false =>
     have HC:Hid (Em x=false):=by show _=_;rw [HD3.out,h0]
     clear h0 HD3 HD;go_wp2_with fail;go_meet;exact ⟨by rw [Jl,HC.out];rfl,HB2⟩
    | true =>
     have HC:Hid (Em x=true):=by show _=_;rw [HD3.out,h0]
     clear h0 HD3 HD;go_wp2_with fail;go_meet;exact ⟨by rw [Jl,HC.out,decide_eq_false (by omega)];rfl,HB2⟩
  ·have htn:=Xd hn
   have htn2:=Zt hn;rw [Xt hn] at HD3;clear hn;go_wp2_with fail;refine (Bi _ _ Z9).mono ?_;rintro e w4 ⟨rfl,rfl⟩
   cases h0:P.nameOk x.near with
   | false =>
    have HC:Hid (Em x=false):=by show _=_;rw [HD3.out,h0];rfl
    clear h0 HD3 HD;go_wp2_with fail;go_meet;exact ⟨by rw [Jl,HC.out];rfl,HB2⟩
   | true =>
   rw [h0,Bool.true_and] at HD3;clear h0;by_cases hf:x.fixed=⟨#[]⟩
   ·have HC:Hid (Em x=true):=by show _=_;rw [HD3.out,Ur hf]
    have hte:=Qp hf;have hte2:=Uw hf;clear hf HD3 HD;go_wp2_with fail;go_meet;exact ⟨by rw [Jl,HC.out,decide_eq_false (by omega)];rfl,HB2⟩
   ·have hte:=Xd hf
    have hte2:=Zt hf;rw [Xt hf] at HD3;clear hf;go_wp2_with fail;refine (Bi _ _ Z10).mono ?_;rintro e w4 ⟨rfl,rfl⟩
    cases h0:P.nameOk x.fixed with
    | false =>
     have HC:Hid (Em x=false):=by show _=_;rw [HD3.out,h0]
     clear h0 HD3 HD;go_wp2_with fail;go_meet;exact ⟨by rw [Jl,HC.out];rfl,HB2⟩
    | true =>
     have HC:Hid (Em x=true):=by show _=_;rw [HD3.out,h0]
     clear h0 HD3 HD;go_wp2_with fail;go_meet;exact ⟨by rw [Jl,HC.out,decide_eq_false (by omega)];rfl,HB2⟩
 case rest =>
  obtain ⟨rfl,hbc⟩:=hcut;have HRC:=iH (Ab HR hbc.out HS);have HBC:=iH (HB.out.trans (hbc.out.mono HB.out.size));have HSC:Hid (w.heap.size<wc.heap.size):=lL HS hbc.out.size;clear hbc HR HB HS;have HBD:Hid (Jl x=!Em x):=rfl
  cases h3:Jl x with
  | true =>
   have HC:Hid (V=false):=by
    have h4:=HBD.out.symm.trans h3;show _=_
    rw [HD.out,show Em x=false from by simpa using h4];rfl
   clear h3 HD HD3;go_wp2_with fail;go_ret;exact ⟨Ac HC.out.symm,HBC⟩
  | false =>
  have HD2:Hid (V=x.likes.all Pc):=by
   have h4:=HBD.out.symm.trans h3;show _=_
   rw [HD.out,show Em x=true from by simpa using h4];rfl
  clear h3 HD HD3;go_wp2_with fail;go_loopw [3] (fun i wr=>∃ k:Nat,k≤x.likes.length∧i=.int .i64 k∧Hid (∀ j y,j<k→x.likes[j]?=some y→Pc y=true)∧wr.cell? ⟨w.heap.size,7,none⟩=some (.slice a7 x.likes.length c7)∧Hid (w.heap.size<wr.heap.size)∧Hid (Below w.heap.size w wr)) (fun i _=>x.likes.length - (intOf i).toNat)
  case atStart=>exact ⟨0,zL,rfl,fun j y h=>absurd h (Nat.not_lt_zero _),HRC 7 _ rfl,HSC,HBC⟩
  case round =>
   clear HRC HSC HBC;obtain ⟨k,hk,rfl,ho,hcell,hsz,hbel⟩:=hrel;by_cases hlt:k<x.likes.length
   ·obtain ⟨y,hy⟩:=gXe hlt
    obtain ⟨b,o,rfl,_,hbl,hc⟩:=(HI.out.below LikC.holds hbel.out nL).at hy;obtain ⟨q0,q1,z0⟩:=hc;simp only [Nat.add_zero] at q0 q1;have HX:=iH hy;have HZ:=iH z0;have bad:Hid (Pc y=false→V=false):=fun h=>by rw [HD2.out];exact List.all_eq_false.mpr ⟨y,List.mem_of_getElem? HX,by simp [h]⟩
    have HSL:Hid (Pc y=(decide (Aw y.select=0) && inB y.weight (-9) 9)):=rfl;clear hy z0;go_wp2_with fail;refine (Nt _ _ HZ).mono ?_;rintro e w5 ⟨rfl,hb5⟩;have HB5:=qTH hbel hb5;have HS5:Hid (w.heap.size<w5.heap.size):=lL hsz.out hb5.size;have c5:w5.cell? ⟨w.heap.size,7,none⟩=some (.slice (some ⟨b,o,none⟩) x.likes.length c7):=(hb5.cell (p:=⟨w.heap.size,7,none⟩) hsz.out).trans hcell;have r1:w5.cell? ⟨b,o+k*2+1,none⟩=some (.int .i64 y.weight):=(hb5.cell (p:=⟨b,o+k*2+1,none⟩) hbl).trans q1;clear hb5 q0 q1 hcell hbel hsz
    cases h0:decide (Aw y.select=0) with
    | false =>
     have HC:Hid (V=false):=bad.out (by rw [HSL.out,h0];rfl);clear h0 bad HSL ho HD2;go_wp2_with fail;go_ret;exact ⟨Ac HC.out.symm,HB5⟩
    | true =>
    rw [h0,Bool.true_and] at HSL;clear h0;go_wp2_with fail;refine (Fe _ _ _ _).mono ?_;rintro e w6 ⟨rfl,rfl⟩;clear r1
    cases h0:inB y.weight (-9) 9 with
    | false =>
     have HC:Hid (V=false):=bad.out (by rw [HSL.out,h0]);clear h0 bad HSL ho HD2;go_wp2_with fail;go_ret;exact ⟨Ac HC.out.symm,HB5⟩
    | true =>
     have HO:Hid (∀ j z,j<k+1→x.likes[j]?=some z→Pc z=true):=by
      intro j z hj hz;by_cases e:j=k
      ·subst e
       rw [HX.out] at hz;cases hz
       rw [HSL.out,h0]
      ·exact ho.out j z (by omega) hz
     clear h0 bad HSL ho;go_wp2_with fail;go_roundw
     case rel=>exact ⟨k+1,by omega,by go_num,HO,c5,HS5,HB5⟩
     case measure=>simp [intOf];omega
   ·have hke:k=x.likes.length:=by omega
    have HC:Hid (V=true):=by
     show _=_
     rw [HD2.out];simp only [List.all_eq_true];intro y hy;obtain ⟨j,hj,e⟩:=List.mem_iff_getElem.mp hy;exact ho.out j y (by omega) (by rw [gE hj,e])
    clear ho HD2;go_wp2_with fail;go_ret;exact ⟨Ac HC.out.symm,hbel.out⟩
end Go.Proofs.YtjoeojhdkoidbaaGreat
namespace Go.Proofs.YtjoeojhdkoidbaaGreat
open Go.RowKit Go.WideMaps Go.Maps Tryz
theorem Dh (ns:List BA) (s:BA):∀ k,Ao ns s k=none↔∀ j,j<k→ns[j]?≠some s
 | 0=>by simp [Ao]
 | k+1=>by
  unfold Ao;by_cases h:ns[k]?=some s
  ·rw [if_pos h]
   constructor
   ·intro e;cases e
   ·intro e;exact absurd h (e k (by omega))
  ·rw [if_neg h,Dh ns s k]
   constructor
   ·intro e j hj
    by_cases hjk:j=k
    ·subst hjk;exact h
    ·exact e j (by omega)
   ·intro e j hj
    exact e j (by omega)
theorem Yw (bs:List Brt) (s:BA):Gi bs s<0↔Ao (bs.map (·.name)) s bs.length=none:=by
 rw [Dh];unfold Gi
 cases h:bs.findIdx? (fun b=>decide (b.name=s)) with
 | none =>
  rw [List.findIdx?_eq_none_iff] at h;constructor
  ·intro _ j hj e
   rw [List.getElem?_map,gE hj] at e;simp at e;have:=h bs[j] (List.getElem_mem hj);simp at this;exact this e
  ·intro _;decide
 | some k =>
  rw [List.findIdx?_eq_some_iff_getElem] at h;obtain ⟨hk,h1,_⟩:=h;constructor
  ·intro e
   simp at e;omega
  ·intro e
   refine absurd ?_ (e k hk);rw [List.getElem?_map,gE hk];simpa using h1
theorem Bh {s:BA} (h:s=⟨#[]⟩):s.toList=[]:=by
 rw [ByteArray.toList_eq,h]
theorem Az {s:BA} (h:¬ s=⟨#[]⟩):¬ s.toList=[]:=by
 intro e;rw [ByteArray.toList_eq] at e;apply h
 cases s with | mk x=>cases x;simp at e;simp [e]
def Fi (cs:List Cpy) (s:BA) (k:Nat):Int×Int:=if s=⟨#[]⟩ then (0,0) else (Au cs s (-1) k).2
theorem qA {cs:List Cpy} {s:BA} {k:Nat} {c:Cpy} (hs:¬ s=⟨#[]⟩) (hk:cs[k]?=some c) (h1:c.at_=s):Fi cs s (k+1)=(wrap64 ((Fi cs s k).1+c.room),wrap64 ((Fi cs s k).2+c.hold)):=by
 unfold Fi;rw [if_neg hs,if_neg hs,bH hk h1 (by omega)]
theorem Xh {cs:List Cpy} {s:BA} {k:Nat} {c:Cpy} (hk:cs[k]?=some c) (h:s=⟨#[]⟩∨¬ c.at_=s):Fi cs s (k+1)=Fi cs s k:=by
 unfold Fi;by_cases hs:s=⟨#[]⟩
 ·rw [if_pos hs,if_pos hs]
 ·rw [if_neg hs,if_neg hs,Wn hk (fun e=>by rcases h with h | h;exact hs h;exact h e.1)]
def Li (x:Flt) (s:BA):Int×Int:=if Gi x.berths s<0 then (0,0) else Fi x.copies s x.copies.length
theorem Zp (x:Flt) (a1:OA) (c1:Nat) (a2:OA) (c2:Nat) (a3:OA) (c3:Nat) (lo:Nat) (s:BA) (w:World) (n1:SliceC BrtC 6 lo w a1 x.berths) (n3:SliceC CpyC 12 lo w a3 x.copies) (l1:x.berths.length≤1048576) (l3:x.copies.length≤1048576) :
  Calls prog 54 #[.agg (ffA x a1 c1 a2 c2 a3 c3),.string s] w (Rt (.tuple #[.int .i64 (Li x s).1,.int .i64 (Li x s).2]) w):=by
 have HI:=iH n3;have HJ:=iH n1;clear n1 n3;have HU:Hid (Li x s=if Gi x.berths s<0 then (0,0) else Fi x.copies s x.copies.length):=rfl;generalize Li x s=U at *;go_enter func54,ntmps54;go_wp2_with fail;refine (Iu x a1 c1 a2 c2 a3 c3 lo s _ (HJ.out.below BrtC.holds (B:=w.heap.size) (by go_grown) nL) l1).mono ?_;rintro e w1 ⟨rfl,hb1⟩;have hB1:Below w.heap.size w w1:=(show Below w.heap.size w _ by go_grown).trans (hb1.mono (by simp));have k1:w1.cell? ⟨w.heap.size,3,none⟩=some (.slice a3 x.copies.length c3):=(hb1.cell (p:=⟨w.heap.size,3,none⟩) (by simp)).trans (by simp);clear hb1
 try unfold ffA
 generalize x.copies=cs at *;generalize Gi x.berths s=I at *;by_cases hI:I<0
 ·have HU2:Hid (U=(0,0)):=by rw [HU.out,if_pos hI];rfl
  go_wp2_with fail
  go_ret2
  exact ⟨by rw [HU2.out];rfl,hB1⟩
 ·have HU2:Hid (U=Fi cs s cs.length):=by rw [HU.out,if_neg hI];rfl
  have HSE:Hid (s=⟨#[]⟩∨¬ s=⟨#[]⟩):=Classical.em _;go_wp2_with fail;go_loopw [6,7,8] (fun r h i wr=>∃ k:Nat,k≤cs.length∧i=.int .i64 k∧r=.int .i64 (Fi cs s k).1∧h=.int .i64 (Fi cs s k).2∧wr.cell? ⟨w.heap.size,3,none⟩=some (.slice a3 cs.length c3)∧Below w.heap.size w wr) (fun _ _ i _=>cs.length - (intOf i).toNat)
  case atStart=>exact ⟨0,zL,rfl,by simp [Fi,Au],by simp [Fi,Au],k1,hB1⟩
  case round =>
   obtain ⟨k,hk,rfl,rfl,rfl,hcell,hbel⟩:=hrel;by_cases hlt:k<cs.length
   ·obtain ⟨x,hx⟩:=gXe hlt
    obtain ⟨b,o,rfl,_,_,hc⟩:=(HI.out.below CpyC.holds hbel nL).at hx;obtain ⟨a7,c7,q0,q1,q2,q3,q4,q5,q6,q7,q8,q9,q10,q11,_,_,_,_,_,_,_⟩:=hc;have HX:=iH hx;clear hx q0 q1 q2 q3 q6 q7 q8 q9 q10;rcases HSE.out with hs | hs
    ·have HV:Hid (Fi cs s (k+1)=Fi cs s k):=Xh HX (.inl hs)
     have hte:=Bh hs;have hte2:s.toList.isEmpty=true:=by rw [hte];rfl
     clear hs;go_wp2_with fail;go_roundw
     case rel=>exact ⟨k+1,by omega,by go_num,by rw [HV.out],by rw [HV.out],hcell,hbel⟩
     case measure=>simp [intOf];omega
    ·have hte:=Az hs
     have hte2:s.toList.isEmpty=false:=by
      cases h:s.toList with
      | nil=>exact absurd h hte
      | cons a l=>rfl
     by_cases h1:x.at_=s
     ·have HV:Hid (Fi cs s (k+1)=_):=qA hs HX h1
      have htf:=Bn h1;clear h1 hs;generalize hS:Fi cs s k=S at *;have HS:=iH hS;clear hS;go_wp2_with fail;go_roundw
      case rel=>exact ⟨k+1,by omega,by go_num,by rw [HV.out],by rw [HV.out],hcell,hbel⟩
      case measure=>simp [intOf];omega
     ·have HV:Hid (Fi cs s (k+1)=Fi cs s k):=Xh HX (.inr h1)
      have htf:=Br h1;clear h1 hs;go_wp2_with fail;go_roundw
      case rel=>exact ⟨k+1,by omega,by go_num,by rw [HV.out],by rw [HV.out],hcell,hbel⟩
      case measure=>simp [intOf];omega
   ·have hke:k=cs.length:=by omega
    subst hke;go_wp2_with fail
    go_ret2
    exact ⟨by rw [HU2.out];rfl,hbel⟩
end Go.Proofs.YtjoeojhdkoidbaaGreat
namespace Go.Proofs.YtjoeojhdkoidbaaGreat
open Go.RowKit Tryz
def Ig (ns:List BA):Nat→Bool
 | 0=>true
 | j+1=>match ns[j+1]?,ns[j]? with
  | some s,some t=>Op.bytesLess t.toList s.toList
  | _,_=>true
def Dz (f:Nat→Bool):Nat→Bool
 | 0=>true
 | k+1=>Dz f k && f k
theorem Ir {f:Nat→Bool} {k:Nat} (h:f k=false):∀ n,k<n→Dz f n=false
 | 0,hn=>absurd hn (Nat.not_lt_zero _)
 | n+1,hn=>by
  by_cases e:k=n
  ·subst e;simp only [Dz,h,Bool.and_false]
  ·simp only [Dz,Ir h n (by omega),Bool.false_and]
theorem Nh {f:Nat→Bool} {k:Nat} (h:Dz f k=true) (h':f k=true):Dz f (k+1)=true:=by
 simp only [Dz,h,h',Bool.and_self]
def Gm (x:Flt) (k:Nat):Bool:=match x.services[k]? with
 | some y=>P.nameOk y.name && (Ig (x.services.map (·.name)) k && inB y.spare 0 60)
 | none=>true
def Gg (x:Flt) (k:Nat):Bool:=match x.copies[k]? with
 | some y=>Rk y && (Ig (x.copies.map (·.name)) k && (!decide (Qg x.services y.service<0) && (decide (y.at_=⟨#[]⟩) || !decide (Gi x.berths y.at_<0))))
 | none=>true
def Fq (x:Flt) (k:Nat):Bool:=match x.berths[k]? with
 | some y=>Lt y && (Ig (x.berths.map (·.name)) k && (!decide (y.room<(Li x y.name).1) && (!decide (y.hold<(Li x y.name).2) && !decide (10<Gh x.copies y.name x.copies.length))))
 | none=>true
def Ze (x:Flt) (k:Nat):Bool:=!Gm x k
def Xs (x:Flt) (k:Nat):Bool:=!Gg x k
def Yi (x:Flt) (k:Nat):Bool:=!Fq x k
def Qj (x:Flt):Bool:=Dp x && (Dz (Gm x) x.services.length && (Dz (Gg x) x.copies.length && Dz (Fq x) x.berths.length))
theorem Qo {α:Type} {f:α→BA} {xs:List α} {j k:Nat} {y z:α} (hk:k=j+1) (hy:xs[k]?=some y) (hz:xs[j]?=some z):Ig (xs.map f) k=Op.bytesLess (f z).toList (f y).toList:=by
 subst hk;simp only [Ig,List.getElem?_map,hy,hz,Option.map_some]
theorem Kj {s:BA} (h:P.nameOk s=true):Cd s=-1:=by
 refine Zx (fun j hj e=>?_);unfold P.nameOk at h;rw [Bool.and_eq_true,List.all_eq_true] at h;have:=h.2 61 (List.mem_of_getElem? e);revert this
 decide
def Kv (ms:List BA) (nm:BA):Nat→Nat
 | 0=>0
 | j+1=>Kv ms nm j+(match ms[j]? with
  | some t=>if Ay t=nm then 1 else 0
  | none=>0)
theorem Qd {m:BA} (h:Ed m=true):P.nameOk (Ay m)=true:=by
 unfold Ed at h;rw [Bool.and_eq_true] at h;exact h.1
theorem eR {m nm:BA} (h:Ed m=true) (hn:P.nameOk nm=true) (r:List BA):Cm nm (Oy m++r)=Cm nm r+(if Ay m=nm then 1 else 0):=by
 unfold Oy;rw [if_pos h];by_cases hv:Cd m<0
 ·rw [if_pos hv]
  by_cases e:Ay m=nm
  ·rw [if_pos e];subst e;exact Kg _ _
  ·rw [if_neg e];exact Ha e _
 ·rw [if_neg hv]
  have hne:¬ m=nm:=by
   intro e;subst e;rw [Kj hn] at hv;exact hv (by decide)
  show Cm nm (m::Ay m::r)=_
  rw [Ha hne];by_cases e:Ay m=nm
  ·rw [if_pos e];subst e;exact Kg _ _
  ·rw [if_neg e];exact Ha e _
theorem Xw {ms:List BA} {nm:BA} (hn:P.nameOk nm=true) (hall:∀ (j:Nat) (t:BA),ms[j]?=some t→Ed t=true):∀ n,Cm nm (Cw ms n)=Kv ms nm n
 | 0=>rfl
 | n+1=>by
  cases h:ms[n]? with
  | none=>simp only [Cw,Kv,h,Nat.add_zero];exact Xw hn hall n
  | some t =>
   simp only [Cw,Kv,h];rw [eR (hall n t h) hn,Xw hn hall n]
theorem Ym (ms:List BA) (nm:BA):∀ n k,k≤n→Kv ms nm k≤Kv ms nm n
 | 0,k,h=>by rw [Nat.le_zero.1 h];exact Nat.le_refl _
 | n+1,k,h=>by
  by_cases e:k=n+1
  ·subst e;exact Nat.le_refl _
  ·refine lT (Ym ms nm n k (by omega)) ?_
   simp only [Kv];omega
theorem tR {ms:List BA} {nm s t:BA} {j k n:Nat} (hjk:j<k) (hkn:k<n) (hj:ms[j]?=some s) (hk:ms[k]?=some t) (es:Ay s=nm) (et:Ay t=nm):2≤Kv ms nm n:=by
 have h1:1≤Kv ms nm (j+1):=by simp only [Kv,hj,es,if_true];omega
 have h2:=Ym ms nm k (j+1) (by omega);have h3:Kv ms nm (k+1)=Kv ms nm k+1:=by simp only [Kv,hk,et,if_true]
 have h4:=Ym ms nm n (k+1) (by omega);omega
theorem nW {ms:List BA} {nm:BA} {k:Nat} (h:∀ j t,j≠k→ms[j]?=some t→Ay t≠nm):∀ n,Kv ms nm n≤if k<n then 1 else 0
 | 0=>by simp [Kv]
 | n+1=>by
  have ih:=nW h n;simp only [Kv]
  cases hm:ms[n]? with
  | none =>
   show Kv ms nm n+0≤_
   split at ih <;> split <;> omega
  | some t =>
   show Kv ms nm n+(if Ay t=nm then 1 else 0)≤_
   by_cases e:n=k
   ·subst e
    rw [if_neg (Nat.lt_irrefl _)] at ih;rw [if_pos (Nat.lt_succ_self _)]
    split <;> omega
   ·rw [if_neg (h n t e hm)]
    split at ih <;> split <;> omega
theorem Jh {ms:List BA} {nm:BA}:∀ k,Da ms nm k=true↔∀ j t,j<k→ms[j]?=some t→Ay t≠nm
 | 0=>by simp [Da]
 | k+1=>by
  have ih:=Jh (ms:=ms) (nm:=nm) k;simp only [Da,Bool.and_eq_true,ih];constructor
  ·rintro ⟨h1,h2⟩ j t hj ht
   by_cases e:j=k
   ·subst e
    rw [ht] at h2;simpa using h2
   ·exact h1 j t (by omega) ht
  ·intro h
   refine ⟨fun j t hj ht=>h j t (by omega) ht,?_⟩
   cases hm:ms[k]? with
   | none=>rfl
   | some t=>simpa using h k t (by omega) hm
theorem aU {ms:List BA}:∀ n,Na ms n=true↔∀ k,k<n→Nj ms k=true
 | 0=>by simp [Na]
 | n+1=>by
  simp only [Na,Bool.and_eq_true,aU n];constructor
  ·rintro ⟨h1,h2⟩ k hk
   by_cases e:k=n
   ·subst e;exact h2
   ·exact h1 k (by omega)
  ·intro h
   exact ⟨fun k hk=>h k (by omega),h n (by omega)⟩
theorem bO {ms:List BA}:∀ n,Nu ms n=true↔∀ k,k<n→Ku ms k=true
 | 0=>by simp [Nu]
 | n+1=>by
  simp only [Nu,Bool.and_eq_true,bO n];constructor
  ·rintro ⟨h1,h2⟩ k hk
   by_cases e:k=n
   ·subst e;exact h2
   ·exact h1 k (by omega)
  ·intro h
   exact ⟨fun k hk=>h k (by omega),h n (by omega)⟩
def uV (ms:List BA) (k:Nat):Prop:=∀ j m t,k=j+1→ms[k]?=some m→ms[j]?=some t→Op.bytesLess t.toList m.toList=true
theorem Ud {ms:List BA} {k:Nat} {m:BA} (hk:ms[k]?=some m):Nj ms k=true↔Ed m=true∧uV ms k∧Cm (Ay m) (Cw ms ms.length)≤1:=by
 cases k with
 | zero =>
  simp only [Nj,hk,Bool.and_eq_true,decide_eq_true_eq];constructor
  ·rintro ⟨h1,h2⟩
   exact ⟨h1,fun j _ _ h=>by omega,h2⟩
  ·rintro ⟨h1,_,h2⟩
   exact ⟨h1,h2⟩
 | succ j =>
  have hlt:j+1<ms.length:=(List.getElem?_eq_some_iff.mp hk).1;have ht:ms[j]?=some ms[j]:=gE (by omega);simp only [Nj,hk,ht,Bool.and_eq_true,decide_eq_true_eq];constructor
  ·rintro ⟨⟨h1,h2⟩,h3⟩
   refine ⟨h1,fun i a b hi ha hb=>?_,h3⟩;have:i=j:=by omega
   subst this;rw [hk] at ha;rw [ht] at hb;cases ha
   cases hb
   exact h2
  ·rintro ⟨h1,h2,h3⟩
   exact ⟨⟨h1,h2 j m ms[j] rfl hk ht⟩,h3⟩
theorem Ox {ms:List BA} {k:Nat} {m:BA} (hk:ms[k]?=some m):Ku ms k=true↔Ed m=true∧uV ms k∧Da ms (Ay m) k=true:=by
 cases k with
 | zero =>
  simp only [Ku,hk,Da];constructor
  ·intro h1
   exact ⟨h1,fun j _ _ h=>by omega,trivial⟩
  ·rintro ⟨h1,_,_⟩
   exact h1
 | succ j =>
  have hlt:j+1<ms.length:=(List.getElem?_eq_some_iff.mp hk).1;have ht:ms[j]?=some ms[j]:=gE (by omega);simp only [Ku,hk,ht,Bool.and_eq_true];constructor
  ·rintro ⟨⟨⟨h1,h2⟩,_⟩,h3⟩
   refine ⟨h1,fun i a b hi ha hb=>?_,h3⟩;have:i=j:=by omega
   subst this;rw [hk] at ha;rw [ht] at hb;cases ha
   cases hb
   exact h2
  ·rintro ⟨h1,h2,h3⟩
   refine ⟨⟨⟨h1,h2 j m ms[j] rfl hk ht⟩,?_⟩,h3⟩;have:=(Jh _).1 h3 j ms[j] (by omega) ht;simpa using fun e=>this e.symm
theorem pZ (ms:List BA):Hw ms=Nm ms:=by
 unfold Hw Nm
 congr 1
 rw [Bool.eq_iff_iff,aU,bO];have get:∀ k,k<ms.length→∃ m,ms[k]?=some m:=fun k hk=>⟨ms[k],gE hk⟩
 constructor
 ·intro h k hk
  obtain ⟨m,hm⟩:=get k hk;have hall:∀ (j:Nat) (t:BA),ms[j]?=some t→Ed t=true:=fun j t ht=>((Ud ht).1 (h j (List.getElem?_eq_some_iff.mp ht).1)).1
  obtain ⟨h1,h2,h3⟩:=(Ud hm).1 (h k hk);refine (Ox hm).2 ⟨h1,h2,(Jh _).2 fun j t hj ht e=>?_⟩;rw [Xw (Qd h1) hall] at h3;have:=tR hj hk ht hm e rfl;omega
 ·intro h k hk
  obtain ⟨m,hm⟩:=get k hk;have hall:∀ (j:Nat) (t:BA),ms[j]?=some t→Ed t=true:=fun j t ht=>((Ox ht).1 (h j (List.getElem?_eq_some_iff.mp ht).1)).1
  obtain ⟨h1,h2,h3⟩:=(Ox hm).1 (h k hk);refine (Ud hm).2 ⟨h1,h2,?_⟩;rw [Xw (Qd h1) hall];refine lT (nW (k:=k) (fun j t hjk ht e=>?_) _) (by split <;> omega);rcases Nat.lt_or_gt_of_ne hjk with hl | hg
  ·exact (Jh _).1 h3 j t hl ht e
  ·have hj:j<ms.length:=(List.getElem?_eq_some_iff.mp ht).1
   exact (Jh _).1 ((Ox ht).1 (h j hj)).2.2 k m hg hm e.symm
end Go.Proofs.YtjoeojhdkoidbaaGreat
