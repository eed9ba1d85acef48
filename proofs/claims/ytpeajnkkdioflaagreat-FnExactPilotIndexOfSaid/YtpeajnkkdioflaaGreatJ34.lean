import Derived.Test.YtpeajnkkdioflaaGreatJ33
set_option maxHeartbeats 4000000
set_option maxRecDepth 100000
namespace Go.Proofs.YtpeajnkkdioflaaGreat
open Go.RowKit
def Lc (l:Lik):Bool:=decide (Ay l.select=0) && inB l.weight (-9) 9
def Cz (x:Cpy):Bool:=decide (Ay x.select=0) && (decide (x.likes.length≤5) && (inB x.apart 0 2 && (Bm x.near && Bm x.fixed)))
def Hm (x:Cpy):Bool:=!Cz x
def Mv (x:Cpy):Bool:=P.nameOk x.name && (P.nameOk x.service && (inB x.rank 0 100 && (inB x.born 0 1000000 && (inB x.room 0 1000 && (inB x.hold 0 1000 && (Cz x && x.likes.all Lc))))))
theorem Pg {s:ByteArray} (h:s=⟨#[]⟩):Bm s=true:=by subst h;rfl
theorem Tm {s:ByteArray} (h:¬ s=⟨#[]⟩):Bm s=P.nameOk s:=by
 have:s.size≠0:=fun e=>h (ByteArray.ext (Array.eq_empty_of_size_eq_zero e))
 simp [Bm,this]
theorem Mf {s:ByteArray} (h:s=⟨#[]⟩):s.toList=[]:=by rw [ByteArray.toList_eq,h]
theorem Rg {s:ByteArray} (h:¬ s=⟨#[]⟩):¬ s.toList=[]:=by
 rw [ByteArray.toList_eq];exact fun e=>h (by cases s with | mk x=>cases x;simp at e;simp [e])
theorem Pe {s:ByteArray} (h:s=⟨#[]⟩):s.toList.isEmpty=true:=by rw [Mf h];rfl
theorem Ug {s:ByteArray} (h:¬ s=⟨#[]⟩):s.toList.isEmpty=false:=by simpa using Rg h
theorem Wf (x:Cpy) (a7:Option Addr) (c7 lo:Nat) (w:World) (z0:x.name.size≤maxLen) (z1:x.service.size≤maxLen) (z6:x.select.size≤maxLen) (hin:SliceC LikC 2 lo w a7 x.likes) (z9:x.near.size≤maxLen) (z10:x.fixed.size≤maxLen) :
  Calls Tryz.prog 44 #[.agg #[.string x.name,.string x.service,.int .i64 x.rank,.int .i64 x.born,.int .i64 x.room,.int .i64 x.hold,.string x.select,.slice a7 x.likes.length c7,.int .i64 x.apart,.string x.near,.string x.fixed,.string x.at_]] w fun e w'=>e=.returned (.bool (Mv x))∧Below w.heap.size w w':=by
 have HI:Hid (SliceC LikC 2 lo w a7 x.likes):=hin;have Z0:Hid (x.name.size≤maxLen):=z0;have Z1:Hid (x.service.size≤maxLen):=z1;have Z6:Hid (x.select.size≤maxLen):=z6;have Z9:Hid (x.near.size≤maxLen):=z9;have Z10:Hid (x.fixed.size≤maxLen):=z10;have hlen:=hin.1;unfold maxLen at hlen;have HD:Hid (Mv x=(P.nameOk x.name && (P.nameOk x.service && (inB x.rank 0 100 && (inB x.born 0 1000000 && (inB x.room 0 1000 && (inB x.hold 0 1000 && (Cz x && x.likes.all Lc)))))))):=rfl;clear hin z0 z1 z6 z9 z10;generalize Mv x=V at *;go_enter Tryz.func44,Tryz.ntmps44;go_wp2_with fail;have HR:Hid ((w.alloc (Obj.cells #[.string x.name,.string x.service,.int .i64 x.rank,.int .i64 x.born,.int .i64 x.room,.int .i64 x.hold,.string x.select,.slice a7 x.likes.length c7,.int .i64 x.apart,.string x.near,.string x.fixed,.string x.at_] 83)).rangeAt w.heap.size 0 [.string x.name,.string x.service,.int .i64 x.rank,.int .i64 x.born,.int .i64 x.room,.int .i64 x.hold,.string x.select,.slice a7 x.likes.length c7,.int .i64 x.apart,.string x.near,.string x.fixed,.string x.at_]):=Aa (by simp) (Aa (by simp) (Aa (by simp) (Aa (by simp) (Aa (by simp) (Aa (by simp) (Aa (by simp) (Aa (by simp) (Aa (by simp) (Aa (by simp) (Aa (by simp) (Aa (by simp) (Aj _ _ _))))))))))));have HB:Hid (Below w.heap.size w (w.alloc (Obj.cells #[.string x.name,.string x.service,.int .i64 x.rank,.int .i64 x.born,.int .i64 x.room,.int .i64 x.hold,.string x.select,.slice a7 x.likes.length c7,.int .i64 x.apart,.string x.near,.string x.fixed,.string x.at_] 83))):=(Below.refl _ _).alloc nL _;have HS:Hid (w.heap.size<(w.alloc (Obj.cells #[.string x.name,.string x.service,.int .i64 x.rank,.int .i64 x.born,.int .i64 x.room,.int .i64 x.hold,.string x.select,.slice a7 x.likes.length c7,.int .i64 x.apart,.string x.near,.string x.fixed,.string x.at_] 83)).heap.size):=by show _<_;simp
 generalize w.alloc (Obj.cells #[.string x.name,.string x.service,.int .i64 x.rank,.int .i64 x.born,.int .i64 x.room,.int .i64 x.hold,.string x.select,.slice a7 x.likes.length c7,.int .i64 x.apart,.string x.near,.string x.fixed,.string x.at_] 83)=w0 at *;refine (Be _ _ Z0.out).mono ?_;rintro e w1 ⟨rfl,rfl⟩
 cases h0:P.nameOk x.name with
 | false =>
  have HC:Hid (V=false):=by show _=_;rw [HD.out,h0];rfl
  clear h0 HD;go_wp2_with fail;go_ret;exact ⟨Ae HC.out.symm,HB.out⟩
 | true =>
 rw [h0,Bool.true_and] at HD;clear h0;have e0:w1.cell? ⟨w.heap.size,1,none⟩=some (.string x.service):=HR.out 1 _ rfl;go_wp2_with fail;clear e0;refine (Be _ _ Z1.out).mono ?_;rintro e w1 ⟨rfl,rfl⟩
 cases h0:P.nameOk x.service with
 | false =>
  have HC:Hid (V=false):=by show _=_;rw [HD.out,h0];rfl
  clear h0 HD;go_wp2_with fail;go_ret;exact ⟨Ae HC.out.symm,HB.out⟩
 | true =>
 rw [h0,Bool.true_and] at HD;clear h0;have e0:w1.cell? ⟨w.heap.size,2,none⟩=some (.int .i64 x.rank):=HR.out 2 _ rfl;go_wp2_with fail;clear e0;refine (Dr _ _ _ _).mono ?_;rintro e w1 ⟨rfl,rfl⟩
 cases h0:inB x.rank 0 100 with
 | false =>
  have HC:Hid (V=false):=by show _=_;rw [HD.out,h0];rfl
  clear h0 HD;go_wp2_with fail;go_ret;exact ⟨Ae HC.out.symm,HB.out⟩
 | true =>
 rw [h0,Bool.true_and] at HD;clear h0;have e0:w1.cell? ⟨w.heap.size,3,none⟩=some (.int .i64 x.born):=HR.out 3 _ rfl;go_wp2_with fail;clear e0;refine (Dr _ _ _ _).mono ?_;rintro e w1 ⟨rfl,rfl⟩
 cases h0:inB x.born 0 1000000 with
 | false =>
  have HC:Hid (V=false):=by show _=_;rw [HD.out,h0];rfl
  clear h0 HD;go_wp2_with fail;go_ret;exact ⟨Ae HC.out.symm,HB.out⟩
 | true =>
 rw [h0,Bool.true_and] at HD;clear h0;have e0:w1.cell? ⟨w.heap.size,4,none⟩=some (.int .i64 x.room):=HR.out 4 _ rfl;go_wp2_with fail;clear e0;refine (Dr _ _ _ _).mono ?_;rintro e w1 ⟨rfl,rfl⟩
 cases h0:inB x.room 0 1000 with
 | false =>
  have HC:Hid (V=false):=by show _=_;rw [HD.out,h0];rfl
  clear h0 HD;go_wp2_with fail;go_ret;exact ⟨Ae HC.out.symm,HB.out⟩
 | true =>
 rw [h0,Bool.true_and] at HD;clear h0;have e0:w1.cell? ⟨w.heap.size,5,none⟩=some (.int .i64 x.hold):=HR.out 5 _ rfl;go_wp2_with fail;clear e0;refine (Dr _ _ _ _).mono ?_;rintro e w1 ⟨rfl,rfl⟩
 cases h0:inB x.hold 0 1000 with
 | false =>
  have HC:Hid (V=false):=by show _=_;rw [HD.out,h0];rfl
  clear h0 HD;go_wp2_with fail;go_ret;exact ⟨Ae HC.out.symm,HB.out⟩
 | true =>
 rw [h0,Bool.true_and] at HD;clear h0;have HD3:Hid (Cz x=(decide (Ay x.select=0) && (decide (x.likes.length≤5) && (inB x.apart 0 2 && (Bm x.near && Bm x.fixed))))):=rfl;go_upto_region 3 with fail
 go_cut [75] (fun c wx=>c=.bool (Hm x)∧Hid (Below w1.heap.size w1 wx))
 case first =>
  have e6:w1.cell? ⟨w.heap.size,6,none⟩=some (.string x.select):=HR.out 6 _ rfl;go_wp2_with fail;clear e6;refine (Lk _ _ Z6.out).mono ?_;rintro e w2 ⟨rfl,hb⟩;have HR2:Hid (w2.rangeAt w.heap.size 0 [.string x.name,.string x.service,.int .i64 x.rank,.int .i64 x.born,.int .i64 x.room,.int .i64 x.hold,.string x.select,.slice a7 x.likes.length c7,.int .i64 x.apart,.string x.near,.string x.fixed,.string x.at_]):=Ac HR.out hb HS.out;have HB2:Hid (Below w1.heap.size w1 w2):=hb;clear hb
  cases h0:decide (Ay x.select=0) with
  | false =>
   have HC:Hid (Cz x=false):=by show _=_;rw [HD3.out,h0];rfl
   clear h0 HD3 HD;go_wp2_with fail;go_meet;exact ⟨by rw [Hm,HC.out];rfl,HB2⟩
  | true =>
  rw [h0,Bool.true_and] at HD3;clear h0;have e7:w2.cell? ⟨w.heap.size,7,none⟩=some (.slice a7 x.likes.length c7):=HR2.out 7 _ rfl;by_cases hl5:x.likes.length≤5
  rotate_left
  ·have HC:Hid (Cz x=false):=by show _=_;rw [HD3.out,decide_eq_false hl5];rfl
   clear HD3 HD;go_wp2_with fail;go_meet;exact ⟨by rw [Hm,HC.out];rfl,HB2⟩
  rw [decide_eq_true hl5,Bool.true_and] at HD3;have e8:w2.cell? ⟨w.heap.size,8,none⟩=some (.int .i64 x.apart):=HR2.out 8 _ rfl;go_wp2_with fail;refine (Dr _ _ _ _).mono ?_;rintro e w3 ⟨rfl,rfl⟩;clear e7 e8
  cases h0:inB x.apart 0 2 with
  | false =>
   have HC:Hid (Cz x=false):=by show _=_;rw [HD3.out,h0];rfl
   clear h0 HD3 HD;go_wp2_with fail;go_meet;exact ⟨by rw [Hm,HC.out];rfl,HB2⟩
  | true =>
  rw [h0,Bool.true_and] at HD3;clear h0;have e9:w3.cell? ⟨w.heap.size,9,none⟩=some (.string x.near):=HR2.out 9 _ rfl;have e10:w3.cell? ⟨w.heap.size,10,none⟩=some (.string x.fixed):=HR2.out 10 _ rfl;by_cases hn:x.near=⟨#[]⟩
  ·have htn:=Mf hn
   have htn2:=Pe hn;rw [Pg hn,Bool.true_and] at HD3;clear hn;by_cases hf:x.fixed=⟨#[]⟩
   ·have HC:Hid (Cz x=true):=by show _=_;rw [HD3.out,Pg hf]
    have hte:=Mf hf;have hte2:=Pe hf;clear hf HD3 HD;go_wp2_with fail;go_meet;exact ⟨by rw [Hm,HC.out,decide_eq_false (by omega)];rfl,HB2⟩
   ·have hte:=Rg hf
    have hte2:=Ug hf;rw [Tm hf] at HD3;clear hf;go_wp2_with fail;refine (Be _ _ Z10.out).mono ?_;rintro e w4 ⟨rfl,rfl⟩
    cases h0:P.nameOk x.fixed with
    | false =>
     have HC:Hid (Cz x=false):=by show _=_;rw [HD3.out,h0]
     clear h0 HD3 HD;go_wp2_with fail;go_meet;exact ⟨by rw [Hm,HC.out];rfl,HB2⟩
    | true =>
     have HC:Hid (Cz x=true):=by show _=_;rw [HD3.out,h0]
     clear h0 HD3 HD;go_wp2_with fail;go_meet;exact ⟨by rw [Hm,HC.out,decide_eq_false (by omega)];rfl,HB2⟩
  ·have htn:=Rg hn
   have htn2:=Ug hn;rw [Tm hn] at HD3;clear hn;go_wp2_with fail;refine (Be _ _ Z9.out).mono ?_;rintro e w4 ⟨rfl,rfl⟩
   cases h0:P.nameOk x.near with
   | false =>
    have HC:Hid (Cz x=false):=by show _=_;rw [HD3.out,h0];rfl
    clear h0 HD3 HD;go_wp2_with fail;go_meet;exact ⟨by rw [Hm,HC.out];rfl,HB2⟩
   | true =>
   rw [h0,Bool.true_and] at HD3;clear h0;by_cases hf:x.fixed=⟨#[]⟩
   ·have HC:Hid (Cz x=true):=by show _=_;rw [HD3.out,Pg hf]
    have hte:=Mf hf;have hte2:=Pe hf;clear hf HD3 HD;go_wp2_with fail;go_meet;exact ⟨by rw [Hm,HC.out,decide_eq_false (by omega)];rfl,HB2⟩
   ·have hte:=Rg hf
    have hte2:=Ug hf;rw [Tm hf] at HD3;clear hf;go_wp2_with fail;refine (Be _ _ Z10.out).mono ?_;rintro e w4 ⟨rfl,rfl⟩
    cases h0:P.nameOk x.fixed with
    | false =>
     have HC:Hid (Cz x=false):=by show _=_;rw [HD3.out,h0]
     clear h0 HD3 HD;go_wp2_with fail;go_meet;exact ⟨by rw [Hm,HC.out];rfl,HB2⟩
    | true =>
     have HC:Hid (Cz x=true):=by show _=_;rw [HD3.out,h0]
     clear h0 HD3 HD;go_wp2_with fail;go_meet;exact ⟨by rw [Hm,HC.out,decide_eq_false (by omega)];rfl,HB2⟩
 case rest =>
  obtain ⟨rfl,hbc⟩:=hcut;have HRC:Hid (wc.rangeAt w.heap.size 0 [.string x.name,.string x.service,.int .i64 x.rank,.int .i64 x.born,.int .i64 x.room,.int .i64 x.hold,.string x.select,.slice a7 x.likes.length c7,.int .i64 x.apart,.string x.near,.string x.fixed,.string x.at_]):=Ac HR.out hbc.out HS.out;have HBC:Hid (Below w.heap.size w wc):=HB.out.trans (hbc.out.mono HB.out.size);have HSC:Hid (w.heap.size<wc.heap.size):=Nat.lt_of_lt_of_le HS.out hbc.out.size;clear hbc HR HB HS;have HBD:Hid (Hm x=!Cz x):=rfl
  cases h3:Hm x with
  | true =>
   have HC:Hid (V=false):=by
    have h4:=HBD.out.symm.trans h3;show _=_
    rw [HD.out,show Cz x=false from by simpa using h4];rfl
   clear h3 HD HD3;go_wp2_with fail;go_ret;exact ⟨Ae HC.out.symm,HBC.out⟩
  | false =>
  have HD2:Hid (V=x.likes.all Lc):=by
   have h4:=HBD.out.symm.trans h3;show _=_
   rw [HD.out,show Cz x=true from by simpa using h4];rfl
  clear h3 HD HD3;go_wp2_with fail;go_loopw [3] (fun i wr=>∃ k:Nat,k≤x.likes.length∧i=.int .i64 k∧Hid (∀ j y,j<k→x.likes[j]?=some y→Lc y=true)∧wr.cell? ⟨w.heap.size,7,none⟩=some (.slice a7 x.likes.length c7)∧Hid (w.heap.size<wr.heap.size)∧Hid (Below w.heap.size w wr)) (fun i _=>x.likes.length - (intOf i).toNat)
  case atStart=>exact ⟨0,Nat.zero_le _,rfl,fun j y h=>absurd h (Nat.not_lt_zero _),HRC.out 7 _ rfl,HSC,HBC⟩
  case round =>
   clear HRC HSC HBC;obtain ⟨k,hk,rfl,ho,hcell,hsz,hbel⟩:=hrel;by_cases hlt:k<x.likes.length
   ·obtain ⟨y,hy⟩:∃ y,x.likes[k]?=some y:=⟨x.likes[k],List.getElem?_eq_getElem hlt⟩
    obtain ⟨b,o,rfl,_,hbl,hc⟩:=(HI.out.below LikC.holds hbel.out nL).at hy;obtain ⟨q0,q1,z0⟩:=hc;simp only [Nat.add_zero] at q0 q1;have HX:Hid (x.likes[k]?=some y):=hy;have HZ:Hid (y.select.size≤maxLen):=z0;have bad:Hid (Lc y=false→V=false):=fun h=>by rw [HD2.out];exact List.all_eq_false.mpr ⟨y,List.mem_of_getElem? HX.out,by simp [h]⟩
    have HSL:Hid (Lc y=(decide (Ay y.select=0) && inB y.weight (-9) 9)):=rfl;clear hy z0;go_wp2_with fail;refine (Lk _ _ HZ.out).mono ?_;rintro e w5 ⟨rfl,hb5⟩;have HB5:Hid (Below w.heap.size w w5):=hbel.out.trans (hb5.mono hbel.out.size);have HS5:Hid (w.heap.size<w5.heap.size):=Nat.lt_of_lt_of_le hsz.out hb5.size;have c5:w5.cell? ⟨w.heap.size,7,none⟩=some (.slice (some ⟨b,o,none⟩) x.likes.length c7):=(hb5.cell (p:=⟨w.heap.size,7,none⟩) hsz.out).trans hcell;have r1:w5.cell? ⟨b,o+k*2+1,none⟩=some (.int .i64 y.weight):=(hb5.cell (p:=⟨b,o+k*2+1,none⟩) hbl).trans q1;clear hb5 q0 q1 hcell hbel hsz
    cases h0:decide (Ay y.select=0) with
    | false =>
     have HC:Hid (V=false):=bad.out (by rw [HSL.out,h0];rfl);clear h0 bad HSL ho HD2;go_wp2_with fail;go_ret;exact ⟨Ae HC.out.symm,HB5.out⟩
    | true =>
    rw [h0,Bool.true_and] at HSL;clear h0;go_wp2_with fail;refine (Dr _ _ _ _).mono ?_;rintro e w6 ⟨rfl,rfl⟩;clear r1
    cases h0:inB y.weight (-9) 9 with
    | false =>
     have HC:Hid (V=false):=bad.out (by rw [HSL.out,h0]);clear h0 bad HSL ho HD2;go_wp2_with fail;go_ret;exact ⟨Ae HC.out.symm,HB5.out⟩
    | true =>
     have HO:Hid (∀ j z,j<k+1→x.likes[j]?=some z→Lc z=true):=by
      intro j z hj hz;by_cases e:j=k
      ·subst e
       rw [HX.out] at hz;cases hz
       rw [HSL.out,h0]
      ·exact ho.out j z (by omega) hz
     clear h0 bad HSL ho;go_wp2_with fail;go_roundw
     case rel=>exact ⟨k+1,by omega,by go_num,HO,c5,HS5,HB5⟩
     case measure=>simp [intOf];omega
   ·have hke:k=x.likes.length:=by omega
    have HC:Hid (V=true):=by
     show _=_
     rw [HD2.out];simp only [List.all_eq_true];intro y hy;obtain ⟨j,hj,e⟩:=List.mem_iff_getElem.mp hy;exact ho.out j y (by omega) (by rw [List.getElem?_eq_getElem hj,e])
    clear ho HD2;go_wp2_with fail;go_ret;exact ⟨Ae HC.out.symm,hbel.out⟩
end Go.Proofs.YtpeajnkkdioflaaGreat
namespace Go.Proofs.YtpeajnkkdioflaaGreat
open Go.RowKit Go.WideMaps Go.Maps
theorem Cv (ns:List ByteArray) (s:ByteArray):∀ k,Ba ns s k=none↔∀ j,j<k→ns[j]?≠some s
 | 0=>by simp [Ba]
 | k+1=>by
  unfold Ba;by_cases h:ns[k]?=some s
  ·rw [if_pos h]
   constructor
   ·intro e;cases e
   ·intro e;exact absurd h (e k (by omega))
  ·rw [if_neg h,Cv ns s k]
   constructor
   ·intro e j hj
    by_cases hjk:j=k
    ·subst hjk;exact h
    ·exact e j (by omega)
   ·intro e j hj
    exact e j (by omega)
theorem Nv (bs:List Brt) (s:ByteArray):Ez bs s<0↔Ba (bs.map (·.name)) s bs.length=none:=by
 rw [Cv];unfold Ez
 cases h:bs.findIdx? (fun b=>decide (b.name=s)) with
 | none =>
  rw [List.findIdx?_eq_none_iff] at h;constructor
  ·intro _ j hj e
   rw [List.getElem?_map,List.getElem?_eq_getElem hj] at e;simp at e;have:=h bs[j] (List.getElem_mem hj);simp at this;exact this e
  ·intro _;decide
 | some k =>
  rw [List.findIdx?_eq_some_iff_getElem] at h;obtain ⟨hk,h1,_⟩:=h;constructor
  ·intro e
   simp at e;omega
  ·intro e
   refine absurd ?_ (e k hk);rw [List.getElem?_map,List.getElem?_eq_getElem hk];simpa using h1
theorem Fz {s:ByteArray} (h:s=⟨#[]⟩):s.toList=[]:=by
 rw [ByteArray.toList_eq,h]
theorem Dy {s:ByteArray} (h:¬ s=⟨#[]⟩):¬ s.toList=[]:=by
 intro e;rw [ByteArray.toList_eq] at e;apply h
 cases s with | mk x=>cases x;simp at e;simp [e]
def De (cs:List Cpy) (s:ByteArray) (k:Nat):Int×Int:=if s=⟨#[]⟩ then (0,0) else (Aq cs s (-1) k).2
theorem gE {cs:List Cpy} {s:ByteArray} {k:Nat} {c:Cpy} (hs:¬ s=⟨#[]⟩) (hk:cs[k]?=some c) (h1:c.at_=s):De cs s (k+1)=(wrap64 ((De cs s k).1+c.room),wrap64 ((De cs s k).2+c.hold)):=by
 unfold De;rw [if_neg hs,if_neg hs,Kx hk h1 (by omega)]
theorem Rs {cs:List Cpy} {s:ByteArray} {k:Nat} {c:Cpy} (hk:cs[k]?=some c) (h:s=⟨#[]⟩∨¬ c.at_=s):De cs s (k+1)=De cs s k:=by
 unfold De;by_cases hs:s=⟨#[]⟩
 ·rw [if_pos hs,if_pos hs]
 ·rw [if_neg hs,if_neg hs,He hk (fun e=>by rcases h with h | h;exact hs h;exact h e.1)]
def Gl (x:Flt) (s:ByteArray):Int×Int:=if Ez x.berths s<0 then (0,0) else De x.copies s x.copies.length
theorem Lm (x:Flt) (a1:Option Addr) (c1:Nat) (a2:Option Addr) (c2:Nat) (a3:Option Addr) (c3:Nat) (lo:Nat) (s:ByteArray) (w:World) (n1:SliceC BrtC 6 lo w a1 x.berths) (n3:SliceC CpyC 12 lo w a3 x.copies) (l1:x.berths.length≤1048576) (l3:x.copies.length≤1048576) :
  Calls Tryz.prog 47 #[.agg #[.bool x.pack,.slice a1 x.berths.length c1,.slice a2 x.services.length c2,.slice a3 x.copies.length c3],.string s] w fun e w'=>e=.returned (.tuple #[.int .i64 (Gl x s).1,.int .i64 (Gl x s).2])∧Below w.heap.size w w':=by
 have HI:Hid (SliceC CpyC 12 lo w a3 x.copies):=n3;have HJ:Hid (SliceC BrtC 6 lo w a1 x.berths):=n1;clear n1 n3;have HU:Hid (Gl x s=if Ez x.berths s<0 then (0,0) else De x.copies s x.copies.length):=rfl;generalize Gl x s=U at *;go_enter Tryz.func47,Tryz.ntmps47;go_wp2_with fail;refine (Iq x a1 c1 a2 c2 a3 c3 lo s _ (HJ.out.below BrtC.holds (B:=w.heap.size) (by go_grown) nL) l1).mono ?_;rintro e w1 ⟨rfl,hb1⟩;have hB1:Below w.heap.size w w1:=(show Below w.heap.size w _ by go_grown).trans (hb1.mono (by simp));have k1:w1.cell? ⟨w.heap.size,3,none⟩=some (.slice a3 x.copies.length c3):=(hb1.cell (p:=⟨w.heap.size,3,none⟩) (by simp)).trans (by simp);clear hb1;generalize x.copies=cs at *;generalize Ez x.berths s=I at *;by_cases hI:I<0
 ·have HU2:Hid (U=(0,0)):=by rw [HU.out,if_pos hI];rfl
  go_wp2_with fail
  go_ret2
  exact ⟨by rw [HU2.out];rfl,hB1⟩
 ·have HU2:Hid (U=De cs s cs.length):=by rw [HU.out,if_neg hI];rfl
  have HSE:Hid (s=⟨#[]⟩∨¬ s=⟨#[]⟩):=Classical.em _;go_wp2_with fail;go_loopw [6,7,8] (fun r h i wr=>∃ k:Nat,k≤cs.length∧i=.int .i64 k∧r=.int .i64 (De cs s k).1∧h=.int .i64 (De cs s k).2∧wr.cell? ⟨w.heap.size,3,none⟩=some (.slice a3 cs.length c3)∧Below w.heap.size w wr) (fun _ _ i _=>cs.length - (intOf i).toNat)
  case atStart=>exact ⟨0,Nat.zero_le _,rfl,by simp [De,Aq],by simp [De,Aq],k1,hB1⟩
  case round =>
   obtain ⟨k,hk,rfl,rfl,rfl,hcell,hbel⟩:=hrel;by_cases hlt:k<cs.length
   ·obtain ⟨x,hx⟩:∃ x,cs[k]?=some x:=⟨cs[k],List.getElem?_eq_getElem hlt⟩
    obtain ⟨b,o,rfl,_,_,hc⟩:=(HI.out.below CpyC.holds hbel nL).at hx;obtain ⟨a7,c7,q0,q1,q2,q3,q4,q5,q6,q7,q8,q9,q10,q11,_,_,_,_,_,_,_⟩:=hc;have HX:Hid (cs[k]?=some x):=hx;clear hx q0 q1 q2 q3 q6 q7 q8 q9 q10;rcases HSE.out with hs | hs
    ·have HV:Hid (De cs s (k+1)=De cs s k):=Rs HX.out (.inl hs)
     have hte:=Fz hs;have hte2:s.toList.isEmpty=true:=by rw [hte];rfl
     clear hs;go_wp2_with fail;go_roundw
     case rel=>exact ⟨k+1,by omega,by go_num,by rw [HV.out],by rw [HV.out],hcell,hbel⟩
     case measure=>simp [intOf];omega
    ·have hte:=Dy hs
     have hte2:s.toList.isEmpty=false:=by
      cases h:s.toList with
      | nil=>exact absurd h hte
      | cons a l=>rfl
     by_cases h1:x.at_=s
     ·have HV:Hid (De cs s (k+1)=_):=gE hs HX.out h1
      have htf:=Jb h1;clear h1 hs;generalize hS:De cs s k=S at *;have HS:Hid (De cs s k=S):=hS;clear hS;go_wp2_with fail;go_roundw
      case rel=>exact ⟨k+1,by omega,by go_num,by rw [HV.out],by rw [HV.out],hcell,hbel⟩
      case measure=>simp [intOf];omega
     ·have HV:Hid (De cs s (k+1)=De cs s k):=Rs HX.out (.inr h1)
      have htf:=Gj h1;clear h1 hs;go_wp2_with fail;go_roundw
      case rel=>exact ⟨k+1,by omega,by go_num,by rw [HV.out],by rw [HV.out],hcell,hbel⟩
      case measure=>simp [intOf];omega
   ·have hke:k=cs.length:=by omega
    subst hke;go_wp2_with fail
    go_ret2
    exact ⟨by rw [HU2.out];rfl,hbel⟩
end Go.Proofs.YtpeajnkkdioflaaGreat
namespace Go.Proofs.YtpeajnkkdioflaaGreat
open Go.RowKit
def Gn (ns:List ByteArray):Nat→Bool
 | 0=>true
 | j+1=>match ns[j+1]?,ns[j]? with
  | some s,some t=>Op.bytesLess t.toList s.toList
  | _,_=>true
def Cr (f:Nat→Bool):Nat→Bool
 | 0=>true
 | k+1=>Cr f k && f k
theorem Gp {f:Nat→Bool} {k:Nat} (h:f k=false):∀ n,k<n→Cr f n=false
 | 0,hn=>absurd hn (Nat.not_lt_zero _)
 | n+1,hn=>by
  by_cases e:k=n
  ·subst e;simp only [Cr,h,Bool.and_false]
  ·simp only [Cr,Gp h n (by omega),Bool.false_and]
theorem Kh {f:Nat→Bool} {k:Nat} (h:Cr f k=true) (h':f k=true):Cr f (k+1)=true:=by
 simp only [Cr,h,h',Bool.and_self]
def Ew (x:Flt) (k:Nat):Bool:=match x.services[k]? with
 | some y=>P.nameOk y.name && (Gn (x.services.map (·.name)) k && inB y.spare 0 60)
 | none=>true
def Eo (x:Flt) (k:Nat):Bool:=match x.copies[k]? with
 | some y=>Mv y && (Gn (x.copies.map (·.name)) k && (!decide (Mi x.services y.service<0) && (decide (y.at_=⟨#[]⟩) || !decide (Ez x.berths y.at_<0))))
 | none=>true
def Eb (x:Flt) (k:Nat):Bool:=match x.berths[k]? with
 | some y=>Ix y && (Gn (x.berths.map (·.name)) k && (!decide (y.room<(Gl x y.name).1) && (!decide (y.hold<(Gl x y.name).2) && !decide (10<Dn x.copies y.name x.copies.length))))
 | none=>true
def Te (x:Flt) (k:Nat):Bool:=!Ew x k
def Tt (x:Flt) (k:Nat):Bool:=!Eo x k
def Rx (x:Flt) (k:Nat):Bool:=!Eb x k
def Oq (x:Flt):Bool:=Cq x && (Cr (Ew x) x.services.length && (Cr (Eo x) x.copies.length && Cr (Eb x) x.berths.length))
theorem Mh {α:Type} {f:α→ByteArray} {xs:List α} {j k:Nat} {y z:α} (hk:k=j+1) (hy:xs[k]?=some y) (hz:xs[j]?=some z):Gn (xs.map f) k=Op.bytesLess (f z).toList (f y).toList:=by
 subst hk;simp only [Gn,List.getElem?_map,hy,hz,Option.map_some]
theorem Xa {s:ByteArray} (h:P.nameOk s=true):Bu s=-1:=by
 refine Wk (fun j hj e=>?_);unfold P.nameOk at h;rw [Bool.and_eq_true,List.all_eq_true] at h;have:=h.2 61 (List.mem_of_getElem? e);revert this
 decide
def Ii (ms:List ByteArray) (nm:ByteArray):Nat→Nat
 | 0=>0
 | j+1=>Ii ms nm j+(match ms[j]? with
  | some t=>if Ax t=nm then 1 else 0
  | none=>0)
theorem Rl {m:ByteArray} (h:Db m=true):P.nameOk (Ax m)=true:=by
 unfold Db at h;rw [Bool.and_eq_true] at h;exact h.1
theorem Yn {m nm:ByteArray} (h:Db m=true) (hn:P.nameOk nm=true) (r:List ByteArray):Ct nm (Sf m++r)=Ct nm r+(if Ax m=nm then 1 else 0):=by
 unfold Sf;rw [if_pos h];by_cases hv:Bu m<0
 ·rw [if_pos hv]
  by_cases e:Ax m=nm
  ·rw [if_pos e];subst e;exact Kc _ _
  ·rw [if_neg e];exact Gq e _
 ·rw [if_neg hv]
  have hne:¬ m=nm:=by
   intro e;subst e;rw [Xa hn] at hv;exact hv (by decide)
  show Ct nm (m::Ax m::r)=_
  rw [Gq hne];by_cases e:Ax m=nm
  ·rw [if_pos e];subst e;exact Kc _ _
  ·rw [if_neg e];exact Gq e _
theorem Sh {ms:List ByteArray} {nm:ByteArray} (hn:P.nameOk nm=true) (hall:∀ (j:Nat) (t:ByteArray),ms[j]?=some t→Db t=true):∀ n,Ct nm (Cg ms n)=Ii ms nm n
 | 0=>rfl
 | n+1=>by
  cases h:ms[n]? with
  | none=>simp only [Cg,Ii,h,Nat.add_zero];exact Sh hn hall n
  | some t =>
   simp only [Cg,Ii,h];rw [Yn (hall n t h) hn,Sh hn hall n]
theorem Sd (ms:List ByteArray) (nm:ByteArray):∀ n k,k≤n→Ii ms nm k≤Ii ms nm n
 | 0,k,h=>by rw [Nat.le_zero.1 h];exact Nat.le_refl _
 | n+1,k,h=>by
  by_cases e:k=n+1
  ·subst e;exact Nat.le_refl _
  ·refine Nat.le_trans (Sd ms nm n k (by omega)) ?_
   simp only [Ii];omega
theorem lA {ms:List ByteArray} {nm s t:ByteArray} {j k n:Nat} (hjk:j<k) (hkn:k<n) (hj:ms[j]?=some s) (hk:ms[k]?=some t) (es:Ax s=nm) (et:Ax t=nm):2≤Ii ms nm n:=by
 have h1:1≤Ii ms nm (j+1):=by simp only [Ii,hj,es,if_true];omega
 have h2:=Sd ms nm k (j+1) (by omega);have h3:Ii ms nm (k+1)=Ii ms nm k+1:=by simp only [Ii,hk,et,if_true]
 have h4:=Sd ms nm n (k+1) (by omega);omega
theorem fD {ms:List ByteArray} {nm:ByteArray} {k:Nat} (h:∀ j t,j≠k→ms[j]?=some t→Ax t≠nm):∀ n,Ii ms nm n≤if k<n then 1 else 0
 | 0=>by simp [Ii]
 | n+1=>by
  have ih:=fD h n;simp only [Ii]
  cases hm:ms[n]? with
  | none =>
   show Ii ms nm n+0≤_
   split at ih <;> split <;> omega
  | some t =>
   show Ii ms nm n+(if Ax t=nm then 1 else 0)≤_
   by_cases e:n=k
   ·subst e
    rw [if_neg (Nat.lt_irrefl _)] at ih;rw [if_pos (Nat.lt_succ_self _)]
    split <;> omega
   ·rw [if_neg (h n t e hm)]
    split at ih <;> split <;> omega
theorem Hg {ms:List ByteArray} {nm:ByteArray}:∀ k,Cd ms nm k=true↔∀ j t,j<k→ms[j]?=some t→Ax t≠nm
 | 0=>by simp [Cd]
 | k+1=>by
  have ih:=Hg (ms:=ms) (nm:=nm) k;simp only [Cd,Bool.and_eq_true,ih];constructor
  ·rintro ⟨h1,h2⟩ j t hj ht
   by_cases e:j=k
   ·subst e
    rw [ht] at h2;simpa using h2
   ·exact h1 j t (by omega) ht
  ·intro h
   refine ⟨fun j t hj ht=>h j t (by omega) ht,?_⟩
   cases hm:ms[k]? with
   | none=>rfl
   | some t=>simpa using h k t (by omega) hm
theorem Vd {ms:List ByteArray}:∀ n,Kb ms n=true↔∀ k,k<n→Kd ms k=true
 | 0=>by simp [Kb]
 | n+1=>by
  simp only [Kb,Bool.and_eq_true,Vd n];constructor
  ·rintro ⟨h1,h2⟩ k hk
   by_cases e:k=n
   ·subst e;exact h2
   ·exact h1 k (by omega)
  ·intro h
   exact ⟨fun k hk=>h k (by omega),h n (by omega)⟩
theorem Uj {ms:List ByteArray}:∀ n,Kq ms n=true↔∀ k,k<n→Ig ms k=true
 | 0=>by simp [Kq]
 | n+1=>by
  simp only [Kq,Bool.and_eq_true,Uj n];constructor
  ·rintro ⟨h1,h2⟩ k hk
   by_cases e:k=n
   ·subst e;exact h2
   ·exact h1 k (by omega)
  ·intro h
   exact ⟨fun k hk=>h k (by omega),h n (by omega)⟩
def lY (ms:List ByteArray) (k:Nat):Prop:=∀ j m t,k=j+1→ms[k]?=some m→ms[j]?=some t→Op.bytesLess t.toList m.toList=true
theorem Po {ms:List ByteArray} {k:Nat} {m:ByteArray} (hk:ms[k]?=some m):Kd ms k=true↔Db m=true∧lY ms k∧Ct (Ax m) (Cg ms ms.length)≤1:=by
 cases k with
 | zero =>
  simp only [Kd,hk,Bool.and_eq_true,decide_eq_true_eq];constructor
  ·rintro ⟨h1,h2⟩
   exact ⟨h1,fun j _ _ h=>by omega,h2⟩
  ·rintro ⟨h1,_,h2⟩
   exact ⟨h1,h2⟩
 | succ j =>
  have hlt:j+1<ms.length:=(List.getElem?_eq_some_iff.mp hk).1;have ht:ms[j]?=some ms[j]:=List.getElem?_eq_getElem (by omega);simp only [Kd,hk,ht,Bool.and_eq_true,decide_eq_true_eq];constructor
  ·rintro ⟨⟨h1,h2⟩,h3⟩
   refine ⟨h1,fun i a b hi ha hb=>?_,h3⟩;have:i=j:=by omega
   subst this;rw [hk] at ha;rw [ht] at hb;cases ha
   cases hb
   exact h2
  ·rintro ⟨h1,h2,h3⟩
   exact ⟨⟨h1,h2 j m ms[j] rfl hk ht⟩,h3⟩
theorem Ks {ms:List ByteArray} {k:Nat} {m:ByteArray} (hk:ms[k]?=some m):Ig ms k=true↔Db m=true∧lY ms k∧Cd ms (Ax m) k=true:=by
 cases k with
 | zero =>
  simp only [Ig,hk,Cd];constructor
  ·intro h1
   exact ⟨h1,fun j _ _ h=>by omega,trivial⟩
  ·rintro ⟨h1,_,_⟩
   exact h1
 | succ j =>
  have hlt:j+1<ms.length:=(List.getElem?_eq_some_iff.mp hk).1;have ht:ms[j]?=some ms[j]:=List.getElem?_eq_getElem (by omega);simp only [Ig,hk,ht,Bool.and_eq_true];constructor
  ·rintro ⟨⟨⟨h1,h2⟩,_⟩,h3⟩
   refine ⟨h1,fun i a b hi ha hb=>?_,h3⟩;have:i=j:=by omega
   subst this;rw [hk] at ha;rw [ht] at hb;cases ha
   cases hb
   exact h2
  ·rintro ⟨h1,h2,h3⟩
   refine ⟨⟨⟨h1,h2 j m ms[j] rfl hk ht⟩,?_⟩,h3⟩;have:=(Hg _).1 h3 j ms[j] (by omega) ht;simpa using fun e=>this e.symm
theorem fT (ms:List ByteArray):Gx ms=Jy ms:=by
 unfold Gx Jy
 congr 1
 rw [Bool.eq_iff_iff,Vd,Uj];have get:∀ k,k<ms.length→∃ m,ms[k]?=some m:=fun k hk=>⟨ms[k],List.getElem?_eq_getElem hk⟩
 constructor
 ·intro h k hk
  obtain ⟨m,hm⟩:=get k hk;have hall:∀ (j:Nat) (t:ByteArray),ms[j]?=some t→Db t=true:=fun j t ht=>((Po ht).1 (h j (List.getElem?_eq_some_iff.mp ht).1)).1
  obtain ⟨h1,h2,h3⟩:=(Po hm).1 (h k hk);refine (Ks hm).2 ⟨h1,h2,(Hg _).2 fun j t hj ht e=>?_⟩;rw [Sh (Rl h1) hall] at h3;have:=lA hj hk ht hm e rfl;omega
 ·intro h k hk
  obtain ⟨m,hm⟩:=get k hk;have hall:∀ (j:Nat) (t:ByteArray),ms[j]?=some t→Db t=true:=fun j t ht=>((Ks ht).1 (h j (List.getElem?_eq_some_iff.mp ht).1)).1
  obtain ⟨h1,h2,h3⟩:=(Ks hm).1 (h k hk);refine (Po hm).2 ⟨h1,h2,?_⟩;rw [Sh (Rl h1) hall];refine Nat.le_trans (fD (k:=k) (fun j t hjk ht e=>?_) _) (by split <;> omega);rcases Nat.lt_or_gt_of_ne hjk with hl | hg
  ·exact (Hg _).1 h3 j t hl ht e
  ·have hj:j<ms.length:=(List.getElem?_eq_some_iff.mp ht).1
   exact (Hg _).1 ((Ks ht).1 (h j hj)).2.2 k m hg hm e.symm
end Go.Proofs.YtpeajnkkdioflaaGreat
