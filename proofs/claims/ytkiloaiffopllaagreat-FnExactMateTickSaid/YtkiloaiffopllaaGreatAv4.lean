import Derived.Test.YtkiloaiffopllaaGreatMte
import Derived.Test.YtkiloaiffopllaaGreatJ12
set_option maxHeartbeats 8000000
namespace Go.Proofs.YtkiloaiffopllaaGreat
set_option maxRecDepth 100000
open Go.RowKit
structure MSl (x:Mte) (lo:Nat) (a5 a6 a7 a8:OA) (w:World):Prop where
 nm:x.name.size≤maxLen
 s5:SliceC WntC 7 lo w a5 x.wants
 s6:SliceC RnC 11 lo w a6 x.runs
 s7:SliceC AksC 4 lo w a7 x.asks
 s8:SliceC AksC 4 lo w a8 x.gives
 l5:x.wants.length≤1048576
 l6:x.runs.length≤1048576
 l7:x.asks.length≤1048576
 l8:x.gives.length≤1048576
theorem MSl.below {x:Mte} {lo B:Nat} {a5 a6 a7 a8:OA} {w w':World} (h:MSl x lo a5 a6 a7 a8 w) (hb:Below B w w') (hB:w.heap.size≤B):MSl x lo a5 a6 a7 a8 w' :=
 ⟨h.nm,h.s5.below WntC.holds hb hB,h.s6.below RnC.holds hb hB,h.s7.below AksC.holds hb hB,h.s8.below AksC.holds hb hB,h.l5,h.l6,h.l7,h.l8⟩
def drB (r:Rn):Bool:=alB r.state || !(r.want.hold.toList == [])
def dnB (x:Mte):Bool:=x.runs.all drB && (!x.known && x.seen == 0 && decide (x.wants.length+x.asks.length+x.gives.length=0))
def dwB (x:Mte):Bool:=x.up || dnB x
def mvB (x:Mte):Bool:=nmB x.name && inR x.clock 0 1000000 && inR x.seen 0 1000000 && ((wsB x.wants && (x.known || decide (x.wants.length=0))) && (rsB x.runs x.clock && ((Ea x.asks x.clock && Ea x.gives x.clock && apB x.asks x.gives) && dwB x)))
theorem Vt {x:Mte} (h:∀ (j:Nat) r,j<x.runs.length→x.runs[j]?=some r→drB r=true):x.runs.all drB=true:=by
 rw [List.all_eq_true];intro r hr;obtain ⟨j,hj,e⟩:=List.getElem_of_mem hr;exact h j r hj (by rw [gE hj,e])
theorem Zp {x:Mte} {k:Nat} {r:Rn} (h:x.runs[k]?=some r) (hr:drB r=false):dnB x=false:=by
 have:x.runs.all drB=false:=by
  rw [List.all_eq_false];exact ⟨r,List.mem_of_getElem? h,by simp [hr]⟩
 unfold dnB;rw [this,Bool.false_and]
theorem Ht (r:Rn) (w:World) :
  Calls Tryz.prog 110 #[.agg (rrA r)] w (Rt (.bool (!(r.want.hold.toList == []))) w):=by
 go_enter Tryz.func110,Tryz.ntmps110;go_wp2_with fail;go_ret;exact ⟨Ac (by cases r.want.hold.toList <;> rfl),by go_grown⟩
theorem Sd (x:Mte) (a5:OA) (c5:Nat) (a6:OA) (c6:Nat) (a7:OA) (c7:Nat) (a8:OA) (c8:Nat) (lo:Nat) (w:World) (hin:MSl x lo a5 a6 a7 a8 w) :
  Calls Tryz.prog 99 #[.agg (mmA x a5 c5 a6 c6 a7 c7 a8 c8)] w (Rt (.bool (nmB x.name && inR x.clock 0 1000000 && inR x.seen 0 1000000)) w):=by
 have HI:=iH hin;clear hin;have HK1:=iH (Blk.alloc w (mmA x a5 c5 a6 c6 a7 c7 a8 c8) 32);have hB1:=(Below.refl _ w).alloc nL (Obj.cells (mmA x a5 c5 a6 c6 a7 c7 a8 c8) 32);go_enter Tryz.func99,Tryz.ntmps99;go_upto_region 1 with fail;generalize w.alloc (Obj.cells (mmA x a5 c5 a6 c6 a7 c7 a8 c8) 32)=w1 at *;have k0:w1.cell? ⟨w.heap.size,0,none⟩=some (.string x.name):=HK1.out.cell rfl;have k2:w1.cell? ⟨w.heap.size,2,none⟩=some (.int .i64 x.clock):=HK1.out.cell rfl;have k4:w1.cell? ⟨w.heap.size,4,none⟩=some (.int .i64 x.seen):=HK1.out.cell rfl;go_wp2_with fail;refine (Ig x.name _ HI.out.nm).mono ?_;rintro e v0 ⟨rfl,rfl⟩
 cases g0:nmB x.name with
 | false =>
  have HE:Hid ((nmB x.name && inR x.clock 0 1000000 && inR x.seen 0 1000000)=false):=by show _=_;rw [g0];simp
  clear g0;go_wp2_with fail;go_ret;exact ⟨Ac HE.out.symm,hB1⟩
 | true =>
  go_wp2_with fail;refine (De x.clock 0 1000000 _).mono ?_;rintro e v1 ⟨rfl,rfl⟩
  cases g1:inR x.clock 0 1000000 with
  | false =>
   have HE:Hid ((nmB x.name && inR x.clock 0 1000000 && inR x.seen 0 1000000)=false):=by show _=_;rw [g1];simp
   clear g0 g1;go_wp2_with fail;go_ret;exact ⟨Ac HE.out.symm,hB1⟩
  | true =>
   go_wp2_with fail;refine (De x.seen 0 1000000 _).mono ?_;rintro e v2 ⟨rfl,rfl⟩
   cases g2:inR x.seen 0 1000000 with
   | false =>
    have HE:Hid ((nmB x.name && inR x.clock 0 1000000 && inR x.seen 0 1000000)=false):=by show _=_;rw [g2];simp
    clear g0 g1 g2;go_wp2_with fail;go_ret;exact ⟨Ac HE.out.symm,hB1⟩
   | true =>
    have HE:Hid ((nmB x.name && inR x.clock 0 1000000 && inR x.seen 0 1000000)=true):=by show _=_;rw [g0,g1,g2];rfl
    go_wp2_with fail;go_ret;exact ⟨Ac HE.out.symm,hB1⟩
theorem Wv (x:Mte) (a5:OA) (c5:Nat) (a6:OA) (c6:Nat) (a7:OA) (c7:Nat) (a8:OA) (c8:Nat) (lo:Nat) (w:World) (hin:MSl x lo a5 a6 a7 a8 w) :
  Calls Tryz.prog 100 #[.agg (mmA x a5 c5 a6 c6 a7 c7 a8 c8)] w (Rt (.bool (wsB x.wants && (x.known || decide (x.wants.length=0)))) w):=by
 have HI:=iH hin;clear hin;have HK1:=iH (Blk.alloc w (mmA x a5 c5 a6 c6 a7 c7 a8 c8) 32);have hB1:=(Below.refl _ w).alloc nL (Obj.cells (mmA x a5 c5 a6 c6 a7 c7 a8 c8) 32);go_enter Tryz.func100,Tryz.ntmps100;go_upto_region 1 with fail;generalize w.alloc (Obj.cells (mmA x a5 c5 a6 c6 a7 c7 a8 c8) 32)=w1 at *;have k5:w1.cell? ⟨w.heap.size,5,none⟩=some (.slice a5 x.wants.length c5):=HK1.out.cell rfl;go_wp2_with fail;refine (Lm x.wants a5 c5 lo _ (HI.out.s5.below WntC.holds hB1 nL) HI.out.l5).mono ?_;rintro e w2 ⟨rfl,hb2⟩;have HK2:=qBk HK1 hb2;have hB2:=qTr hB1 hb2;clear hb2 HK1 hB1 k5;have k3:w2.cell? ⟨w.heap.size,3,none⟩=some (.bool x.known):=HK2.out.cell rfl;have k5:w2.cell? ⟨w.heap.size,5,none⟩=some (.slice a5 x.wants.length c5):=HK2.out.cell rfl
 cases g0:wsB x.wants with
 | false =>
  go_wp2_with fail;go_ret;exact ⟨Ac (by rw [g0];rfl),hB2⟩
 | true =>
  try unfold mmA
  cases g1:x.known with
  | true =>
   rw [g1] at k3;go_wp2_with fail;go_ret;exact ⟨Ac (by rw [g0,g1];rfl),hB2⟩
  | false =>
   rw [g1] at k3;by_cases hz:x.wants.length=0
   ·have hz2:((x.wants.length:Int) == 0)=true:=by rw [hz];rfl
    have HD:Hid (decide (x.wants.length=0)=true):=decide_eq_true hz;clear hz;go_wp2_with fail;go_ret;exact ⟨Ac (by rw [g0,g1,HD.out];rfl),hB2⟩
   ·have hz2:((x.wants.length:Int) == 0)=false:=by simp;simpa using hz
    have HD:Hid (decide (x.wants.length=0)=false):=decide_eq_false hz;clear hz;go_wp2_with fail;go_ret;exact ⟨Ac (by rw [g0,g1,HD.out];rfl),hB2⟩
theorem Rx (x:Mte) (a5:OA) (c5:Nat) (a6:OA) (c6:Nat) (a7:OA) (c7:Nat) (a8:OA) (c8:Nat) (lo:Nat) (w:World) (hin:MSl x lo a5 a6 a7 a8 w) :
  Calls Tryz.prog 101 #[.agg (mmA x a5 c5 a6 c6 a7 c7 a8 c8)] w (Rt (.bool (rsB x.runs x.clock)) w):=by
 have HI:=iH hin;clear hin;have HK1:=iH (Blk.alloc w (mmA x a5 c5 a6 c6 a7 c7 a8 c8) 32);have hB1:=(Below.refl _ w).alloc nL (Obj.cells (mmA x a5 c5 a6 c6 a7 c7 a8 c8) 32);go_enter Tryz.func101,Tryz.ntmps101;go_upto_region 1 with fail;generalize w.alloc (Obj.cells (mmA x a5 c5 a6 c6 a7 c7 a8 c8) 32)=w1 at *;have k2:w1.cell? ⟨w.heap.size,2,none⟩=some (.int .i64 x.clock):=HK1.out.cell rfl;have k6:w1.cell? ⟨w.heap.size,6,none⟩=some (.slice a6 x.runs.length c6):=HK1.out.cell rfl;go_wp2_with fail;refine (Mg x.runs a6 c6 lo x.clock _ (HI.out.s6.below RnC.holds hB1 nL) HI.out.l6).mono ?_;rintro e w2 ⟨rfl,hb2⟩;have hB2:=qTr hB1 hb2;clear hb2 HK1 hB1 k2 k6;go_wp2_with fail;go_ret;exact ⟨rfl,hB2⟩
theorem Qs (x:Mte) (a5:OA) (c5:Nat) (a6:OA) (c6:Nat) (a7:OA) (c7:Nat) (a8:OA) (c8:Nat) (lo:Nat) (w:World) (hin:MSl x lo a5 a6 a7 a8 w) :
  Calls Tryz.prog 102 #[.agg (mmA x a5 c5 a6 c6 a7 c7 a8 c8)] w (Rt (.bool (Ea x.asks x.clock && Ea x.gives x.clock && apB x.asks x.gives)) w):=by
 have HI:=iH hin;clear hin;have HK1:=iH (Blk.alloc w (mmA x a5 c5 a6 c6 a7 c7 a8 c8) 32);have hB1:=(Below.refl _ w).alloc nL (Obj.cells (mmA x a5 c5 a6 c6 a7 c7 a8 c8) 32);go_enter Tryz.func102,Tryz.ntmps102;go_upto_region 1 with fail;generalize w.alloc (Obj.cells (mmA x a5 c5 a6 c6 a7 c7 a8 c8) 32)=w1 at *;have k2:w1.cell? ⟨w.heap.size,2,none⟩=some (.int .i64 x.clock):=HK1.out.cell rfl;have k7:w1.cell? ⟨w.heap.size,7,none⟩=some (.slice a7 x.asks.length c7):=HK1.out.cell rfl;go_wp2_with fail;refine (Hh x.asks a7 c7 lo x.clock _ (HI.out.s7.below AksC.holds hB1 nL) HI.out.l7).mono ?_;rintro e w2 ⟨rfl,hb2⟩;have HK2:=qBk HK1 hb2;have hB2:=qTr hB1 hb2;clear hb2 HK1 hB1;clear k2 k7;have k2:w2.cell? ⟨w.heap.size,2,none⟩=some (.int .i64 x.clock):=HK2.out.cell rfl;have k8:w2.cell? ⟨w.heap.size,8,none⟩=some (.slice a8 x.gives.length c8):=HK2.out.cell rfl
 cases g0:Ea x.asks x.clock with
 | false =>
  go_wp2_with fail;go_ret;exact ⟨Ac (by rw [g0];rfl),hB2⟩
 | true =>
  go_wp2_with fail;refine (Hh x.gives a8 c8 lo x.clock _ (HI.out.s8.below AksC.holds hB2 nL) HI.out.l8).mono ?_;rintro e w3 ⟨rfl,hb3⟩;have HK3:=qBk HK2 hb3;have hB3:=qTr hB2 hb3;clear hb3 HK2 hB2;clear k2 k8;have k7:w3.cell? ⟨w.heap.size,7,none⟩=some (.slice a7 x.asks.length c7):=HK3.out.cell rfl;have k8:w3.cell? ⟨w.heap.size,8,none⟩=some (.slice a8 x.gives.length c8):=HK3.out.cell rfl
  cases g1:Ea x.gives x.clock with
  | false =>
   go_wp2_with fail;go_ret;exact ⟨Ac (by rw [g0,g1];rfl),hB3⟩
  | true =>
   go_wp2_with fail;refine (Wx x.asks x.gives a7 c7 lo a8 c8 _ (HI.out.s7.below AksC.holds hB3 nL) (HI.out.s8.below AksC.holds hB3 nL) HI.out.l7 HI.out.l8).mono ?_;rintro e w4 ⟨rfl,hb4⟩;have hB4:=qTr hB3 hb4;clear hb4 HK3 hB3 k7 k8;go_wp2_with fail;go_ret;exact ⟨Ac (by rw [g0,g1];rfl),hB4⟩
theorem aA (x:Mte) (a5:OA) (c5:Nat) (a6:OA) (c6:Nat) (a7:OA) (c7:Nat) (a8:OA) (c8:Nat) (lo:Nat) (w:World) (hin:MSl x lo a5 a6 a7 a8 w) :
  Calls Tryz.prog 103 #[.agg (mmA x a5 c5 a6 c6 a7 c7 a8 c8)] w (Rt (.bool (dwB x)) w):=by
 try unfold mmA
 cases hu:x.up with
 | true =>
  rw [show dwB x=true by unfold dwB;rw [hu];rfl];have HI:=iH hin;clear hin;have HK1:=iH (Blk.alloc w #[.string x.name,.bool true,.int .i64 x.clock,.bool x.known,.int .i64 x.seen,.slice a5 x.wants.length c5,.slice a6 x.runs.length c6,.slice a7 x.asks.length c7,.slice a8 x.gives.length c8] 32);have hB1:=(Below.refl _ w).alloc nL (Obj.cells #[.string x.name,.bool true,.int .i64 x.clock,.bool x.known,.int .i64 x.seen,.slice a5 x.wants.length c5,.slice a6 x.runs.length c6,.slice a7 x.asks.length c7,.slice a8 x.gives.length c8] 32);go_enter Tryz.func103,Tryz.ntmps103;go_upto_region 1 with fail;generalize w.alloc (Obj.cells #[.string x.name,.bool true,.int .i64 x.clock,.bool x.known,.int .i64 x.seen,.slice a5 x.wants.length c5,.slice a6 x.runs.length c6,.slice a7 x.asks.length c7,.slice a8 x.gives.length c8] 32)=w1 at *;have k1:w1.cell? ⟨w.heap.size,1,none⟩=some (.bool true):=HK1.out.cell rfl;go_wp2_with fail;go_ret;exact ⟨rfl,hB1⟩
 | false =>
  rw [show dwB x=dnB x by unfold dwB;rw [hu];rfl];clear hu;have HI:=iH hin;clear hin;have HK1:=iH (Blk.alloc w #[.string x.name,.bool false,.int .i64 x.clock,.bool x.known,.int .i64 x.seen,.slice a5 x.wants.length c5,.slice a6 x.runs.length c6,.slice a7 x.asks.length c7,.slice a8 x.gives.length c8] 32);have hB1:=(Below.refl _ w).alloc nL (Obj.cells #[.string x.name,.bool false,.int .i64 x.clock,.bool x.known,.int .i64 x.seen,.slice a5 x.wants.length c5,.slice a6 x.runs.length c6,.slice a7 x.asks.length c7,.slice a8 x.gives.length c8] 32);go_enter Tryz.func103,Tryz.ntmps103;go_upto_region 1 with fail;generalize w.alloc (Obj.cells #[.string x.name,.bool false,.int .i64 x.clock,.bool x.known,.int .i64 x.seen,.slice a5 x.wants.length c5,.slice a6 x.runs.length c6,.slice a7 x.asks.length c7,.slice a8 x.gives.length c8] 32)=w1 at *;have k1:w1.cell? ⟨w.heap.size,1,none⟩=some (.bool false):=HK1.out.cell rfl;have k6:w1.cell? ⟨w.heap.size,6,none⟩=some (.slice a6 x.runs.length c6):=HK1.out.cell rfl;go_wp2_with fail;go_loopw [10] (fun i wr=>∃ k:Nat,k≤x.runs.length∧i=.int .i64 k∧Hid (∀ (j:Nat) r,j<k→x.runs[j]?=some r→drB r=true)∧Hid (Blk w.heap.size #[.string x.name,.bool false,.int .i64 x.clock,.bool x.known,.int .i64 x.seen,.slice a5 x.wants.length c5,.slice a6 x.runs.length c6,.slice a7 x.asks.length c7,.slice a8 x.gives.length c8] 32 wr)∧Below w.heap.size w wr) (fun i _=>x.runs.length - (intOf i).toNat)
  case atStart=>exact ⟨0,zL,rfl,fun j q h=>by omega,HK1,hB1⟩
  case round =>
   clear HK1 hB1 k1 k6;obtain ⟨k,hk,rfl,hN,HK,hB⟩:=hrel;have hl6:=HI.out.l6;by_cases hlt:k<x.runs.length
   case neg =>
    have hke:k=x.runs.length:=by omega
    subst hke;have k3:wr.cell? ⟨w.heap.size,3,none⟩=some (.bool x.known):=HK.out.cell rfl;have k4:wr.cell? ⟨w.heap.size,4,none⟩=some (.int .i64 x.seen):=HK.out.cell rfl;have k5:wr.cell? ⟨w.heap.size,5,none⟩=some (.slice a5 x.wants.length c5):=HK.out.cell rfl;have k7:wr.cell? ⟨w.heap.size,7,none⟩=some (.slice a7 x.asks.length c7):=HK.out.cell rfl;have k8:wr.cell? ⟨w.heap.size,8,none⟩=some (.slice a8 x.gives.length c8):=HK.out.cell rfl;have HNA:=iH (Vt hN.out);have hl5:=HI.out.l5;have hl7:=HI.out.l7;have hl8:=HI.out.l8;clear hN hk
    cases g1:x.known with
    | true =>
     rw [g1] at k3;have HE:Hid (dnB x=false):=by show _=_;unfold dnB;rw [g1];simp
     go_wp2_with fail;go_ret;exact ⟨Ac HE.out.symm,hB⟩
    | false =>
     rw [g1] at k3
     cases g2:(x.seen == 0) with
     | false =>
      have HE:Hid (dnB x=false):=by show _=_;unfold dnB;rw [g2];simp
      go_wp2_with fail;go_ret;exact ⟨Ac HE.out.symm,hB⟩
     | true =>
      by_cases hz:x.wants.length+x.asks.length+x.gives.length=0
      ·have HE:Hid (dnB x=true):=by show _=_;unfold dnB;rw [HNA.out,g1,g2,decide_eq_true hz];rfl
       have hz2:((x.wants.length:Int)+(x.asks.length:Int)+(x.gives.length:Int) == 0)=true:=by simp;omega
       clear hz;go_wp2_with fail;go_ret;exact ⟨Ac HE.out.symm,hB⟩
      ·have HE:Hid (dnB x=false):=by show _=_;unfold dnB;rw [decide_eq_false hz];simp
       have hz2:((x.wants.length:Int)+(x.asks.length:Int)+(x.gives.length:Int) == 0)=false:=by simp;omega
       clear hz;go_wp2_with fail;go_ret;exact ⟨Ac HE.out.symm,hB⟩
   obtain ⟨r,hr⟩:=gXe hlt;obtain ⟨b,o,e6,_,hbl,hc⟩:=(HI.out.s6.below RnC.holds hB nL).at hr;subst e6;have HRA:=iH (Bc hc);have HXX:=iH hr;clear hc hr;have HR4:=iH (Blk.alloc wr (rrA r) 88);have HK4:Hid (Blk w.heap.size #[.string x.name,.bool false,.int .i64 x.clock,.bool x.known,.int .i64 x.seen,.slice a5 x.wants.length c5,.slice (some ⟨b,o,none⟩) x.runs.length c6,.slice a7 x.asks.length c7,.slice a8 x.gives.length c8] 32 (wr.alloc (Obj.cells (rrA r) 88))):=HK.out.below ((Below.refl _ _).alloc nL _) HK.out.lt;have hB4:Below w.heap.size w (wr.alloc (Obj.cells (rrA r) 88)):=hB.trans (((Below.refl wr.heap.size wr).alloc nL _).mono hB.size);clear HK hB;go_upto_region 6 with (refine qLr Bi HRA ?_);clear HRA;generalize wr.alloc (Obj.cells (rrA r) 88)=w4 at *;generalize wr.heap.size=q at *;go_wp2_with (refine qLk Bi HR4 ?_);refine (Im r _).mono ?_;rintro e w5 ⟨rfl,hb5⟩;have HR5:=qBk HR4 hb5;have HK5:=qBk HK4 hb5;have hB5:=qTr hB4 hb5;clear hb5 HR4 HK4 hB4
   cases g1:alB r.state with
   | true =>
    have HN2:Hid (∀ (j:Nat) y,j<k+1→x.runs[j]?=some y→drB y=true):=fun j y hj hy=>by
     by_cases e:j=k
     ·subst e
      have:=HXX.out.symm.trans hy;cases this
      unfold drB;rw [g1];rfl
     ·exact hN.out j y (by omega) hy
    clear g1;go_wp2_with fail;go_roundw
    case rel=>exact ⟨k+1,by omega,by go_num,HN2,HK5,hB5⟩
    case measure=>simp [intOf];omega
   | false =>
    have d0:w5.cell? ⟨q,0,none⟩=some (.string r.want.copy):=HR5.out.cell rfl;have d1:w5.cell? ⟨q,1,none⟩=some (.int .i64 r.want.version):=HR5.out.cell rfl;have d2:w5.cell? ⟨q,2,none⟩=some (.string r.want.hold):=HR5.out.cell rfl;have d3:w5.cell? ⟨q,3,none⟩=some (.int .i64 r.want.pull):=HR5.out.cell rfl;have d4:w5.cell? ⟨q,4,none⟩=some (.int .i64 r.want.start):=HR5.out.cell rfl;have d5:w5.cell? ⟨q,5,none⟩=some (.int .i64 r.want.dies):=HR5.out.cell rfl;have d6:w5.cell? ⟨q,6,none⟩=some (.int .i64 r.want.grace):=HR5.out.cell rfl;have d7:w5.cell? ⟨q,7,none⟩=some (.int .i64 r.state):=HR5.out.cell rfl;have d8:w5.cell? ⟨q,8,none⟩=some (.int .i64 r.left):=HR5.out.cell rfl;have d9:w5.cell? ⟨q,9,none⟩=some (.int .i64 r.falls):=HR5.out.cell rfl;have d10:w5.cell? ⟨q,10,none⟩=some (.int .i64 r.until_):=HR5.out.cell rfl;go_wp2_with fail;clear d0 d1 d2 d3 d4 d5 d6 d7 d8 d9 d10;refine (Ht r _).mono ?_;rintro e w6 ⟨rfl,hb6⟩;have HK6:=qBk HK5 hb6;have hB6:=qTr hB5 hb6;clear hb6 HR5 HK5 hB5
    cases g2:(r.want.hold.toList == []) with
    | true =>
     have HE:Hid (dnB x=false):=Zp HXX (by unfold drB;rw [g1,g2];rfl);clear g1 g2;go_wp2_with fail;go_ret;exact ⟨Ac HE.out.symm,hB6⟩
    | false =>
     have HN2:Hid (∀ (j:Nat) y,j<k+1→x.runs[j]?=some y→drB y=true):=fun j y hj hy=>by
      by_cases e:j=k
      ·subst e
       have:=HXX.out.symm.trans hy;cases this
       unfold drB;rw [g1,g2];rfl
      ·exact hN.out j y (by omega) hy
     clear g1 g2;go_wp2_with fail;go_roundw
     case rel=>exact ⟨k+1,by omega,by go_num,HN2,HK6,hB6⟩
     case measure=>simp [intOf];omega
theorem Yt (x:Mte) (a5:OA) (c5:Nat) (a6:OA) (c6:Nat) (a7:OA) (c7:Nat) (a8:OA) (c8:Nat) (rs:List (Nat×Bool)) (g cap:Nat) (w:World) (hrl:rs.length≤8)
  (hsay:∀ (k:Nat) r,rs[k]?=some r→∀ v,Below w.heap.size w v→Calls Tryz.prog r.1 #[.agg (mmA x a5 c5 a6 c6 a7 c7 a8 c8)] v fun e w'=>e=.returned (.bool r.2)∧Below v.heap.size v w') (heg:∀ (k:Nat) r,rs[k]?=some r→∀ args w,(callFunc r.1 args).run Tryz.prog w=.ok (.enter r.1 args) w)
  (hR:Oq g rs w) (hg:g<w.heap.size) :
  Calls Tryz.prog 65 #[.slice (some ⟨g,0,none⟩) rs.length cap,.agg (mmA x a5 c5 a6 c6 a7 c7 a8 c8)] w (Rt (.bool (Jx rs)) w):=by
 have HR:=iH hR;have HSAY:=iH hsay;have HEG:=iH heg;have HX0:=iH (Blk.alloc w (mmA x a5 c5 a6 c6 a7 c7 a8 c8) 32);have hb0:=(Below.refl _ w).alloc nL (Obj.cells (mmA x a5 c5 a6 c6 a7 c7 a8 c8) 32);clear hR hsay heg;go_enter Tryz.func65,Tryz.ntmps65;go_wp2_with fail;generalize w.alloc (Obj.cells (mmA x a5 c5 a6 c6 a7 c7 a8 c8) 32)=w0 at *;go_loopw [9] (fun i wr=>∃ k:Nat,k≤rs.length∧i=.int .i64 k∧Hid (∀ (j:Nat) q,j<k→rs[j]?=some q→q.2=true)∧Hid (Blk w.heap.size (mmA x a5 c5 a6 c6 a7 c7 a8 c8) 32 wr)∧Below w.heap.size w wr) (fun i _=>rs.length - (intOf i).toNat)
 case atStart=>exact ⟨0,zL,rfl,fun j q h=>by omega,HX0,hb0⟩
 case round =>
  clear HX0 hb0;obtain ⟨k,hk,rfl,hN,hX,hB⟩:=hrel;by_cases hlt:k<rs.length
  ·obtain ⟨r,hr⟩:=gXe hlt
   have c0:wr.cell? ⟨g,k,none⟩=some (.func (.func r.1) #[] #[]):=(hB.cell (p:=⟨g,k,none⟩) hg).trans (HR k r hr);have HSK:=iH (HSAY k r hr);have heg:=HEG.out k r hr;have HRR:=iH hr;obtain ⟨fid,tr⟩:=r;simp only at c0 HSK heg;clear hr;go_wp2_with (first | (refine qLk Cu hX ?_));refine (HSK wr hB).mono ?_;rintro e w5 ⟨rfl,hb5⟩;have HX5:=qBk hX hb5;have hB5:=qTr hB hb5;clear hb5 heg HSK c0 hX hB
   cases tr with
   | false =>
    have HE:=iH (Pn HRR rfl);go_wp2_with fail;go_ret;exact ⟨Ac HE.out.symm,hB5⟩
   | true =>
    have HN2:Hid (∀ (j:Nat) q,j<k+1→rs[j]?=some q→q.2=true):=fun j q hj hq=>by
     by_cases e:j=k
     ·subst e
      have:=HRR.out.symm.trans hq;cases this
      rfl
     ·exact hN.out j q (by omega) hq
    go_wp2_with fail;go_roundw
    case rel=>exact ⟨k+1,by omega,by go_num,HN2,HX5,hB5⟩
    case measure=>simp [intOf];omega
  ·have hke:k=rs.length:=by omega
   subst hke;have HE:=iH (Nl hN.out);go_wp2_with fail;go_ret;exact ⟨Ac HE.out.symm,hB⟩
def mvR (x:Mte):List (Nat×Bool):=[(99,nmB x.name && inR x.clock 0 1000000 && inR x.seen 0 1000000),(100,wsB x.wants && (x.known || decide (x.wants.length=0))),(101,rsB x.runs x.clock),(102,Ea x.asks x.clock && Ea x.gives x.clock && apB x.asks x.gives),(103,dwB x)]
theorem aZ (x:Mte):Jx (mvR x)=mvB x:=by
 simp [Jx,mvR,mvB]
theorem Yh (x:Mte) (a5:OA) (c5:Nat) (a6:OA) (c6:Nat) (a7:OA) (c7:Nat) (a8:OA) (c8:Nat) (lo:Nat) (w:World) (hin:MSl x lo a5 a6 a7 a8 w):∀ (k:Nat) r,(mvR x)[k]?=some r→∀ v,Below w.heap.size w v→Calls Tryz.prog r.1 #[.agg (mmA x a5 c5 a6 c6 a7 c7 a8 c8)] v fun e w'=>e=.returned (.bool r.2)∧Below v.heap.size v w':=by
 intro k r hk;have h:=List.mem_of_getElem? hk;simp only [mvR,List.mem_cons,List.not_mem_nil,or_false] at h;rcases h with rfl | rfl | rfl | rfl | rfl
 ·exact fun v hb=>Sd x a5 c5 a6 c6 a7 c7 a8 c8 lo v (hin.below hb nL)
 ·exact fun v hb=>Wv x a5 c5 a6 c6 a7 c7 a8 c8 lo v (hin.below hb nL)
 ·exact fun v hb=>Rx x a5 c5 a6 c6 a7 c7 a8 c8 lo v (hin.below hb nL)
 ·exact fun v hb=>Qs x a5 c5 a6 c6 a7 c7 a8 c8 lo v (hin.below hb nL)
 ·exact fun v hb=>aA x a5 c5 a6 c6 a7 c7 a8 c8 lo v (hin.below hb nL)
theorem Ug (x:Mte):∀ (k:Nat) r,(mvR x)[k]?=some r→∀ args w,(callFunc r.1 args).run Tryz.prog w=.ok (.enter r.1 args) w:=by
 intro k r hk;have h:=List.mem_of_getElem? hk;simp only [mvR,List.mem_cons,List.not_mem_nil,or_false] at h;rcases h with rfl | rfl | rfl | rfl | rfl
 ·exact enters_of Tryz.func99 (by kernel_rfl) rfl
 ·exact enters_of Tryz.func100 (by kernel_rfl) rfl
 ·exact enters_of Tryz.func101 (by kernel_rfl) rfl
 ·exact enters_of Tryz.func102 (by kernel_rfl) rfl
 ·exact enters_of Tryz.func103 (by kernel_rfl) rfl
abbrev mvV:List Value:=[.func (.func 99) #[] #[],.func (.func 100) #[] #[],.func (.func 101) #[] #[],.func (.func 102) #[] #[],.func (.func 103) #[] #[]]
theorem cD {g:Nat} {w:World} (x:Mte) (h:w.rangeAt g 0 mvV):Oq g (mvR x) w:=by
 intro k r hk;have hk8:k<5:=(List.getElem?_eq_some_iff.1 hk).1;have hc:k=0∨k=1∨k=2∨k=3∨k=4:=by omega
 rcases hc with rfl | rfl | rfl | rfl | rfl
 ·cases hk;simpa using h 0 _ rfl
 ·cases hk;simpa using h 1 _ rfl
 ·cases hk;simpa using h 2 _ rfl
 ·cases hk;simpa using h 3 _ rfl
 ·cases hk;simpa using h 4 _ rfl
theorem Mo (w:World) :
  Calls Tryz.prog 66 #[] w fun e w'=>e=.returned (.slice (some ⟨w.heap.size,0,none⟩) 5 5)∧w'.rangeAt w.heap.size 0 mvV∧w.heap.size<w'.heap.size∧Below w.heap.size w w':=by
 go_enter Tryz.func66,Tryz.ntmps66;go_wp2_with fail;go_ret;refine ⟨rfl,?_,?_,?_⟩
 ·exact Aj (by simp) (Aj (by simp) (Aj (by simp) (Aj (by simp) (Aj (by simp) (Cc _ _ _)))))
 ·simp
 ·go_grown
theorem Ir (x:Mte) (a5:OA) (c5:Nat) (a6:OA) (c6:Nat) (a7:OA) (c7:Nat) (a8:OA) (c8:Nat) (lo:Nat) (w:World) (hin:MSl x lo a5 a6 a7 a8 w) :
  Calls Tryz.prog 27 #[.agg (mmA x a5 c5 a6 c6 a7 c7 a8 c8)] w (Rt (.bool (mvB x)) w):=by
 have HI:=iH hin;clear hin;have HK1:=iH (Blk.alloc w (mmA x a5 c5 a6 c6 a7 c7 a8 c8) 32);have hB1:=(Below.refl _ w).alloc nL (Obj.cells (mmA x a5 c5 a6 c6 a7 c7 a8 c8) 32);go_enter Tryz.func27,Tryz.ntmps27;go_upto_region 1 with fail;generalize w.alloc (Obj.cells (mmA x a5 c5 a6 c6 a7 c7 a8 c8) 32)=w1 at *;refine wp_region_held_drew (S:=fun wy=>Blk w.heap.size (mmA x a5 c5 a6 c6 a7 c7 a8 c8) 32 wy) (by kernel_rfl) HK1.out.drew (fun hS=>?_);have hBd:Below w.heap.size w w1.drew:=hB1.drew;generalize w1.drew=wd at *;refine tm 1 4 w.heap.size 0 (mmL x a5 c5 a6 c6 a7 c7 a8 c8) rfl (fun _ h=>h.rangeA) Tryz.underlying32 Am hS ?_;simp only [pX];refine rd1 0 ⟨some 3,_,_,_,_,none⟩ rfl (fun K hK=>?_);go_simp;refine (Mo _).mono ?_;rintro e w2 ⟨rfl,hr2,hg2,hb2⟩;have hB2:=qTr hBd hb2;have HR2:=iH hr2;have HI2:=iH (HI.out.below hB2 nL);clear hr2;refine hK.out _ _ (hS.below hb2 hS.lt) (fun hS=>?_);clear hK K;refine rd1 2 ⟨some 5,_,_,_,_,none⟩ rfl (fun K hK=>?_);go_simp;refine (Yt x a5 c5 a6 c6 a7 c7 a8 c8 (mvR x) wd.heap.size 5 _ (by simp [mvR]) (Yh x a5 c5 a6 c6 a7 c7 a8 c8 lo _ HI2) (Ug x) (cD x HR2) hg2).mono ?_;rintro e w3 ⟨rfl,hb3⟩;have hB3:=qTr hB2 hb3;refine hK.out _ _ (hS.below hb3 hS.lt) (fun hS=>?_);clear hK K;refine tz 3 2 (.bool (Jx (mvR x))) rfl hS ?_;simp only [pX];refine td ?_;clear hS;go_wp2_with fail;go_ret;exact ⟨Ac (aZ x),hB3⟩
end Go.Proofs.YtkiloaiffopllaaGreat
