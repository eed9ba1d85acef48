import Derived.Test.YtnggdpjfmpjlhaaGreatShp
namespace Go.Proofs.YtnggdpjfmpjlhaaGreat
open Go.RowKit

structure Scp where
 service : ByteArray
 number : Int
 version : Int
 image : Int
 state : Int
 ending : Bool
 berth : ByteArray

def wScp (x : Scp) : Nat := x.service.size + x.berth.size

def ScpC : Make Scp := fun _ _ f x => f 0 = some (.string x.service) ∧ f 1 = some (.int .i64 x.number) ∧ f 2 = some (.int .i64 x.version) ∧ f 3 = some (.int .i64 x.image) ∧ f 4 = some (.int .i64 x.state) ∧ f 5 = some (.bool x.ending) ∧ f 6 = some (.string x.berth) ∧ x.service.size ≤ maxLen ∧ x.berth.size ≤ maxLen

theorem ScpC.holds : Holds ScpC 7 := by
 rintro lo lo' w w' f g x h _ _ ⟨q0, q1, q2, q3, q4, q5, q6, z0, z6⟩
 exact ⟨(h 0 (by omega)).trans q0, (h 1 (by omega)).trans q1, (h 2 (by omega)).trans q2, (h 3 (by omega)).trans q3, (h 4 (by omega)).trans q4, (h 5 (by omega)).trans q5, (h 6 (by omega)).trans q6, z0, z6⟩

set_option maxHeartbeats 1000000 in
theorem szScp_any (x : Scp)  (L : Int) (w : World) (z0 : x.service.size ≤ maxLen) (z6 : x.berth.size ≤ maxLen)  (h0 : 0 ≤ L) (h1 : L ≤ 1048576) :
  Calls Tryz.prog 36 #[.agg #[.string x.service, .int .i64 x.number, .int .i64 x.version, .int .i64 x.image, .int .i64 x.state, .bool x.ending, .string x.berth], .int .i64 L] w fun e w' => e = .returned (.int .i64 (szR (wScp x) L)) ∧ Below w.heap.size w w' := by
 unfold maxLen at z0 z6
 have HW : Hid (wScp x = x.service.size + x.berth.size) := rfl
 generalize wScp x = W at *
 by_cases d0 : L - (x.service.size : Nat) < 0
 ·go_enter Tryz.func36, Tryz.ntmps36
  go_wp2_with fail
  go_ret
  exact ⟨ret_int (by have := HW.out; unfold szR; rw [if_neg (by omega)]), by go_grown⟩
 ·skip
  by_cases d6 : L - (x.service.size : Nat) - (x.berth.size : Nat) < 0
  ·go_enter Tryz.func36, Tryz.ntmps36
   go_wp2_with fail
   go_ret
   exact ⟨ret_int (by have := HW.out; unfold szR; rw [if_neg (by omega)]), by go_grown⟩
  ·skip
   go_enter Tryz.func36, Tryz.ntmps36
   go_wp2_with fail
   go_ret
   exact ⟨ret_int (by have := HW.out; unfold szR; rw [if_pos (by omega)]; omega), by go_grown⟩

theorem isz_Scp : (Tryz.prog.info? 87).map (·.size) = some 7 := by kernel_rfl

set_option maxHeartbeats 2000000 in
theorem toScp_any (x : Scp) (w : World) :
  Calls Tryz.prog 51 #[.agg #[.string x.service, .int .i64 x.number, .int .i64 x.version, .int .i64 x.image, .int .i64 x.state, .bool x.ending, .string x.berth]] w fun e w' => e = .returned (.agg #[.string x.service, .int .i64 x.number, .int .i64 x.version, .int .i64 x.image, .int .i64 x.state, .bool x.ending, .string x.berth]) ∧ Below w.heap.size w w' := by
 go_enter Tryz.func51, Tryz.ntmps51
 go_wp2
 go_returns
 exact ⟨rfl, by go_grown⟩

set_option maxHeartbeats 2000000 in
theorem eqScp_any (x : Scp) (w : World) :
  Calls Tryz.prog 66 #[.agg #[.string x.service, .int .i64 x.number, .int .i64 x.version, .int .i64 x.image, .int .i64 x.state, .bool x.ending, .string x.berth], .agg #[.string x.service, .int .i64 x.number, .int .i64 x.version, .int .i64 x.image, .int .i64 x.state, .bool x.ending, .string x.berth]] w fun e w' => e = .returned (.bool true) ∧ Below w.heap.size w w' := by
 go_enter Tryz.func66, Tryz.ntmps66
 go_wp2
 go_ret
 exact ⟨rfl, by go_grown⟩

set_option maxHeartbeats 1000000 in
theorem szScpS_any (xs : List Scp) (a : Option Addr) (cap lo : Nat) (L : Int) (w : World) (hin : SliceC ScpC 7 lo w a xs) (h0 : 0 ≤ L) (h1 : L ≤ 1048576) :
  Calls Tryz.prog 14 #[.slice a xs.length cap, .int .i64 L] w fun e w' => e = .returned (.int .i64 (szR (wS wScp xs) L)) ∧ Below w.heap.size w w' := by
 have hlen := hin.1
 unfold maxLen at hlen
 have HI : Hid (SliceC ScpC 7 lo w a xs) := hin
 clear hin
 have HW : Hid (wS wScp xs = xs.length + (xs.map wScp).sum) := rfl
 generalize wS wScp xs = W at *
 by_cases c1 : L - xs.length < 0
 ·go_enter Tryz.func14, Tryz.ntmps14
  go_wp2_with fail
  go_ret
  exact ⟨ret_int (by have := HW.out; unfold szR; rw [if_neg (by omega)]), Below.refl _ _⟩
 ·go_enter Tryz.func14, Tryz.ntmps14
  go_wp2_with fail
  go_loopw [1, 5] (fun l i wr => ∃ (k : Nat) (M : Int), k ≤ xs.length ∧ i = .int .i64 k ∧ l = .int .i64 M ∧ 0 ≤ M ∧ M ≤ 1048576 ∧ Hid (M = L - xs.length - ((xs.take k).map wScp).sum) ∧ Below w.heap.size w wr) (fun _ i _ => xs.length - (intOf i).toNat)
  case atStart => exact ⟨0, _, Nat.zero_le _, rfl, rfl, by omega, by omega, by show _ = _; simp, Below.refl _ _⟩
  case round =>
   obtain ⟨k, M, hk, rfl, rfl, hM0, hM1, hM, hbel⟩ := hrel
   by_cases hlt : k < xs.length
   ·obtain ⟨x, hx⟩ : ∃ x, xs[k]? = some x := ⟨xs[k], List.getElem?_eq_getElem hlt⟩
    obtain ⟨b, o, rfl, _, _, hc⟩ := (HI.out.below ScpC.holds hbel (Nat.le_refl _)).at hx
    obtain ⟨q0, q1, q2, q3, q4, q5, q6, z0, z6⟩ := hc
    simp only [Nat.add_zero] at q0 q1 q2 q3 q4 q5 q6
    have HX : Hid (((xs.take (k + 1)).map wScp).sum = ((xs.take k).map wScp).sum + wScp x) := sum_take _ _ _ _ hx
    have HY : Hid (((xs.take (k + 1)).map wScp).sum ≤ (xs.map wScp).sum) := sum_take_le _ _ _
    have CT := szScp_any x M wr z0 z6 hM0 hM1
    have HCT := Hid.intro CT
    clear hx CT
    by_cases hr : (wScp x : Int) ≤ M
    ·rw [szR_pos hr] at HCT
     generalize hV : wScp x = V at *
     clear hV
     go_wp2_with fail
     refine HCT.out.mono ?_
     rintro e w1 ⟨rfl, hb1⟩
     clear HCT
     go_wp2_with fail
     go_roundw
     case rel =>
      refine ⟨k + 1, M - V, by omega, by go_num, rfl, by omega, by omega, ?_, hbel.trans (hb1.mono hbel.size)⟩
      have := hM.out
      have := HX.out
      show _ = _
      omega
     case measure => simp [intOf]; omega
    ·rw [szR_neg hr] at HCT
     generalize hV : wScp x = V at *
     clear hV
     go_wp2_with fail
     refine HCT.out.mono ?_
     rintro e w1 ⟨rfl, hb1⟩
     clear HCT
     go_wp2_with fail
     go_ret
     refine ⟨ret_int ?_, hbel.trans (hb1.mono hbel.size)⟩
     have := HW.out
     have := HX.out
     have := HY.out
     have := hM.out
     unfold szR
     rw [if_neg (by omega)]
   ·go_wp2_with fail
    go_ret
    refine ⟨ret_int ?_, hbel⟩
    have hke : k = xs.length := by omega
    subst hke
    have h3 := hM.out
    have h4 := HW.out
    simp only [List.take_length] at h3
    unfold szR
    rw [if_pos (by omega)]
    omega

theorem info_Scp : (Tryz.prog.info? 87).map (fun i => (i.zero, i.size, i.bytes)) = some (some (.agg #[.string ⟨#[]⟩, .int .i64 0, .int .i64 0, .int .i64 0, .int .i64 0, .bool false, .string ⟨#[]⟩]), 7, 72) := by kernel_rfl

set_option maxHeartbeats 2000000 in
theorem toScpS_any (xs : List Scp) (a : Option Addr) (cap lo : Nat) (w : World) (hin : SliceC ScpC 7 lo w a xs) (hsm : wS wScp xs ≤ 1048576) :
  Calls Tryz.prog 19 #[.slice a xs.length cap] w fun e w' => ∃ g, e = .returned (.slice (some ⟨g, 0, none⟩) xs.length xs.length) ∧ w.heap.size ≤ g ∧ SliceC ScpC 7 w.heap.size w' (some ⟨g, 0, none⟩) xs ∧ Below w.heap.size w w' := by
 obtain ⟨i0, hi, hz0, hz1, hz2⟩ := info_parts info_Scp
 have hlen : xs.length ≤ 1048576 := Nat.le_trans wS_len hsm
 have HI : Hid (SliceC ScpC 7 lo w a xs) := hin
 have HSM : Hid (wS wScp xs ≤ 1048576) := hsm
 clear hin hsm
 go_enter Tryz.func19, Tryz.ntmps19
 go_wp2_with (at_make; refine wpList_make_full _ rfl _ _ 31 rfl w.heap.size 87 i0 _ 7 Tryz.underlying31 hi hz0 hz1 .i64 .i64 _ _ xs.length rfl rfl rfl rfl (by rw [hz2]; omega) (by unfold maxLen; omega) (Nat.le_refl _) ?_; intro w1 hown hgrow)
 have hb1 : Below w.heap.size w w1 := (Below.refl _ _).grown hgrow (Nat.le_refl _) (fun k h => by cases h)
 have hsz1 := (hown.lt w.heap.size rfl).2
 generalize hX : (madeCells _ (xs.length * 7)).toList = xs0 at hown
 clear hX hgrow hi hz0 hz1 hz2
 go_loopw [4] (fun i wr => ∃ (k : Nat) (cs : List Value), k ≤ xs.length ∧ i = .int .i64 k ∧ w.heap.size < wr.heap.size ∧ wr.ownsRow w.heap.size 87 7 (.slice (some ⟨w.heap.size, 0, none⟩) xs.length xs.length) xs.length cs ∧ RowC ScpC 7 (w.heap.size + 1) wr cs xs k ∧ Below w.heap.size w wr) (fun i _ => xs.length - (intOf i).toNat)
 case atStart => exact ⟨0, xs0, Nat.zero_le _, rfl, hsz1, hown, fun j n h => by omega, hb1⟩
 case round =>
  clear hown hb1 hsz1
  obtain ⟨k, cs, hk, rfl, hszr, hown, hfil, hbel⟩ := hrel
  by_cases hlt : k < xs.length
  ·obtain ⟨x, hx⟩ : ∃ x, xs[k]? = some x := ⟨xs[k], List.getElem?_eq_getElem hlt⟩
   obtain ⟨b, o, rfl, _, _, hc⟩ := (HI.out.below ScpC.holds hbel (Nat.le_refl _)).at hx
   obtain ⟨q0, q1, q2, q3, q4, q5, q6, z0, z6⟩ := hc
   simp only [Nat.add_zero] at q0 q1 q2 q3 q4 q5 q6
   have HN : Hid (xs[k]? = some x) := hx
   have hwx : wScp x ≤ 1048576 := Nat.le_trans (wS_mem (List.mem_of_getElem? hx)) HSM.out
   have HO : Hid (wr.ownsRow w.heap.size 87 7 (.slice (some ⟨w.heap.size, 0, none⟩) xs.length xs.length) xs.length cs) := hown
   have HF : Hid (RowC ScpC 7 (w.heap.size + 1) wr cs xs k) := hfil
   have HS : Hid (w.heap.size < wr.heap.size) := hszr
   have CT := toScp_any x wr
   have HCT := Hid.intro CT
   clear hx hown hfil CT hszr
   go_wp2_with fail
   refine HCT.out.mono ?_
   rintro e w2 ⟨rfl, hb2⟩
   clear HCT q0 q1 q2 q3 q4 q5 q6
   have ho2 := ownsRow_below HO.out hb2
   have HB2 : Hid (Below w.heap.size w w2) := hbel.trans (hb2.mono hbel.size)
   have HF2 : Hid (RowC ScpC 7 (w.heap.size + 1) w2 cs xs k) := HF.out.keep ScpC.holds (Keeps.of_below hb2 (Nat.le_refl _) _)
   have hs2 : Hid (w.heap.size < w2.heap.size) := Nat.lt_of_lt_of_le HS.out hb2.size
   have HR : Hid (ScpC (w.heap.size + 1) w2 (fun i => ([.string x.service, .int .i64 x.number, .int .i64 x.version, .int .i64 x.image, .int .i64 x.state, .bool x.ending, .string x.berth] : List Value)[i]?) x) := ⟨rfl, rfl, rfl, rfl, rfl, rfl, rfl, z0, z6⟩
   have hxl : cs.length = xs.length * 7 := ho2.1
   have HT : Hid (w2.there w.heap.size (k * 7) 7) := ownsRow_there ho2 (by omega)
   have HL : Hid (cs.length = xs.length * 7) := hxl
   have HO2 : Hid (w2.ownsRow w.heap.size 87 7 (.slice (some ⟨w.heap.size, 0, none⟩) xs.length xs.length) xs.length cs) := ho2
   clear hxl ho2 HO hb2 hwx
   obtain ⟨w3, hw3⟩ : ∃ w', w' = w2.setCells w.heap.size (k * 7) [.string x.service, .int .i64 x.number, .int .i64 x.version, .int .i64 x.image, .int .i64 x.state, .bool x.ending, .string x.berth] := ⟨_, rfl⟩
   have HW3 : Hid (w3 = w2.setCells w.heap.size (k * 7) [.string x.service, .int .i64 x.number, .int .i64 x.version, .int .i64 x.image, .int .i64 x.state, .bool x.ending, .string x.berth]) := hw3
   have HS3 : Hid (w.heap.size < w3.heap.size) := by rw [hw3, size_setCells]; exact hs2
   have HO3 : Hid (w3.ownsRow w.heap.size 87 7 (.slice (some ⟨w.heap.size, 0, none⟩) xs.length xs.length) xs.length (setRun cs (k * 7) [.string x.service, .int .i64 x.number, .int .i64 x.version, .int .i64 x.image, .int .i64 x.state, .bool x.ending, .string x.berth])) := by rw [hw3]; exact ownsRow_run _ _ _ _ HO2.out
   have HB3 : Hid (Below w.heap.size w w3) := by rw [hw3]; exact below_setCells (Nat.le_refl _) _ _ _ HB2.out
   have HR3 : Hid (RowC ScpC 7 (w.heap.size + 1) w3 (setRun cs (k * 7) [.string x.service, .int .i64 x.number, .int .i64 x.version, .int .i64 x.image, .int .i64 x.state, .bool x.ending, .string x.berth]) xs (k + 1)) := by
    rw [hw3]
    exact (HF2.out.step (vs := [.string x.service, .int .i64 x.number, .int .i64 x.version, .int .i64 x.image, .int .i64 x.state, .bool x.ending, .string x.berth]) ScpC.holds HN.out rfl (by have := HL.out; omega) HR.out).keep ScpC.holds (Keeps.setCells (by omega) _ _ _)
   clear hw3 HB2 HF2 hs2 HR HL HO2
   go_wp2_with (refine wpList_store_to rfl 87 _ _ rfl w.heap.size (k * 7) #[.string x.service, .int .i64 x.number, .int .i64 x.version, .int .i64 x.image, .int .i64 x.state, .bool x.ending, .string x.berth] (by first | rfl | (simp [go_sem]; done)) rfl HT.out isz_Scp (by simp [Value.oneCell']) w3 HW3.out ?_)
   go_roundw
   case rel => exact ⟨k + 1, _, by omega, by go_num, HS3.out, HO3.out, HR3.out, HB3.out⟩
   case measure => simp [intOf]; omega
  ·have HO : Hid (wr.ownsRow w.heap.size 87 7 (.slice (some ⟨w.heap.size, 0, none⟩) xs.length xs.length) xs.length cs) := hown
   have HF : Hid (RowC ScpC 7 (w.heap.size + 1) wr cs xs k) := hfil
   clear hown hfil
   go_wp2_with fail
   go_ret
   have hke : k = xs.length := by omega
   subst hke
   exact ⟨_, rfl, Nat.le_refl _, sliceC_of_row HO.out HF.out ScpC.holds HI.out.1 (by omega) (Nat.le_refl _), hbel⟩

set_option maxHeartbeats 2000000 in
theorem eqScpS_any (xs : List Scp) (a a' : Option Addr) (cap cap' lo lo' : Nat) (w : World) (hg : SliceC ScpC 7 lo w a xs) (hh : SliceC ScpC 7 lo' w a' xs) (hsm : wS wScp xs ≤ 1048576) :
  Calls Tryz.prog 27 #[.slice a xs.length cap, .slice a' xs.length cap'] w fun e w' => e = .returned (.bool true) ∧ Below w.heap.size w w' := by
 have hlen : xs.length ≤ 1048576 := Nat.le_trans wS_len hsm
 have HG : Hid (SliceC ScpC 7 lo w a xs) := hg
 have HH : Hid (SliceC ScpC 7 lo' w a' xs) := hh
 clear hg hh hsm
 go_enter Tryz.func27, Tryz.ntmps27
 go_wp2_with fail
 go_loopw [5] (fun i wr => ∃ (k : Nat), k ≤ xs.length ∧ i = .int .i64 k ∧ Below w.heap.size w wr) (fun i _ => xs.length - (intOf i).toNat)
 case atStart => exact ⟨0, Nat.zero_le _, rfl, Below.refl _ _⟩
 case round =>
  obtain ⟨k, hk, rfl, hbel⟩ := hrel
  by_cases hlt : k < xs.length
  ·obtain ⟨x, hx⟩ : ∃ x, xs[k]? = some x := ⟨xs[k], List.getElem?_eq_getElem hlt⟩
   obtain ⟨b, o, rfl, _, _, hc⟩ := (HG.out.below ScpC.holds hbel (Nat.le_refl _)).at hx
   obtain ⟨b', o', rfl, _, _, hc'⟩ := (HH.out.below ScpC.holds hbel (Nat.le_refl _)).at hx
   obtain ⟨q0, q1, q2, q3, q4, q5, q6, _, _⟩ := hc
   obtain ⟨r0, r1, r2, r3, r4, r5, r6, _, _⟩ := hc'
   simp only [Nat.add_zero] at q0 q1 q2 q3 q4 q5 q6 r0 r1 r2 r3 r4 r5 r6
   have k0 := cell_regrown q0
   have l0 := cell_regrown r0
   have k1 := cell_regrown q1
   have l1 := cell_regrown r1
   have k2 := cell_regrown q2
   have l2 := cell_regrown r2
   have k3 := cell_regrown q3
   have l3 := cell_regrown r3
   have k4 := cell_regrown q4
   have l4 := cell_regrown r4
   have k5 := cell_regrown q5
   have l5 := cell_regrown r5
   have k6 := cell_regrown q6
   have l6 := cell_regrown r6
   have cE : ∀ d os, Calls Tryz.prog 66 #[.agg #[.string x.service, .int .i64 x.number, .int .i64 x.version, .int .i64 x.image, .int .i64 x.state, .bool x.ending, .string x.berth], .agg #[.string x.service, .int .i64 x.number, .int .i64 x.version, .int .i64 x.image, .int .i64 x.state, .bool x.ending, .string x.berth]] (Sort.grow (redrawn wr d) os) fun e w'' => e = .returned (.bool true) ∧ ∃ p : Regrown, w'' = Sort.grow (redrawn wr p.d) p.os := fun d os => Calls.regrown_of (eqScp_any x _)
   have i0 : (0 : Int) ≤ (k : Int) := by omega
   have i1 : (k : Int) < (xs.length : Int) := by omega
   clear hx q0 q1 q2 q3 q4 q5 q6 r0 r1 r2 r3 r4 r5 r6
   go_wp2_with fail
   refine wp_region_quiet_below (by kernel_rfl) (by kernel_rfl) ?_
   repeat (quiet_step (first | exact cE _ _))
   refine wpQuiet_nil ?_
   intro _ hw'
   obtain ⟨⟨dq, osq⟩, hw''⟩ := hw'
   have hB := hbel.trans ((below_regrown wr dq osq).mono hbel.size)
   simp only [] at hw''
   rw [← hw''] at hB
   clear hw'' cE k0 l0 k1 l1 k2 l2 k3 l3 k4 l4 k5 l5 k6 l6
   go_wp2_with fail
   go_roundw
   case rel => exact ⟨k + 1, by omega, by go_num, hB⟩
   case measure => simp [intOf]; omega
  ·go_wp2_with fail
   go_ret
   exact ⟨rfl, hbel⟩

end Go.Proofs.YtnggdpjfmpjlhaaGreat

namespace Go.Proofs.YtnggdpjfmpjlhaaGreat
open Go.RowKit

structure Sbt where
 name : ByteArray
 drain : Bool

def wSbt (x : Sbt) : Nat := x.name.size

def SbtC : Make Sbt := fun _ _ f x => f 0 = some (.string x.name) ∧ f 1 = some (.bool x.drain) ∧ x.name.size ≤ maxLen

theorem SbtC.holds : Holds SbtC 2 := by
 rintro lo lo' w w' f g x h _ _ ⟨q0, q1, z0⟩
 exact ⟨(h 0 (by omega)).trans q0, (h 1 (by omega)).trans q1, z0⟩

set_option maxHeartbeats 1000000 in
theorem szSbt_any (x : Sbt)  (L : Int) (w : World) (z0 : x.name.size ≤ maxLen)  (h0 : 0 ≤ L) (h1 : L ≤ 1048576) :
  Calls Tryz.prog 37 #[.agg #[.string x.name, .bool x.drain], .int .i64 L] w fun e w' => e = .returned (.int .i64 (szR (wSbt x) L)) ∧ Below w.heap.size w w' := by
 unfold maxLen at z0
 have HW : Hid (wSbt x = x.name.size) := rfl
 generalize wSbt x = W at *
 by_cases d0 : L - (x.name.size : Nat) < 0
 ·go_enter Tryz.func37, Tryz.ntmps37
  go_wp2_with fail
  go_ret
  exact ⟨ret_int (by have := HW.out; unfold szR; rw [if_neg (by omega)]), by go_grown⟩
 ·skip
  go_enter Tryz.func37, Tryz.ntmps37
  go_wp2_with fail
  go_ret
  exact ⟨ret_int (by have := HW.out; unfold szR; rw [if_pos (by omega)]; omega), by go_grown⟩

theorem isz_Sbt : (Tryz.prog.info? 85).map (·.size) = some 2 := by kernel_rfl

set_option maxHeartbeats 2000000 in
theorem toSbt_any (x : Sbt) (w : World) :
  Calls Tryz.prog 52 #[.agg #[.string x.name, .bool x.drain]] w fun e w' => e = .returned (.agg #[.string x.name, .bool x.drain]) ∧ Below w.heap.size w w' := by
 go_enter Tryz.func52, Tryz.ntmps52
 go_wp2
 go_returns
 exact ⟨rfl, by go_grown⟩

set_option maxHeartbeats 2000000 in
theorem eqSbt_any (x : Sbt) (w : World) :
  Calls Tryz.prog 67 #[.agg #[.string x.name, .bool x.drain], .agg #[.string x.name, .bool x.drain]] w fun e w' => e = .returned (.bool true) ∧ Below w.heap.size w w' := by
 go_enter Tryz.func67, Tryz.ntmps67
 go_wp2
 go_ret
 exact ⟨rfl, by go_grown⟩

set_option maxHeartbeats 1000000 in
theorem szSbtS_any (xs : List Sbt) (a : Option Addr) (cap lo : Nat) (L : Int) (w : World) (hin : SliceC SbtC 2 lo w a xs) (h0 : 0 ≤ L) (h1 : L ≤ 1048576) :
  Calls Tryz.prog 15 #[.slice a xs.length cap, .int .i64 L] w fun e w' => e = .returned (.int .i64 (szR (wS wSbt xs) L)) ∧ Below w.heap.size w w' := by
 have hlen := hin.1
 unfold maxLen at hlen
 have HI : Hid (SliceC SbtC 2 lo w a xs) := hin
 clear hin
 have HW : Hid (wS wSbt xs = xs.length + (xs.map wSbt).sum) := rfl
 generalize wS wSbt xs = W at *
 by_cases c1 : L - xs.length < 0
 ·go_enter Tryz.func15, Tryz.ntmps15
  go_wp2_with fail
  go_ret
  exact ⟨ret_int (by have := HW.out; unfold szR; rw [if_neg (by omega)]), Below.refl _ _⟩
 ·go_enter Tryz.func15, Tryz.ntmps15
  go_wp2_with fail
  go_loopw [1, 5] (fun l i wr => ∃ (k : Nat) (M : Int), k ≤ xs.length ∧ i = .int .i64 k ∧ l = .int .i64 M ∧ 0 ≤ M ∧ M ≤ 1048576 ∧ Hid (M = L - xs.length - ((xs.take k).map wSbt).sum) ∧ Below w.heap.size w wr) (fun _ i _ => xs.length - (intOf i).toNat)
  case atStart => exact ⟨0, _, Nat.zero_le _, rfl, rfl, by omega, by omega, by show _ = _; simp, Below.refl _ _⟩
  case round =>
   obtain ⟨k, M, hk, rfl, rfl, hM0, hM1, hM, hbel⟩ := hrel
   by_cases hlt : k < xs.length
   ·obtain ⟨x, hx⟩ : ∃ x, xs[k]? = some x := ⟨xs[k], List.getElem?_eq_getElem hlt⟩
    obtain ⟨b, o, rfl, _, _, hc⟩ := (HI.out.below SbtC.holds hbel (Nat.le_refl _)).at hx
    obtain ⟨q0, q1, z0⟩ := hc
    simp only [Nat.add_zero] at q0 q1
    have HX : Hid (((xs.take (k + 1)).map wSbt).sum = ((xs.take k).map wSbt).sum + wSbt x) := sum_take _ _ _ _ hx
    have HY : Hid (((xs.take (k + 1)).map wSbt).sum ≤ (xs.map wSbt).sum) := sum_take_le _ _ _
    have CT := szSbt_any x M wr z0 hM0 hM1
    have HCT := Hid.intro CT
    clear hx CT
    by_cases hr : (wSbt x : Int) ≤ M
    ·rw [szR_pos hr] at HCT
     generalize hV : wSbt x = V at *
     clear hV
     go_wp2_with fail
     refine HCT.out.mono ?_
     rintro e w1 ⟨rfl, hb1⟩
     clear HCT
     go_wp2_with fail
     go_roundw
     case rel =>
      refine ⟨k + 1, M - V, by omega, by go_num, rfl, by omega, by omega, ?_, hbel.trans (hb1.mono hbel.size)⟩
      have := hM.out
      have := HX.out
      show _ = _
      omega
     case measure => simp [intOf]; omega
    ·rw [szR_neg hr] at HCT
     generalize hV : wSbt x = V at *
     clear hV
     go_wp2_with fail
     refine HCT.out.mono ?_
     rintro e w1 ⟨rfl, hb1⟩
     clear HCT
     go_wp2_with fail
     go_ret
     refine ⟨ret_int ?_, hbel.trans (hb1.mono hbel.size)⟩
     have := HW.out
     have := HX.out
     have := HY.out
     have := hM.out
     unfold szR
     rw [if_neg (by omega)]
   ·go_wp2_with fail
    go_ret
    refine ⟨ret_int ?_, hbel⟩
    have hke : k = xs.length := by omega
    subst hke
    have h3 := hM.out
    have h4 := HW.out
    simp only [List.take_length] at h3
    unfold szR
    rw [if_pos (by omega)]
    omega

theorem info_Sbt : (Tryz.prog.info? 85).map (fun i => (i.zero, i.size, i.bytes)) = some (some (.agg #[.string ⟨#[]⟩, .bool false]), 2, 24) := by kernel_rfl

set_option maxHeartbeats 2000000 in
theorem toSbtS_any (xs : List Sbt) (a : Option Addr) (cap lo : Nat) (w : World) (hin : SliceC SbtC 2 lo w a xs) (hsm : wS wSbt xs ≤ 1048576) :
  Calls Tryz.prog 20 #[.slice a xs.length cap] w fun e w' => ∃ g, e = .returned (.slice (some ⟨g, 0, none⟩) xs.length xs.length) ∧ w.heap.size ≤ g ∧ SliceC SbtC 2 w.heap.size w' (some ⟨g, 0, none⟩) xs ∧ Below w.heap.size w w' := by
 obtain ⟨i0, hi, hz0, hz1, hz2⟩ := info_parts info_Sbt
 have hlen : xs.length ≤ 1048576 := Nat.le_trans wS_len hsm
 have HI : Hid (SliceC SbtC 2 lo w a xs) := hin
 have HSM : Hid (wS wSbt xs ≤ 1048576) := hsm
 clear hin hsm
 go_enter Tryz.func20, Tryz.ntmps20
 go_wp2_with (at_make; refine wpList_make_full _ rfl _ _ 32 rfl w.heap.size 85 i0 _ 2 Tryz.underlying32 hi hz0 hz1 .i64 .i64 _ _ xs.length rfl rfl rfl rfl (by rw [hz2]; omega) (by unfold maxLen; omega) (Nat.le_refl _) ?_; intro w1 hown hgrow)
 have hb1 : Below w.heap.size w w1 := (Below.refl _ _).grown hgrow (Nat.le_refl _) (fun k h => by cases h)
 have hsz1 := (hown.lt w.heap.size rfl).2
 generalize hX : (madeCells _ (xs.length * 2)).toList = xs0 at hown
 clear hX hgrow hi hz0 hz1 hz2
 go_loopw [4] (fun i wr => ∃ (k : Nat) (cs : List Value), k ≤ xs.length ∧ i = .int .i64 k ∧ w.heap.size < wr.heap.size ∧ wr.ownsRow w.heap.size 85 2 (.slice (some ⟨w.heap.size, 0, none⟩) xs.length xs.length) xs.length cs ∧ RowC SbtC 2 (w.heap.size + 1) wr cs xs k ∧ Below w.heap.size w wr) (fun i _ => xs.length - (intOf i).toNat)
 case atStart => exact ⟨0, xs0, Nat.zero_le _, rfl, hsz1, hown, fun j n h => by omega, hb1⟩
 case round =>
  clear hown hb1 hsz1
  obtain ⟨k, cs, hk, rfl, hszr, hown, hfil, hbel⟩ := hrel
  by_cases hlt : k < xs.length
  ·obtain ⟨x, hx⟩ : ∃ x, xs[k]? = some x := ⟨xs[k], List.getElem?_eq_getElem hlt⟩
   obtain ⟨b, o, rfl, _, _, hc⟩ := (HI.out.below SbtC.holds hbel (Nat.le_refl _)).at hx
   obtain ⟨q0, q1, z0⟩ := hc
   simp only [Nat.add_zero] at q0 q1
   have HN : Hid (xs[k]? = some x) := hx
   have hwx : wSbt x ≤ 1048576 := Nat.le_trans (wS_mem (List.mem_of_getElem? hx)) HSM.out
   have HO : Hid (wr.ownsRow w.heap.size 85 2 (.slice (some ⟨w.heap.size, 0, none⟩) xs.length xs.length) xs.length cs) := hown
   have HF : Hid (RowC SbtC 2 (w.heap.size + 1) wr cs xs k) := hfil
   have HS : Hid (w.heap.size < wr.heap.size) := hszr
   have CT := toSbt_any x wr
   have HCT := Hid.intro CT
   clear hx hown hfil CT hszr
   go_wp2_with fail
   refine HCT.out.mono ?_
   rintro e w2 ⟨rfl, hb2⟩
   clear HCT q0 q1
   have ho2 := ownsRow_below HO.out hb2
   have HB2 : Hid (Below w.heap.size w w2) := hbel.trans (hb2.mono hbel.size)
   have HF2 : Hid (RowC SbtC 2 (w.heap.size + 1) w2 cs xs k) := HF.out.keep SbtC.holds (Keeps.of_below hb2 (Nat.le_refl _) _)
   have hs2 : Hid (w.heap.size < w2.heap.size) := Nat.lt_of_lt_of_le HS.out hb2.size
   have HR : Hid (SbtC (w.heap.size + 1) w2 (fun i => ([.string x.name, .bool x.drain] : List Value)[i]?) x) := ⟨rfl, rfl, z0⟩
   have hxl : cs.length = xs.length * 2 := ho2.1
   have HT : Hid (w2.there w.heap.size (k * 2) 2) := ownsRow_there ho2 (by omega)
   have HL : Hid (cs.length = xs.length * 2) := hxl
   have HO2 : Hid (w2.ownsRow w.heap.size 85 2 (.slice (some ⟨w.heap.size, 0, none⟩) xs.length xs.length) xs.length cs) := ho2
   clear hxl ho2 HO hb2 hwx
   obtain ⟨w3, hw3⟩ : ∃ w', w' = w2.setCells w.heap.size (k * 2) [.string x.name, .bool x.drain] := ⟨_, rfl⟩
   have HW3 : Hid (w3 = w2.setCells w.heap.size (k * 2) [.string x.name, .bool x.drain]) := hw3
   have HS3 : Hid (w.heap.size < w3.heap.size) := by rw [hw3, size_setCells]; exact hs2
   have HO3 : Hid (w3.ownsRow w.heap.size 85 2 (.slice (some ⟨w.heap.size, 0, none⟩) xs.length xs.length) xs.length (setRun cs (k * 2) [.string x.name, .bool x.drain])) := by rw [hw3]; exact ownsRow_run _ _ _ _ HO2.out
   have HB3 : Hid (Below w.heap.size w w3) := by rw [hw3]; exact below_setCells (Nat.le_refl _) _ _ _ HB2.out
   have HR3 : Hid (RowC SbtC 2 (w.heap.size + 1) w3 (setRun cs (k * 2) [.string x.name, .bool x.drain]) xs (k + 1)) := by
    rw [hw3]
    exact (HF2.out.step (vs := [.string x.name, .bool x.drain]) SbtC.holds HN.out rfl (by have := HL.out; omega) HR.out).keep SbtC.holds (Keeps.setCells (by omega) _ _ _)
   clear hw3 HB2 HF2 hs2 HR HL HO2
   go_wp2_with (refine wpList_store_to rfl 85 _ _ rfl w.heap.size (k * 2) #[.string x.name, .bool x.drain] (by first | rfl | (simp [go_sem]; done)) rfl HT.out isz_Sbt (by simp [Value.oneCell']) w3 HW3.out ?_)
   go_roundw
   case rel => exact ⟨k + 1, _, by omega, by go_num, HS3.out, HO3.out, HR3.out, HB3.out⟩
   case measure => simp [intOf]; omega
  ·have HO : Hid (wr.ownsRow w.heap.size 85 2 (.slice (some ⟨w.heap.size, 0, none⟩) xs.length xs.length) xs.length cs) := hown
   have HF : Hid (RowC SbtC 2 (w.heap.size + 1) wr cs xs k) := hfil
   clear hown hfil
   go_wp2_with fail
   go_ret
   have hke : k = xs.length := by omega
   subst hke
   exact ⟨_, rfl, Nat.le_refl _, sliceC_of_row HO.out HF.out SbtC.holds HI.out.1 (by omega) (Nat.le_refl _), hbel⟩

set_option maxHeartbeats 2000000 in
theorem eqSbtS_any (xs : List Sbt) (a a' : Option Addr) (cap cap' lo lo' : Nat) (w : World) (hg : SliceC SbtC 2 lo w a xs) (hh : SliceC SbtC 2 lo' w a' xs) (hsm : wS wSbt xs ≤ 1048576) :
  Calls Tryz.prog 28 #[.slice a xs.length cap, .slice a' xs.length cap'] w fun e w' => e = .returned (.bool true) ∧ Below w.heap.size w w' := by
 have hlen : xs.length ≤ 1048576 := Nat.le_trans wS_len hsm
 have HG : Hid (SliceC SbtC 2 lo w a xs) := hg
 have HH : Hid (SliceC SbtC 2 lo' w a' xs) := hh
 clear hg hh hsm
 go_enter Tryz.func28, Tryz.ntmps28
 go_wp2_with fail
 go_loopw [5] (fun i wr => ∃ (k : Nat), k ≤ xs.length ∧ i = .int .i64 k ∧ Below w.heap.size w wr) (fun i _ => xs.length - (intOf i).toNat)
 case atStart => exact ⟨0, Nat.zero_le _, rfl, Below.refl _ _⟩
 case round =>
  obtain ⟨k, hk, rfl, hbel⟩ := hrel
  by_cases hlt : k < xs.length
  ·obtain ⟨x, hx⟩ : ∃ x, xs[k]? = some x := ⟨xs[k], List.getElem?_eq_getElem hlt⟩
   obtain ⟨b, o, rfl, _, _, hc⟩ := (HG.out.below SbtC.holds hbel (Nat.le_refl _)).at hx
   obtain ⟨b', o', rfl, _, _, hc'⟩ := (HH.out.below SbtC.holds hbel (Nat.le_refl _)).at hx
   obtain ⟨q0, q1, _⟩ := hc
   obtain ⟨r0, r1, _⟩ := hc'
   simp only [Nat.add_zero] at q0 q1 r0 r1
   have k0 := cell_regrown q0
   have l0 := cell_regrown r0
   have k1 := cell_regrown q1
   have l1 := cell_regrown r1
   have cE : ∀ d os, Calls Tryz.prog 67 #[.agg #[.string x.name, .bool x.drain], .agg #[.string x.name, .bool x.drain]] (Sort.grow (redrawn wr d) os) fun e w'' => e = .returned (.bool true) ∧ ∃ p : Regrown, w'' = Sort.grow (redrawn wr p.d) p.os := fun d os => Calls.regrown_of (eqSbt_any x _)
   have i0 : (0 : Int) ≤ (k : Int) := by omega
   have i1 : (k : Int) < (xs.length : Int) := by omega
   clear hx q0 q1 r0 r1
   go_wp2_with fail
   refine wp_region_quiet_below (by kernel_rfl) (by kernel_rfl) ?_
   repeat (quiet_step (first | exact cE _ _))
   refine wpQuiet_nil ?_
   intro _ hw'
   obtain ⟨⟨dq, osq⟩, hw''⟩ := hw'
   have hB := hbel.trans ((below_regrown wr dq osq).mono hbel.size)
   simp only [] at hw''
   rw [← hw''] at hB
   clear hw'' cE k0 l0 k1 l1
   go_wp2_with fail
   go_roundw
   case rel => exact ⟨k + 1, by omega, by go_num, hB⟩
   case measure => simp [intOf]; omega
  ·go_wp2_with fail
   go_ret
   exact ⟨rfl, hbel⟩

end Go.Proofs.YtnggdpjfmpjlhaaGreat
