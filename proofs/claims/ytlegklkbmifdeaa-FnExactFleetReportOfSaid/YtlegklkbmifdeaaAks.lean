/-
  Walks over MateAsk: sizes, copies, equality. Made by mk.py.
-/
import Derived.Test.YtlegklkbmifdeaaShp
namespace Go.Proofs.Ytlegklkbmifdeaa
open Go.RowKit

structure Aks where
  hold : ByteArray
  copy : ByteArray
  first : Int
  at_ : Int

def wAks (x : Aks) : Nat := x.hold.size + x.copy.size

/-- what its cells hold -/
def AksC : Make Aks := fun _ _ f x => f 0 = some (.string x.hold) ∧ f 1 = some (.string x.copy) ∧ f 2 = some (.int .i64 x.first) ∧ f 3 = some (.int .i64 x.at_) ∧ x.hold.size ≤ maxLen ∧ x.copy.size ≤ maxLen

theorem AksC.holds : Holds AksC 4 := by
  rintro lo lo' w w' f g x h _ _ ⟨q0, q1, q2, q3, z0, z1⟩
  exact ⟨(h 0 (by omega)).trans q0, (h 1 (by omega)).trans q1, (h 2 (by omega)).trans q2, (h 3 (by omega)).trans q3, z0, z1⟩

set_option maxHeartbeats 1000000 in
theorem szAks_any (x : Aks)  (L : Int) (w : World) (z0 : x.hold.size ≤ maxLen) (z1 : x.copy.size ≤ maxLen)  (h0 : 0 ≤ L) (h1 : L ≤ 1048576) :
    Calls Try.prog 33 #[.agg #[.string x.hold, .string x.copy, .int .i64 x.first, .int .i64 x.at_], .int .i64 L] w fun e w' => e = .returned (.int .i64 (szR (wAks x) L)) ∧ Below w.heap.size w w' := by
  unfold maxLen at z0 z1
  have HW : Hid (wAks x = x.hold.size + x.copy.size) := rfl
  generalize wAks x = W at *
  by_cases d0 : L - (x.hold.size : Nat) < 0
  · go_enter Try.func33, Try.ntmps33
    go_wp2_with fail
    go_ret
    exact ⟨ret_int (by have := HW.out; unfold szR; rw [if_neg (by omega)]), by go_grown⟩
  · skip
    by_cases d1 : L - (x.hold.size : Nat) - (x.copy.size : Nat) < 0
    · go_enter Try.func33, Try.ntmps33
      go_wp2_with fail
      go_ret
      exact ⟨ret_int (by have := HW.out; unfold szR; rw [if_neg (by omega)]), by go_grown⟩
    · skip
      go_enter Try.func33, Try.ntmps33
      go_wp2_with fail
      go_ret
      exact ⟨ret_int (by have := HW.out; unfold szR; rw [if_pos (by omega)]; omega), by go_grown⟩

theorem isz_Aks : (Try.prog.info? 79).map (·.size) = some 4 := by kernel_rfl

set_option maxHeartbeats 2000000 in
theorem toAks_any (x : Aks) (w : World) :
    Calls Try.prog 43 #[.agg #[.string x.hold, .string x.copy, .int .i64 x.first, .int .i64 x.at_]] w fun e w' => e = .returned (.agg #[.string x.hold, .string x.copy, .int .i64 x.first, .int .i64 x.at_]) ∧ Below w.heap.size w w' := by
  go_enter Try.func43, Try.ntmps43
  go_wp2
  go_returns
  exact ⟨rfl, by go_grown⟩

set_option maxHeartbeats 2000000 in
theorem eqAks_any (x : Aks) (w : World) :
    Calls Try.prog 52 #[.agg #[.string x.hold, .string x.copy, .int .i64 x.first, .int .i64 x.at_], .agg #[.string x.hold, .string x.copy, .int .i64 x.first, .int .i64 x.at_]] w fun e w' => e = .returned (.bool true) ∧ Below w.heap.size w w' := by
  go_enter Try.func52, Try.ntmps52
  go_wp2
  go_ret
  exact ⟨rfl, by go_grown⟩

set_option maxHeartbeats 1000000 in
theorem szAksS_any (xs : List Aks) (a : Option Addr) (cap lo : Nat) (L : Int) (w : World) (hin : SliceC AksC 4 lo w a xs) (h0 : 0 ≤ L) (h1 : L ≤ 1048576) :
    Calls Try.prog 15 #[.slice a xs.length cap, .int .i64 L] w fun e w' => e = .returned (.int .i64 (szR (wS wAks xs) L)) ∧ Below w.heap.size w w' := by
  have hlen := hin.1
  unfold maxLen at hlen
  have HI : Hid (SliceC AksC 4 lo w a xs) := hin
  clear hin
  have HW : Hid (wS wAks xs = xs.length + (xs.map wAks).sum) := rfl
  generalize wS wAks xs = W at *
  by_cases c1 : L - xs.length < 0
  · go_enter Try.func15, Try.ntmps15
    go_wp2_with fail
    go_ret
    exact ⟨ret_int (by have := HW.out; unfold szR; rw [if_neg (by omega)]), Below.refl _ _⟩
  · go_enter Try.func15, Try.ntmps15
    go_wp2_with fail
    go_loopw [1, 5] (fun l i wr => ∃ (k : Nat) (M : Int), k ≤ xs.length ∧ i = .int .i64 k ∧ l = .int .i64 M ∧ 0 ≤ M ∧ M ≤ 1048576 ∧ Hid (M = L - xs.length - ((xs.take k).map wAks).sum) ∧ Below w.heap.size w wr) (fun _ i _ => xs.length - (intOf i).toNat)
    case atStart => exact ⟨0, _, Nat.zero_le _, rfl, rfl, by omega, by omega, by show _ = _; simp, Below.refl _ _⟩
    case round =>
      obtain ⟨k, M, hk, rfl, rfl, hM0, hM1, hM, hbel⟩ := hrel
      by_cases hlt : k < xs.length
      · obtain ⟨x, hx⟩ : ∃ x, xs[k]? = some x := ⟨xs[k], List.getElem?_eq_getElem hlt⟩
        obtain ⟨b, o, rfl, _, _, hc⟩ := (HI.out.below AksC.holds hbel (Nat.le_refl _)).at hx
        obtain ⟨q0, q1, q2, q3, z0, z1⟩ := hc
        simp only [Nat.add_zero] at q0 q1 q2 q3
        have HX : Hid (((xs.take (k + 1)).map wAks).sum = ((xs.take k).map wAks).sum + wAks x) := sum_take _ _ _ _ hx
        have HY : Hid (((xs.take (k + 1)).map wAks).sum ≤ (xs.map wAks).sum) := sum_take_le _ _ _
        have CT := szAks_any x M wr z0 z1 hM0 hM1
        have HCT := Hid.intro CT
        clear hx CT
        by_cases hr : (wAks x : Int) ≤ M
        · rw [szR_pos hr] at HCT
          generalize hV : wAks x = V at *
          clear hV
          go_wp2_with fail
          refine HCT.out.mono ?_
          rintro e w1 ⟨rfl, hb1⟩
          clear HCT
          go_wp2_with fail
          go_roundw
          case rel =>
            refine ⟨k + 1, M - V, by omega, by go_num, rfl, by omega, by omega, ?_, hbel.trans (hb1.mono hbel.size)⟩
            have := hM.out
            have := HX.out
            show _ = _
            omega
          case measure => simp [intOf]; omega
        · rw [szR_neg hr] at HCT
          generalize hV : wAks x = V at *
          clear hV
          go_wp2_with fail
          refine HCT.out.mono ?_
          rintro e w1 ⟨rfl, hb1⟩
          clear HCT
          go_wp2_with fail
          go_ret
          refine ⟨ret_int ?_, hbel.trans (hb1.mono hbel.size)⟩
          have := HW.out
          have := HX.out
          have := HY.out
          have := hM.out
          unfold szR
          rw [if_neg (by omega)]
      · go_wp2_with fail
        go_ret
        refine ⟨ret_int ?_, hbel⟩
        have hke : k = xs.length := by omega
        subst hke
        have h3 := hM.out
        have h4 := HW.out
        simp only [List.take_length] at h3
        unfold szR
        rw [if_pos (by omega)]
        omega

theorem info_Aks : (Try.prog.info? 79).map (fun i => (i.zero, i.size, i.bytes)) = some (some (.agg #[.string ⟨#[]⟩, .string ⟨#[]⟩, .int .i64 0, .int .i64 0]), 4, 48) := by kernel_rfl

set_option maxHeartbeats 2000000 in
theorem toAksS_any (xs : List Aks) (a : Option Addr) (cap lo : Nat) (w : World) (hin : SliceC AksC 4 lo w a xs) (hsm : wS wAks xs ≤ 1048576) :
    Calls Try.prog 19 #[.slice a xs.length cap] w fun e w' => ∃ g, e = .returned (.slice (some ⟨g, 0, none⟩) xs.length xs.length) ∧ w.heap.size ≤ g ∧ SliceC AksC 4 w.heap.size w' (some ⟨g, 0, none⟩) xs ∧ Below w.heap.size w w' := by
  obtain ⟨i0, hi, hz0, hz1, hz2⟩ := info_parts info_Aks
  have hlen : xs.length ≤ 1048576 := Nat.le_trans wS_len hsm
  have HI : Hid (SliceC AksC 4 lo w a xs) := hin
  have HSM : Hid (wS wAks xs ≤ 1048576) := hsm
  clear hin hsm
  go_enter Try.func19, Try.ntmps19
  go_wp2_with (at_make; refine wpList_make_full _ rfl _ _ 34 rfl w.heap.size 79 i0 _ 4 Try.underlying34 hi hz0 hz1 .i64 .i64 _ _ xs.length rfl rfl rfl rfl (by rw [hz2]; omega) (by unfold maxLen; omega) (Nat.le_refl _) ?_; intro w1 hown hgrow)
  have hb1 : Below w.heap.size w w1 := (Below.refl _ _).grown hgrow (Nat.le_refl _) (fun k h => by cases h)
  have hsz1 := (hown.lt w.heap.size rfl).2
  generalize hX : (madeCells _ (xs.length * 4)).toList = xs0 at hown
  clear hX hgrow hi hz0 hz1 hz2
  go_loopw [4] (fun i wr => ∃ (k : Nat) (cs : List Value), k ≤ xs.length ∧ i = .int .i64 k ∧ w.heap.size < wr.heap.size ∧ wr.ownsRow w.heap.size 79 4 (.slice (some ⟨w.heap.size, 0, none⟩) xs.length xs.length) xs.length cs ∧ RowC AksC 4 (w.heap.size + 1) wr cs xs k ∧ Below w.heap.size w wr) (fun i _ => xs.length - (intOf i).toNat)
  case atStart => exact ⟨0, xs0, Nat.zero_le _, rfl, hsz1, hown, fun j n h => by omega, hb1⟩
  case round =>
    clear hown hb1 hsz1
    obtain ⟨k, cs, hk, rfl, hszr, hown, hfil, hbel⟩ := hrel
    by_cases hlt : k < xs.length
    · obtain ⟨x, hx⟩ : ∃ x, xs[k]? = some x := ⟨xs[k], List.getElem?_eq_getElem hlt⟩
      obtain ⟨b, o, rfl, _, _, hc⟩ := (HI.out.below AksC.holds hbel (Nat.le_refl _)).at hx
      obtain ⟨q0, q1, q2, q3, z0, z1⟩ := hc
      simp only [Nat.add_zero] at q0 q1 q2 q3
      have HN : Hid (xs[k]? = some x) := hx
      have hwx : wAks x ≤ 1048576 := Nat.le_trans (wS_mem (List.mem_of_getElem? hx)) HSM.out
      have HO : Hid (wr.ownsRow w.heap.size 79 4 (.slice (some ⟨w.heap.size, 0, none⟩) xs.length xs.length) xs.length cs) := hown
      have HF : Hid (RowC AksC 4 (w.heap.size + 1) wr cs xs k) := hfil
      have HS : Hid (w.heap.size < wr.heap.size) := hszr
      have CT := toAks_any x wr
      have HCT := Hid.intro CT
      clear hx hown hfil CT hszr
      go_wp2_with fail
      refine HCT.out.mono ?_
      rintro e w2 ⟨rfl, hb2⟩
      clear HCT q0 q1 q2 q3
      have ho2 := ownsRow_below HO.out hb2
      have HB2 : Hid (Below w.heap.size w w2) := hbel.trans (hb2.mono hbel.size)
      have HF2 : Hid (RowC AksC 4 (w.heap.size + 1) w2 cs xs k) := HF.out.keep AksC.holds (Keeps.of_below hb2 (Nat.le_refl _) _)
      have hs2 : Hid (w.heap.size < w2.heap.size) := Nat.lt_of_lt_of_le HS.out hb2.size
      have HR : Hid (AksC (w.heap.size + 1) w2 (fun i => ([.string x.hold, .string x.copy, .int .i64 x.first, .int .i64 x.at_] : List Value)[i]?) x) := ⟨rfl, rfl, rfl, rfl, z0, z1⟩
      have hxl : cs.length = xs.length * 4 := ho2.1
      have HT : Hid (w2.there w.heap.size (k * 4) 4) := ownsRow_there ho2 (by omega)
      have HL : Hid (cs.length = xs.length * 4) := hxl
      have HO2 : Hid (w2.ownsRow w.heap.size 79 4 (.slice (some ⟨w.heap.size, 0, none⟩) xs.length xs.length) xs.length cs) := ho2
      clear hxl ho2 HO hb2 hwx 
      obtain ⟨w3, hw3⟩ : ∃ w', w' = w2.setCells w.heap.size (k * 4) [.string x.hold, .string x.copy, .int .i64 x.first, .int .i64 x.at_] := ⟨_, rfl⟩
      have HW3 : Hid (w3 = w2.setCells w.heap.size (k * 4) [.string x.hold, .string x.copy, .int .i64 x.first, .int .i64 x.at_]) := hw3
      have HS3 : Hid (w.heap.size < w3.heap.size) := by rw [hw3, size_setCells]; exact hs2
      have HO3 : Hid (w3.ownsRow w.heap.size 79 4 (.slice (some ⟨w.heap.size, 0, none⟩) xs.length xs.length) xs.length (setRun cs (k * 4) [.string x.hold, .string x.copy, .int .i64 x.first, .int .i64 x.at_])) := by rw [hw3]; exact ownsRow_run _ _ _ _ HO2.out
      have HB3 : Hid (Below w.heap.size w w3) := by rw [hw3]; exact below_setCells (Nat.le_refl _) _ _ _ HB2.out
      have HR3 : Hid (RowC AksC 4 (w.heap.size + 1) w3 (setRun cs (k * 4) [.string x.hold, .string x.copy, .int .i64 x.first, .int .i64 x.at_]) xs (k + 1)) := by
        rw [hw3]
        exact (HF2.out.step (vs := [.string x.hold, .string x.copy, .int .i64 x.first, .int .i64 x.at_]) AksC.holds HN.out rfl (by have := HL.out; omega) HR.out).keep AksC.holds (Keeps.setCells (by omega) _ _ _)
      clear hw3 HB2 HF2 hs2 HR HL HO2
      go_wp2_with (refine wpList_store_to rfl 79 _ _ rfl w.heap.size (k * 4) #[.string x.hold, .string x.copy, .int .i64 x.first, .int .i64 x.at_] (by first | rfl | (simp [go_sem]; done)) rfl HT.out isz_Aks (by simp [Value.oneCell']) w3 HW3.out ?_)
      go_roundw
      case rel => exact ⟨k + 1, _, by omega, by go_num, HS3.out, HO3.out, HR3.out, HB3.out⟩
      case measure => simp [intOf]; omega
    · have HO : Hid (wr.ownsRow w.heap.size 79 4 (.slice (some ⟨w.heap.size, 0, none⟩) xs.length xs.length) xs.length cs) := hown
      have HF : Hid (RowC AksC 4 (w.heap.size + 1) wr cs xs k) := hfil
      clear hown hfil
      go_wp2_with fail
      go_ret
      have hke : k = xs.length := by omega
      subst hke
      exact ⟨_, rfl, Nat.le_refl _, sliceC_of_row HO.out HF.out AksC.holds HI.out.1 (by omega) (Nat.le_refl _), hbel⟩

set_option maxHeartbeats 2000000 in
theorem eqAksS_any (xs : List Aks) (a a' : Option Addr) (cap cap' lo lo' : Nat) (w : World) (hg : SliceC AksC 4 lo w a xs) (hh : SliceC AksC 4 lo' w a' xs) (hsm : wS wAks xs ≤ 1048576) :
    Calls Try.prog 25 #[.slice a xs.length cap, .slice a' xs.length cap'] w fun e w' => e = .returned (.bool true) ∧ Below w.heap.size w w' := by
  have hlen : xs.length ≤ 1048576 := Nat.le_trans wS_len hsm
  have HG : Hid (SliceC AksC 4 lo w a xs) := hg
  have HH : Hid (SliceC AksC 4 lo' w a' xs) := hh
  clear hg hh hsm
  go_enter Try.func25, Try.ntmps25
  go_wp2_with fail
  go_loopw [5] (fun i wr => ∃ (k : Nat), k ≤ xs.length ∧ i = .int .i64 k ∧ Below w.heap.size w wr) (fun i _ => xs.length - (intOf i).toNat)
  case atStart => exact ⟨0, Nat.zero_le _, rfl, Below.refl _ _⟩
  case round =>
    obtain ⟨k, hk, rfl, hbel⟩ := hrel
    by_cases hlt : k < xs.length
    · obtain ⟨x, hx⟩ : ∃ x, xs[k]? = some x := ⟨xs[k], List.getElem?_eq_getElem hlt⟩
      obtain ⟨b, o, rfl, _, _, hc⟩ := (HG.out.below AksC.holds hbel (Nat.le_refl _)).at hx
      obtain ⟨b', o', rfl, _, _, hc'⟩ := (HH.out.below AksC.holds hbel (Nat.le_refl _)).at hx
      obtain ⟨q0, q1, q2, q3, _, _⟩ := hc
      obtain ⟨r0, r1, r2, r3, _, _⟩ := hc'
      simp only [Nat.add_zero] at q0 q1 q2 q3 r0 r1 r2 r3
      have k0 := cell_regrown q0
      have l0 := cell_regrown r0
      have k1 := cell_regrown q1
      have l1 := cell_regrown r1
      have k2 := cell_regrown q2
      have l2 := cell_regrown r2
      have k3 := cell_regrown q3
      have l3 := cell_regrown r3
      have cE : ∀ d os, Calls Try.prog 52 #[.agg #[.string x.hold, .string x.copy, .int .i64 x.first, .int .i64 x.at_], .agg #[.string x.hold, .string x.copy, .int .i64 x.first, .int .i64 x.at_]] (Sort.grow (redrawn wr d) os) fun e w'' => e = .returned (.bool true) ∧ ∃ p : Regrown, w'' = Sort.grow (redrawn wr p.d) p.os := fun d os => Calls.regrown_of (eqAks_any x _)
      have i0 : (0 : Int) ≤ (k : Int) := by omega
      have i1 : (k : Int) < (xs.length : Int) := by omega
      clear hx q0 q1 q2 q3 r0 r1 r2 r3 
      go_wp2_with fail
      refine wp_region_quiet_below (by kernel_rfl) (by kernel_rfl) ?_
      repeat (quiet_step (first | exact cE _ _))
      refine wpQuiet_nil ?_
      intro _ hw'
      obtain ⟨⟨dq, osq⟩, hw''⟩ := hw'
      have hB := hbel.trans ((below_regrown wr dq osq).mono hbel.size)
      simp only [] at hw''
      rw [← hw''] at hB
      clear hw'' cE k0 l0 k1 l1 k2 l2 k3 l3
      go_wp2_with fail
      go_roundw
      case rel => exact ⟨k + 1, by omega, by go_num, hB⟩
      case measure => simp [intOf]; omega
    · go_wp2_with fail
      go_ret
      exact ⟨rfl, hbel⟩

end Go.Proofs.Ytlegklkbmifdeaa
