/-
  Walk: the law of a world of the stewards that is ok. Made by mklsw.py.
-/
import Derived.Test.YtnkggfnblcadoaaSww
import Derived.Test.YtnkggfnblcadoaaSwi
namespace Go.Proofs.Ytnkggfnblcadoaa
open Go.RowKit

theorem iszL_Swd : (Try.prog.info? 29).map (·.size) = some 5 := by kernel_rfl

set_option maxHeartbeats 4000000 in
set_option maxRecDepth 100000 in
theorem law_any (x : Swd) (a0 : Option Addr) (c0 : Nat) (a1 : Option Addr) (c1 : Nat) (a2 : Option Addr) (c2 : Nat) (a3 : Option Addr) (c3 : Nat) (lo : Nat) (w : World) (n0 : SliceC SbkC 4 lo w a0 x.past) (n1 : SliceC SsvC 13 lo w a1 x.book.services) (n2 : SliceC ScpC 7 lo w a2 x.book.copies) (n3 : SliceC SbtC 2 lo w a3 x.book.berths) (hw : NumW x) :
    Calls Try.prog 3 #[.agg #[.slice a0 x.past.length c0, .int .i64 x.book.now, .slice a1 x.book.services.length c1, .slice a2 x.book.copies.length c2, .slice a3 x.book.berths.length c3]] w fun e w' => e = .returned (.bool true) ∧ Below w.heap.size w w' := by
  have N0 := Hid.intro n0
  have N1 := Hid.intro n1
  have N2 := Hid.intro n2
  have N3 := Hid.intro n3
  have HW := Hid.intro hw
  clear n0 n1 n2 n3 hw
  have HK0 : Hid (Blk w.heap.size #[.slice a0 x.past.length c0, .int .i64 x.book.now, .slice a1 x.book.services.length c1, .slice a2 x.book.copies.length c2, .slice a3 x.book.berths.length c3] 29 (w.alloc (Obj.cells #[.slice a0 x.past.length c0, .int .i64 x.book.now, .slice a1 x.book.services.length c1, .slice a2 x.book.copies.length c2, .slice a3 x.book.berths.length c3] 29))) := Blk.alloc _ _ _
  have hB0 : Below w.heap.size w (w.alloc (Obj.cells #[.slice a0 x.past.length c0, .int .i64 x.book.now, .slice a1 x.book.services.length c1, .slice a2 x.book.copies.length c2, .slice a3 x.book.berths.length c3] 29)) := (Below.refl _ w).alloc (Nat.le_refl _) _
  go_enter Try.func3, Try.ntmps3
  go_upto_region 1 with fail
  generalize w.alloc (Obj.cells #[.slice a0 x.past.length c0, .int .i64 x.book.now, .slice a1 x.book.services.length c1, .slice a2 x.book.copies.length c2, .slice a3 x.book.berths.length c3] 29) = w0 at *
  go_wp2_with (refine wpList_load_mid rfl 29 _ rfl w.heap.size 0 (by first | rfl | (simp [go_sem]; done)) [.slice a0 x.past.length c0, .int .i64 x.book.now, .slice a1 x.book.services.length c1, .slice a2 x.book.copies.length c2, .slice a3 x.book.berths.length c3] _ HK0.out.rangeA Try.underlying29 rfl iszL_Swd ?_)
  refine (szSwd_any x a0 c0 a1 c1 a2 c2 a3 c3 lo 1048576 _ (N0.out.below SbkC.holds (B := w.heap.size) hB0 (Nat.le_refl _)) (N1.out.below SsvC.holds (B := w.heap.size) hB0 (Nat.le_refl _)) (N2.out.below ScpC.holds (B := w.heap.size) hB0 (Nat.le_refl _)) (N3.out.below SbtC.holds (B := w.heap.size) hB0 (Nat.le_refl _)) (by omega) (by omega)).mono ?_
  rintro e w1 ⟨rfl, hb1⟩
  have HK1 := Hid.intro (HK0.out.below hb1 HK0.out.lt)
  have hB1 := hB0.trans (hb1.mono hB0.size)
  clear hb1 HK0 hB0
  by_cases hz : ((wSwd x : Nat) : Int) ≤ 1048576
  case neg =>
    rw [szR_neg hz]
    go_wp2_with fail
    go_ret
    exact ⟨rfl, hB1⟩
  rw [szR_pos hz]
  have HM : Hid (wSwd x ≤ 1048576) := by show _ ≤ _; omega
  have hz0 : (0 : Int) ≤ 1048576 - (wSwd x : Nat) := by omega
  clear hz
  generalize (1048576 : Int) - (wSwd x : Nat) = R at *
  go_wp2_with (refine wpList_load_mid rfl 29 _ rfl w.heap.size 0 (by first | rfl | (simp [go_sem]; done)) [.slice a0 x.past.length c0, .int .i64 x.book.now, .slice a1 x.book.services.length c1, .slice a2 x.book.copies.length c2, .slice a3 x.book.berths.length c3] _ HK1.out.rangeA Try.underlying29 rfl iszL_Swd ?_)
  refine (toSwd_any x a0 c0 a1 c1 a2 c2 a3 c3 lo _ (N0.out.below SbkC.holds (B := w.heap.size) hB1 (Nat.le_refl _)) (N1.out.below SsvC.holds (B := w.heap.size) hB1 (Nat.le_refl _)) (N2.out.below ScpC.holds (B := w.heap.size) hB1 (Nat.le_refl _)) (N3.out.below SbtC.holds (B := w.heap.size) hB1 (Nat.le_refl _)) HM.out).mono ?_
  rintro e w2 ⟨g0, g1, g2, g3, rfl, q0, q1, q2, q3, hb2⟩
  have Q0 : Hid (SliceC SbkC 4 w1.heap.size w2 (some ⟨g0, 0, none⟩) x.past) := q0
  have Q1 : Hid (SliceC SsvC 13 w1.heap.size w2 (some ⟨g1, 0, none⟩) x.book.services) := q1
  have Q2 : Hid (SliceC ScpC 7 w1.heap.size w2 (some ⟨g2, 0, none⟩) x.book.copies) := q2
  have Q3 : Hid (SliceC SbtC 2 w1.heap.size w2 (some ⟨g3, 0, none⟩) x.book.berths) := q3
  have HK2 := Hid.intro (HK1.out.below hb2 HK1.out.lt)
  have hB2 := hB1.trans (hb2.mono hB1.size)
  clear hb2 HK1 hB1 q0 q1 q2 q3
  go_wp2_with fail
  refine (specWk_any x (some ⟨g0, 0, none⟩) x.past.length (some ⟨g1, 0, none⟩) x.book.services.length (some ⟨g2, 0, none⟩) x.book.copies.length (some ⟨g3, 0, none⟩) x.book.berths.length w1.heap.size _ Q0.out Q1.out Q2.out Q3.out).mono ?_
  rintro e w3 ⟨U, rfl, hu, hb3⟩
  have HU := Hid.intro hu
  have HK3 := Hid.intro (HK2.out.below hb3 HK2.out.lt)
  have hB3 := hB2.trans (hb3.mono hB2.size)
  clear hb3 HK2 hB2 Q0 Q1 Q2 Q3
  clear hu
  go_wp2_with (refine wpList_load_mid rfl 29 _ rfl w.heap.size 0 (by first | rfl | (simp [go_sem]; done)) [.slice a0 x.past.length c0, .int .i64 x.book.now, .slice a1 x.book.services.length c1, .slice a2 x.book.copies.length c2, .slice a3 x.book.berths.length c3] _ HK3.out.rangeA Try.underlying29 rfl iszL_Swd ?_)
  refine (toSwd_any x a0 c0 a1 c1 a2 c2 a3 c3 lo _ (N0.out.below SbkC.holds (B := w.heap.size) hB3 (Nat.le_refl _)) (N1.out.below SsvC.holds (B := w.heap.size) hB3 (Nat.le_refl _)) (N2.out.below ScpC.holds (B := w.heap.size) hB3 (Nat.le_refl _)) (N3.out.below SbtC.holds (B := w.heap.size) hB3 (Nat.le_refl _)) HM.out).mono ?_
  rintro e w4 ⟨g0, g1, g2, g3, rfl, q0, q1, q2, q3, hb4⟩
  have Q0 : Hid (SliceC SbkC 4 w3.heap.size w4 (some ⟨g0, 0, none⟩) x.past) := q0
  have Q1 : Hid (SliceC SsvC 13 w3.heap.size w4 (some ⟨g1, 0, none⟩) x.book.services) := q1
  have Q2 : Hid (SliceC ScpC 7 w3.heap.size w4 (some ⟨g2, 0, none⟩) x.book.copies) := q2
  have Q3 : Hid (SliceC SbtC 2 w3.heap.size w4 (some ⟨g3, 0, none⟩) x.book.berths) := q3
  have HK4 := Hid.intro (HK3.out.below hb4 HK3.out.lt)
  have hB4 := hB3.trans (hb4.mono hB3.size)
  clear hb4 HK3 hB3 q0 q1 q2 q3
  have hb5 : Below w4.heap.size w4 (w4.alloc (Obj.cells #[.slice (some ⟨g0, 0, none⟩) x.past.length x.past.length, .int .i64 x.book.now, .slice (some ⟨g1, 0, none⟩) x.book.services.length x.book.services.length, .slice (some ⟨g2, 0, none⟩) x.book.copies.length x.book.copies.length, .slice (some ⟨g3, 0, none⟩) x.book.berths.length x.book.berths.length] 39)) := (Below.refl _ _).alloc (Nat.le_refl _) _
  have HX5 : Hid (Blk w4.heap.size #[.slice (some ⟨g0, 0, none⟩) x.past.length x.past.length, .int .i64 x.book.now, .slice (some ⟨g1, 0, none⟩) x.book.services.length x.book.services.length, .slice (some ⟨g2, 0, none⟩) x.book.copies.length x.book.copies.length, .slice (some ⟨g3, 0, none⟩) x.book.berths.length x.book.berths.length] 39 (w4.alloc (Obj.cells #[.slice (some ⟨g0, 0, none⟩) x.past.length x.past.length, .int .i64 x.book.now, .slice (some ⟨g1, 0, none⟩) x.book.services.length x.book.services.length, .slice (some ⟨g2, 0, none⟩) x.book.copies.length x.book.copies.length, .slice (some ⟨g3, 0, none⟩) x.book.berths.length x.book.berths.length] 39))) := Blk.alloc _ _ _
  have HK5 : Hid (Blk w.heap.size #[.slice a0 x.past.length c0, .int .i64 x.book.now, .slice a1 x.book.services.length c1, .slice a2 x.book.copies.length c2, .slice a3 x.book.berths.length c3] 29 (w4.alloc (Obj.cells #[.slice (some ⟨g0, 0, none⟩) x.past.length x.past.length, .int .i64 x.book.now, .slice (some ⟨g1, 0, none⟩) x.book.services.length x.book.services.length, .slice (some ⟨g2, 0, none⟩) x.book.copies.length x.book.copies.length, .slice (some ⟨g3, 0, none⟩) x.book.berths.length x.book.berths.length] 39))) := HK4.out.below hb5 HK4.out.lt
  have hB5 : Below w.heap.size w (w4.alloc (Obj.cells #[.slice (some ⟨g0, 0, none⟩) x.past.length x.past.length, .int .i64 x.book.now, .slice (some ⟨g1, 0, none⟩) x.book.services.length x.book.services.length, .slice (some ⟨g2, 0, none⟩) x.book.copies.length x.book.copies.length, .slice (some ⟨g3, 0, none⟩) x.book.berths.length x.book.berths.length] 39)) := hB4.trans (hb5.mono hB4.size)
  replace Q0 : Hid (SliceC SbkC 4 w3.heap.size (w4.alloc (Obj.cells #[.slice (some ⟨g0, 0, none⟩) x.past.length x.past.length, .int .i64 x.book.now, .slice (some ⟨g1, 0, none⟩) x.book.services.length x.book.services.length, .slice (some ⟨g2, 0, none⟩) x.book.copies.length x.book.copies.length, .slice (some ⟨g3, 0, none⟩) x.book.berths.length x.book.berths.length] 39)) (some ⟨g0, 0, none⟩) x.past) := Q0.out.below SbkC.holds hb5 (Nat.le_refl _)
  replace Q1 : Hid (SliceC SsvC 13 w3.heap.size (w4.alloc (Obj.cells #[.slice (some ⟨g0, 0, none⟩) x.past.length x.past.length, .int .i64 x.book.now, .slice (some ⟨g1, 0, none⟩) x.book.services.length x.book.services.length, .slice (some ⟨g2, 0, none⟩) x.book.copies.length x.book.copies.length, .slice (some ⟨g3, 0, none⟩) x.book.berths.length x.book.berths.length] 39)) (some ⟨g1, 0, none⟩) x.book.services) := Q1.out.below SsvC.holds hb5 (Nat.le_refl _)
  replace Q2 : Hid (SliceC ScpC 7 w3.heap.size (w4.alloc (Obj.cells #[.slice (some ⟨g0, 0, none⟩) x.past.length x.past.length, .int .i64 x.book.now, .slice (some ⟨g1, 0, none⟩) x.book.services.length x.book.services.length, .slice (some ⟨g2, 0, none⟩) x.book.copies.length x.book.copies.length, .slice (some ⟨g3, 0, none⟩) x.book.berths.length x.book.berths.length] 39)) (some ⟨g2, 0, none⟩) x.book.copies) := Q2.out.below ScpC.holds hb5 (Nat.le_refl _)
  replace Q3 : Hid (SliceC SbtC 2 w3.heap.size (w4.alloc (Obj.cells #[.slice (some ⟨g0, 0, none⟩) x.past.length x.past.length, .int .i64 x.book.now, .slice (some ⟨g1, 0, none⟩) x.book.services.length x.book.services.length, .slice (some ⟨g2, 0, none⟩) x.book.copies.length x.book.copies.length, .slice (some ⟨g3, 0, none⟩) x.book.berths.length x.book.berths.length] 39)) (some ⟨g3, 0, none⟩) x.book.berths) := Q3.out.below SbtC.holds hb5 (Nat.le_refl _)
  clear hb5 HK4 hB4
  go_upto_region 7 with fail
  generalize w4.alloc (Obj.cells #[.slice (some ⟨g0, 0, none⟩) x.past.length x.past.length, .int .i64 x.book.now, .slice (some ⟨g1, 0, none⟩) x.book.services.length x.book.services.length, .slice (some ⟨g2, 0, none⟩) x.book.copies.length x.book.copies.length, .slice (some ⟨g3, 0, none⟩) x.book.berths.length x.book.berths.length] 39) = w5 at *
  generalize w4.heap.size = q at *
  go_wp2_with (refine wpList_load_mid rfl 39 _ rfl q 0 (by first | rfl | (simp [go_sem]; done)) [.slice (some ⟨g0, 0, none⟩) x.past.length x.past.length, .int .i64 x.book.now, .slice (some ⟨g1, 0, none⟩) x.book.services.length x.book.services.length, .slice (some ⟨g2, 0, none⟩) x.book.copies.length x.book.copies.length, .slice (some ⟨g3, 0, none⟩) x.book.berths.length x.book.berths.length] _ HX5.out.rangeA Try.underlying39 rfl isz_Swd ?_)
  refine (implWk_any x (some ⟨g0, 0, none⟩) x.past.length (some ⟨g1, 0, none⟩) x.book.services.length (some ⟨g2, 0, none⟩) x.book.copies.length (some ⟨g3, 0, none⟩) x.book.berths.length w3.heap.size _ Q0.out Q1.out Q2.out Q3.out HW.out).mono ?_
  rintro e w6 ⟨U2, rfl, hu2, hb6⟩
  have hU2 : U2 = U := Bool.eq_iff_iff.2 (hu2.trans HU.out.symm)
  subst hU2
  clear hu2
  have HK6 := Hid.intro (HK5.out.below hb6 HK5.out.lt)
  have HX6 := Hid.intro (HX5.out.below hb6 HX5.out.lt)
  have hB6 := hB5.trans (hb6.mono hB5.size)
  replace Q0 : Hid (SliceC SbkC 4 w3.heap.size w6 (some ⟨g0, 0, none⟩) x.past) := Q0.out.below SbkC.holds hb6 (Nat.le_refl _)
  replace Q1 : Hid (SliceC SsvC 13 w3.heap.size w6 (some ⟨g1, 0, none⟩) x.book.services) := Q1.out.below SsvC.holds hb6 (Nat.le_refl _)
  replace Q2 : Hid (SliceC ScpC 7 w3.heap.size w6 (some ⟨g2, 0, none⟩) x.book.copies) := Q2.out.below ScpC.holds hb6 (Nat.le_refl _)
  replace Q3 : Hid (SliceC SbtC 2 w3.heap.size w6 (some ⟨g3, 0, none⟩) x.book.berths) := Q3.out.below SbtC.holds hb6 (Nat.le_refl _)
  clear hb6 HK5 HX5 hB5
  go_wp2_with fail
  refine wp_region_held_drew (S := fun wy => Blk q #[.slice (some ⟨g0, 0, none⟩) x.past.length x.past.length, .int .i64 x.book.now, .slice (some ⟨g1, 0, none⟩) x.book.services.length x.book.services.length, .slice (some ⟨g2, 0, none⟩) x.book.copies.length x.book.copies.length, .slice (some ⟨g3, 0, none⟩) x.book.berths.length x.book.berths.length] 39 wy ∧ Blk w.heap.size #[.slice a0 x.past.length c0, .int .i64 x.book.now, .slice a1 x.book.services.length c1, .slice a2 x.book.copies.length c2, .slice a3 x.book.berths.length c3] 29 wy) (by kernel_rfl) ⟨HX6.out.drew, HK6.out.drew⟩ (fun hS => ?_)
  have hBd : Below w.heap.size w w6.drew := hB6.drew
  replace Q0 : Hid (SliceC SbkC 4 w3.heap.size w6.drew (some ⟨g0, 0, none⟩) x.past) := Q0.out.below SbkC.holds ((Below.refl w6.heap.size w6).drew) (Nat.le_refl _)
  replace Q1 : Hid (SliceC SsvC 13 w3.heap.size w6.drew (some ⟨g1, 0, none⟩) x.book.services) := Q1.out.below SsvC.holds ((Below.refl w6.heap.size w6).drew) (Nat.le_refl _)
  replace Q2 : Hid (SliceC ScpC 7 w3.heap.size w6.drew (some ⟨g2, 0, none⟩) x.book.copies) := Q2.out.below ScpC.holds ((Below.refl w6.heap.size w6).drew) (Nat.le_refl _)
  replace Q3 : Hid (SliceC SbtC 2 w3.heap.size w6.drew (some ⟨g3, 0, none⟩) x.book.berths) := Q3.out.below SbtC.holds ((Below.refl w6.heap.size w6).drew) (Nat.le_refl _)
  clear HX6 HK6 hB6
  generalize w6.drew = wd at *
  refine wpAnyH_take (i := 0) (oi := { dst := some 22, op := _, type := _, pos := _, after := _, guard := none }) (v := .agg #[.slice (some ⟨g0, 0, none⟩) x.past.length x.past.length, .int .i64 x.book.now, .slice (some ⟨g1, 0, none⟩) x.book.services.length x.book.services.length, .slice (some ⟨g2, 0, none⟩) x.book.copies.length x.book.copies.length, .slice (some ⟨g3, 0, none⟩) x.book.berths.length x.book.berths.length]) rfl (by kernel_rfl) (by kernel_rfl) (by kernel_rfl) (fun _ _ _ h => h) (yieldsIf_load_mid (by rfl) _ _ rfl q (0) rfl [.slice (some ⟨g0, 0, none⟩) x.past.length x.past.length, .int .i64 x.book.now, .slice (some ⟨g1, 0, none⟩) x.book.services.length x.book.services.length, .slice (some ⟨g2, 0, none⟩) x.book.copies.length x.book.copies.length, .slice (some ⟨g3, 0, none⟩) x.book.berths.length x.book.berths.length] _ (fun _ h => h.1.rangeA) Try.underlying39 rfl isz_Swd) hS ?_
  simp only [Act.put, List.setIfInBounds_toArray, List.set_cons_zero, List.set_cons_succ]
  refine wpAnyH_take (i := 1) (oi := { dst := some 23, op := _, type := _, pos := _, after := _, guard := none }) (v := .agg #[.slice a0 x.past.length c0, .int .i64 x.book.now, .slice a1 x.book.services.length c1, .slice a2 x.book.copies.length c2, .slice a3 x.book.berths.length c3]) rfl (by kernel_rfl) (by kernel_rfl) (by kernel_rfl) (fun _ _ _ h => h) (yieldsIf_load_mid (by rfl) _ _ rfl w.heap.size (0) rfl [.slice a0 x.past.length c0, .int .i64 x.book.now, .slice a1 x.book.services.length c1, .slice a2 x.book.copies.length c2, .slice a3 x.book.berths.length c3] _ (fun _ h => h.2.rangeA) Try.underlying29 rfl iszL_Swd) hS ?_
  simp only [Act.put, List.setIfInBounds_toArray, List.set_cons_zero, List.set_cons_succ]
  refine wpAnyH_ready (rs := [2]) (by kernel_rfl) (by simp) (AllReadyH.cons (o := { dst := some 24, op := _, type := _, pos := _, after := _, guard := none }) rfl (fun K hK => ?_) AllReadyH.nil)
  go_simp
  refine (toSwd_any x a0 c0 a1 c1 a2 c2 a3 c3 lo _ (N0.out.below SbkC.holds (B := w.heap.size) hBd (Nat.le_refl _)) (N1.out.below SsvC.holds (B := w.heap.size) hBd (Nat.le_refl _)) (N2.out.below ScpC.holds (B := w.heap.size) hBd (Nat.le_refl _)) (N3.out.below SbtC.holds (B := w.heap.size) hBd (Nat.le_refl _)) HM.out).mono ?_
  rintro e w7 ⟨h0, h1, h2, h3, rfl, q0, q1, q2, q3, hb7⟩
  have hB7 := hBd.trans (hb7.mono hBd.size)
  have P0 : Hid (SliceC SbkC 4 wd.heap.size w7 (some ⟨h0, 0, none⟩) x.past) := q0
  have P1 : Hid (SliceC SsvC 13 wd.heap.size w7 (some ⟨h1, 0, none⟩) x.book.services) := q1
  have P2 : Hid (SliceC ScpC 7 wd.heap.size w7 (some ⟨h2, 0, none⟩) x.book.copies) := q2
  have P3 : Hid (SliceC SbtC 2 wd.heap.size w7 (some ⟨h3, 0, none⟩) x.book.berths) := q3
  replace Q0 : Hid (SliceC SbkC 4 w3.heap.size w7 (some ⟨g0, 0, none⟩) x.past) := Q0.out.below SbkC.holds hb7 (Nat.le_refl _)
  replace Q1 : Hid (SliceC SsvC 13 w3.heap.size w7 (some ⟨g1, 0, none⟩) x.book.services) := Q1.out.below SsvC.holds hb7 (Nat.le_refl _)
  replace Q2 : Hid (SliceC ScpC 7 w3.heap.size w7 (some ⟨g2, 0, none⟩) x.book.copies) := Q2.out.below ScpC.holds hb7 (Nat.le_refl _)
  replace Q3 : Hid (SliceC SbtC 2 w3.heap.size w7 (some ⟨g3, 0, none⟩) x.book.berths) := Q3.out.below SbtC.holds hb7 (Nat.le_refl _)
  refine hK.out _ _ ⟨hS.1.below hb7 hS.1.lt, hS.2.below hb7 hS.2.lt⟩ (fun hS => ?_)
  clear hK K
  clear q0 q1 q2 q3 hb7 hBd
  refine wpAnyH_ready (rs := [3]) (by kernel_rfl) (by simp) (AllReadyH.cons (o := { dst := some 25, op := _, type := _, pos := _, after := _, guard := none }) rfl (fun K hK => ?_) AllReadyH.nil)
  go_simp
  refine (eqSwd_any x (some ⟨g0, 0, none⟩) x.past.length (some ⟨g1, 0, none⟩) x.book.services.length (some ⟨g2, 0, none⟩) x.book.copies.length (some ⟨g3, 0, none⟩) x.book.berths.length (some ⟨h0, 0, none⟩) x.past.length (some ⟨h1, 0, none⟩) x.book.services.length (some ⟨h2, 0, none⟩) x.book.copies.length (some ⟨h3, 0, none⟩) x.book.berths.length _ _ _ Q0.out Q1.out Q2.out Q3.out P0.out P1.out P2.out P3.out HM.out).mono ?_
  rintro e w8 ⟨rfl, hb8⟩
  have hB8 := hB7.trans (hb8.mono hB7.size)
  refine hK.out _ _ ⟨hS.1.below hb8 hS.1.lt, hS.2.below hb8 hS.2.lt⟩ (fun hS => ?_)
  clear hK K
  refine wpAnyH_take (i := 4) (oi := { dst := some 26, op := _, type := _, pos := _, after := _, guard := none }) (v := .bool false) rfl (by kernel_rfl) (by kernel_rfl) (by kernel_rfl) (fun _ _ _ h => h) (Or.inl ⟨by rfl, ?_⟩) hS ?_
  · intro wy hy
    clear hy
    go_simp
  simp only [Act.put, List.setIfInBounds_toArray, List.set_cons_zero, List.set_cons_succ]
  refine wpAnyH_done (by kernel_rfl) ?_ _
  clear hS
  go_wp2_with fail
  go_ret
  exact ⟨rfl, hB8⟩

end Go.Proofs.Ytnkggfnblcadoaa
