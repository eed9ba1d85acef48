/-
  Walk: the law of a world that is settled. Made by mkwo8.py.
-/
import Derived.Test.YtlcjfiikiblcdaaGreatSe2
import Derived.Test.YtlcjfiikiblcdaaGreatSe3
namespace Go.Proofs.YtlcjfiikiblcdaaGreat
open Go.RowKit

theorem iszL_Wrl : (Tryz.prog.info? 43).map (·.size) = some 5 := by kernel_rfl

set_option maxHeartbeats 4000000 in
set_option maxRecDepth 100000 in
theorem law_any (x : Wrl) (a1 : Option Addr) (c1 : Nat) (a2 : Option Addr) (c2 : Nat) (a3 : Option Addr) (c3 : Nat) (a4 : Option Addr) (c4 : Nat) (lo : Nat) (w : World) (n1 : SliceC GrtC 5 lo w a1 x.land.grants) (n2 : SliceC PlmC 3 lo w a2 x.land.places) (n3 : SliceC MteC 9 lo w a3 x.mates) (n4 : SliceC StrC 1 lo w a4 x.flight) :
    Calls Tryz.prog 6 #[.agg #[.int .i64 x.land.time, .slice a1 x.land.grants.length c1, .slice a2 x.land.places.length c2, .slice a3 x.mates.length c3, .slice a4 x.flight.length c4]] w fun e w' => e = .returned (.bool true) ∧ Below w.heap.size w w' := by
  have N1 := Hid.intro n1
  have N2 := Hid.intro n2
  have N3 := Hid.intro n3
  have N4 := Hid.intro n4
  clear n1 n2 n3 n4
  have HK0 : Hid (Blk w.heap.size #[.int .i64 x.land.time, .slice a1 x.land.grants.length c1, .slice a2 x.land.places.length c2, .slice a3 x.mates.length c3, .slice a4 x.flight.length c4] 43 (w.alloc (Obj.cells #[.int .i64 x.land.time, .slice a1 x.land.grants.length c1, .slice a2 x.land.places.length c2, .slice a3 x.mates.length c3, .slice a4 x.flight.length c4] 43))) := Blk.alloc _ _ _
  have hB0 : Below w.heap.size w (w.alloc (Obj.cells #[.int .i64 x.land.time, .slice a1 x.land.grants.length c1, .slice a2 x.land.places.length c2, .slice a3 x.mates.length c3, .slice a4 x.flight.length c4] 43)) := (Below.refl _ w).alloc (Nat.le_refl _) _
  go_enter Tryz.func6, Tryz.ntmps6
  go_upto_region 1 with fail
  generalize w.alloc (Obj.cells #[.int .i64 x.land.time, .slice a1 x.land.grants.length c1, .slice a2 x.land.places.length c2, .slice a3 x.mates.length c3, .slice a4 x.flight.length c4] 43) = w0 at *
  go_wp2_with (refine wpList_load_mid rfl 43 _ rfl w.heap.size 0 (by first | rfl | (simp [go_sem]; done)) [.int .i64 x.land.time, .slice a1 x.land.grants.length c1, .slice a2 x.land.places.length c2, .slice a3 x.mates.length c3, .slice a4 x.flight.length c4] _ HK0.out.rangeA Tryz.underlying43 rfl iszL_Wrl ?_)
  refine (szWrl_any x a1 c1 a2 c2 a3 c3 a4 c4 lo 1048576 _ (N1.out.below GrtC.holds (B := w.heap.size) hB0 (Nat.le_refl _)) (N2.out.below PlmC.holds (B := w.heap.size) hB0 (Nat.le_refl _)) (N3.out.below MteC.holds (B := w.heap.size) hB0 (Nat.le_refl _)) (N4.out.below StrC.holds (B := w.heap.size) hB0 (Nat.le_refl _)) (by omega) (by omega)).mono ?_
  rintro e w1 ⟨rfl, hb1⟩
  have HK1 := Hid.intro (HK0.out.below hb1 HK0.out.lt)
  have hB1 := hB0.trans (hb1.mono hB0.size)
  clear hb1 HK0 hB0
  by_cases hz : ((wWrl x : Nat) : Int) ≤ 1048576
  case neg =>
    rw [szR_neg hz]
    go_wp2_with fail
    go_ret
    exact ⟨rfl, hB1⟩
  rw [szR_pos hz]
  have HM : Hid (wWrl x ≤ 1048576) := by show _ ≤ _; omega
  have hz0 : (0 : Int) ≤ 1048576 - (wWrl x : Nat) := by omega
  clear hz
  generalize (1048576 : Int) - (wWrl x : Nat) = R at *
  go_wp2_with (refine wpList_load_mid rfl 43 _ rfl w.heap.size 0 (by first | rfl | (simp [go_sem]; done)) [.int .i64 x.land.time, .slice a1 x.land.grants.length c1, .slice a2 x.land.places.length c2, .slice a3 x.mates.length c3, .slice a4 x.flight.length c4] _ HK1.out.rangeA Tryz.underlying43 rfl iszL_Wrl ?_)
  refine (toWrl_any x a1 c1 a2 c2 a3 c3 a4 c4 lo _ (N1.out.below GrtC.holds (B := w.heap.size) hB1 (Nat.le_refl _)) (N2.out.below PlmC.holds (B := w.heap.size) hB1 (Nat.le_refl _)) (N3.out.below MteC.holds (B := w.heap.size) hB1 (Nat.le_refl _)) (N4.out.below StrC.holds (B := w.heap.size) hB1 (Nat.le_refl _)) HM.out).mono ?_
  rintro e w2 ⟨g1, g2, g3, g4, rfl, q1, q2, q3, q4, hb2⟩
  have Q1 : Hid (SliceC GrtC 5 w1.heap.size w2 (some ⟨g1, 0, none⟩) x.land.grants) := q1
  have Q2 : Hid (SliceC PlmC 3 w1.heap.size w2 (some ⟨g2, 0, none⟩) x.land.places) := q2
  have Q3 : Hid (SliceC MteC 9 w1.heap.size w2 (some ⟨g3, 0, none⟩) x.mates) := q3
  have Q4 : Hid (SliceC StrC 1 w1.heap.size w2 (some ⟨g4, 0, none⟩) x.flight) := q4
  have HK2 := Hid.intro (HK1.out.below hb2 HK1.out.lt)
  have hB2 := hB1.trans (hb2.mono hB1.size)
  clear hb2 HK1 hB1 q1 q2 q3 q4
  go_wp2_with fail
  refine (specSettled_any x (some ⟨g1, 0, none⟩) x.land.grants.length (some ⟨g2, 0, none⟩) x.land.places.length (some ⟨g3, 0, none⟩) x.mates.length (some ⟨g4, 0, none⟩) x.flight.length w1.heap.size _ (wrl_all HM.out Q1.out Q2.out Q3.out Q4.out)).mono ?_
  rintro e w3 ⟨rfl, hb3⟩
  have HK3 := Hid.intro (HK2.out.below hb3 HK2.out.lt)
  have hB3 := hB2.trans (hb3.mono hB2.size)
  clear hb3 HK2 hB2 Q1 Q2 Q3 Q4
  generalize hU : seB x = U
  have HU := Hid.intro hU
  clear hU
  go_wp2_with (refine wpList_load_mid rfl 43 _ rfl w.heap.size 0 (by first | rfl | (simp [go_sem]; done)) [.int .i64 x.land.time, .slice a1 x.land.grants.length c1, .slice a2 x.land.places.length c2, .slice a3 x.mates.length c3, .slice a4 x.flight.length c4] _ HK3.out.rangeA Tryz.underlying43 rfl iszL_Wrl ?_)
  refine (toWrl_any x a1 c1 a2 c2 a3 c3 a4 c4 lo _ (N1.out.below GrtC.holds (B := w.heap.size) hB3 (Nat.le_refl _)) (N2.out.below PlmC.holds (B := w.heap.size) hB3 (Nat.le_refl _)) (N3.out.below MteC.holds (B := w.heap.size) hB3 (Nat.le_refl _)) (N4.out.below StrC.holds (B := w.heap.size) hB3 (Nat.le_refl _)) HM.out).mono ?_
  rintro e w4 ⟨g1, g2, g3, g4, rfl, q1, q2, q3, q4, hb4⟩
  have Q1 : Hid (SliceC GrtC 5 w3.heap.size w4 (some ⟨g1, 0, none⟩) x.land.grants) := q1
  have Q2 : Hid (SliceC PlmC 3 w3.heap.size w4 (some ⟨g2, 0, none⟩) x.land.places) := q2
  have Q3 : Hid (SliceC MteC 9 w3.heap.size w4 (some ⟨g3, 0, none⟩) x.mates) := q3
  have Q4 : Hid (SliceC StrC 1 w3.heap.size w4 (some ⟨g4, 0, none⟩) x.flight) := q4
  have HK4 := Hid.intro (HK3.out.below hb4 HK3.out.lt)
  have hB4 := hB3.trans (hb4.mono hB3.size)
  clear hb4 HK3 hB3 q1 q2 q3 q4
  have hb5 : Below w4.heap.size w4 (w4.alloc (Obj.cells #[.int .i64 x.land.time, .slice (some ⟨g1, 0, none⟩) x.land.grants.length x.land.grants.length, .slice (some ⟨g2, 0, none⟩) x.land.places.length x.land.places.length, .slice (some ⟨g3, 0, none⟩) x.mates.length x.mates.length, .slice (some ⟨g4, 0, none⟩) x.flight.length x.flight.length] 30)) := (Below.refl _ _).alloc (Nat.le_refl _) _
  have HX5 : Hid (Blk w4.heap.size #[.int .i64 x.land.time, .slice (some ⟨g1, 0, none⟩) x.land.grants.length x.land.grants.length, .slice (some ⟨g2, 0, none⟩) x.land.places.length x.land.places.length, .slice (some ⟨g3, 0, none⟩) x.mates.length x.mates.length, .slice (some ⟨g4, 0, none⟩) x.flight.length x.flight.length] 30 (w4.alloc (Obj.cells #[.int .i64 x.land.time, .slice (some ⟨g1, 0, none⟩) x.land.grants.length x.land.grants.length, .slice (some ⟨g2, 0, none⟩) x.land.places.length x.land.places.length, .slice (some ⟨g3, 0, none⟩) x.mates.length x.mates.length, .slice (some ⟨g4, 0, none⟩) x.flight.length x.flight.length] 30))) := Blk.alloc _ _ _
  have HK5 : Hid (Blk w.heap.size #[.int .i64 x.land.time, .slice a1 x.land.grants.length c1, .slice a2 x.land.places.length c2, .slice a3 x.mates.length c3, .slice a4 x.flight.length c4] 43 (w4.alloc (Obj.cells #[.int .i64 x.land.time, .slice (some ⟨g1, 0, none⟩) x.land.grants.length x.land.grants.length, .slice (some ⟨g2, 0, none⟩) x.land.places.length x.land.places.length, .slice (some ⟨g3, 0, none⟩) x.mates.length x.mates.length, .slice (some ⟨g4, 0, none⟩) x.flight.length x.flight.length] 30))) := HK4.out.below hb5 HK4.out.lt
  have hB5 : Below w.heap.size w (w4.alloc (Obj.cells #[.int .i64 x.land.time, .slice (some ⟨g1, 0, none⟩) x.land.grants.length x.land.grants.length, .slice (some ⟨g2, 0, none⟩) x.land.places.length x.land.places.length, .slice (some ⟨g3, 0, none⟩) x.mates.length x.mates.length, .slice (some ⟨g4, 0, none⟩) x.flight.length x.flight.length] 30)) := hB4.trans (hb5.mono hB4.size)
  replace Q1 : Hid (SliceC GrtC 5 w3.heap.size (w4.alloc (Obj.cells #[.int .i64 x.land.time, .slice (some ⟨g1, 0, none⟩) x.land.grants.length x.land.grants.length, .slice (some ⟨g2, 0, none⟩) x.land.places.length x.land.places.length, .slice (some ⟨g3, 0, none⟩) x.mates.length x.mates.length, .slice (some ⟨g4, 0, none⟩) x.flight.length x.flight.length] 30)) (some ⟨g1, 0, none⟩) x.land.grants) := Q1.out.below GrtC.holds hb5 (Nat.le_refl _)
  replace Q2 : Hid (SliceC PlmC 3 w3.heap.size (w4.alloc (Obj.cells #[.int .i64 x.land.time, .slice (some ⟨g1, 0, none⟩) x.land.grants.length x.land.grants.length, .slice (some ⟨g2, 0, none⟩) x.land.places.length x.land.places.length, .slice (some ⟨g3, 0, none⟩) x.mates.length x.mates.length, .slice (some ⟨g4, 0, none⟩) x.flight.length x.flight.length] 30)) (some ⟨g2, 0, none⟩) x.land.places) := Q2.out.below PlmC.holds hb5 (Nat.le_refl _)
  replace Q3 : Hid (SliceC MteC 9 w3.heap.size (w4.alloc (Obj.cells #[.int .i64 x.land.time, .slice (some ⟨g1, 0, none⟩) x.land.grants.length x.land.grants.length, .slice (some ⟨g2, 0, none⟩) x.land.places.length x.land.places.length, .slice (some ⟨g3, 0, none⟩) x.mates.length x.mates.length, .slice (some ⟨g4, 0, none⟩) x.flight.length x.flight.length] 30)) (some ⟨g3, 0, none⟩) x.mates) := Q3.out.below MteC.holds hb5 (Nat.le_refl _)
  replace Q4 : Hid (SliceC StrC 1 w3.heap.size (w4.alloc (Obj.cells #[.int .i64 x.land.time, .slice (some ⟨g1, 0, none⟩) x.land.grants.length x.land.grants.length, .slice (some ⟨g2, 0, none⟩) x.land.places.length x.land.places.length, .slice (some ⟨g3, 0, none⟩) x.mates.length x.mates.length, .slice (some ⟨g4, 0, none⟩) x.flight.length x.flight.length] 30)) (some ⟨g4, 0, none⟩) x.flight) := Q4.out.below StrC.holds hb5 (Nat.le_refl _)
  clear hb5 HK4 hB4
  go_upto_region 7 with fail
  generalize w4.alloc (Obj.cells #[.int .i64 x.land.time, .slice (some ⟨g1, 0, none⟩) x.land.grants.length x.land.grants.length, .slice (some ⟨g2, 0, none⟩) x.land.places.length x.land.places.length, .slice (some ⟨g3, 0, none⟩) x.mates.length x.mates.length, .slice (some ⟨g4, 0, none⟩) x.flight.length x.flight.length] 30) = w5 at *
  generalize w4.heap.size = q at *
  go_wp2_with (refine wpList_load_mid rfl 30 _ rfl q 0 (by first | rfl | (simp [go_sem]; done)) [.int .i64 x.land.time, .slice (some ⟨g1, 0, none⟩) x.land.grants.length x.land.grants.length, .slice (some ⟨g2, 0, none⟩) x.land.places.length x.land.places.length, .slice (some ⟨g3, 0, none⟩) x.mates.length x.mates.length, .slice (some ⟨g4, 0, none⟩) x.flight.length x.flight.length] _ HX5.out.rangeA Tryz.underlying30 rfl isz_Wrl ?_)
  refine (implSettled_any x (some ⟨g1, 0, none⟩) x.land.grants.length (some ⟨g2, 0, none⟩) x.land.places.length (some ⟨g3, 0, none⟩) x.mates.length (some ⟨g4, 0, none⟩) x.flight.length w3.heap.size _ (wrl_all HM.out Q1.out Q2.out Q3.out Q4.out)).mono ?_
  rintro e w6 ⟨rfl, hb6⟩
  have HK6 := Hid.intro (HK5.out.below hb6 HK5.out.lt)
  have HX6 := Hid.intro (HX5.out.below hb6 HX5.out.lt)
  have hB6 := hB5.trans (hb6.mono hB5.size)
  replace Q1 : Hid (SliceC GrtC 5 w3.heap.size w6 (some ⟨g1, 0, none⟩) x.land.grants) := Q1.out.below GrtC.holds hb6 (Nat.le_refl _)
  replace Q2 : Hid (SliceC PlmC 3 w3.heap.size w6 (some ⟨g2, 0, none⟩) x.land.places) := Q2.out.below PlmC.holds hb6 (Nat.le_refl _)
  replace Q3 : Hid (SliceC MteC 9 w3.heap.size w6 (some ⟨g3, 0, none⟩) x.mates) := Q3.out.below MteC.holds hb6 (Nat.le_refl _)
  replace Q4 : Hid (SliceC StrC 1 w3.heap.size w6 (some ⟨g4, 0, none⟩) x.flight) := Q4.out.below StrC.holds hb6 (Nat.le_refl _)
  clear hb6 HK5 HX5 hB5
  rw [HU.out]
  go_wp2_with fail
  refine wp_region_held_drew (S := fun wy => Blk q #[.int .i64 x.land.time, .slice (some ⟨g1, 0, none⟩) x.land.grants.length x.land.grants.length, .slice (some ⟨g2, 0, none⟩) x.land.places.length x.land.places.length, .slice (some ⟨g3, 0, none⟩) x.mates.length x.mates.length, .slice (some ⟨g4, 0, none⟩) x.flight.length x.flight.length] 30 wy ∧ Blk w.heap.size #[.int .i64 x.land.time, .slice a1 x.land.grants.length c1, .slice a2 x.land.places.length c2, .slice a3 x.mates.length c3, .slice a4 x.flight.length c4] 43 wy) (by kernel_rfl) ⟨HX6.out.drew, HK6.out.drew⟩ (fun hS => ?_)
  have hBd : Below w.heap.size w w6.drew := hB6.drew
  replace Q1 : Hid (SliceC GrtC 5 w3.heap.size w6.drew (some ⟨g1, 0, none⟩) x.land.grants) := Q1.out.below GrtC.holds ((Below.refl w6.heap.size w6).drew) (Nat.le_refl _)
  replace Q2 : Hid (SliceC PlmC 3 w3.heap.size w6.drew (some ⟨g2, 0, none⟩) x.land.places) := Q2.out.below PlmC.holds ((Below.refl w6.heap.size w6).drew) (Nat.le_refl _)
  replace Q3 : Hid (SliceC MteC 9 w3.heap.size w6.drew (some ⟨g3, 0, none⟩) x.mates) := Q3.out.below MteC.holds ((Below.refl w6.heap.size w6).drew) (Nat.le_refl _)
  replace Q4 : Hid (SliceC StrC 1 w3.heap.size w6.drew (some ⟨g4, 0, none⟩) x.flight) := Q4.out.below StrC.holds ((Below.refl w6.heap.size w6).drew) (Nat.le_refl _)
  clear HX6 HK6 hB6
  generalize w6.drew = wd at *
  refine wpAnyH_take (i := 0) (oi := { dst := some 22, op := _, type := _, pos := _, after := _, guard := none }) (v := .agg #[.int .i64 x.land.time, .slice (some ⟨g1, 0, none⟩) x.land.grants.length x.land.grants.length, .slice (some ⟨g2, 0, none⟩) x.land.places.length x.land.places.length, .slice (some ⟨g3, 0, none⟩) x.mates.length x.mates.length, .slice (some ⟨g4, 0, none⟩) x.flight.length x.flight.length]) rfl (by kernel_rfl) (by kernel_rfl) (by kernel_rfl) (fun _ _ _ h => h) (yieldsIf_load_mid (by rfl) _ _ rfl q (0) rfl [.int .i64 x.land.time, .slice (some ⟨g1, 0, none⟩) x.land.grants.length x.land.grants.length, .slice (some ⟨g2, 0, none⟩) x.land.places.length x.land.places.length, .slice (some ⟨g3, 0, none⟩) x.mates.length x.mates.length, .slice (some ⟨g4, 0, none⟩) x.flight.length x.flight.length] _ (fun _ h => h.1.rangeA) Tryz.underlying30 rfl isz_Wrl) hS ?_
  simp only [Act.put, List.setIfInBounds_toArray, List.set_cons_zero, List.set_cons_succ]
  refine wpAnyH_take (i := 1) (oi := { dst := some 23, op := _, type := _, pos := _, after := _, guard := none }) (v := .agg #[.int .i64 x.land.time, .slice a1 x.land.grants.length c1, .slice a2 x.land.places.length c2, .slice a3 x.mates.length c3, .slice a4 x.flight.length c4]) rfl (by kernel_rfl) (by kernel_rfl) (by kernel_rfl) (fun _ _ _ h => h) (yieldsIf_load_mid (by rfl) _ _ rfl w.heap.size (0) rfl [.int .i64 x.land.time, .slice a1 x.land.grants.length c1, .slice a2 x.land.places.length c2, .slice a3 x.mates.length c3, .slice a4 x.flight.length c4] _ (fun _ h => h.2.rangeA) Tryz.underlying43 rfl iszL_Wrl) hS ?_
  simp only [Act.put, List.setIfInBounds_toArray, List.set_cons_zero, List.set_cons_succ]
  refine wpAnyH_ready (rs := [2]) (by kernel_rfl) (by simp) (AllReadyH.cons (o := { dst := some 24, op := _, type := _, pos := _, after := _, guard := none }) rfl (fun K hK => ?_) AllReadyH.nil)
  go_simp
  refine (toWrl_any x a1 c1 a2 c2 a3 c3 a4 c4 lo _ (N1.out.below GrtC.holds (B := w.heap.size) hBd (Nat.le_refl _)) (N2.out.below PlmC.holds (B := w.heap.size) hBd (Nat.le_refl _)) (N3.out.below MteC.holds (B := w.heap.size) hBd (Nat.le_refl _)) (N4.out.below StrC.holds (B := w.heap.size) hBd (Nat.le_refl _)) HM.out).mono ?_
  rintro e w7 ⟨h1, h2, h3, h4, rfl, q1, q2, q3, q4, hb7⟩
  have hB7 := hBd.trans (hb7.mono hBd.size)
  have P1 : Hid (SliceC GrtC 5 wd.heap.size w7 (some ⟨h1, 0, none⟩) x.land.grants) := q1
  have P2 : Hid (SliceC PlmC 3 wd.heap.size w7 (some ⟨h2, 0, none⟩) x.land.places) := q2
  have P3 : Hid (SliceC MteC 9 wd.heap.size w7 (some ⟨h3, 0, none⟩) x.mates) := q3
  have P4 : Hid (SliceC StrC 1 wd.heap.size w7 (some ⟨h4, 0, none⟩) x.flight) := q4
  replace Q1 : Hid (SliceC GrtC 5 w3.heap.size w7 (some ⟨g1, 0, none⟩) x.land.grants) := Q1.out.below GrtC.holds hb7 (Nat.le_refl _)
  replace Q2 : Hid (SliceC PlmC 3 w3.heap.size w7 (some ⟨g2, 0, none⟩) x.land.places) := Q2.out.below PlmC.holds hb7 (Nat.le_refl _)
  replace Q3 : Hid (SliceC MteC 9 w3.heap.size w7 (some ⟨g3, 0, none⟩) x.mates) := Q3.out.below MteC.holds hb7 (Nat.le_refl _)
  replace Q4 : Hid (SliceC StrC 1 w3.heap.size w7 (some ⟨g4, 0, none⟩) x.flight) := Q4.out.below StrC.holds hb7 (Nat.le_refl _)
  refine hK.out _ _ ⟨hS.1.below hb7 hS.1.lt, hS.2.below hb7 hS.2.lt⟩ (fun hS => ?_)
  clear hK K
  clear q1 q2 q3 q4 hb7 hBd
  refine wpAnyH_ready (rs := [3]) (by kernel_rfl) (by simp) (AllReadyH.cons (o := { dst := some 25, op := _, type := _, pos := _, after := _, guard := none }) rfl (fun K hK => ?_) AllReadyH.nil)
  go_simp
  refine (eqWrl_any x (some ⟨g1, 0, none⟩) x.land.grants.length (some ⟨g2, 0, none⟩) x.land.places.length (some ⟨g3, 0, none⟩) x.mates.length (some ⟨g4, 0, none⟩) x.flight.length (some ⟨h1, 0, none⟩) x.land.grants.length (some ⟨h2, 0, none⟩) x.land.places.length (some ⟨h3, 0, none⟩) x.mates.length (some ⟨h4, 0, none⟩) x.flight.length _ _ _ Q1.out Q2.out Q3.out Q4.out P1.out P2.out P3.out P4.out HM.out).mono ?_
  rintro e w8 ⟨rfl, hb8⟩
  have hB8 := hB7.trans (hb8.mono hB7.size)
  refine hK.out _ _ ⟨hS.1.below hb8 hS.1.lt, hS.2.below hb8 hS.2.lt⟩ (fun hS => ?_)
  clear hK K
  refine wpAnyH_take (i := 4) (oi := { dst := some 26, op := _, type := _, pos := _, after := _, guard := none }) (v := .bool false) rfl (by kernel_rfl) (by kernel_rfl) (by kernel_rfl) (fun _ _ _ h => h) (Or.inl ⟨by rfl, ?_⟩) hS ?_
  · intro wy hy
    clear hy
    go_simp
  simp only [Act.put, List.setIfInBounds_toArray, List.set_cons_zero, List.set_cons_succ]
  refine wpAnyH_done (by kernel_rfl) ?_ _
  clear hS
  go_wp2_with fail
  go_ret
  exact ⟨rfl, hB8⟩

end Go.Proofs.YtlcjfiikiblcdaaGreat
