/-
  Walk: the law of a valid mate. Made by mklmv.py.
-/
import Derived.Test.YtcmjnocfgffgfaaAv5
namespace Go.Proofs.Ytcmjnocfgffgfaa
open Go.RowKit

theorem iszL_Mte : (Try.prog.info? 26).map (·.size) = some 9 := by kernel_rfl
theorem len_5 {x : Mte} (h : wMte x ≤ 1048576) : x.wants.length ≤ 1048576 := by have := wS_len (f := wWnt) (xs := x.wants); unfold wMte at h; omega
theorem len_6 {x : Mte} (h : wMte x ≤ 1048576) : x.runs.length ≤ 1048576 := by have := wS_len (f := wRn) (xs := x.runs); unfold wMte at h; omega
theorem len_7 {x : Mte} (h : wMte x ≤ 1048576) : x.asks.length ≤ 1048576 := by have := wS_len (f := wAks) (xs := x.asks); unfold wMte at h; omega
theorem len_8 {x : Mte} (h : wMte x ≤ 1048576) : x.gives.length ≤ 1048576 := by have := wS_len (f := wAks) (xs := x.gives); unfold wMte at h; omega

theorem mte_all {x : Mte} (h : wMte x ≤ 1048576) {lo : Nat} {a5 a6 a7 a8 : Option Addr} {w : World} (z0 : x.name.size ≤ maxLen) (s5 : SliceC WntC 7 lo w a5 x.wants) (s6 : SliceC RnC 11 lo w a6 x.runs) (s7 : SliceC AksC 4 lo w a7 x.asks) (s8 : SliceC AksC 4 lo w a8 x.gives) : MSl x lo a5 a6 a7 a8 w :=
  ⟨z0, s5, s6, s7, s8, len_5 h, len_6 h, len_7 h, len_8 h⟩

set_option maxHeartbeats 4000000 in
set_option maxRecDepth 100000 in
theorem law_any (x : Mte) (a5 : Option Addr) (c5 : Nat) (a6 : Option Addr) (c6 : Nat) (a7 : Option Addr) (c7 : Nat) (a8 : Option Addr) (c8 : Nat) (lo : Nat) (w : World) (z0 : x.name.size ≤ maxLen) (n5 : SliceC WntC 7 lo w a5 x.wants) (n6 : SliceC RnC 11 lo w a6 x.runs) (n7 : SliceC AksC 4 lo w a7 x.asks) (n8 : SliceC AksC 4 lo w a8 x.gives) :
    Calls Try.prog 3 #[.agg #[.string x.name, .bool x.up, .int .i64 x.clock, .bool x.known, .int .i64 x.seen, .slice a5 x.wants.length c5, .slice a6 x.runs.length c6, .slice a7 x.asks.length c7, .slice a8 x.gives.length c8]] w fun e w' => e = .returned (.bool true) ∧ Below w.heap.size w w' := by
  have N5 := Hid.intro n5
  have N6 := Hid.intro n6
  have N7 := Hid.intro n7
  have N8 := Hid.intro n8
  have Z0 := Hid.intro z0
  clear n5 n6 n7 n8 z0
  have HK0 : Hid (Blk w.heap.size #[.string x.name, .bool x.up, .int .i64 x.clock, .bool x.known, .int .i64 x.seen, .slice a5 x.wants.length c5, .slice a6 x.runs.length c6, .slice a7 x.asks.length c7, .slice a8 x.gives.length c8] 26 (w.alloc (Obj.cells #[.string x.name, .bool x.up, .int .i64 x.clock, .bool x.known, .int .i64 x.seen, .slice a5 x.wants.length c5, .slice a6 x.runs.length c6, .slice a7 x.asks.length c7, .slice a8 x.gives.length c8] 26))) := Blk.alloc _ _ _
  have hB0 : Below w.heap.size w (w.alloc (Obj.cells #[.string x.name, .bool x.up, .int .i64 x.clock, .bool x.known, .int .i64 x.seen, .slice a5 x.wants.length c5, .slice a6 x.runs.length c6, .slice a7 x.asks.length c7, .slice a8 x.gives.length c8] 26)) := (Below.refl _ w).alloc (Nat.le_refl _) _
  go_enter Try.func3, Try.ntmps3
  go_upto_region 1 with fail
  generalize w.alloc (Obj.cells #[.string x.name, .bool x.up, .int .i64 x.clock, .bool x.known, .int .i64 x.seen, .slice a5 x.wants.length c5, .slice a6 x.runs.length c6, .slice a7 x.asks.length c7, .slice a8 x.gives.length c8] 26) = w0 at *
  go_wp2_with (refine wpList_load_mid rfl 26 _ rfl w.heap.size 0 (by first | rfl | (simp [go_sem]; done)) [.string x.name, .bool x.up, .int .i64 x.clock, .bool x.known, .int .i64 x.seen, .slice a5 x.wants.length c5, .slice a6 x.runs.length c6, .slice a7 x.asks.length c7, .slice a8 x.gives.length c8] _ HK0.out.rangeA Try.underlying26 rfl iszL_Mte ?_)
  refine (szMte_any x a5 c5 a6 c6 a7 c7 a8 c8 lo 1048576 _ Z0.out (N5.out.below WntC.holds (B := w.heap.size) hB0 (Nat.le_refl _)) (N6.out.below RnC.holds (B := w.heap.size) hB0 (Nat.le_refl _)) (N7.out.below AksC.holds (B := w.heap.size) hB0 (Nat.le_refl _)) (N8.out.below AksC.holds (B := w.heap.size) hB0 (Nat.le_refl _)) (by omega) (by omega)).mono ?_
  rintro e w1 ⟨rfl, hb1⟩
  have HK1 := Hid.intro (HK0.out.below hb1 HK0.out.lt)
  have hB1 := hB0.trans (hb1.mono hB0.size)
  clear hb1 HK0 hB0
  by_cases hz : ((wMte x : Nat) : Int) ≤ 1048576
  case neg =>
    rw [szR_neg hz]
    go_wp2_with fail
    go_ret
    exact ⟨rfl, hB1⟩
  rw [szR_pos hz]
  have HM : Hid (wMte x ≤ 1048576) := by show _ ≤ _; omega
  have hz0 : (0 : Int) ≤ 1048576 - (wMte x : Nat) := by omega
  clear hz
  generalize (1048576 : Int) - (wMte x : Nat) = R at *
  go_wp2_with (refine wpList_load_mid rfl 26 _ rfl w.heap.size 0 (by first | rfl | (simp [go_sem]; done)) [.string x.name, .bool x.up, .int .i64 x.clock, .bool x.known, .int .i64 x.seen, .slice a5 x.wants.length c5, .slice a6 x.runs.length c6, .slice a7 x.asks.length c7, .slice a8 x.gives.length c8] _ HK1.out.rangeA Try.underlying26 rfl iszL_Mte ?_)
  refine (toMte_any x a5 c5 a6 c6 a7 c7 a8 c8 lo _ (N5.out.below WntC.holds (B := w.heap.size) hB1 (Nat.le_refl _)) (N6.out.below RnC.holds (B := w.heap.size) hB1 (Nat.le_refl _)) (N7.out.below AksC.holds (B := w.heap.size) hB1 (Nat.le_refl _)) (N8.out.below AksC.holds (B := w.heap.size) hB1 (Nat.le_refl _)) HM.out).mono ?_
  rintro e w2 ⟨g5, g6, g7, g8, rfl, q5, q6, q7, q8, hb2⟩
  have Q5 : Hid (SliceC WntC 7 w1.heap.size w2 (some ⟨g5, 0, none⟩) x.wants) := q5
  have Q6 : Hid (SliceC RnC 11 w1.heap.size w2 (some ⟨g6, 0, none⟩) x.runs) := q6
  have Q7 : Hid (SliceC AksC 4 w1.heap.size w2 (some ⟨g7, 0, none⟩) x.asks) := q7
  have Q8 : Hid (SliceC AksC 4 w1.heap.size w2 (some ⟨g8, 0, none⟩) x.gives) := q8
  have HK2 := Hid.intro (HK1.out.below hb2 HK1.out.lt)
  have hB2 := hB1.trans (hb2.mono hB1.size)
  clear hb2 HK1 hB1 q5 q6 q7 q8
  go_wp2_with fail
  refine (specValid_any x (some ⟨g5, 0, none⟩) x.wants.length (some ⟨g6, 0, none⟩) x.runs.length (some ⟨g7, 0, none⟩) x.asks.length (some ⟨g8, 0, none⟩) x.gives.length w1.heap.size _ (mte_all HM.out Z0.out Q5.out Q6.out Q7.out Q8.out)).mono ?_
  rintro e w3 ⟨rfl, hb3⟩
  have HK3 := Hid.intro (HK2.out.below hb3 HK2.out.lt)
  have hB3 := hB2.trans (hb3.mono hB2.size)
  clear hb3 HK2 hB2 Q5 Q6 Q7 Q8
  generalize hU : mvB x = U
  have HU := Hid.intro hU
  clear hU
  go_wp2_with (refine wpList_load_mid rfl 26 _ rfl w.heap.size 0 (by first | rfl | (simp [go_sem]; done)) [.string x.name, .bool x.up, .int .i64 x.clock, .bool x.known, .int .i64 x.seen, .slice a5 x.wants.length c5, .slice a6 x.runs.length c6, .slice a7 x.asks.length c7, .slice a8 x.gives.length c8] _ HK3.out.rangeA Try.underlying26 rfl iszL_Mte ?_)
  refine (toMte_any x a5 c5 a6 c6 a7 c7 a8 c8 lo _ (N5.out.below WntC.holds (B := w.heap.size) hB3 (Nat.le_refl _)) (N6.out.below RnC.holds (B := w.heap.size) hB3 (Nat.le_refl _)) (N7.out.below AksC.holds (B := w.heap.size) hB3 (Nat.le_refl _)) (N8.out.below AksC.holds (B := w.heap.size) hB3 (Nat.le_refl _)) HM.out).mono ?_
  rintro e w4 ⟨g5, g6, g7, g8, rfl, q5, q6, q7, q8, hb4⟩
  have Q5 : Hid (SliceC WntC 7 w3.heap.size w4 (some ⟨g5, 0, none⟩) x.wants) := q5
  have Q6 : Hid (SliceC RnC 11 w3.heap.size w4 (some ⟨g6, 0, none⟩) x.runs) := q6
  have Q7 : Hid (SliceC AksC 4 w3.heap.size w4 (some ⟨g7, 0, none⟩) x.asks) := q7
  have Q8 : Hid (SliceC AksC 4 w3.heap.size w4 (some ⟨g8, 0, none⟩) x.gives) := q8
  have HK4 := Hid.intro (HK3.out.below hb4 HK3.out.lt)
  have hB4 := hB3.trans (hb4.mono hB3.size)
  clear hb4 HK3 hB3 q5 q6 q7 q8
  have hb5 : Below w4.heap.size w4 (w4.alloc (Obj.cells #[.string x.name, .bool x.up, .int .i64 x.clock, .bool x.known, .int .i64 x.seen, .slice (some ⟨g5, 0, none⟩) x.wants.length x.wants.length, .slice (some ⟨g6, 0, none⟩) x.runs.length x.runs.length, .slice (some ⟨g7, 0, none⟩) x.asks.length x.asks.length, .slice (some ⟨g8, 0, none⟩) x.gives.length x.gives.length] 33)) := (Below.refl _ _).alloc (Nat.le_refl _) _
  have HX5 : Hid (Blk w4.heap.size #[.string x.name, .bool x.up, .int .i64 x.clock, .bool x.known, .int .i64 x.seen, .slice (some ⟨g5, 0, none⟩) x.wants.length x.wants.length, .slice (some ⟨g6, 0, none⟩) x.runs.length x.runs.length, .slice (some ⟨g7, 0, none⟩) x.asks.length x.asks.length, .slice (some ⟨g8, 0, none⟩) x.gives.length x.gives.length] 33 (w4.alloc (Obj.cells #[.string x.name, .bool x.up, .int .i64 x.clock, .bool x.known, .int .i64 x.seen, .slice (some ⟨g5, 0, none⟩) x.wants.length x.wants.length, .slice (some ⟨g6, 0, none⟩) x.runs.length x.runs.length, .slice (some ⟨g7, 0, none⟩) x.asks.length x.asks.length, .slice (some ⟨g8, 0, none⟩) x.gives.length x.gives.length] 33))) := Blk.alloc _ _ _
  have HK5 : Hid (Blk w.heap.size #[.string x.name, .bool x.up, .int .i64 x.clock, .bool x.known, .int .i64 x.seen, .slice a5 x.wants.length c5, .slice a6 x.runs.length c6, .slice a7 x.asks.length c7, .slice a8 x.gives.length c8] 26 (w4.alloc (Obj.cells #[.string x.name, .bool x.up, .int .i64 x.clock, .bool x.known, .int .i64 x.seen, .slice (some ⟨g5, 0, none⟩) x.wants.length x.wants.length, .slice (some ⟨g6, 0, none⟩) x.runs.length x.runs.length, .slice (some ⟨g7, 0, none⟩) x.asks.length x.asks.length, .slice (some ⟨g8, 0, none⟩) x.gives.length x.gives.length] 33))) := HK4.out.below hb5 HK4.out.lt
  have hB5 : Below w.heap.size w (w4.alloc (Obj.cells #[.string x.name, .bool x.up, .int .i64 x.clock, .bool x.known, .int .i64 x.seen, .slice (some ⟨g5, 0, none⟩) x.wants.length x.wants.length, .slice (some ⟨g6, 0, none⟩) x.runs.length x.runs.length, .slice (some ⟨g7, 0, none⟩) x.asks.length x.asks.length, .slice (some ⟨g8, 0, none⟩) x.gives.length x.gives.length] 33)) := hB4.trans (hb5.mono hB4.size)
  replace Q5 : Hid (SliceC WntC 7 w3.heap.size (w4.alloc (Obj.cells #[.string x.name, .bool x.up, .int .i64 x.clock, .bool x.known, .int .i64 x.seen, .slice (some ⟨g5, 0, none⟩) x.wants.length x.wants.length, .slice (some ⟨g6, 0, none⟩) x.runs.length x.runs.length, .slice (some ⟨g7, 0, none⟩) x.asks.length x.asks.length, .slice (some ⟨g8, 0, none⟩) x.gives.length x.gives.length] 33)) (some ⟨g5, 0, none⟩) x.wants) := Q5.out.below WntC.holds hb5 (Nat.le_refl _)
  replace Q6 : Hid (SliceC RnC 11 w3.heap.size (w4.alloc (Obj.cells #[.string x.name, .bool x.up, .int .i64 x.clock, .bool x.known, .int .i64 x.seen, .slice (some ⟨g5, 0, none⟩) x.wants.length x.wants.length, .slice (some ⟨g6, 0, none⟩) x.runs.length x.runs.length, .slice (some ⟨g7, 0, none⟩) x.asks.length x.asks.length, .slice (some ⟨g8, 0, none⟩) x.gives.length x.gives.length] 33)) (some ⟨g6, 0, none⟩) x.runs) := Q6.out.below RnC.holds hb5 (Nat.le_refl _)
  replace Q7 : Hid (SliceC AksC 4 w3.heap.size (w4.alloc (Obj.cells #[.string x.name, .bool x.up, .int .i64 x.clock, .bool x.known, .int .i64 x.seen, .slice (some ⟨g5, 0, none⟩) x.wants.length x.wants.length, .slice (some ⟨g6, 0, none⟩) x.runs.length x.runs.length, .slice (some ⟨g7, 0, none⟩) x.asks.length x.asks.length, .slice (some ⟨g8, 0, none⟩) x.gives.length x.gives.length] 33)) (some ⟨g7, 0, none⟩) x.asks) := Q7.out.below AksC.holds hb5 (Nat.le_refl _)
  replace Q8 : Hid (SliceC AksC 4 w3.heap.size (w4.alloc (Obj.cells #[.string x.name, .bool x.up, .int .i64 x.clock, .bool x.known, .int .i64 x.seen, .slice (some ⟨g5, 0, none⟩) x.wants.length x.wants.length, .slice (some ⟨g6, 0, none⟩) x.runs.length x.runs.length, .slice (some ⟨g7, 0, none⟩) x.asks.length x.asks.length, .slice (some ⟨g8, 0, none⟩) x.gives.length x.gives.length] 33)) (some ⟨g8, 0, none⟩) x.gives) := Q8.out.below AksC.holds hb5 (Nat.le_refl _)
  clear hb5 HK4 hB4
  go_upto_region 7 with fail
  generalize w4.alloc (Obj.cells #[.string x.name, .bool x.up, .int .i64 x.clock, .bool x.known, .int .i64 x.seen, .slice (some ⟨g5, 0, none⟩) x.wants.length x.wants.length, .slice (some ⟨g6, 0, none⟩) x.runs.length x.runs.length, .slice (some ⟨g7, 0, none⟩) x.asks.length x.asks.length, .slice (some ⟨g8, 0, none⟩) x.gives.length x.gives.length] 33) = w5 at *
  generalize w4.heap.size = q at *
  go_wp2_with (refine wpList_load_mid rfl 33 _ rfl q 0 (by first | rfl | (simp [go_sem]; done)) [.string x.name, .bool x.up, .int .i64 x.clock, .bool x.known, .int .i64 x.seen, .slice (some ⟨g5, 0, none⟩) x.wants.length x.wants.length, .slice (some ⟨g6, 0, none⟩) x.runs.length x.runs.length, .slice (some ⟨g7, 0, none⟩) x.asks.length x.asks.length, .slice (some ⟨g8, 0, none⟩) x.gives.length x.gives.length] _ HX5.out.rangeA Try.underlying33 rfl isz_Mte ?_)
  refine (implValid_any x (some ⟨g5, 0, none⟩) x.wants.length (some ⟨g6, 0, none⟩) x.runs.length (some ⟨g7, 0, none⟩) x.asks.length (some ⟨g8, 0, none⟩) x.gives.length w3.heap.size _ (mte_all HM.out Z0.out Q5.out Q6.out Q7.out Q8.out)).mono ?_
  rintro e w6 ⟨rfl, hb6⟩
  have HK6 := Hid.intro (HK5.out.below hb6 HK5.out.lt)
  have HX6 := Hid.intro (HX5.out.below hb6 HX5.out.lt)
  have hB6 := hB5.trans (hb6.mono hB5.size)
  replace Q5 : Hid (SliceC WntC 7 w3.heap.size w6 (some ⟨g5, 0, none⟩) x.wants) := Q5.out.below WntC.holds hb6 (Nat.le_refl _)
  replace Q6 : Hid (SliceC RnC 11 w3.heap.size w6 (some ⟨g6, 0, none⟩) x.runs) := Q6.out.below RnC.holds hb6 (Nat.le_refl _)
  replace Q7 : Hid (SliceC AksC 4 w3.heap.size w6 (some ⟨g7, 0, none⟩) x.asks) := Q7.out.below AksC.holds hb6 (Nat.le_refl _)
  replace Q8 : Hid (SliceC AksC 4 w3.heap.size w6 (some ⟨g8, 0, none⟩) x.gives) := Q8.out.below AksC.holds hb6 (Nat.le_refl _)
  clear hb6 HK5 HX5 hB5
  rw [HU.out]
  go_wp2_with fail
  refine wp_region_held_drew (S := fun wy => Blk q #[.string x.name, .bool x.up, .int .i64 x.clock, .bool x.known, .int .i64 x.seen, .slice (some ⟨g5, 0, none⟩) x.wants.length x.wants.length, .slice (some ⟨g6, 0, none⟩) x.runs.length x.runs.length, .slice (some ⟨g7, 0, none⟩) x.asks.length x.asks.length, .slice (some ⟨g8, 0, none⟩) x.gives.length x.gives.length] 33 wy ∧ Blk w.heap.size #[.string x.name, .bool x.up, .int .i64 x.clock, .bool x.known, .int .i64 x.seen, .slice a5 x.wants.length c5, .slice a6 x.runs.length c6, .slice a7 x.asks.length c7, .slice a8 x.gives.length c8] 26 wy) (by kernel_rfl) ⟨HX6.out.drew, HK6.out.drew⟩ (fun hS => ?_)
  have hBd : Below w.heap.size w w6.drew := hB6.drew
  replace Q5 : Hid (SliceC WntC 7 w3.heap.size w6.drew (some ⟨g5, 0, none⟩) x.wants) := Q5.out.below WntC.holds ((Below.refl w6.heap.size w6).drew) (Nat.le_refl _)
  replace Q6 : Hid (SliceC RnC 11 w3.heap.size w6.drew (some ⟨g6, 0, none⟩) x.runs) := Q6.out.below RnC.holds ((Below.refl w6.heap.size w6).drew) (Nat.le_refl _)
  replace Q7 : Hid (SliceC AksC 4 w3.heap.size w6.drew (some ⟨g7, 0, none⟩) x.asks) := Q7.out.below AksC.holds ((Below.refl w6.heap.size w6).drew) (Nat.le_refl _)
  replace Q8 : Hid (SliceC AksC 4 w3.heap.size w6.drew (some ⟨g8, 0, none⟩) x.gives) := Q8.out.below AksC.holds ((Below.refl w6.heap.size w6).drew) (Nat.le_refl _)
  clear HX6 HK6 hB6
  generalize w6.drew = wd at *
  refine wpAnyH_take (i := 0) (oi := { dst := some 22, op := _, type := _, pos := _, after := _, guard := none }) (v := .agg #[.string x.name, .bool x.up, .int .i64 x.clock, .bool x.known, .int .i64 x.seen, .slice (some ⟨g5, 0, none⟩) x.wants.length x.wants.length, .slice (some ⟨g6, 0, none⟩) x.runs.length x.runs.length, .slice (some ⟨g7, 0, none⟩) x.asks.length x.asks.length, .slice (some ⟨g8, 0, none⟩) x.gives.length x.gives.length]) rfl (by kernel_rfl) (by kernel_rfl) (by kernel_rfl) (fun _ _ _ h => h) (yieldsIf_load_mid (by rfl) _ _ rfl q (0) rfl [.string x.name, .bool x.up, .int .i64 x.clock, .bool x.known, .int .i64 x.seen, .slice (some ⟨g5, 0, none⟩) x.wants.length x.wants.length, .slice (some ⟨g6, 0, none⟩) x.runs.length x.runs.length, .slice (some ⟨g7, 0, none⟩) x.asks.length x.asks.length, .slice (some ⟨g8, 0, none⟩) x.gives.length x.gives.length] _ (fun _ h => h.1.rangeA) Try.underlying33 rfl isz_Mte) hS ?_
  simp only [Act.put, List.setIfInBounds_toArray, List.set_cons_zero, List.set_cons_succ]
  refine wpAnyH_take (i := 1) (oi := { dst := some 23, op := _, type := _, pos := _, after := _, guard := none }) (v := .agg #[.string x.name, .bool x.up, .int .i64 x.clock, .bool x.known, .int .i64 x.seen, .slice a5 x.wants.length c5, .slice a6 x.runs.length c6, .slice a7 x.asks.length c7, .slice a8 x.gives.length c8]) rfl (by kernel_rfl) (by kernel_rfl) (by kernel_rfl) (fun _ _ _ h => h) (yieldsIf_load_mid (by rfl) _ _ rfl w.heap.size (0) rfl [.string x.name, .bool x.up, .int .i64 x.clock, .bool x.known, .int .i64 x.seen, .slice a5 x.wants.length c5, .slice a6 x.runs.length c6, .slice a7 x.asks.length c7, .slice a8 x.gives.length c8] _ (fun _ h => h.2.rangeA) Try.underlying26 rfl iszL_Mte) hS ?_
  simp only [Act.put, List.setIfInBounds_toArray, List.set_cons_zero, List.set_cons_succ]
  refine wpAnyH_ready (rs := [2]) (by kernel_rfl) (by simp) (AllReadyH.cons (o := { dst := some 24, op := _, type := _, pos := _, after := _, guard := none }) rfl (fun K hK => ?_) AllReadyH.nil)
  go_simp
  refine (toMte_any x a5 c5 a6 c6 a7 c7 a8 c8 lo _ (N5.out.below WntC.holds (B := w.heap.size) hBd (Nat.le_refl _)) (N6.out.below RnC.holds (B := w.heap.size) hBd (Nat.le_refl _)) (N7.out.below AksC.holds (B := w.heap.size) hBd (Nat.le_refl _)) (N8.out.below AksC.holds (B := w.heap.size) hBd (Nat.le_refl _)) HM.out).mono ?_
  rintro e w7 ⟨h5, h6, h7, h8, rfl, q5, q6, q7, q8, hb7⟩
  have hB7 := hBd.trans (hb7.mono hBd.size)
  have P5 : Hid (SliceC WntC 7 wd.heap.size w7 (some ⟨h5, 0, none⟩) x.wants) := q5
  have P6 : Hid (SliceC RnC 11 wd.heap.size w7 (some ⟨h6, 0, none⟩) x.runs) := q6
  have P7 : Hid (SliceC AksC 4 wd.heap.size w7 (some ⟨h7, 0, none⟩) x.asks) := q7
  have P8 : Hid (SliceC AksC 4 wd.heap.size w7 (some ⟨h8, 0, none⟩) x.gives) := q8
  replace Q5 : Hid (SliceC WntC 7 w3.heap.size w7 (some ⟨g5, 0, none⟩) x.wants) := Q5.out.below WntC.holds hb7 (Nat.le_refl _)
  replace Q6 : Hid (SliceC RnC 11 w3.heap.size w7 (some ⟨g6, 0, none⟩) x.runs) := Q6.out.below RnC.holds hb7 (Nat.le_refl _)
  replace Q7 : Hid (SliceC AksC 4 w3.heap.size w7 (some ⟨g7, 0, none⟩) x.asks) := Q7.out.below AksC.holds hb7 (Nat.le_refl _)
  replace Q8 : Hid (SliceC AksC 4 w3.heap.size w7 (some ⟨g8, 0, none⟩) x.gives) := Q8.out.below AksC.holds hb7 (Nat.le_refl _)
  refine hK.out _ _ ⟨hS.1.below hb7 hS.1.lt, hS.2.below hb7 hS.2.lt⟩ (fun hS => ?_)
  clear hK K
  clear q5 q6 q7 q8 hb7 hBd
  refine wpAnyH_ready (rs := [3]) (by kernel_rfl) (by simp) (AllReadyH.cons (o := { dst := some 25, op := _, type := _, pos := _, after := _, guard := none }) rfl (fun K hK => ?_) AllReadyH.nil)
  go_simp
  refine (eqMte_any x (some ⟨g5, 0, none⟩) x.wants.length (some ⟨g6, 0, none⟩) x.runs.length (some ⟨g7, 0, none⟩) x.asks.length (some ⟨g8, 0, none⟩) x.gives.length (some ⟨h5, 0, none⟩) x.wants.length (some ⟨h6, 0, none⟩) x.runs.length (some ⟨h7, 0, none⟩) x.asks.length (some ⟨h8, 0, none⟩) x.gives.length _ _ _ Q5.out Q6.out Q7.out Q8.out P5.out P6.out P7.out P8.out HM.out).mono ?_
  rintro e w8 ⟨rfl, hb8⟩
  have hB8 := hB7.trans (hb8.mono hB7.size)
  refine hK.out _ _ ⟨hS.1.below hb8 hS.1.lt, hS.2.below hb8 hS.2.lt⟩ (fun hS => ?_)
  clear hK K
  refine wpAnyH_take (i := 4) (oi := { dst := some 26, op := _, type := _, pos := _, after := _, guard := none }) (v := .bool false) rfl (by kernel_rfl) (by kernel_rfl) (by kernel_rfl) (fun _ _ _ h => h) (Or.inl ⟨by rfl, ?_⟩) hS ?_
  · intro wy hy
    clear hy
    go_simp
  simp only [Act.put, List.setIfInBounds_toArray, List.set_cons_zero, List.set_cons_succ]
  refine wpAnyH_done (by kernel_rfl) ?_ _
  clear hS
  go_wp2_with fail
  go_ret
  exact ⟨rfl, hB8⟩

end Go.Proofs.Ytcmjnocfgffgfaa
