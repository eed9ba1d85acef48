/-
  Walk: the law of a book that is ok. Made by mklk8.py.
-/
import Derived.Test.YtnhmhnlekagloaaLk5
import Derived.Test.YtnhmhnlekagloaaLk7
namespace Go.Proofs.Ytnhmhnlekagloaa
open Go.RowKit

theorem iszL_Lnd : (Try.prog.info? 25).map (·.size) = some 3 := by kernel_rfl
theorem len_1 {x : Lnd} (h : wLnd x ≤ 1048576) : x.grants.length ≤ 1048576 := by have := wS_len (f := wGrt) (xs := x.grants); unfold wLnd at h; omega
theorem len_2 {x : Lnd} (h : wLnd x ≤ 1048576) : x.places.length ≤ 1048576 := by have := wS_len (f := wPlm) (xs := x.places); unfold wLnd at h; omega

theorem flat_sum : ∀ (ps : List Plm), (ps.flatMap (·.wants)).length ≤ (ps.map wPlm).sum
  | [] => by simp
  | p :: r => by
    have ih := flat_sum r
    simp only [List.flatMap_cons, List.length_append, List.map_cons, List.sum_cons]
    have h : p.wants.length ≤ wPlm p := by have := wS_len (f := wWnt) (xs := p.wants); unfold wPlm; omega
    omega

theorem lnd_all {x : Lnd} (h : wLnd x ≤ 1048576) {lo : Nat} {a1 a2 : Option Addr} {w : World} (s1 : SliceC GrtC 5 lo w a1 x.grants) (s2 : SliceC PlmC 3 lo w a2 x.places) : LSl x lo a1 a2 w :=
  ⟨s1, s2, len_1 h, len_2 h, by have := flat_sum x.places; unfold wLnd wS at h; omega⟩

set_option maxHeartbeats 4000000 in
set_option maxRecDepth 100000 in
theorem law_any (x : Lnd) (a1 : Option Addr) (c1 : Nat) (a2 : Option Addr) (c2 : Nat) (lo : Nat) (w : World) (n1 : SliceC GrtC 5 lo w a1 x.grants) (n2 : SliceC PlmC 3 lo w a2 x.places) :
    Calls Try.prog 3 #[.agg #[.int .i64 x.time, .slice a1 x.grants.length c1, .slice a2 x.places.length c2]] w fun e w' => e = .returned (.bool true) ∧ Below w.heap.size w w' := by
  have N1 := Hid.intro n1
  have N2 := Hid.intro n2
  clear n1 n2
  have HK0 : Hid (Blk w.heap.size #[.int .i64 x.time, .slice a1 x.grants.length c1, .slice a2 x.places.length c2] 25 (w.alloc (Obj.cells #[.int .i64 x.time, .slice a1 x.grants.length c1, .slice a2 x.places.length c2] 25))) := Blk.alloc _ _ _
  have hB0 : Below w.heap.size w (w.alloc (Obj.cells #[.int .i64 x.time, .slice a1 x.grants.length c1, .slice a2 x.places.length c2] 25)) := (Below.refl _ w).alloc (Nat.le_refl _) _
  go_enter Try.func3, Try.ntmps3
  go_upto_region 1 with fail
  generalize w.alloc (Obj.cells #[.int .i64 x.time, .slice a1 x.grants.length c1, .slice a2 x.places.length c2] 25) = w0 at *
  go_wp2_with (refine wpList_load_mid rfl 25 _ rfl w.heap.size 0 (by first | rfl | (simp [go_sem]; done)) [.int .i64 x.time, .slice a1 x.grants.length c1, .slice a2 x.places.length c2] _ HK0.out.rangeA Try.underlying25 rfl iszL_Lnd ?_)
  refine (szLnd_any x a1 c1 a2 c2 lo 1048576 _ (N1.out.below GrtC.holds (B := w.heap.size) hB0 (Nat.le_refl _)) (N2.out.below PlmC.holds (B := w.heap.size) hB0 (Nat.le_refl _)) (by omega) (by omega)).mono ?_
  rintro e w1 ⟨rfl, hb1⟩
  have HK1 := Hid.intro (HK0.out.below hb1 HK0.out.lt)
  have hB1 := hB0.trans (hb1.mono hB0.size)
  clear hb1 HK0 hB0
  by_cases hz : ((wLnd x : Nat) : Int) ≤ 1048576
  case neg =>
    rw [szR_neg hz]
    go_wp2_with fail
    go_ret
    exact ⟨rfl, hB1⟩
  rw [szR_pos hz]
  have HM : Hid (wLnd x ≤ 1048576) := by show _ ≤ _; omega
  have hz0 : (0 : Int) ≤ 1048576 - (wLnd x : Nat) := by omega
  clear hz
  generalize (1048576 : Int) - (wLnd x : Nat) = R at *
  go_wp2_with (refine wpList_load_mid rfl 25 _ rfl w.heap.size 0 (by first | rfl | (simp [go_sem]; done)) [.int .i64 x.time, .slice a1 x.grants.length c1, .slice a2 x.places.length c2] _ HK1.out.rangeA Try.underlying25 rfl iszL_Lnd ?_)
  refine (toLnd_any x a1 c1 a2 c2 lo _ (N1.out.below GrtC.holds (B := w.heap.size) hB1 (Nat.le_refl _)) (N2.out.below PlmC.holds (B := w.heap.size) hB1 (Nat.le_refl _)) HM.out).mono ?_
  rintro e w2 ⟨g1, g2, rfl, q1, q2, hb2⟩
  have Q1 : Hid (SliceC GrtC 5 w1.heap.size w2 (some ⟨g1, 0, none⟩) x.grants) := q1
  have Q2 : Hid (SliceC PlmC 3 w1.heap.size w2 (some ⟨g2, 0, none⟩) x.places) := q2
  have HK2 := Hid.intro (HK1.out.below hb2 HK1.out.lt)
  have hB2 := hB1.trans (hb2.mono hB1.size)
  clear hb2 HK1 hB1 q1 q2
  go_wp2_with fail
  refine (specLandOk_any x (some ⟨g1, 0, none⟩) x.grants.length (some ⟨g2, 0, none⟩) x.places.length w1.heap.size _ (lnd_all HM.out Q1.out Q2.out)).mono ?_
  rintro e w3 ⟨rfl, hb3⟩
  have HK3 := Hid.intro (HK2.out.below hb3 HK2.out.lt)
  have hB3 := hB2.trans (hb3.mono hB2.size)
  clear hb3 HK2 hB2 Q1 Q2
  generalize hU : loB x = U
  have HU := Hid.intro hU
  clear hU
  go_wp2_with (refine wpList_load_mid rfl 25 _ rfl w.heap.size 0 (by first | rfl | (simp [go_sem]; done)) [.int .i64 x.time, .slice a1 x.grants.length c1, .slice a2 x.places.length c2] _ HK3.out.rangeA Try.underlying25 rfl iszL_Lnd ?_)
  refine (toLnd_any x a1 c1 a2 c2 lo _ (N1.out.below GrtC.holds (B := w.heap.size) hB3 (Nat.le_refl _)) (N2.out.below PlmC.holds (B := w.heap.size) hB3 (Nat.le_refl _)) HM.out).mono ?_
  rintro e w4 ⟨g1, g2, rfl, q1, q2, hb4⟩
  have Q1 : Hid (SliceC GrtC 5 w3.heap.size w4 (some ⟨g1, 0, none⟩) x.grants) := q1
  have Q2 : Hid (SliceC PlmC 3 w3.heap.size w4 (some ⟨g2, 0, none⟩) x.places) := q2
  have HK4 := Hid.intro (HK3.out.below hb4 HK3.out.lt)
  have hB4 := hB3.trans (hb4.mono hB3.size)
  clear hb4 HK3 hB3 q1 q2
  have hb5 : Below w4.heap.size w4 (w4.alloc (Obj.cells #[.int .i64 x.time, .slice (some ⟨g1, 0, none⟩) x.grants.length x.grants.length, .slice (some ⟨g2, 0, none⟩) x.places.length x.places.length] 31)) := (Below.refl _ _).alloc (Nat.le_refl _) _
  have HX5 : Hid (Blk w4.heap.size #[.int .i64 x.time, .slice (some ⟨g1, 0, none⟩) x.grants.length x.grants.length, .slice (some ⟨g2, 0, none⟩) x.places.length x.places.length] 31 (w4.alloc (Obj.cells #[.int .i64 x.time, .slice (some ⟨g1, 0, none⟩) x.grants.length x.grants.length, .slice (some ⟨g2, 0, none⟩) x.places.length x.places.length] 31))) := Blk.alloc _ _ _
  have HK5 : Hid (Blk w.heap.size #[.int .i64 x.time, .slice a1 x.grants.length c1, .slice a2 x.places.length c2] 25 (w4.alloc (Obj.cells #[.int .i64 x.time, .slice (some ⟨g1, 0, none⟩) x.grants.length x.grants.length, .slice (some ⟨g2, 0, none⟩) x.places.length x.places.length] 31))) := HK4.out.below hb5 HK4.out.lt
  have hB5 : Below w.heap.size w (w4.alloc (Obj.cells #[.int .i64 x.time, .slice (some ⟨g1, 0, none⟩) x.grants.length x.grants.length, .slice (some ⟨g2, 0, none⟩) x.places.length x.places.length] 31)) := hB4.trans (hb5.mono hB4.size)
  replace Q1 : Hid (SliceC GrtC 5 w3.heap.size (w4.alloc (Obj.cells #[.int .i64 x.time, .slice (some ⟨g1, 0, none⟩) x.grants.length x.grants.length, .slice (some ⟨g2, 0, none⟩) x.places.length x.places.length] 31)) (some ⟨g1, 0, none⟩) x.grants) := Q1.out.below GrtC.holds hb5 (Nat.le_refl _)
  replace Q2 : Hid (SliceC PlmC 3 w3.heap.size (w4.alloc (Obj.cells #[.int .i64 x.time, .slice (some ⟨g1, 0, none⟩) x.grants.length x.grants.length, .slice (some ⟨g2, 0, none⟩) x.places.length x.places.length] 31)) (some ⟨g2, 0, none⟩) x.places) := Q2.out.below PlmC.holds hb5 (Nat.le_refl _)
  clear hb5 HK4 hB4
  go_upto_region 7 with fail
  generalize w4.alloc (Obj.cells #[.int .i64 x.time, .slice (some ⟨g1, 0, none⟩) x.grants.length x.grants.length, .slice (some ⟨g2, 0, none⟩) x.places.length x.places.length] 31) = w5 at *
  generalize w4.heap.size = q at *
  go_wp2_with (refine wpList_load_mid rfl 31 _ rfl q 0 (by first | rfl | (simp [go_sem]; done)) [.int .i64 x.time, .slice (some ⟨g1, 0, none⟩) x.grants.length x.grants.length, .slice (some ⟨g2, 0, none⟩) x.places.length x.places.length] _ HX5.out.rangeA Try.underlying31 rfl isz_Lnd ?_)
  refine (implLandOk_any x (some ⟨g1, 0, none⟩) x.grants.length (some ⟨g2, 0, none⟩) x.places.length w3.heap.size _ (lnd_all HM.out Q1.out Q2.out)).mono ?_
  rintro e w6 ⟨rfl, hb6⟩
  have HK6 := Hid.intro (HK5.out.below hb6 HK5.out.lt)
  have HX6 := Hid.intro (HX5.out.below hb6 HX5.out.lt)
  have hB6 := hB5.trans (hb6.mono hB5.size)
  replace Q1 : Hid (SliceC GrtC 5 w3.heap.size w6 (some ⟨g1, 0, none⟩) x.grants) := Q1.out.below GrtC.holds hb6 (Nat.le_refl _)
  replace Q2 : Hid (SliceC PlmC 3 w3.heap.size w6 (some ⟨g2, 0, none⟩) x.places) := Q2.out.below PlmC.holds hb6 (Nat.le_refl _)
  clear hb6 HK5 HX5 hB5
  rw [HU.out]
  go_wp2_with fail
  refine wp_region_held_drew (S := fun wy => Blk q #[.int .i64 x.time, .slice (some ⟨g1, 0, none⟩) x.grants.length x.grants.length, .slice (some ⟨g2, 0, none⟩) x.places.length x.places.length] 31 wy ∧ Blk w.heap.size #[.int .i64 x.time, .slice a1 x.grants.length c1, .slice a2 x.places.length c2] 25 wy) (by kernel_rfl) ⟨HX6.out.drew, HK6.out.drew⟩ (fun hS => ?_)
  have hBd : Below w.heap.size w w6.drew := hB6.drew
  replace Q1 : Hid (SliceC GrtC 5 w3.heap.size w6.drew (some ⟨g1, 0, none⟩) x.grants) := Q1.out.below GrtC.holds ((Below.refl w6.heap.size w6).drew) (Nat.le_refl _)
  replace Q2 : Hid (SliceC PlmC 3 w3.heap.size w6.drew (some ⟨g2, 0, none⟩) x.places) := Q2.out.below PlmC.holds ((Below.refl w6.heap.size w6).drew) (Nat.le_refl _)
  clear HX6 HK6 hB6
  generalize w6.drew = wd at *
  refine wpAnyH_take (i := 0) (oi := { dst := some 22, op := _, type := _, pos := _, after := _, guard := none }) (v := .agg #[.int .i64 x.time, .slice (some ⟨g1, 0, none⟩) x.grants.length x.grants.length, .slice (some ⟨g2, 0, none⟩) x.places.length x.places.length]) rfl (by kernel_rfl) (by kernel_rfl) (by kernel_rfl) (fun _ _ _ h => h) (yieldsIf_load_mid (by rfl) _ _ rfl q (0) rfl [.int .i64 x.time, .slice (some ⟨g1, 0, none⟩) x.grants.length x.grants.length, .slice (some ⟨g2, 0, none⟩) x.places.length x.places.length] _ (fun _ h => h.1.rangeA) Try.underlying31 rfl isz_Lnd) hS ?_
  simp only [Act.put, List.setIfInBounds_toArray, List.set_cons_zero, List.set_cons_succ]
  refine wpAnyH_take (i := 1) (oi := { dst := some 23, op := _, type := _, pos := _, after := _, guard := none }) (v := .agg #[.int .i64 x.time, .slice a1 x.grants.length c1, .slice a2 x.places.length c2]) rfl (by kernel_rfl) (by kernel_rfl) (by kernel_rfl) (fun _ _ _ h => h) (yieldsIf_load_mid (by rfl) _ _ rfl w.heap.size (0) rfl [.int .i64 x.time, .slice a1 x.grants.length c1, .slice a2 x.places.length c2] _ (fun _ h => h.2.rangeA) Try.underlying25 rfl iszL_Lnd) hS ?_
  simp only [Act.put, List.setIfInBounds_toArray, List.set_cons_zero, List.set_cons_succ]
  refine wpAnyH_ready (rs := [2]) (by kernel_rfl) (by simp) (AllReadyH.cons (o := { dst := some 24, op := _, type := _, pos := _, after := _, guard := none }) rfl (fun K hK => ?_) AllReadyH.nil)
  go_simp
  refine (toLnd_any x a1 c1 a2 c2 lo _ (N1.out.below GrtC.holds (B := w.heap.size) hBd (Nat.le_refl _)) (N2.out.below PlmC.holds (B := w.heap.size) hBd (Nat.le_refl _)) HM.out).mono ?_
  rintro e w7 ⟨h1, h2, rfl, q1, q2, hb7⟩
  have hB7 := hBd.trans (hb7.mono hBd.size)
  have P1 : Hid (SliceC GrtC 5 wd.heap.size w7 (some ⟨h1, 0, none⟩) x.grants) := q1
  have P2 : Hid (SliceC PlmC 3 wd.heap.size w7 (some ⟨h2, 0, none⟩) x.places) := q2
  replace Q1 : Hid (SliceC GrtC 5 w3.heap.size w7 (some ⟨g1, 0, none⟩) x.grants) := Q1.out.below GrtC.holds hb7 (Nat.le_refl _)
  replace Q2 : Hid (SliceC PlmC 3 w3.heap.size w7 (some ⟨g2, 0, none⟩) x.places) := Q2.out.below PlmC.holds hb7 (Nat.le_refl _)
  refine hK.out _ _ ⟨hS.1.below hb7 hS.1.lt, hS.2.below hb7 hS.2.lt⟩ (fun hS => ?_)
  clear hK K
  clear q1 q2 hb7 hBd
  refine wpAnyH_ready (rs := [3]) (by kernel_rfl) (by simp) (AllReadyH.cons (o := { dst := some 25, op := _, type := _, pos := _, after := _, guard := none }) rfl (fun K hK => ?_) AllReadyH.nil)
  go_simp
  refine (eqLnd_any x (some ⟨g1, 0, none⟩) x.grants.length (some ⟨g2, 0, none⟩) x.places.length (some ⟨h1, 0, none⟩) x.grants.length (some ⟨h2, 0, none⟩) x.places.length _ _ _ Q1.out Q2.out P1.out P2.out HM.out).mono ?_
  rintro e w8 ⟨rfl, hb8⟩
  have hB8 := hB7.trans (hb8.mono hB7.size)
  refine hK.out _ _ ⟨hS.1.below hb8 hS.1.lt, hS.2.below hb8 hS.2.lt⟩ (fun hS => ?_)
  clear hK K
  refine wpAnyH_take (i := 4) (oi := { dst := some 26, op := _, type := _, pos := _, after := _, guard := none }) (v := .bool false) rfl (by kernel_rfl) (by kernel_rfl) (by kernel_rfl) (fun _ _ _ h => h) (Or.inl ⟨by rfl, ?_⟩) hS ?_
  · intro wy hy
    clear hy
    go_simp
  simp only [Act.put, List.setIfInBounds_toArray, List.set_cons_zero, List.set_cons_succ]
  refine wpAnyH_done (by kernel_rfl) ?_ _
  clear hS
  go_wp2_with fail
  go_ret
  exact ⟨rfl, hB8⟩

end Go.Proofs.Ytnhmhnlekagloaa
