/-
  Walk: the law.
-/
import Derived.Test.YtebancnefpgapaaAns
namespace Go.Proofs.Ytebancnefpgapaa
open Go.RowKit Go.WideMaps Go.Maps

/-- the eight cells that the last look reads -/
def TwoIn (b b0 : Nat) (x : Flt) (a1 : Option Addr) (c1 : Nat) (a2 : Option Addr) (c2 : Nat) (a3 : Option Addr) (c3 : Nat) (d1 : Option Addr) (e1 : Nat) (d2 : Option Addr) (e2 : Nat) (d3 : Option Addr) (e3 : Nat) (w : World) : Prop :=
  FltIn b x a1 c1 a2 c2 a3 c3 w ∧ FltIn b0 x d1 e1 d2 e2 d3 e3 w

theorem len_b {x : Flt} (h : wFlt x ≤ 1048576) : x.berths.length ≤ 1048576 := by have := wS_len (f := wBrt) (xs := x.berths); unfold wFlt at h; omega
theorem len_s {x : Flt} (h : wFlt x ≤ 1048576) : x.services.length ≤ 1048576 := by have := wS_len (f := wSvc) (xs := x.services); unfold wFlt at h; omega
theorem len_c {x : Flt} (h : wFlt x ≤ 1048576) : x.copies.length ≤ 1048576 := by have := wS_len (f := wCpy) (xs := x.copies); unfold wFlt at h; omega

set_option maxHeartbeats 2000000 in
set_option maxRecDepth 100000 in
theorem law_any (x : Flt) (a1 : Option Addr) (c1 : Nat) (a2 : Option Addr) (c2 : Nat) (a3 : Option Addr) (c3 : Nat) (lo : Nat) (s : ByteArray) (w : World) (n1 : SliceC BrtC 6 lo w a1 x.berths) (n2 : SliceC SvcC 2 lo w a2 x.services) (n3 : SliceC CpyC 12 lo w a3 x.copies) (hsl : s.size ≤ maxLen) :
    Calls Try.prog 3 #[.agg #[.bool x.pack, .slice a1 x.berths.length c1, .slice a2 x.services.length c2, .slice a3 x.copies.length c3], .string s] w fun e w' => e = .returned (.bool true) ∧ Below w.heap.size w w' := by
  have N1 : Hid (SliceC BrtC 6 lo w a1 x.berths) := n1
  have N2 : Hid (SliceC SvcC 2 lo w a2 x.services) := n2
  have N3 : Hid (SliceC CpyC 12 lo w a3 x.copies) := n3
  have HSL : Hid (s.size ≤ maxLen) := hsl
  unfold maxLen at hsl
  clear n1 n2 n3
  by_cases hbig : (1048576 : Int) < s.size
  · go_enter Try.func3, Try.ntmps3
    go_wp2_with fail
    go_ret
    exact ⟨rfl, by go_grown⟩
  go_enter Try.func3, Try.ntmps3
  go_wp2_with fail
  refine (szFlt_any x a1 c1 a2 c2 a3 c3 lo 1048576 _ (N1.out.below BrtC.holds (B := w.heap.size) (by go_grown) (Nat.le_refl _)) (N2.out.below SvcC.holds (B := w.heap.size) (by go_grown) (Nat.le_refl _)) (N3.out.below CpyC.holds (B := w.heap.size) (by go_grown) (Nat.le_refl _)) (by omega) (by omega)).mono ?_
  rintro e w1 ⟨rfl, hb1⟩
  have HF1 : Hid (FltIn w.heap.size x a1 c1 a2 c2 a3 c3 w1) := FltIn.below (b := w.heap.size) ⟨by simp, by simp, by simp, by simp⟩ hb1 (by simp)
  have HB1 : Hid (Below w.heap.size w w1) := (show Below w.heap.size w _ by go_grown).trans (hb1.mono (by simp))
  clear hb1
  by_cases hz' : ¬ ((wFlt x : Nat) : Int) ≤ 1048576
  · have hz := hz'
    rw [szR_neg hz]
    go_wp2_with fail
    go_ret
    exact ⟨rfl, HB1.out⟩
  have hz := Classical.not_not.1 hz'
  clear hz'
  rw [szR_pos hz]
  have hwx : wFlt x ≤ 1048576 := by omega
  have HM : Hid (wFlt x ≤ 1048576) := hwx
  have hz0 : (0 : Int) ≤ 1048576 - (wFlt x : Nat) := by omega
  clear hwx hz
  generalize hR : (1048576 : Int) - (wFlt x : Nat) = R at *
  clear hR
  obtain ⟨f0, f1, f2, f3⟩ := HF1.out
  go_wp2_with fail
  refine (toFlt_any x a1 c1 a2 c2 a3 c3 lo _ (N1.out.below BrtC.holds (B := w.heap.size) HB1.out (Nat.le_refl _)) (N2.out.below SvcC.holds (B := w.heap.size) HB1.out (Nat.le_refl _)) (N3.out.below CpyC.holds (B := w.heap.size) HB1.out (Nat.le_refl _)) HM.out).mono ?_
  rintro e w2 ⟨g1, g2, g3, rfl, q1, q2, q3, hb2⟩
  have HF2 : Hid (FltIn w.heap.size x a1 c1 a2 c2 a3 c3 w2) := HF1.out.below hb2 (block_lt_of_cell f0)
  have HB2 : Hid (Below w.heap.size w w2) := HB1.out.trans (hb2.mono HB1.out.size)
  have Q1 : Hid (SliceC BrtC 6 w1.heap.size w2 (some ⟨g1, 0, none⟩) x.berths) := q1
  have Q3 : Hid (SliceC CpyC 12 w1.heap.size w2 (some ⟨g3, 0, none⟩) x.copies) := q3
  clear hb2 q1 q2 q3 f0 f1 f2 f3 HF1 HB1
  go_wp2_with fail
  refine (specUsed_any x (some ⟨g1, 0, none⟩) x.berths.length (some ⟨g2, 0, none⟩) x.services.length (some ⟨g3, 0, none⟩) x.copies.length w1.heap.size s _ Q1.out Q3.out (len_b HM.out) (len_c HM.out)).mono ?_
  rintro e w3 ⟨rfl, hb3⟩
  have HF3 : Hid (FltIn w.heap.size x a1 c1 a2 c2 a3 c3 w3) := HF2.out.below hb3 (block_lt_of_cell HF2.out.1)
  have HB3 : Hid (Below w.heap.size w w3) := HB2.out.trans (hb3.mono HB2.out.size)
  clear hb3 Q1 Q3 HF2 HB2
  obtain ⟨f0, f1, f2, f3⟩ := HF3.out
  go_wp2_with fail
  refine (toFlt_any x a1 c1 a2 c2 a3 c3 lo _ (N1.out.below BrtC.holds (B := w.heap.size) HB3.out (Nat.le_refl _)) (N2.out.below SvcC.holds (B := w.heap.size) HB3.out (Nat.le_refl _)) (N3.out.below CpyC.holds (B := w.heap.size) HB3.out (Nat.le_refl _)) HM.out).mono ?_
  rintro e w4 ⟨g1, g2, g3, rfl, q1, q2, q3, hb4⟩
  have HF4 : Hid (FltIn w.heap.size x a1 c1 a2 c2 a3 c3 w4) := HF3.out.below hb4 (block_lt_of_cell f0)
  have HB4 : Hid (Below w.heap.size w w4) := HB3.out.trans (hb4.mono HB3.out.size)
  have Q1 : Hid (SliceC BrtC 6 w3.heap.size w4 (some ⟨g1, 0, none⟩) x.berths) := q1
  have Q2 : Hid (SliceC SvcC 2 w3.heap.size w4 (some ⟨g2, 0, none⟩) x.services) := q2
  have Q3 : Hid (SliceC CpyC 12 w3.heap.size w4 (some ⟨g3, 0, none⟩) x.copies) := q3
  clear hb4 q1 q2 q3 f0 f1 f2 f3 HF3 HB3
  go_wp2_with fail
  refine (implUsed_any x (some ⟨g1, 0, none⟩) x.berths.length (some ⟨g2, 0, none⟩) x.services.length (some ⟨g3, 0, none⟩) x.copies.length w3.heap.size s _ (Q1.out.below BrtC.holds (B := w4.heap.size) (by go_grown) (Nat.le_refl _)) (Q2.out.below SvcC.holds (B := w4.heap.size) (by go_grown) (Nat.le_refl _)) (Q3.out.below CpyC.holds (B := w4.heap.size) (by go_grown) (Nat.le_refl _)) (len_b HM.out) (len_s HM.out) (len_c HM.out) HSL.out).mono ?_
  rintro e w5 ⟨rfl, hb5⟩
  have hz4 : w.heap.size < w4.heap.size := block_lt_of_cell HF4.out.1
  have hb45 : Below w4.heap.size w4 w5 := (show Below w4.heap.size w4 _ by go_grown).trans (hb5.mono (by simp))
  have HX5 : Hid (FltIn w4.heap.size x (some ⟨g1, 0, none⟩) x.berths.length (some ⟨g2, 0, none⟩) x.services.length (some ⟨g3, 0, none⟩) x.copies.length w5) := FltIn.below (b := w4.heap.size) ⟨by simp, by simp, by simp, by simp⟩ hb5 (by simp)
  have HF5 : Hid (FltIn w.heap.size x a1 c1 a2 c2 a3 c3 w5) := HF4.out.below hb45 hz4
  have HB5 : Hid (Below w.heap.size w w5) := HB4.out.trans (hb45.mono (by omega))
  have Q1' : Hid (SliceC BrtC 6 w3.heap.size w5 (some ⟨g1, 0, none⟩) x.berths) := Q1.out.below BrtC.holds hb45 (Nat.le_refl _)
  have Q2' : Hid (SliceC SvcC 2 w3.heap.size w5 (some ⟨g2, 0, none⟩) x.services) := Q2.out.below SvcC.holds hb45 (Nat.le_refl _)
  have Q3' : Hid (SliceC CpyC 12 w3.heap.size w5 (some ⟨g3, 0, none⟩) x.copies) := Q3.out.below CpyC.holds hb45 (Nat.le_refl _)
  clear hb5 hb45 HF4 HB4 Q1 Q2 Q3
  generalize usedR x s = U at *
  go_wp2_with fail
  refine wp_region_held_drew (S := TwoIn w.heap.size w4.heap.size x a1 c1 a2 c2 a3 c3 (some ⟨g1, 0, none⟩) x.berths.length (some ⟨g2, 0, none⟩) x.services.length (some ⟨g3, 0, none⟩) x.copies.length) (by kernel_rfl) ⟨HF5.out, HX5.out⟩ (fun hS => ?_)
  refine wpAnyH_take (i := 0) (oi := { dst := some 42, op := _, type := _, pos := _, after := _, guard := none }) (v := .agg #[.bool x.pack, .slice (some ⟨g1, 0, none⟩) x.berths.length x.berths.length, .slice (some ⟨g2, 0, none⟩) x.services.length x.services.length, .slice (some ⟨g3, 0, none⟩) x.copies.length x.copies.length]) rfl (by kernel_rfl) (by kernel_rfl) (by kernel_rfl) (fun _ _ _ h => h) (Or.inl ⟨by rfl, ?_⟩) hS ?_
  · intro wy hy
    obtain ⟨⟨y0, y1, y2, y3⟩, v0, v1, v2, v3⟩ := hy
    go_simp
  simp only [Act.put, List.setIfInBounds_toArray, List.set_cons_zero, List.set_cons_succ]
  refine wpAnyH_take (i := 1) (oi := { dst := some 43, op := _, type := _, pos := _, after := _, guard := none }) (v := .agg #[.bool x.pack, .slice a1 x.berths.length c1, .slice a2 x.services.length c2, .slice a3 x.copies.length c3]) rfl (by kernel_rfl) (by kernel_rfl) (by kernel_rfl) (fun _ _ _ h => h) (Or.inl ⟨by rfl, ?_⟩) hS ?_
  · intro wy hy
    obtain ⟨⟨y0, y1, y2, y3⟩, v0, v1, v2, v3⟩ := hy
    go_simp
  simp only [Act.put, List.setIfInBounds_toArray, List.set_cons_zero, List.set_cons_succ]
  refine wpAnyH_ready (rs := [2]) (by kernel_rfl) (by simp) (AllReadyH.cons (o := { dst := some 44, op := _, type := _, pos := _, after := _, guard := none }) rfl (fun K hK => ?_) AllReadyH.nil)
  go_simp
  have hd : Below w.heap.size w w5.drew := HB5.out.drew
  refine (toFlt_any x a1 c1 a2 c2 a3 c3 lo _ (N1.out.below BrtC.holds (B := w.heap.size) hd (Nat.le_refl _)) (N2.out.below SvcC.holds (B := w.heap.size) hd (Nat.le_refl _)) (N3.out.below CpyC.holds (B := w.heap.size) hd (Nat.le_refl _)) HM.out).mono ?_
  rintro e w6 ⟨h1, h2, h3, rfl, q1, q2, q3, hb6⟩
  have hd5 : Below w5.heap.size w5 w6 := (Below.refl _ w5).drew.trans hb6
  have HB6 : Hid (Below w.heap.size w w6) := HB5.out.trans (hd5.mono HB5.out.size)
  have P1 : Hid (SliceC BrtC 6 w5.drew.heap.size w6 (some ⟨h1, 0, none⟩) x.berths) := q1
  have P2 : Hid (SliceC SvcC 2 w5.drew.heap.size w6 (some ⟨h2, 0, none⟩) x.services) := q2
  have P3 : Hid (SliceC CpyC 12 w5.drew.heap.size w6 (some ⟨h3, 0, none⟩) x.copies) := q3
  have Q1 : Hid (SliceC BrtC 6 w3.heap.size w6 (some ⟨g1, 0, none⟩) x.berths) := Q1'.out.below BrtC.holds hd5 (Nat.le_refl _)
  have Q2 : Hid (SliceC SvcC 2 w3.heap.size w6 (some ⟨g2, 0, none⟩) x.services) := Q2'.out.below SvcC.holds hd5 (Nat.le_refl _)
  have Q3 : Hid (SliceC CpyC 12 w3.heap.size w6 (some ⟨g3, 0, none⟩) x.copies) := Q3'.out.below CpyC.holds hd5 (Nat.le_refl _)
  refine hK.out _ _ ⟨HF5.out.below hd5 (block_lt_of_cell HF5.out.1), HX5.out.below hd5 (block_lt_of_cell HX5.out.1)⟩ (fun hS => ?_)
  clear q1 q2 q3 hb6 hd5 hd Q1' Q2' Q3'
  clear hK K
  refine wpAnyH_ready (rs := [3]) (by kernel_rfl) (by simp) (AllReadyH.cons (o := { dst := some 45, op := _, type := _, pos := _, after := _, guard := none }) rfl (fun K hK => ?_) AllReadyH.nil)
  go_simp
  refine (eqFlt_any x (some ⟨g1, 0, none⟩) x.berths.length (some ⟨g2, 0, none⟩) x.services.length (some ⟨g3, 0, none⟩) x.copies.length (some ⟨h1, 0, none⟩) x.berths.length (some ⟨h2, 0, none⟩) x.services.length (some ⟨h3, 0, none⟩) x.copies.length w3.heap.size w5.drew.heap.size _ Q1.out Q2.out Q3.out P1.out P2.out P3.out HM.out).mono ?_
  rintro e w7 ⟨rfl, hb7⟩
  have HB7 : Hid (Below w.heap.size w w7) := HB6.out.trans (hb7.mono HB6.out.size)
  refine hK.out _ _ ⟨hS.1.below hb7 (block_lt_of_cell hS.1.1), hS.2.below hb7 (block_lt_of_cell hS.2.1)⟩ (fun hS => ?_)
  clear hK K
  refine wpAnyH_take (i := 4) (oi := { dst := some 46, op := _, type := _, pos := _, after := _, guard := none }) (v := .bool false) rfl (by kernel_rfl) (by kernel_rfl) (by kernel_rfl) (fun _ _ _ h => h) (Or.inl ⟨by rfl, ?_⟩) hS ?_
  · intro wy hy
    obtain ⟨⟨y0, y1, y2, y3⟩, v0, v1, v2, v3⟩ := hy
    go_simp
  simp only [Act.put, List.setIfInBounds_toArray, List.set_cons_zero, List.set_cons_succ]
  refine wpAnyH_done (by kernel_rfl) ?_ _
  go_wp2_with fail
  go_ret
  exact ⟨rfl, HB7.out⟩

end Go.Proofs.Ytebancnefpgapaa
