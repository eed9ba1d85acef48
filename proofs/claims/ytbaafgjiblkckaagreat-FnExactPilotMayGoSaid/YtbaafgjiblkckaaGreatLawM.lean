/-
  Walk: the law.
-/
import Derived.Test.YtbaafgjiblkckaaGreatSgAll
namespace Go.Proofs.YtbaafgjiblkckaaGreat
open Go.RowKit Go.WideMaps Go.Maps

/-- the eight cells that the last look reads -/
def TwoIn (b b0 : Nat) (x : Flt) (a1 : Option Addr) (c1 : Nat) (a2 : Option Addr) (c2 : Nat) (a3 : Option Addr) (c3 : Nat) (d1 : Option Addr) (e1 : Nat) (d2 : Option Addr) (e2 : Nat) (d3 : Option Addr) (e3 : Nat) (w : World) : Prop :=
  FltIn b x a1 c1 a2 c2 a3 c3 w ∧ FltIn b0 x d1 e1 d2 e2 d3 e3 w

theorem len_b {x : Flt} (h : wFlt x ≤ 1048576) : x.berths.length ≤ 1048576 := by have := wS_len (f := wBrt) (xs := x.berths); unfold wFlt at h; omega
theorem len_s {x : Flt} (h : wFlt x ≤ 1048576) : x.services.length ≤ 1048576 := by have := wS_len (f := wSvc) (xs := x.services); unfold wFlt at h; omega
theorem len_c {x : Flt} (h : wFlt x ≤ 1048576) : x.copies.length ≤ 1048576 := by have := wS_len (f := wCpy) (xs := x.copies); unfold wFlt at h; omega

set_option maxHeartbeats 4000000 in
set_option maxRecDepth 100000 in
theorem law_any (x : Flt) (a1 : Option Addr) (c1 : Nat) (a2 : Option Addr) (c2 : Nat) (a3 : Option Addr) (c3 : Nat) (lo : Nat) (gone : List ByteArray) (ga : Option Addr) (gc : Nat) (w : World) (n1 : SliceC BrtC 6 lo w a1 x.berths) (n2 : SliceC SvcC 2 lo w a2 x.services) (n3 : SliceC CpyC 12 lo w a3 x.copies) (ng : SliceC StrC 1 lo w ga gone) :
    Calls Tryz.prog 3 #[.agg #[.bool x.pack, .slice a1 x.berths.length c1, .slice a2 x.services.length c2, .slice a3 x.copies.length c3], .slice ga gone.length gc] w fun e w' => e = .returned (.bool true) ∧ Below w.heap.size w w' := by
  have N1 : Hid (SliceC BrtC 6 lo w a1 x.berths) := n1
  have N2 : Hid (SliceC SvcC 2 lo w a2 x.services) := n2
  have N3 : Hid (SliceC CpyC 12 lo w a3 x.copies) := n3
  have NG : Hid (SliceC StrC 1 lo w ga gone) := ng
  clear n1 n2 n3 ng
  go_enter Tryz.func3, Tryz.ntmps3
  go_wp2_with fail
  refine (szFlt_any x a1 c1 a2 c2 a3 c3 lo 1048576 _ (N1.out.below BrtC.holds (B := w.heap.size) (by go_grown) (Nat.le_refl _)) (N2.out.below SvcC.holds (B := w.heap.size) (by go_grown) (Nat.le_refl _)) (N3.out.below CpyC.holds (B := w.heap.size) (by go_grown) (Nat.le_refl _)) (by omega) (by omega)).mono ?_
  rintro e w0 ⟨rfl, hb1⟩
  have HF0 : Hid (FltIn w.heap.size x a1 c1 a2 c2 a3 c3 w0) := FltIn.below (b := w.heap.size) ⟨by simp, by simp, by simp, by simp⟩ hb1 (by simp)
  have HB0 : Hid (Below w.heap.size w w0) := (show Below w.heap.size w _ by go_grown).trans (hb1.mono (by simp))
  clear hb1
  by_cases hz' : ¬ ((wFlt x : Nat) : Int) ≤ 1048576
  · have hz := hz'
    rw [szR_neg hz]
    go_wp2_with fail
    go_ret
    exact ⟨rfl, HB0.out⟩
  have hz := Classical.not_not.1 hz'
  clear hz'
  rw [szR_pos hz]
  have hwx : wFlt x ≤ 1048576 := by omega
  have HM : Hid (wFlt x ≤ 1048576) := hwx
  have hz0 : (0 : Int) ≤ 1048576 - (wFlt x : Nat) := by omega
  have hz1 : (1048576 : Int) - (wFlt x : Nat) ≤ 1048576 := by omega
  clear hwx hz
  generalize hR : (1048576 : Int) - (wFlt x : Nat) = R at *
  clear hR
  go_wp2_with fail
  refine (szStrS_any gone ga gc lo R _ (NG.out.below StrC.holds HB0.out (Nat.le_refl _)) hz0 hz1).mono ?_
  rintro e w1 ⟨rfl, hb1⟩
  have HF1 : Hid (FltIn w.heap.size x a1 c1 a2 c2 a3 c3 w1) := HF0.out.below hb1 (block_lt_of_cell HF0.out.1)
  have HB1 : Hid (Below w.heap.size w w1) := HB0.out.trans (hb1.mono HB0.out.size)
  clear hb1 HF0 HB0
  by_cases hy' : ¬ ((wS ByteArray.size gone : Nat) : Int) ≤ R
  · have hy := hy'
    rw [szR_neg hy]
    go_wp2_with fail
    go_ret
    exact ⟨rfl, HB1.out⟩
  have hy := Classical.not_not.1 hy'
  clear hy'
  rw [szR_pos hy]
  have HS : Hid (wS ByteArray.size gone ≤ 1048576) := by show _ ≤ _; omega
  have hgl : gone.length ≤ 1048576 := Nat.le_trans wS_len HS.out
  have hy0 : (0 : Int) ≤ R - (wS ByteArray.size gone : Nat) := by omega
  clear hy hz0 hz1
  generalize R - ((wS ByteArray.size gone : Nat) : Int) = R2 at *
  obtain ⟨f0, f1, f2, f3⟩ := HF1.out
  go_wp2_with fail
  refine (toFlt_any x a1 c1 a2 c2 a3 c3 lo _ (N1.out.below BrtC.holds (B := w.heap.size) HB1.out (Nat.le_refl _)) (N2.out.below SvcC.holds (B := w.heap.size) HB1.out (Nat.le_refl _)) (N3.out.below CpyC.holds (B := w.heap.size) HB1.out (Nat.le_refl _)) HM.out).mono ?_
  rintro e w2 ⟨g1, g2, g3, rfl, q1, q2, q3, hb2⟩
  have HF2 : Hid (FltIn w.heap.size x a1 c1 a2 c2 a3 c3 w2) := HF1.out.below hb2 (block_lt_of_cell f0)
  have HB2 : Hid (Below w.heap.size w w2) := HB1.out.trans (hb2.mono HB1.out.size)
  have Q1 : Hid (SliceC BrtC 6 w1.heap.size w2 (some ⟨g1, 0, none⟩) x.berths) := q1
  have Q2 : Hid (SliceC SvcC 2 w1.heap.size w2 (some ⟨g2, 0, none⟩) x.services) := q2
  have Q3 : Hid (SliceC CpyC 12 w1.heap.size w2 (some ⟨g3, 0, none⟩) x.copies) := q3
  clear hb2 q1 q2 q3 f0 f1 f2 f3 HF1 HB1
  go_wp2_with fail
  refine (toStrS_any gone ga gc lo _ (NG.out.below StrC.holds HB2.out (Nat.le_refl _)) HS.out).mono ?_
  rintro e w2b ⟨gg, rfl, _, qg, hb2b⟩
  have HF2b := Hid.intro (HF2.out.below hb2b (block_lt_of_cell HF2.out.1))
  have HB2b : Hid (Below w.heap.size w w2b) := HB2.out.trans (hb2b.mono HB2.out.size)
  have Q1b := Hid.intro (Q1.out.below BrtC.holds hb2b (Nat.le_refl _))
  have Q2b := Hid.intro (Q2.out.below SvcC.holds hb2b (Nat.le_refl _))
  have Q3b := Hid.intro (Q3.out.below CpyC.holds hb2b (Nat.le_refl _))
  have QG := Hid.intro qg
  clear hb2b qg Q1 Q2 Q3 HF2 HB2
  go_wp2_with fail
  refine (specMayGo_any x (some ⟨g1, 0, none⟩) x.berths.length (some ⟨g2, 0, none⟩) x.services.length (some ⟨g3, 0, none⟩) x.copies.length w1.heap.size gone (some ⟨gg, 0, none⟩) gone.length w2.heap.size _ Q1b.out Q2b.out Q3b.out QG.out hgl (len_b HM.out) (len_s HM.out) (len_c HM.out)).mono ?_
  rintro e w3 ⟨⟨bs, rfl, hbs⟩, hb3⟩
  have HBS := Hid.intro hbs
  have HF3 : Hid (FltIn w.heap.size x a1 c1 a2 c2 a3 c3 w3) := HF2b.out.below hb3 (block_lt_of_cell HF2b.out.1)
  have HB3 : Hid (Below w.heap.size w w3) := HB2b.out.trans (hb3.mono HB2b.out.size)
  clear hb3 hbs Q1b Q2b Q3b QG HF2b HB2b
  obtain ⟨f0, f1, f2, f3⟩ := HF3.out
  go_wp2_with fail
  refine (toFlt_any x a1 c1 a2 c2 a3 c3 lo _ (N1.out.below BrtC.holds (B := w.heap.size) HB3.out (Nat.le_refl _)) (N2.out.below SvcC.holds (B := w.heap.size) HB3.out (Nat.le_refl _)) (N3.out.below CpyC.holds (B := w.heap.size) HB3.out (Nat.le_refl _)) HM.out).mono ?_
  rintro e w4 ⟨g1, g2, g3, rfl, q1, q2, q3, hb4⟩
  have HF4 : Hid (FltIn w.heap.size x a1 c1 a2 c2 a3 c3 w4) := HF3.out.below hb4 (block_lt_of_cell f0)
  have HB4 : Hid (Below w.heap.size w w4) := HB3.out.trans (hb4.mono HB3.out.size)
  have Q1 : Hid (SliceC BrtC 6 w3.heap.size w4 (some ⟨g1, 0, none⟩) x.berths) := q1
  have Q2 : Hid (SliceC SvcC 2 w3.heap.size w4 (some ⟨g2, 0, none⟩) x.services) := q2
  have Q3 : Hid (SliceC CpyC 12 w3.heap.size w4 (some ⟨g3, 0, none⟩) x.copies) := q3
  have hz4 : w.heap.size < w4.heap.size := block_lt_of_cell HF4.out.1
  clear hb4 q1 q2 q3 f0 f1 f2 f3 HF3 HB3
  go_wp2_with fail
  have hbx : Below w4.heap.size w4 (w4.alloc (Obj.cells #[.bool x.pack, .slice (some ⟨g1, 0, none⟩) x.berths.length x.berths.length, .slice (some ⟨g2, 0, none⟩) x.services.length x.services.length, .slice (some ⟨g3, 0, none⟩) x.copies.length x.copies.length] 35)) := (Below.refl _ w4).alloc (Nat.le_refl _) _
  refine (toStrS_any gone ga gc lo _ (NG.out.below StrC.holds (HB4.out.trans (hbx.mono HB4.out.size)) (Nat.le_refl _)) HS.out).mono ?_
  rintro e w4b ⟨gg, rfl, _, qg, hb4b⟩
  have hb44 : Below w4.heap.size w4 w4b := hbx.trans (hb4b.mono (by simp))
  have HX4 : Hid (FltIn w4.heap.size x (some ⟨g1, 0, none⟩) x.berths.length (some ⟨g2, 0, none⟩) x.services.length (some ⟨g3, 0, none⟩) x.copies.length w4b) := FltIn.below (b := w4.heap.size) ⟨by simp, by simp, by simp, by simp⟩ hb4b (by simp)
  have HF4b : Hid (FltIn w.heap.size x a1 c1 a2 c2 a3 c3 w4b) := HF4.out.below hb44 hz4
  have HB4b : Hid (Below w.heap.size w w4b) := HB4.out.trans (hb44.mono HB4.out.size)
  have Q1b : Hid (SliceC BrtC 6 w3.heap.size w4b (some ⟨g1, 0, none⟩) x.berths) := Q1.out.below BrtC.holds hb44 (Nat.le_refl _)
  have Q2b : Hid (SliceC SvcC 2 w3.heap.size w4b (some ⟨g2, 0, none⟩) x.services) := Q2.out.below SvcC.holds hb44 (Nat.le_refl _)
  have Q3b : Hid (SliceC CpyC 12 w3.heap.size w4b (some ⟨g3, 0, none⟩) x.copies) := Q3.out.below CpyC.holds hb44 (Nat.le_refl _)
  have QG : Hid (SliceC StrC 1 w4.heap.size w4b (some ⟨gg, 0, none⟩) gone) := by
    refine qg.keep StrC.holds (Keeps.refl _ _) ?_
    simp
  have hzb : w4.heap.size < w4b.heap.size := block_lt_of_cell HX4.out.1
  obtain ⟨f0, f1, f2, f3⟩ := HX4.out
  clear hbx hb4b hb44 qg Q1 Q2 Q3 HF4 HB4
  go_wp2_with fail
  refine (implMayGo_any x (some ⟨g1, 0, none⟩) x.berths.length (some ⟨g2, 0, none⟩) x.services.length (some ⟨g3, 0, none⟩) x.copies.length w3.heap.size gone (some ⟨gg, 0, none⟩) gone.length w4.heap.size _ Q1b.out Q2b.out Q3b.out QG.out hgl (len_b HM.out) (len_s HM.out) (len_c HM.out)).mono ?_
  rintro e w5 ⟨⟨bi, rfl, hbi⟩, hb5⟩
  have hbe : bi = bs := bool_eq_of hbi HBS.out
  have HX5 : Hid (FltIn w4.heap.size x (some ⟨g1, 0, none⟩) x.berths.length (some ⟨g2, 0, none⟩) x.services.length (some ⟨g3, 0, none⟩) x.copies.length w5) := HX4.out.below hb5 hzb
  have HF5 : Hid (FltIn w.heap.size x a1 c1 a2 c2 a3 c3 w5) := HF4b.out.below hb5 (by omega)
  have HB5 : Hid (Below w.heap.size w w5) := HB4b.out.trans (hb5.mono HB4b.out.size)
  have Q1' : Hid (SliceC BrtC 6 w3.heap.size w5 (some ⟨g1, 0, none⟩) x.berths) := Q1b.out.below BrtC.holds hb5 (Nat.le_refl _)
  have Q2' : Hid (SliceC SvcC 2 w3.heap.size w5 (some ⟨g2, 0, none⟩) x.services) := Q2b.out.below SvcC.holds hb5 (Nat.le_refl _)
  have Q3' : Hid (SliceC CpyC 12 w3.heap.size w5 (some ⟨g3, 0, none⟩) x.copies) := Q3b.out.below CpyC.holds hb5 (Nat.le_refl _)
  have QG' : Hid (SliceC StrC 1 w4.heap.size w5 (some ⟨gg, 0, none⟩) gone) := QG.out.below StrC.holds hb5 (Nat.le_refl _)
  clear hb5 hbi HBS f0 f1 f2 f3 HF4b HB4b HX4 Q1b Q2b Q3b QG
  subst hbe
  go_wp2_with fail
  refine wp_region_held_drew (S := TwoIn w.heap.size w4.heap.size x a1 c1 a2 c2 a3 c3 (some ⟨g1, 0, none⟩) x.berths.length (some ⟨g2, 0, none⟩) x.services.length (some ⟨g3, 0, none⟩) x.copies.length) (by kernel_rfl) ⟨HF5.out, HX5.out⟩ (fun hS => ?_)
  refine wpAnyH_take (i := 0) (oi := { dst := some 35, op := _, type := _, pos := _, after := _, guard := none }) (v := .agg #[.bool x.pack, .slice (some ⟨g1, 0, none⟩) x.berths.length x.berths.length, .slice (some ⟨g2, 0, none⟩) x.services.length x.services.length, .slice (some ⟨g3, 0, none⟩) x.copies.length x.copies.length]) rfl (by kernel_rfl) (by kernel_rfl) (by kernel_rfl) (fun _ _ _ h => h) (Or.inl ⟨by rfl, ?_⟩) hS ?_
  · intro wy hy
    obtain ⟨⟨y0, y1, y2, y3⟩, v0, v1, v2, v3⟩ := hy
    go_simp
  simp only [Act.put, List.setIfInBounds_toArray, List.set_cons_zero, List.set_cons_succ]
  refine wpAnyH_take (i := 1) (oi := { dst := some 36, op := _, type := _, pos := _, after := _, guard := none }) (v := .agg #[.bool x.pack, .slice a1 x.berths.length c1, .slice a2 x.services.length c2, .slice a3 x.copies.length c3]) rfl (by kernel_rfl) (by kernel_rfl) (by kernel_rfl) (fun _ _ _ h => h) (Or.inl ⟨by rfl, ?_⟩) hS ?_
  · intro wy hy
    obtain ⟨⟨y0, y1, y2, y3⟩, v0, v1, v2, v3⟩ := hy
    go_simp
  simp only [Act.put, List.setIfInBounds_toArray, List.set_cons_zero, List.set_cons_succ]
  refine wpAnyH_ready (rs := [2]) (by kernel_rfl) (by simp) (AllReadyH.cons (o := { dst := some 37, op := _, type := _, pos := _, after := _, guard := none }) rfl (fun K hK => ?_) AllReadyH.nil)
  go_simp
  have hd : Below w.heap.size w w5.drew := HB5.out.drew
  refine (toFlt_any x a1 c1 a2 c2 a3 c3 lo _ (N1.out.below BrtC.holds (B := w.heap.size) hd (Nat.le_refl _)) (N2.out.below SvcC.holds (B := w.heap.size) hd (Nat.le_refl _)) (N3.out.below CpyC.holds (B := w.heap.size) hd (Nat.le_refl _)) HM.out).mono ?_
  rintro e w6 ⟨h1, h2, h3, rfl, q1, q2, q3, hb6⟩
  have hd5 : Below w5.heap.size w5 w6 := (Below.refl _ w5).drew.trans hb6
  have HB6 : Hid (Below w.heap.size w w6) := HB5.out.trans (hd5.mono HB5.out.size)
  have P1 : Hid (SliceC BrtC 6 w5.drew.heap.size w6 (some ⟨h1, 0, none⟩) x.berths) := q1
  have P2 : Hid (SliceC SvcC 2 w5.drew.heap.size w6 (some ⟨h2, 0, none⟩) x.services) := q2
  have P3 : Hid (SliceC CpyC 12 w5.drew.heap.size w6 (some ⟨h3, 0, none⟩) x.copies) := q3
  have Q1 : Hid (SliceC BrtC 6 w3.heap.size w6 (some ⟨g1, 0, none⟩) x.berths) := Q1'.out.below BrtC.holds hd5 (Nat.le_refl _)
  have Q2 : Hid (SliceC SvcC 2 w3.heap.size w6 (some ⟨g2, 0, none⟩) x.services) := Q2'.out.below SvcC.holds hd5 (Nat.le_refl _)
  have Q3 : Hid (SliceC CpyC 12 w3.heap.size w6 (some ⟨g3, 0, none⟩) x.copies) := Q3'.out.below CpyC.holds hd5 (Nat.le_refl _)
  have QG6 : Hid (SliceC StrC 1 w4.heap.size w6 (some ⟨gg, 0, none⟩) gone) := QG'.out.below StrC.holds hd5 (Nat.le_refl _)
  refine hK.out _ _ ⟨HF5.out.below hd5 (block_lt_of_cell HF5.out.1), HX5.out.below hd5 (block_lt_of_cell HX5.out.1)⟩ (fun hS => ?_)
  clear q1 q2 q3 hb6 hd5 hd Q1' Q2' Q3' QG'
  clear hK K
  refine wpAnyH_ready (rs := [3]) (by kernel_rfl) (by simp) (AllReadyH.cons (o := { dst := some 38, op := _, type := _, pos := _, after := _, guard := none }) rfl (fun K hK => ?_) AllReadyH.nil)
  go_simp
  refine (eqFlt_any x (some ⟨g1, 0, none⟩) x.berths.length (some ⟨g2, 0, none⟩) x.services.length (some ⟨g3, 0, none⟩) x.copies.length (some ⟨h1, 0, none⟩) x.berths.length (some ⟨h2, 0, none⟩) x.services.length (some ⟨h3, 0, none⟩) x.copies.length w3.heap.size w5.drew.heap.size _ Q1.out Q2.out Q3.out P1.out P2.out P3.out HM.out).mono ?_
  rintro e w7 ⟨rfl, hb7⟩
  have HB7 : Hid (Below w.heap.size w w7) := HB6.out.trans (hb7.mono HB6.out.size)
  have QG7 : Hid (SliceC StrC 1 w4.heap.size w7 (some ⟨gg, 0, none⟩) gone) := QG6.out.below StrC.holds hb7 (Nat.le_refl _)
  refine hK.out _ _ ⟨hS.1.below hb7 (block_lt_of_cell hS.1.1), hS.2.below hb7 (block_lt_of_cell hS.2.1)⟩ (fun hS => ?_)
  clear hK K hb7
  refine wpAnyH_take (i := 4) (oi := { dst := some 39, op := _, type := _, pos := _, after := _, guard := none }) (v := .bool false) rfl (by kernel_rfl) (by kernel_rfl) (by kernel_rfl) (fun _ _ _ h => h) (Or.inl ⟨by rfl, ?_⟩) hS ?_
  · intro wy hy
    obtain ⟨⟨y0, y1, y2, y3⟩, v0, v1, v2, v3⟩ := hy
    go_simp
  simp only [Act.put, List.setIfInBounds_toArray, List.set_cons_zero, List.set_cons_succ]
  refine wpAnyH_done (by kernel_rfl) ?_ _
  clear hS
  go_wp2_with fail
  refine (toStrS_any gone ga gc lo _ (NG.out.below StrC.holds HB7.out (Nat.le_refl _)) HS.out).mono ?_
  rintro e w8 ⟨gh, rfl, _, qg, hb8⟩
  have HB8 : Hid (Below w.heap.size w w8) := HB7.out.trans (hb8.mono HB7.out.size)
  have QG8 : Hid (SliceC StrC 1 w4.heap.size w8 (some ⟨gg, 0, none⟩) gone) := QG7.out.below StrC.holds hb8 (Nat.le_refl _)
  have QH := Hid.intro qg
  clear qg hb8
  go_wp2_with fail
  refine (eqStrS_any gone _ _ _ _ w4.heap.size w7.heap.size _ QG8.out QH.out HS.out).mono ?_
  rintro e w9 ⟨rfl, hb9⟩
  have HB9 : Hid (Below w.heap.size w w9) := HB8.out.trans (hb9.mono HB8.out.size)
  clear hb9
  go_wp2_with fail
  go_ret
  exact ⟨rfl, HB9.out⟩

end Go.Proofs.YtbaafgjiblkckaaGreat
