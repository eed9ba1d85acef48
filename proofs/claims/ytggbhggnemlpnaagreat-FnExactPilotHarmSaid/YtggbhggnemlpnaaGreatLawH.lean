/-
  Walk: the law of harm. Made by mklh.py.
-/
import Derived.Test.YtggbhggnemlpnaaGreatHri
import Derived.Test.YtggbhggnemlpnaaGreatHrs
import Derived.Test.YtggbhggnemlpnaaGreatJ49
import Derived.Test.YtggbhggnemlpnaaGreatMrs
import Derived.Test.YtggbhggnemlpnaaGreatJ41
namespace Go.Proofs.YtggbhggnemlpnaaGreat
open Go.RowKit Go.WideMaps Go.Maps

/-- the eight cells that the last look reads -/
def TwoIn (b b0 : Nat) (x : Flt) (a1 : Option Addr) (c1 : Nat) (a2 : Option Addr) (c2 : Nat) (a3 : Option Addr) (c3 : Nat) (d1 : Option Addr) (e1 : Nat) (d2 : Option Addr) (e2 : Nat) (d3 : Option Addr) (e3 : Nat) (w : World) : Prop :=
  FltIn b x a1 c1 a2 c2 a3 c3 w ∧ FltIn b0 x d1 e1 d2 e2 d3 e3 w

theorem len_b {x : Flt} (h : wFlt x ≤ 1048576) : x.berths.length ≤ 1048576 := by have := wS_len (f := wBrt) (xs := x.berths); unfold wFlt at h; omega
theorem len_s {x : Flt} (h : wFlt x ≤ 1048576) : x.services.length ≤ 1048576 := by have := wS_len (f := wSvc) (xs := x.services); unfold wFlt at h; omega
theorem len_c {x : Flt} (h : wFlt x ≤ 1048576) : x.copies.length ≤ 1048576 := by have := wS_len (f := wCpy) (xs := x.copies); unfold wFlt at h; omega

theorem Mkd.keeps {lo : Nat} {wx ws w : World} (m : Mkd lo wx ws w) {l : Nat} (h : wx.heap.size ≤ l) : Keeps l ws w := ⟨m.bel.size, fun b o h1 h2 => m.up b o (Nat.le_trans h h1) h2⟩

set_option maxHeartbeats 4000000 in
set_option maxRecDepth 100000 in
theorem law_any (x : Flt) (a1 : Option Addr) (c1 : Nat) (a2 : Option Addr) (c2 : Nat) (a3 : Option Addr) (c3 : Nat) (lo : Nat) (gone : List ByteArray) (ga : Option Addr) (gc : Nat) (w : World) (n1 : SliceC BrtC 6 lo w a1 x.berths) (n2 : SliceC SvcC 2 lo w a2 x.services) (n3 : SliceC CpyC 12 lo w a3 x.copies) (ng : SliceC StrC 1 lo w ga gone) :
    Calls Tryz.prog 4 #[.agg #[.bool x.pack, .slice a1 x.berths.length c1, .slice a2 x.services.length c2, .slice a3 x.copies.length c3], .slice ga gone.length gc] w fun e w' => e = .returned (.bool true) ∧ Below w.heap.size w w' := by
  have N1 : Hid (SliceC BrtC 6 lo w a1 x.berths) := n1
  have N2 : Hid (SliceC SvcC 2 lo w a2 x.services) := n2
  have N3 : Hid (SliceC CpyC 12 lo w a3 x.copies) := n3
  have NG : Hid (SliceC StrC 1 lo w ga gone) := ng
  clear n1 n2 n3 ng
  go_enter Tryz.func4, Tryz.ntmps4
  go_wp2_with fail
  refine (szFlt_any x a1 c1 a2 c2 a3 c3 lo 1048576 _ (N1.out.below BrtC.holds (B := w.heap.size) (by go_grown) (Nat.le_refl _)) (N2.out.below SvcC.holds (B := w.heap.size) (by go_grown) (Nat.le_refl _)) (N3.out.below CpyC.holds (B := w.heap.size) (by go_grown) (Nat.le_refl _)) (by omega) (by omega)).mono ?_
  rintro e w0 ⟨rfl, hb1⟩
  have HF0 : Hid (FltIn w.heap.size x a1 c1 a2 c2 a3 c3 w0) := FltIn.below (b := w.heap.size) ⟨by simp, by simp, by simp, by simp⟩ hb1 (by simp)
  have HB0 : Hid (Below w.heap.size w w0) := (show Below w.heap.size w _ by go_grown).trans (hb1.mono (by simp))
  clear hb1
  by_cases hz' : ¬ ((wFlt x : Nat) : Int) ≤ 1048576
  · have hz := hz'
    rw [szR_neg hz]
    go_wp2_with fail
    go_ret
    exact ⟨rfl, HB0.out⟩
  have hz := Classical.not_not.1 hz'
  clear hz'
  rw [szR_pos hz]
  have hwx : wFlt x ≤ 1048576 := by omega
  have HM : Hid (wFlt x ≤ 1048576) := hwx
  have hz0 : (0 : Int) ≤ 1048576 - (wFlt x : Nat) := by omega
  have hz1 : (1048576 : Int) - (wFlt x : Nat) ≤ 1048576 := by omega
  clear hwx hz
  generalize hR : (1048576 : Int) - (wFlt x : Nat) = R at *
  clear hR
  go_wp2_with fail
  refine (szStrS_any gone ga gc lo R _ (NG.out.below StrC.holds HB0.out (Nat.le_refl _)) hz0 hz1).mono ?_
  rintro e w1 ⟨rfl, hb1⟩
  have HF1 : Hid (FltIn w.heap.size x a1 c1 a2 c2 a3 c3 w1) := HF0.out.below hb1 (block_lt_of_cell HF0.out.1)
  have HB1 : Hid (Below w.heap.size w w1) := HB0.out.trans (hb1.mono HB0.out.size)
  clear hb1 HF0 HB0
  by_cases hy' : ¬ ((wS ByteArray.size gone : Nat) : Int) ≤ R
  · have hy := hy'
    rw [szR_neg hy]
    go_wp2_with fail
    go_ret
    exact ⟨rfl, HB1.out⟩
  have hy := Classical.not_not.1 hy'
  clear hy'
  rw [szR_pos hy]
  have HS : Hid (wS ByteArray.size gone ≤ 1048576) := by show _ ≤ _; omega
  have hgl : gone.length ≤ 1048576 := Nat.le_trans wS_len HS.out
  have hy0 : (0 : Int) ≤ R - (wS ByteArray.size gone : Nat) := by omega
  clear hy hz0 hz1
  generalize R - ((wS ByteArray.size gone : Nat) : Int) = R2 at *
  obtain ⟨f0, f1, f2, f3⟩ := HF1.out
  go_wp2_with fail
  refine (toFlt_any x a1 c1 a2 c2 a3 c3 lo _ (N1.out.below BrtC.holds (B := w.heap.size) HB1.out (Nat.le_refl _)) (N2.out.below SvcC.holds (B := w.heap.size) HB1.out (Nat.le_refl _)) (N3.out.below CpyC.holds (B := w.heap.size) HB1.out (Nat.le_refl _)) HM.out).mono ?_
  rintro e w2 ⟨g1, g2, g3, rfl, q1, q2, q3, hb2⟩
  have HF2 : Hid (FltIn w.heap.size x a1 c1 a2 c2 a3 c3 w2) := HF1.out.below hb2 (block_lt_of_cell f0)
  have HB2 : Hid (Below w.heap.size w w2) := HB1.out.trans (hb2.mono HB1.out.size)
  have Q1 : Hid (SliceC BrtC 6 w1.heap.size w2 (some ⟨g1, 0, none⟩) x.berths) := q1
  have Q2 : Hid (SliceC SvcC 2 w1.heap.size w2 (some ⟨g2, 0, none⟩) x.services) := q2
  have Q3 : Hid (SliceC CpyC 12 w1.heap.size w2 (some ⟨g3, 0, none⟩) x.copies) := q3
  clear hb2 q1 q2 q3 f0 f1 f2 f3 HF1 HB1
  go_wp2_with fail
  refine (toStrS_any gone ga gc lo _ (NG.out.below StrC.holds HB2.out (Nat.le_refl _)) HS.out).mono ?_
  rintro e w2b ⟨gg, rfl, _, qg, hb2b⟩
  have HF2b := Hid.intro (HF2.out.below hb2b (block_lt_of_cell HF2.out.1))
  have HB2b : Hid (Below w.heap.size w w2b) := HB2.out.trans (hb2b.mono HB2.out.size)
  have Q1b := Hid.intro (Q1.out.below BrtC.holds hb2b (Nat.le_refl _))
  have Q2b := Hid.intro (Q2.out.below SvcC.holds hb2b (Nat.le_refl _))
  have Q3b := Hid.intro (Q3.out.below CpyC.holds hb2b (Nat.le_refl _))
  have QG := Hid.intro qg
  clear hb2b qg Q1 Q2 Q3 HF2 HB2
  go_wp2_with fail
  refine (specHarm_any x (some ⟨g1, 0, none⟩) x.berths.length (some ⟨g2, 0, none⟩) x.services.length (some ⟨g3, 0, none⟩) x.copies.length w1.heap.size gone (some ⟨gg, 0, none⟩) gone.length w2.heap.size _ Q1b.out Q2b.out Q3b.out QG.out hgl (len_b HM.out) (len_s HM.out) (len_c HM.out)).mono ?_
  rintro e w3 ⟨aw, cw, lw, rfl, hiw, how, hb3⟩
  have HIW := Hid.intro hiw
  have hlw : lw.length ≤ 1048576 := Nat.le_trans hiw.len hgl
  have HW : Hid (SliceC IntC 1 (w2b.heap.size + 1) w3 aw lw) := (ans_of_row rfl how hlw).1
  have HF3 : Hid (FltIn w.heap.size x a1 c1 a2 c2 a3 c3 w3) := HF2b.out.below hb3 (block_lt_of_cell HF2b.out.1)
  have HB3 : Hid (Below w.heap.size w w3) := HB2b.out.trans (hb3.mono HB2b.out.size)
  clear hb3 hiw how Q1b Q2b Q3b QG HF2b HB2b
  obtain ⟨f0, f1, f2, f3⟩ := HF3.out
  go_wp2_with fail
  refine (toFlt_any x a1 c1 a2 c2 a3 c3 lo _ (N1.out.below BrtC.holds (B := w.heap.size) HB3.out (Nat.le_refl _)) (N2.out.below SvcC.holds (B := w.heap.size) HB3.out (Nat.le_refl _)) (N3.out.below CpyC.holds (B := w.heap.size) HB3.out (Nat.le_refl _)) HM.out).mono ?_
  rintro e w4 ⟨g1, g2, g3, rfl, q1, q2, q3, hb4⟩
  have HF4 : Hid (FltIn w.heap.size x a1 c1 a2 c2 a3 c3 w4) := HF3.out.below hb4 (block_lt_of_cell f0)
  have HB4 : Hid (Below w.heap.size w w4) := HB3.out.trans (hb4.mono HB3.out.size)
  have Q1 : Hid (SliceC BrtC 6 w3.heap.size w4 (some ⟨g1, 0, none⟩) x.berths) := q1
  have Q2 : Hid (SliceC SvcC 2 w3.heap.size w4 (some ⟨g2, 0, none⟩) x.services) := q2
  have Q3 : Hid (SliceC CpyC 12 w3.heap.size w4 (some ⟨g3, 0, none⟩) x.copies) := q3
  have hz4 : w.heap.size < w4.heap.size := block_lt_of_cell HF4.out.1
  have H34 : Hid (Below w3.heap.size w3 w4) := hb4
  have hz34 : w3.heap.size ≤ w4.heap.size := hb4.size
  have hz3 : w.heap.size < w3.heap.size := block_lt_of_cell f0
  clear hb4 q1 q2 q3 f0 f1 f2 f3 HF3
  go_wp2_with fail
  have hbx : Below w4.heap.size w4 (w4.alloc (Obj.cells #[.bool x.pack, .slice (some ⟨g1, 0, none⟩) x.berths.length x.berths.length, .slice (some ⟨g2, 0, none⟩) x.services.length x.services.length, .slice (some ⟨g3, 0, none⟩) x.copies.length x.copies.length] 34)) := (Below.refl _ w4).alloc (Nat.le_refl _) _
  refine (toStrS_any gone ga gc lo _ (NG.out.below StrC.holds (HB4.out.trans (hbx.mono HB4.out.size)) (Nat.le_refl _)) HS.out).mono ?_
  rintro e w4b ⟨gg, rfl, _, qg, hb4b⟩
  have hb44 : Below w4.heap.size w4 w4b := hbx.trans (hb4b.mono (by simp))
  have HX4 : Hid (FltIn w4.heap.size x (some ⟨g1, 0, none⟩) x.berths.length (some ⟨g2, 0, none⟩) x.services.length (some ⟨g3, 0, none⟩) x.copies.length w4b) := FltIn.below (b := w4.heap.size) ⟨by simp, by simp, by simp, by simp⟩ hb4b (by simp)
  have HF4b : Hid (FltIn w.heap.size x a1 c1 a2 c2 a3 c3 w4b) := HF4.out.below hb44 hz4
  have HB4b : Hid (Below w.heap.size w w4b) := HB4.out.trans (hb44.mono HB4.out.size)
  have Q1b : Hid (SliceC BrtC 6 w3.heap.size w4b (some ⟨g1, 0, none⟩) x.berths) := Q1.out.below BrtC.holds hb44 (Nat.le_refl _)
  have Q2b : Hid (SliceC SvcC 2 w3.heap.size w4b (some ⟨g2, 0, none⟩) x.services) := Q2.out.below SvcC.holds hb44 (Nat.le_refl _)
  have Q3b : Hid (SliceC CpyC 12 w3.heap.size w4b (some ⟨g3, 0, none⟩) x.copies) := Q3.out.below CpyC.holds hb44 (Nat.le_refl _)
  have QG : Hid (SliceC StrC 1 w4.heap.size w4b (some ⟨gg, 0, none⟩) gone) := by
    refine qg.keep StrC.holds (Keeps.refl _ _) ?_
    simp
  have hzb : w4.heap.size < w4b.heap.size := block_lt_of_cell HX4.out.1
  have H3b : Hid (Below w3.heap.size w3 w4b) := H34.out.trans (hb44.mono hz34)
  have X1 := Hid.intro Q1b.out
  have X2 := Hid.intro Q2b.out
  have X3 := Hid.intro Q3b.out
  have XG : Hid (SliceC StrC 1 w3.heap.size w4b (some ⟨gg, 0, none⟩) gone) := QG.out.keep StrC.holds (Keeps.refl _ _) hz34
  obtain ⟨f0, f1, f2, f3⟩ := HX4.out
  clear hbx hb4b hb44 qg Q1 Q2 Q3 HF4 HB4
  go_wp2_with fail
  refine (implHarm_any x (some ⟨g1, 0, none⟩) x.berths.length (some ⟨g2, 0, none⟩) x.services.length (some ⟨g3, 0, none⟩) x.copies.length w3.heap.size gone (some ⟨gg, 0, none⟩) gone.length w4.heap.size _ Q1b.out Q2b.out Q3b.out QG.out hgl (len_b HM.out) (len_s HM.out) (len_c HM.out)).mono ?_
  rintro e w5 ⟨ag, cg, lg, rfl, hig, hog, hb5⟩
  have hle : lg = lw := hig.one HIW.out
  subst hle
  have HG5 : Hid (AnsI (w4b.heap.size + 1) w5 ag lg) := ans_of_row rfl hog hlw
  have Hb5 : Hid (Below w4b.heap.size w4b w5) := hb5
  have HX5 : Hid (FltIn w4.heap.size x (some ⟨g1, 0, none⟩) x.berths.length (some ⟨g2, 0, none⟩) x.services.length (some ⟨g3, 0, none⟩) x.copies.length w5) := HX4.out.below hb5 hzb
  have HF5 : Hid (FltIn w.heap.size x a1 c1 a2 c2 a3 c3 w5) := HF4b.out.below hb5 (by omega)
  have HB5 : Hid (Below w.heap.size w w5) := HB4b.out.trans (hb5.mono HB4b.out.size)
  have Q1' : Hid (SliceC BrtC 6 w3.heap.size w5 (some ⟨g1, 0, none⟩) x.berths) := Q1b.out.below BrtC.holds hb5 (Nat.le_refl _)
  have Q2' : Hid (SliceC SvcC 2 w3.heap.size w5 (some ⟨g2, 0, none⟩) x.services) := Q2b.out.below SvcC.holds hb5 (Nat.le_refl _)
  have Q3' : Hid (SliceC CpyC 12 w3.heap.size w5 (some ⟨g3, 0, none⟩) x.copies) := Q3b.out.below CpyC.holds hb5 (Nat.le_refl _)
  have QG' : Hid (SliceC StrC 1 w4.heap.size w5 (some ⟨gg, 0, none⟩) gone) := QG.out.below StrC.holds hb5 (Nat.le_refl _)
  clear hb5 hig hog f0 f1 f2 f3 HF4b HB4b HX4 Q1b Q2b Q3b QG
  go_wp2_with fail
  refine (eqIntS_any lg ag aw cg cw (w4b.heap.size + 1) (w2b.heap.size + 1) _ HG5.out.1 (HW.out.below IntC.holds (H3b.out.trans (Hb5.out.mono H3b.out.size)) (Nat.le_refl _)) hlw).mono ?_
  rintro e w5b ⟨rfl, hb5b⟩
  have HX5b := Hid.intro (HX5.out.below hb5b (block_lt_of_cell HX5.out.1))
  have HF5b := Hid.intro (HF5.out.below hb5b (block_lt_of_cell HF5.out.1))
  have HB5b : Hid (Below w.heap.size w w5b) := HB5.out.trans (hb5b.mono HB5.out.size)
  have Hb5b : Hid (Below w4b.heap.size w4b w5b) := Hb5.out.trans (hb5b.mono Hb5.out.size)
  have HG5b := Hid.intro (HG5.out.below hb5b)
  replace Q1' := Hid.intro (Q1'.out.below BrtC.holds hb5b (Nat.le_refl _))
  replace Q2' := Hid.intro (Q2'.out.below SvcC.holds hb5b (Nat.le_refl _))
  replace Q3' := Hid.intro (Q3'.out.below CpyC.holds hb5b (Nat.le_refl _))
  replace QG' := Hid.intro (QG'.out.below StrC.holds hb5b (Nat.le_refl _))
  clear hb5b HX5 HF5 HB5 Hb5 HG5
  go_wp2_with fail
  refine wp_region_held_drew (S := TwoIn w.heap.size w4.heap.size x a1 c1 a2 c2 a3 c3 (some ⟨g1, 0, none⟩) x.berths.length (some ⟨g2, 0, none⟩) x.services.length (some ⟨g3, 0, none⟩) x.copies.length) (by kernel_rfl) ⟨HF5b.out, HX5b.out⟩ (fun hS => ?_)
  refine wpAnyH_take (i := 0) (oi := { dst := some 40, op := _, type := _, pos := _, after := _, guard := none }) (v := .agg #[.bool x.pack, .slice (some ⟨g1, 0, none⟩) x.berths.length x.berths.length, .slice (some ⟨g2, 0, none⟩) x.services.length x.services.length, .slice (some ⟨g3, 0, none⟩) x.copies.length x.copies.length]) rfl (by kernel_rfl) (by kernel_rfl) (by kernel_rfl) (fun _ _ _ h => h) (Or.inl ⟨by rfl, ?_⟩) hS ?_
  · intro wy hy
    obtain ⟨⟨y0, y1, y2, y3⟩, v0, v1, v2, v3⟩ := hy
    go_simp
  simp only [Act.put, List.setIfInBounds_toArray, List.set_cons_zero, List.set_cons_succ]
  refine wpAnyH_take (i := 1) (oi := { dst := some 41, op := _, type := _, pos := _, after := _, guard := none }) (v := .agg #[.bool x.pack, .slice a1 x.berths.length c1, .slice a2 x.services.length c2, .slice a3 x.copies.length c3]) rfl (by kernel_rfl) (by kernel_rfl) (by kernel_rfl) (fun _ _ _ h => h) (Or.inl ⟨by rfl, ?_⟩) hS ?_
  · intro wy hy
    obtain ⟨⟨y0, y1, y2, y3⟩, v0, v1, v2, v3⟩ := hy
    go_simp
  simp only [Act.put, List.setIfInBounds_toArray, List.set_cons_zero, List.set_cons_succ]
  refine wpAnyH_ready (rs := [2]) (by kernel_rfl) (by simp) (AllReadyH.cons (o := { dst := some 42, op := _, type := _, pos := _, after := _, guard := none }) rfl (fun K hK => ?_) AllReadyH.nil)
  go_simp
  have hd : Below w.heap.size w w5b.drew := HB5b.out.drew
  refine (toFlt_any x a1 c1 a2 c2 a3 c3 lo _ (N1.out.below BrtC.holds (B := w.heap.size) hd (Nat.le_refl _)) (N2.out.below SvcC.holds (B := w.heap.size) hd (Nat.le_refl _)) (N3.out.below CpyC.holds (B := w.heap.size) hd (Nat.le_refl _)) HM.out).mono ?_
  rintro e w6 ⟨h1, h2, h3, rfl, q1, q2, q3, hb6⟩
  have hd5 : Below w5b.heap.size w5b w6 := (Below.refl _ w5b).drew.trans hb6
  have Hb6 : Hid (Below w4b.heap.size w4b w6) := Hb5b.out.trans (hd5.mono Hb5b.out.size)
  have HG6 := Hid.intro (HG5b.out.below hd5)
  have HB6 : Hid (Below w.heap.size w w6) := HB5b.out.trans (hd5.mono HB5b.out.size)
  have P1 : Hid (SliceC BrtC 6 w5b.drew.heap.size w6 (some ⟨h1, 0, none⟩) x.berths) := q1
  have P2 : Hid (SliceC SvcC 2 w5b.drew.heap.size w6 (some ⟨h2, 0, none⟩) x.services) := q2
  have P3 : Hid (SliceC CpyC 12 w5b.drew.heap.size w6 (some ⟨h3, 0, none⟩) x.copies) := q3
  have Q1 : Hid (SliceC BrtC 6 w3.heap.size w6 (some ⟨g1, 0, none⟩) x.berths) := Q1'.out.below BrtC.holds hd5 (Nat.le_refl _)
  have Q2 : Hid (SliceC SvcC 2 w3.heap.size w6 (some ⟨g2, 0, none⟩) x.services) := Q2'.out.below SvcC.holds hd5 (Nat.le_refl _)
  have Q3 : Hid (SliceC CpyC 12 w3.heap.size w6 (some ⟨g3, 0, none⟩) x.copies) := Q3'.out.below CpyC.holds hd5 (Nat.le_refl _)
  have QG6 : Hid (SliceC StrC 1 w4.heap.size w6 (some ⟨gg, 0, none⟩) gone) := QG'.out.below StrC.holds hd5 (Nat.le_refl _)
  refine hK.out _ _ ⟨HF5b.out.below hd5 (block_lt_of_cell HF5b.out.1), HX5b.out.below hd5 (block_lt_of_cell HX5b.out.1)⟩ (fun hS => ?_)
  clear q1 q2 q3 hb6 hd5 hd Q1' Q2' Q3' QG'
  clear hK K
  refine wpAnyH_ready (rs := [3]) (by kernel_rfl) (by simp) (AllReadyH.cons (o := { dst := some 43, op := _, type := _, pos := _, after := _, guard := none }) rfl (fun K hK => ?_) AllReadyH.nil)
  go_simp
  refine (eqFlt_any x (some ⟨g1, 0, none⟩) x.berths.length (some ⟨g2, 0, none⟩) x.services.length (some ⟨g3, 0, none⟩) x.copies.length (some ⟨h1, 0, none⟩) x.berths.length (some ⟨h2, 0, none⟩) x.services.length (some ⟨h3, 0, none⟩) x.copies.length w3.heap.size w5b.drew.heap.size _ Q1.out Q2.out Q3.out P1.out P2.out P3.out HM.out).mono ?_
  rintro e w7 ⟨rfl, hb7⟩
  have Hb7 : Hid (Below w4b.heap.size w4b w7) := Hb6.out.trans (hb7.mono Hb6.out.size)
  have HG7 := Hid.intro (HG6.out.below hb7)
  have HB7 : Hid (Below w.heap.size w w7) := HB6.out.trans (hb7.mono HB6.out.size)
  have QG7 : Hid (SliceC StrC 1 w4.heap.size w7 (some ⟨gg, 0, none⟩) gone) := QG6.out.below StrC.holds hb7 (Nat.le_refl _)
  refine hK.out _ _ ⟨hS.1.below hb7 (block_lt_of_cell hS.1.1), hS.2.below hb7 (block_lt_of_cell hS.2.1)⟩ (fun hS => ?_)
  clear hK K hb7
  refine wpAnyH_take (i := 4) (oi := { dst := some 44, op := _, type := _, pos := _, after := _, guard := none }) (v := .bool false) rfl (by kernel_rfl) (by kernel_rfl) (by kernel_rfl) (fun _ _ _ h => h) (Or.inl ⟨by rfl, ?_⟩) hS ?_
  · intro wy hy
    obtain ⟨⟨y0, y1, y2, y3⟩, v0, v1, v2, v3⟩ := hy
    go_simp
  simp only [Act.put, List.setIfInBounds_toArray, List.set_cons_zero, List.set_cons_succ]
  have HFX : Hid (TwoIn w.heap.size w4.heap.size x a1 c1 a2 c2 a3 c3 (some ⟨g1, 0, none⟩) x.berths.length (some ⟨g2, 0, none⟩) x.services.length (some ⟨g3, 0, none⟩) x.copies.length w7) := hS
  refine wpAnyH_done (by kernel_rfl) ?_ _
  clear hS P1 P2 P3 Q1 Q2 Q3 QG6 HB6 Hb6 HG6 HX5b HF5b HB5b Hb5b HG5b
  go_wp2_with fail
  refine (toStrS_any gone ga gc lo _ (NG.out.below StrC.holds HB7.out (Nat.le_refl _)) HS.out).mono ?_
  rintro e w8 ⟨gh, rfl, _, qh, hb8⟩
  have QG8 : Hid (SliceC StrC 1 w4.heap.size w8 (some ⟨gg, 0, none⟩) gone) := QG7.out.below StrC.holds hb8 (Nat.le_refl _)
  have QH := Hid.intro qh
  have HB8 : Hid (Below w.heap.size w w8) := HB7.out.trans (hb8.mono HB7.out.size)
  have Hb8 : Hid (Below w4b.heap.size w4b w8) := Hb7.out.trans (hb8.mono Hb7.out.size)
  have HG8 := Hid.intro (HG7.out.below hb8)
  have HFX8 : Hid (TwoIn w.heap.size w4.heap.size x a1 c1 a2 c2 a3 c3 (some ⟨g1, 0, none⟩) x.berths.length (some ⟨g2, 0, none⟩) x.services.length (some ⟨g3, 0, none⟩) x.copies.length w8) := ⟨HFX.out.1.below hb8 (block_lt_of_cell HFX.out.1.1), HFX.out.2.below hb8 (block_lt_of_cell HFX.out.2.1)⟩
  clear hb8 qh HB7 Hb7 HG7 QG7 HFX
  go_wp2_with fail
  refine (eqStrS_any gone (some ⟨gg, 0, none⟩) (some ⟨gh, 0, none⟩) gone.length gone.length w4.heap.size _ _ QG8.out QH.out HS.out).mono ?_
  rintro e w9 ⟨rfl, hb9⟩
  have HB9 : Hid (Below w.heap.size w w9) := HB8.out.trans (hb9.mono HB8.out.size)
  have Hb9 : Hid (Below w4b.heap.size w4b w9) := Hb8.out.trans (hb9.mono Hb8.out.size)
  have HG9 := Hid.intro (HG8.out.below hb9)
  have HFX9 : Hid (TwoIn w.heap.size w4.heap.size x a1 c1 a2 c2 a3 c3 (some ⟨g1, 0, none⟩) x.berths.length (some ⟨g2, 0, none⟩) x.services.length (some ⟨g3, 0, none⟩) x.copies.length w9) := ⟨HFX8.out.1.below hb9 (block_lt_of_cell HFX8.out.1.1), HFX8.out.2.below hb9 (block_lt_of_cell HFX8.out.2.1)⟩
  clear hb9 HB8 Hb8 HG8 QG8 QH HFX8
  obtain ⟨x0, x1, x2, x3⟩ := HFX9.out.2
  have hz3b : w3.heap.size ≤ w4b.heap.size := H3b.out.size
  go_wp2_with fail
  refine (markFlt_any x (some ⟨g1, 0, none⟩) x.berths.length (some ⟨g2, 0, none⟩) x.services.length (some ⟨g3, 0, none⟩) x.copies.length w3.heap.size 1 w4b w9 _ X1.out X2.out X3.out (by omega) (Mkd.start Hb9.out hz3b) (by omega) (by have := HM.out; omega)).mono ?_
  rintro e wA ⟨z, rfl, hz1, hz2, hmk⟩
  have HMK := Hid.intro hmk
  clear hmk x0 x1 x2 x3
  go_wp2_with fail
  refine (markStrSZ_any gone (some ⟨gg, 0, none⟩) gone.length w3.heap.size z w4b w9 _ XG.out (by omega) HMK.out (by omega) (by have := HM.out; have := HS.out; omega)).mono ?_
  rintro e wB ⟨y, rfl, hy1, hy2, hmk⟩
  have H3B : Hid (Below w3.heap.size w3 wB) := (H3b.out.trans (Hb9.out.mono hz3b)).trans hmk.bel
  have HFB : Hid (FltIn w.heap.size x a1 c1 a2 c2 a3 c3 wB) := HFX9.out.1.below hmk.bel hz3
  have HGB : Hid (AnsI (w4b.heap.size + 1) wB ag lg) := HG9.out.keep (hmk.keeps (Nat.le_succ _))
  have hzB : w4b.heap.size + 1 ≤ wB.heap.size ∨ lg = [] := by
    rcases HGB.out.2 with h | ⟨g, _, h1, h2, _⟩
    · exact .inr h
    · exact .inl (by omega)
  have hs9 : w4b.heap.size ≤ wB.heap.size := Nat.le_trans Hb9.out.size hmk.bel.size
  have hyn : ¬ y < 0 := by omega
  have hyp : (0 : Int) ≤ y := by omega
  clear hmk HMK HFX9 HG9 Hb9 HB9 X1 X2 X3 XG
  go_wp2_with fail
  refine (eqIntS_any lg ag aw cg cw (w4b.heap.size + 1) (w2b.heap.size + 1) _ HGB.out.1 (HW.out.below IntC.holds H3B.out (Nat.le_refl _)) hlw).mono ?_
  rintro e wC ⟨rfl, hbC⟩
  have H3C : Hid (Below w3.heap.size w3 wC) := H3B.out.trans (hbC.mono H3B.out.size)
  have HFC : Hid (FltIn w.heap.size x a1 c1 a2 c2 a3 c3 wC) := HFB.out.below hbC (block_lt_of_cell HFB.out.1)
  have HGC := Hid.intro (HGB.out.below hbC)
  clear hbC H3B HFB HGB hyn hyp hzB
  go_wp2_with fail
  refine (markI_any (w4b.heap.size + 1) wC ag lg cg HGC.out hlw).mono ?_
  rintro e wD ⟨rfl, hmD, hbD⟩
  have HMD := Hid.intro hmD
  have H3D : Hid (Below w3.heap.size w3 wD) := H3C.out.trans (hbD.mono (by omega))
  have HFD : Hid (FltIn w.heap.size x a1 c1 a2 c2 a3 c3 wD) := HFC.out.below hbD (by omega)
  have htp : (0 : Int) < tI lg := by show (0 : Int) < 1 + (lg.length : Int); omega
  have htn : ¬ tI lg < 0 := by omega
  clear hmD hbD H3C HFC HGC
  have HTI : Hid (∀ u : World, True) := fun _ => trivial
  go_wp2_with fail
  refine (heldI_any wD ag lg cg HMD.out hlw).mono ?_
  rintro e wE ⟨rfl, hbE⟩
  have HME := Hid.intro (HMD.out.below hbE)
  have H3E : Hid (Below w3.heap.size w3 wE) := H3D.out.trans (hbE.mono H3D.out.size)
  have HFE : Hid (FltIn w.heap.size x a1 c1 a2 c2 a3 c3 wE) := HFD.out.below hbE (block_lt_of_cell HFD.out.1)
  have HBE : Hid (Below w.heap.size w wE) := HB3.out.trans (H3E.out.mono (by omega))
  clear hbE H3D HFD HMD
  generalize hT : tI lg = T at *
  have HT := Hid.intro hT
  clear hT
  have htq : (0 : Int) ≤ T := by omega
  obtain ⟨f0, f1, f2, f3⟩ := HFE.out
  go_wp2_with fail
  refine (toFlt_any x a1 c1 a2 c2 a3 c3 lo _ (N1.out.below BrtC.holds (B := w.heap.size) HBE.out (Nat.le_refl _)) (N2.out.below SvcC.holds (B := w.heap.size) HBE.out (Nat.le_refl _)) (N3.out.below CpyC.holds (B := w.heap.size) HBE.out (Nat.le_refl _)) HM.out).mono ?_
  rintro e wF ⟨g4, g5, g6, rfl, q1, q2, q3, hbF⟩
  have H3F : Hid (Below w3.heap.size w3 wF) := H3E.out.trans (hbF.mono H3E.out.size)
  have HBF : Hid (Below w.heap.size w wF) := HBE.out.trans (hbF.mono HBE.out.size)
  have HMF := Hid.intro (HME.out.below hbF)
  have Q1 : Hid (SliceC BrtC 6 wE.heap.size wF (some ⟨g4, 0, none⟩) x.berths) := q1
  have Q2 : Hid (SliceC SvcC 2 wE.heap.size wF (some ⟨g5, 0, none⟩) x.services) := q2
  have Q3 : Hid (SliceC CpyC 12 wE.heap.size wF (some ⟨g6, 0, none⟩) x.copies) := q3
  clear hbF q1 q2 q3 f0 f1 f2 f3 H3E HBE HME HFE
  go_wp2_with fail
  refine (toStrS_any gone ga gc lo _ (NG.out.below StrC.holds HBF.out (Nat.le_refl _)) HS.out).mono ?_
  rintro e wG ⟨gk, rfl, _, qk, hbG⟩
  have QK := Hid.intro qk
  have H3G : Hid (Below w3.heap.size w3 wG) := H3F.out.trans (hbG.mono H3F.out.size)
  have HMG := Hid.intro (HMF.out.below hbG)
  replace Q1 := Hid.intro (Q1.out.below BrtC.holds hbG (Nat.le_refl _))
  replace Q2 := Hid.intro (Q2.out.below SvcC.holds hbG (Nat.le_refl _))
  replace Q3 := Hid.intro (Q3.out.below CpyC.holds hbG (Nat.le_refl _))
  clear hbG qk H3F HBF HMF
  go_wp2_with fail
  refine (implHarm_any x (some ⟨g4, 0, none⟩) x.berths.length (some ⟨g5, 0, none⟩) x.services.length (some ⟨g6, 0, none⟩) x.copies.length wE.heap.size gone (some ⟨gk, 0, none⟩) gone.length _ _ Q1.out Q2.out Q3.out QK.out hgl (len_b HM.out) (len_s HM.out) (len_c HM.out)).mono ?_
  rintro e wH ⟨ah, ch, lh, rfl, hih, hoh, hbH⟩
  have hlh : lh = lg := hih.one HIW.out
  subst hlh
  have HH : Hid (SliceC IntC 1 (wG.heap.size + 1) wH ah lh) := (ans_of_row rfl hoh hlw).1
  have H3H : Hid (Below w3.heap.size w3 wH) := H3G.out.trans (hbH.mono H3G.out.size)
  have HMH := Hid.intro (HMG.out.below hbH)
  clear hbH hih hoh H3G HMG Q1 Q2 Q3 QK
  go_wp2_with fail
  refine (eqIntS_any lh ah aw ch cw _ (w2b.heap.size + 1) _ HH.out (HW.out.below IntC.holds H3H.out (Nat.le_refl _)) hlw).mono ?_
  rintro e wI ⟨rfl, hbI⟩
  have H3I : Hid (Below w3.heap.size w3 wI) := H3H.out.trans (hbI.mono H3H.out.size)
  have HMI := Hid.intro (HMH.out.below hbI)
  clear hbI H3H HMH HH
  go_wp2_with fail
  refine (heldI_any wI ag lh cg HMI.out hlw).mono ?_
  rintro e wJ ⟨rfl, hbJ⟩
  have HBJ : Hid (Below w.heap.size w wJ) := HB3.out.trans ((H3I.out.trans (hbJ.mono H3I.out.size)).mono (by omega))
  rw [HT.out]
  clear hbJ H3I HMI
  go_wp2_with fail
  go_ret
  exact ⟨rfl, HBJ.out⟩

end Go.Proofs.YtggbhggnemlpnaaGreat
