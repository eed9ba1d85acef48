import Derived.Test.YtnggdpjfmpjlhaaGreatTkw
import Derived.Test.YtnggdpjfmpjlhaaGreatAnl
import Derived.Test.YtnggdpjfmpjlhaaGreatMsb
import Derived.Test.YtnggdpjfmpjlhaaGreatJ50
namespace Go.Proofs.YtnggdpjfmpjlhaaGreat
open Go.RowKit

def SbkIn (b : Nat) (x : Sbk) (a1 : Option Addr) (c1 : Nat) (a2 : Option Addr) (c2 : Nat) (a3 : Option Addr) (c3 : Nat) (w : World) : Prop :=
 w.cell? ⟨b, 0, none⟩ = some (.int .i64 x.now) ∧ w.cell? ⟨b, 1, none⟩ = some (.slice a1 x.services.length c1) ∧ w.cell? ⟨b, 2, none⟩ = some (.slice a2 x.copies.length c2) ∧ w.cell? ⟨b, 3, none⟩ = some (.slice a3 x.berths.length c3)

theorem SbkIn.below {b : Nat} {x : Sbk} {a1 : Option Addr} {c1 : Nat} {a2 : Option Addr} {c2 : Nat} {a3 : Option Addr} {c3 : Nat} {w w' : World} {B : Nat} (h : SbkIn b x a1 c1 a2 c2 a3 c3 w) (hb : Below B w w') (hB : b < B) : SbkIn b x a1 c1 a2 c2 a3 c3 w' :=
 ⟨(hb.cell (p := ⟨b, 0, none⟩) hB).trans h.1, (hb.cell (p := ⟨b, 1, none⟩) hB).trans h.2.1, (hb.cell (p := ⟨b, 2, none⟩) hB).trans h.2.2.1, (hb.cell (p := ⟨b, 3, none⟩) hB).trans h.2.2.2⟩

def TwoIn (b b0 : Nat) (x : Sbk) (a1 : Option Addr) (c1 : Nat) (a2 : Option Addr) (c2 : Nat) (a3 : Option Addr) (c3 : Nat) (d1 : Option Addr) (e1 : Nat) (d2 : Option Addr) (e2 : Nat) (d3 : Option Addr) (e3 : Nat) (w : World) : Prop :=
 SbkIn b x a1 c1 a2 c2 a3 c3 w ∧ SbkIn b0 x d1 e1 d2 e2 d3 e3 w

theorem Mkd.keeps {lo : Nat} {wx ws w : World} (m : Mkd lo wx ws w) {l : Nat} (h : wx.heap.size ≤ l) : Keeps l ws w := ⟨m.bel.size, fun b o h1 h2 => m.up b o (Nat.le_trans h h1) h2⟩

set_option maxHeartbeats 16000000 in
set_option maxRecDepth 100000 in
theorem law_any (x : Sbk) (a1 : Option Addr) (c1 : Nat) (a2 : Option Addr) (c2 : Nat) (a3 : Option Addr) (c3 : Nat) (lo : Nat) (kd : Int) (w : World) (n1 : SliceC SsvC 13 lo w a1 x.services) (n2 : SliceC ScpC 7 lo w a2 x.copies) (n3 : SliceC SbtC 2 lo w a3 x.berths) (hw : NumOk x) :
  Calls Tryz.prog 3 #[.int .i64 kd, .agg #[.int .i64 x.now, .slice a1 x.services.length c1, .slice a2 x.copies.length c2, .slice a3 x.berths.length c3]] w fun e w' => e = .returned (.bool true) ∧ Below w.heap.size w w' := by
 have N1 : Hid (SliceC SsvC 13 lo w a1 x.services) := n1
 have N2 : Hid (SliceC ScpC 7 lo w a2 x.copies) := n2
 have N3 : Hid (SliceC SbtC 2 lo w a3 x.berths) := n3
 have HNO := Hid.intro hw
 clear n1 n2 n3 hw
 go_enter Tryz.func3, Tryz.ntmps3
 go_wp2_with fail
 refine (szSbk_any x a1 c1 a2 c2 a3 c3 lo 1048576 _ (N1.out.below SsvC.holds (B := w.heap.size) (by go_grown) (Nat.le_refl _)) (N2.out.below ScpC.holds (B := w.heap.size) (by go_grown) (Nat.le_refl _)) (N3.out.below SbtC.holds (B := w.heap.size) (by go_grown) (Nat.le_refl _)) (by omega) (by omega)).mono ?_
 rintro e w1 ⟨rfl, hb1⟩
 have HF1 : Hid (SbkIn w.heap.size x a1 c1 a2 c2 a3 c3 w1) := SbkIn.below (b := w.heap.size) ⟨by simp, by simp, by simp, by simp⟩ hb1 (by simp)
 have HB1 : Hid (Below w.heap.size w w1) := (show Below w.heap.size w _ by go_grown).trans (hb1.mono (by simp))
 clear hb1
 by_cases hz' : ¬ ((wSbk x : Nat) : Int) ≤ 1048576
 ·have hz := hz'
  rw [szR_neg hz]
  go_wp2_with fail
  go_ret
  exact ⟨rfl, HB1.out⟩
 have hz := Classical.not_not.1 hz'
 clear hz'
 rw [szR_pos hz]
 have hwx : wSbk x ≤ 1048576 := by omega
 have HM : Hid (wSbk x ≤ 1048576) := hwx
 have hz0 : (0 : Int) ≤ 1048576 - (wSbk x : Nat) := by omega
 clear hwx hz
 generalize hR : (1048576 : Int) - (wSbk x : Nat) = R at *
 clear hR
 obtain ⟨f0, f1, f2, f3⟩ := HF1.out
 go_wp2_with fail
 refine (toSbk_any x a1 c1 a2 c2 a3 c3 lo _ (N1.out.below SsvC.holds (B := w.heap.size) HB1.out (Nat.le_refl _)) (N2.out.below ScpC.holds (B := w.heap.size) HB1.out (Nat.le_refl _)) (N3.out.below SbtC.holds (B := w.heap.size) HB1.out (Nat.le_refl _)) HM.out).mono ?_
 rintro e w2 ⟨g1, g2, g3, rfl, q1, q2, q3, hb2⟩
 have HF2 : Hid (SbkIn w.heap.size x a1 c1 a2 c2 a3 c3 w2) := HF1.out.below hb2 (block_lt_of_cell f0)
 have HB2 : Hid (Below w.heap.size w w2) := HB1.out.trans (hb2.mono HB1.out.size)
 have Q1 : Hid (SliceC SsvC 13 w1.heap.size w2 (some ⟨g1, 0, none⟩) x.services) := q1
 have Q2 : Hid (SliceC ScpC 7 w1.heap.size w2 (some ⟨g2, 0, none⟩) x.copies) := q2
 have Q3 : Hid (SliceC SbtC 2 w1.heap.size w2 (some ⟨g3, 0, none⟩) x.berths) := q3
 clear hb2 q1 q2 q3 f0 f1 f2 f3 HF1 HB1
 go_wp2_with fail
 refine (specAsk_any x (some ⟨g1, 0, none⟩) x.services.length (some ⟨g2, 0, none⟩) x.copies.length (some ⟨g3, 0, none⟩) x.berths.length w1.heap.size kd _ Q1.out Q2.out Q3.out).mono ?_
 rintro e w3 ⟨gw, cw, l, rfl, hl1, hl2, hsw, hb3⟩
 have SM : Hid (SmA l) := by
  by_cases hv : SVal x
  ·rw [hl1 hv]; exact ask_small hv kd
  ·rw [hl2 hv]; exact nil_small
 have HL1 := Hid.intro hl1
 have HL2 := Hid.intro hl2
 clear hl1 hl2
 obtain ⟨aw, haw⟩ : ∃ aw : Option Addr, aw = some ⟨gw, 0, none⟩ := ⟨_, rfl⟩
 rw [← haw] at hsw ⊢
 clear haw
 have HF3 : Hid (SbkIn w.heap.size x a1 c1 a2 c2 a3 c3 w3) := HF2.out.below hb3 (block_lt_of_cell HF2.out.1)
 have HB3 : Hid (Below w.heap.size w w3) := HB2.out.trans (hb3.mono HB2.out.size)
 have HW : Hid (SliceC SacC 8 w2.heap.size w3 aw l) := hsw
 have hz3 : w.heap.size < w3.heap.size := block_lt_of_cell HF3.out.1
 clear hb3 hsw Q1 Q2 Q3 HF2 HB2
 obtain ⟨f0, f1, f2, f3⟩ := HF3.out
 go_wp2_with fail
 refine (toSbk_any x a1 c1 a2 c2 a3 c3 lo _ (N1.out.below SsvC.holds (B := w.heap.size) HB3.out (Nat.le_refl _)) (N2.out.below ScpC.holds (B := w.heap.size) HB3.out (Nat.le_refl _)) (N3.out.below SbtC.holds (B := w.heap.size) HB3.out (Nat.le_refl _)) HM.out).mono ?_
 rintro e w4 ⟨g1, g2, g3, rfl, q1, q2, q3, hb4⟩
 have HF4 : Hid (SbkIn w.heap.size x a1 c1 a2 c2 a3 c3 w4) := HF3.out.below hb4 (block_lt_of_cell f0)
 have HB4 : Hid (Below w.heap.size w w4) := HB3.out.trans (hb4.mono HB3.out.size)
 have Q1 : Hid (SliceC SsvC 13 w3.heap.size w4 (some ⟨g1, 0, none⟩) x.services) := q1
 have Q2 : Hid (SliceC ScpC 7 w3.heap.size w4 (some ⟨g2, 0, none⟩) x.copies) := q2
 have Q3 : Hid (SliceC SbtC 2 w3.heap.size w4 (some ⟨g3, 0, none⟩) x.berths) := q3
 have H34 : Hid (Below w3.heap.size w3 w4) := hb4
 have hz34 : w3.heap.size ≤ w4.heap.size := hb4.size
 have hz4 : w.heap.size < w4.heap.size := block_lt_of_cell HF4.out.1
 clear hb4 q1 q2 q3 f0 f1 f2 f3 HF3
 go_wp2_with fail
 refine (implAsk_any x (some ⟨g1, 0, none⟩) x.services.length g2 0 x.copies.length (some ⟨g3, 0, none⟩) x.berths.length w3.heap.size kd _ (Q1.out.below SsvC.holds (B := w4.heap.size) (by go_grown) (Nat.le_refl _)) (Q2.out.below ScpC.holds (B := w4.heap.size) (by go_grown) (Nat.le_refl _)) (Q3.out.below SbtC.holds (B := w4.heap.size) (by go_grown) (Nat.le_refl _)) (Nat.le_refl _) HNO.out).mono ?_
 rintro e w5 ⟨ag, cg, l2, rfl, hm1, hm2, hsg, hb5⟩
 have he : l2 = l := by
  by_cases hv : SVal x
  ·rw [hm1 hv, HL1.out hv]
  ·rw [hm2 hv, HL2.out hv]
 subst he
 clear hm1 hm2
 have hb45 : Below w4.heap.size w4 w5 := (show Below w4.heap.size w4 _ by go_grown).trans (hb5.mono (by simp))
 have HX5 : Hid (SbkIn w4.heap.size x (some ⟨g1, 0, none⟩) x.services.length (some ⟨g2, 0, none⟩) x.copies.length (some ⟨g3, 0, none⟩) x.berths.length w5) := SbkIn.below (b := w4.heap.size) ⟨by simp, by simp, by simp, by simp⟩ hb5 (by simp)
 have HG5 : Hid (AnsL (w4.heap.size + 1) w5 ag l2) := by
  show AnsL _ _ _ _
  simpa using hsg
 have HF5 : Hid (SbkIn w.heap.size x a1 c1 a2 c2 a3 c3 w5) := HF4.out.below hb45 hz4
 have H45 : Hid (Below w4.heap.size w4 w5) := hb45
 clear hb5 hb45 hsg HF4
 go_wp2_with fail
 refine (eqSacS_any l2 ag aw cg cw (w4.heap.size + 1) w2.heap.size _ HG5.out.1 (HW.out.below SacC.holds (H34.out.trans (H45.out.mono hz34)) (Nat.le_refl _)) SM.out.w).mono ?_
 rintro e w6 ⟨rfl, hb6⟩
 have H46 : Hid (Below w4.heap.size w4 w6) := H45.out.trans (hb6.mono H45.out.size)
 have HX6 : Hid (SbkIn w4.heap.size x (some ⟨g1, 0, none⟩) x.services.length (some ⟨g2, 0, none⟩) x.copies.length (some ⟨g3, 0, none⟩) x.berths.length w6) := HX5.out.below hb6 (block_lt_of_cell HX5.out.1)
 have HF6 : Hid (SbkIn w.heap.size x a1 c1 a2 c2 a3 c3 w6) := HF5.out.below hb6 (block_lt_of_cell HF5.out.1)
 have HG6 : Hid (AnsL (w4.heap.size + 1) w6 ag l2) := HG5.out.below hb6
 have HB6 : Hid (Below w.heap.size w w6) := HB4.out.trans (H46.out.mono (by omega))
 clear hb6 H45 HX5 HF5 HG5
 go_wp2_with fail
 refine wp_region_held_drew (S := TwoIn w.heap.size w4.heap.size x a1 c1 a2 c2 a3 c3 (some ⟨g1, 0, none⟩) x.services.length (some ⟨g2, 0, none⟩) x.copies.length (some ⟨g3, 0, none⟩) x.berths.length) (by kernel_rfl) ⟨HF6.out, HX6.out⟩ (fun hS => ?_)
 refine ty 0 ⟨some 31, _, _, _, _, none⟩ (.agg #[.int .i64 x.now, .slice (some ⟨g1, 0, none⟩) x.services.length x.services.length, .slice (some ⟨g2, 0, none⟩) x.copies.length x.copies.length, .slice (some ⟨g3, 0, none⟩) x.berths.length x.berths.length]) rfl (by rfl) ?_ hS ?_
 ·intro wy hy
  obtain ⟨⟨y0, y1, y2, y3⟩, v0, v1, v2, v3⟩ := hy
  go_simp
 simp only [pA,pB,pC,pD]
 refine ty 1 ⟨some 32, _, _, _, _, none⟩ (.agg #[.int .i64 x.now, .slice a1 x.services.length c1, .slice a2 x.copies.length c2, .slice a3 x.berths.length c3]) rfl (by rfl) ?_ hS ?_
 ·intro wy hy
  obtain ⟨⟨y0, y1, y2, y3⟩, v0, v1, v2, v3⟩ := hy
  go_simp
 simp only [pA,pB,pC,pD]
 refine rd1 2 ⟨some 33, _, _, _, _, none⟩ rfl (fun K hK => ?_)
 go_simp
 have hd : Below w.heap.size w w6.drew := HB6.out.drew
 refine (toSbk_any x a1 c1 a2 c2 a3 c3 lo _ (N1.out.below SsvC.holds (B := w.heap.size) hd (Nat.le_refl _)) (N2.out.below ScpC.holds (B := w.heap.size) hd (Nat.le_refl _)) (N3.out.below SbtC.holds (B := w.heap.size) hd (Nat.le_refl _)) HM.out).mono ?_
 rintro e w7 ⟨h1, h2, h3, rfl, q1, q2, q3, hb7⟩
 have hd7 : Below w6.heap.size w6 w7 := (Below.refl _ w6).drew.trans hb7
 have P1 : Hid (SliceC SsvC 13 w6.drew.heap.size w7 (some ⟨h1, 0, none⟩) x.services) := q1
 have P2 : Hid (SliceC ScpC 7 w6.drew.heap.size w7 (some ⟨h2, 0, none⟩) x.copies) := q2
 have P3 : Hid (SliceC SbtC 2 w6.drew.heap.size w7 (some ⟨h3, 0, none⟩) x.berths) := q3
 have H47 : Hid (Below w4.heap.size w4 w7) := H46.out.trans (hd7.mono H46.out.size)
 have HG7 : Hid (AnsL (w4.heap.size + 1) w7 ag l2) := HG6.out.below hd7
 have HX7 : Hid (SbkIn w4.heap.size x (some ⟨g1, 0, none⟩) x.services.length (some ⟨g2, 0, none⟩) x.copies.length (some ⟨g3, 0, none⟩) x.berths.length w7) := HX6.out.below hd7 (block_lt_of_cell HX6.out.1)
 have HF7 : Hid (SbkIn w.heap.size x a1 c1 a2 c2 a3 c3 w7) := HF6.out.below hd7 (block_lt_of_cell HF6.out.1)
 refine hK.out _ _ ⟨HF7.out, HX7.out⟩ (fun hS => ?_)
 clear q1 q2 q3 hb7 hd7 hd HG6 HX6 HF6 H46 HB6
 clear hK K
 refine rd1 3 ⟨some 34, _, _, _, _, none⟩ rfl (fun K hK => ?_)
 go_simp
 refine (eqSbk_any x (some ⟨g1, 0, none⟩) x.services.length (some ⟨g2, 0, none⟩) x.copies.length (some ⟨g3, 0, none⟩) x.berths.length (some ⟨h1, 0, none⟩) x.services.length (some ⟨h2, 0, none⟩) x.copies.length (some ⟨h3, 0, none⟩) x.berths.length w3.heap.size w6.drew.heap.size _ (Q1.out.below SsvC.holds H47.out (Nat.le_refl _)) (Q2.out.below ScpC.holds H47.out (Nat.le_refl _)) (Q3.out.below SbtC.holds H47.out (Nat.le_refl _)) P1.out P2.out P3.out HM.out).mono ?_
 rintro e w8 ⟨rfl, hb8⟩
 have H48 : Hid (Below w4.heap.size w4 w8) := H47.out.trans (hb8.mono H47.out.size)
 have HG8 : Hid (AnsL (w4.heap.size + 1) w8 ag l2) := HG7.out.below hb8
 have HX8 : Hid (SbkIn w4.heap.size x (some ⟨g1, 0, none⟩) x.services.length (some ⟨g2, 0, none⟩) x.copies.length (some ⟨g3, 0, none⟩) x.berths.length w8) := HX7.out.below hb8 (block_lt_of_cell HX7.out.1)
 have HF8 : Hid (SbkIn w.heap.size x a1 c1 a2 c2 a3 c3 w8) := HF7.out.below hb8 (block_lt_of_cell HF7.out.1)
 refine hK.out _ _ ⟨HF8.out, HX8.out⟩ (fun hS => ?_)
 clear hK K hb8 HG7 HX7 HF7 H47 P1 P2 P3
 refine ty 4 ⟨some 35, _, _, _, _, none⟩ (.bool false) rfl (by rfl) ?_ hS ?_
 ·intro wy hy
  obtain ⟨⟨y0, y1, y2, y3⟩, v0, v1, v2, v3⟩ := hy
  go_simp
 simp only [pA,pB,pC,pD]
 refine wpAnyH_done (by kernel_rfl) ?_ _
 clear hS
 obtain ⟨x0, x1, x2, x3⟩ := HX8.out
 go_wp2_with fail
 refine (markSbk_any x (some ⟨g1, 0, none⟩) x.services.length (some ⟨g2, 0, none⟩) x.copies.length (some ⟨g3, 0, none⟩) x.berths.length w3.heap.size 1 w4 w8 _ Q1.out Q2.out Q3.out (by omega) (Mkd.start H48.out hz34) (by omega) (by have := HM.out; omega)).mono ?_
 rintro e w9 ⟨z, rfl, hz1, _, hmk⟩
 have H39 : Hid (Below w3.heap.size w3 w9) := (H34.out.trans (H48.out.mono hz34)).trans hmk.bel
 have HF9 : Hid (SbkIn w.heap.size x a1 c1 a2 c2 a3 c3 w9) := HF8.out.below hmk.bel hz3
 have HG9 : Hid (AnsL (w4.heap.size + 1) w9 ag l2) := HG8.out.keep (hmk.keeps (Nat.le_succ _))
 have hz49 : w4.heap.size + 1 ≤ w9.heap.size := Nat.le_trans (Nat.succ_le_of_lt (block_lt_of_cell x0)) hmk.bel.size
 have hzn : ¬ z < 0 := by omega
 clear hmk H48 HX8 HF8 HG8 x0 x1 x2 x3 Q1 Q2 Q3
 go_wp2_with fail
 refine (eqSacS_any l2 ag aw cg cw (w4.heap.size + 1) w2.heap.size _ HG9.out.1 (HW.out.below SacC.holds H39.out (Nat.le_refl _)) SM.out.w).mono ?_
 rintro e wA ⟨rfl, hbA⟩
 have H3A : Hid (Below w3.heap.size w3 wA) := H39.out.trans (hbA.mono H39.out.size)
 have HFA : Hid (SbkIn w.heap.size x a1 c1 a2 c2 a3 c3 wA) := HF9.out.below hbA (block_lt_of_cell HF9.out.1)
 have HGA : Hid (AnsL (w4.heap.size + 1) wA ag l2) := HG9.out.below hbA
 have hz4A : w4.heap.size + 1 ≤ wA.heap.size := Nat.le_trans hz49 hbA.size
 clear hbA H39 HF9 HG9 hz49 hzn
 go_wp2_with fail
 refine (markL_any (w4.heap.size + 1) _ ag l2 cg HGA.out SM.out hz4A).mono ?_
 rintro e wB ⟨rfl, hmB, hbB⟩
 have HLD : Hid (∀ wz, MkL wz ag l2 → Calls Tryz.prog 12 #[.slice ag l2.length cg, .int .i64 1] wz fun e w' => e = .returned (.int .i64 (tL l2)) ∧ Below wz.heap.size wz w') := fun wz h => heldL_any wz ag l2 cg h SM.out
 have htp : 0 < tL l2 := by show (0 : Int) < ((tT 1 (nsA l2) (nsA l2).length : Nat) : Int); unfold tT; omega
 generalize tL l2 = TT at *
 have H3B : Hid (Below w3.heap.size w3 wB) := H3A.out.trans (hbB.mono (by omega))
 have HFB : Hid (SbkIn w.heap.size x a1 c1 a2 c2 a3 c3 wB) := HFA.out.below hbB (by omega)
 have HMB := Hid.intro hmB
 clear hmB hbB H3A HFA HGA hz4A
 go_wp2_with fail
 refine (HLD.out _ HMB.out).mono ?_
 rintro e wC ⟨rfl, hbC⟩
 have H3C : Hid (Below w3.heap.size w3 wC) := H3B.out.trans (hbC.mono H3B.out.size)
 have HFC : Hid (SbkIn w.heap.size x a1 c1 a2 c2 a3 c3 wC) := HFB.out.below hbC (block_lt_of_cell HFB.out.1)
 have HMC : Hid (MkL wC ag l2) := HMB.out.below hbC
 have HBC : Hid (Below w.heap.size w wC) := HB3.out.trans (H3C.out.mono (by omega))
 clear hbC H3B HFB HMB
 obtain ⟨f0, f1, f2, f3⟩ := HFC.out
 go_wp2_with fail
 refine (toSbk_any x a1 c1 a2 c2 a3 c3 lo _ (N1.out.below SsvC.holds (B := w.heap.size) HBC.out (Nat.le_refl _)) (N2.out.below ScpC.holds (B := w.heap.size) HBC.out (Nat.le_refl _)) (N3.out.below SbtC.holds (B := w.heap.size) HBC.out (Nat.le_refl _)) HM.out).mono ?_
 rintro e wD ⟨g4, g5, g6, rfl, q1, q2, q3, hbD⟩
 have H3D : Hid (Below w3.heap.size w3 wD) := H3C.out.trans (hbD.mono H3C.out.size)
 have HMD : Hid (MkL wD ag l2) := HMC.out.below hbD
 have Q1 : Hid (SliceC SsvC 13 wC.heap.size wD (some ⟨g4, 0, none⟩) x.services) := q1
 have Q2 : Hid (SliceC ScpC 7 wC.heap.size wD (some ⟨g5, 0, none⟩) x.copies) := q2
 have Q3 : Hid (SliceC SbtC 2 wC.heap.size wD (some ⟨g6, 0, none⟩) x.berths) := q3
 clear hbD q1 q2 q3 f0 f1 f2 f3 H3C HMC HFC HBC
 go_wp2_with fail
 refine (implAsk_any x (some ⟨g4, 0, none⟩) x.services.length g5 0 x.copies.length (some ⟨g6, 0, none⟩) x.berths.length wC.heap.size kd _ Q1.out Q2.out Q3.out (Nat.le_refl _) HNO.out).mono ?_
 rintro e wE ⟨ah, ch, l3, rfl, hm1, hm2, hsh, hbE⟩
 have he : l3 = l2 := by
  by_cases hv : SVal x
  ·rw [hm1 hv, HL1.out hv]
  ·rw [hm2 hv, HL2.out hv]
 subst he
 clear hm1 hm2
 have H3E : Hid (Below w3.heap.size w3 wE) := H3D.out.trans (hbE.mono H3D.out.size)
 have HME : Hid (MkL wE ag l3) := HMD.out.below hbE
 have HHE : Hid (SliceC SacC 8 wD.heap.size wE ah l3) := hsh.1
 clear hbE hsh H3D HMD Q1 Q2 Q3
 go_wp2_with fail
 refine (eqSacS_any l3 ah aw ch cw wD.heap.size w2.heap.size _ HHE.out (HW.out.below SacC.holds H3E.out (Nat.le_refl _)) SM.out.w).mono ?_
 rintro e wF ⟨rfl, hbF⟩
 have H3F : Hid (Below w3.heap.size w3 wF) := H3E.out.trans (hbF.mono H3E.out.size)
 have HMF : Hid (MkL wF ag l3) := HME.out.below hbF
 clear hbF H3E HME HHE
 go_wp2_with fail
 refine (HLD.out _ HMF.out).mono ?_
 rintro e wG ⟨rfl, hbG⟩
 have HBG : Hid (Below w.heap.size w wG) := HB3.out.trans ((H3F.out.trans (hbG.mono H3F.out.size)).mono (by omega))
 clear hbG H3F HMF
 go_wp2_with fail
 go_ret
 exact ⟨rfl, HBG.out⟩

end Go.Proofs.YtnggdpjfmpjlhaaGreat
