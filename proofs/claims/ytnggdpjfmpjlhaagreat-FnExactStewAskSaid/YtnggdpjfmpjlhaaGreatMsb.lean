import Derived.Test.YtnggdpjfmpjlhaaGreatJ23
import Derived.Test.YtnggdpjfmpjlhaaGreatSbk
namespace Go.Proofs.YtnggdpjfmpjlhaaGreat
open Go.RowKit

set_option maxHeartbeats 2000000 in
set_option maxRecDepth 100000 in
theorem markSsvS_any (xs : List Ssv) (a : Option Addr) (cap lo : Nat) (z : Int) (wx ws w : World) (hin : SliceC SsvC 13 lo wx a xs) (hlo : 0 < lo) (hm : Mkd lo wx ws w) (h0 : 0 < z) (h1 : z + 16 * (wS wSsv xs : Nat) ≤ 1073741824) :
  Calls Tryz.prog 29 #[.slice a xs.length cap, .int .i64 z] w fun e w' => ∃ z', e = .returned (.int .i64 z') ∧ z ≤ z' ∧ z' ≤ z + 16 * (wS wSsv xs : Nat) ∧ Mkd lo wx ws w' := by
 have HI := Hid.intro hin
 have HM := Hid.intro hm
 have HW : Hid (wS wSsv xs = xs.length + (xs.map wSsv).sum) := rfl
 have hlen : xs.length ≤ 1048576000 := by have := HW.out; omega
 have H1 := Hid.intro h1
 clear hin hm h1
 go_enter Tryz.func29, Tryz.ntmps29
 go_wp2_with fail
 go_loopw [1, 5] (fun v i wr => ∃ (j : Nat) (y0 : Int), j ≤ xs.length ∧ i = .int .i64 j ∧ v = .int .i64 y0 ∧ z ≤ y0 ∧ Hid (y0 ≤ z + 16 * ((j : Int) + (((xs.take j).map wSsv).sum : Nat))) ∧ Hid (Mkd lo wx ws wr)) (fun _ i _ => xs.length - (intOf i).toNat)
 case atStart => exact ⟨0, z, Nat.zero_le _, rfl, rfl, by omega, by show _ ≤ _; simp, HM⟩
 case round =>
  clear HM
  obtain ⟨j, y0, hj, rfl, rfl, hz0, hY, hM⟩ := hrel
  by_cases hlt : j < xs.length
  ·obtain ⟨x, hx⟩ : ∃ x, xs[j]? = some x := ⟨xs[j], List.getElem?_eq_getElem hlt⟩
   obtain ⟨b, o, rfl, hb0, hbl, hc⟩ := HI.out.at hx
   obtain ⟨q0, q1, q2, q3, q4, q5, q6, q7, q8, q9, q10, q11, q12, _⟩ := hc
   simp only [Nat.add_zero] at q0
   have HS1 : Hid (((xs.take (j + 1)).map wSsv).sum = ((xs.take j).map wSsv).sum + wSsv x) := sum_take _ _ _ _ hx
   have HS2 : Hid (((xs.take (j + 1)).map wSsv).sum ≤ (xs.map wSsv).sum) := sum_take_le _ _ _
   have hyb : y0 + 16 * (1 + (wSsv x : Nat)) ≤ 1073741824 := by
    have e1 := HW.out
    have e2 := HS1.out
    have e3 := HS2.out
    have e4 := hY.out
    have e5 := H1.out
    omega
   have Q0 := Hid.intro q0
   have Q1 := Hid.intro q1
   have Q2 := Hid.intro q2
   have Q3 := Hid.intro q3
   have Q4 := Hid.intro q4
   have Q5 := Hid.intro q5
   have Q6 := Hid.intro q6
   have Q7 := Hid.intro q7
   have Q8 := Hid.intro q8
   have Q9 := Hid.intro q9
   have Q10 := Hid.intro q10
   have Q11 := Hid.intro q11
   have Q12 := Hid.intro q12
   have hne : xs ≠ [] := fun e => by rw [e] at hlt; exact absurd hlt (Nat.not_lt_zero _)
   have HFZ : Hid (∀ p, wx.frozen? ⟨b, p, none⟩ = false) := HI.out.frz hne hlo
   have i0 : (0 : Int) ≤ (j : Int) := by omega
   have i1 : (j : Int) < (xs.length : Int) := by omega
   clear hx hne q0 q1 q2 q3 q4 q5 q6 q7 q8 q9 q10 q11 q12
   go_wp2_with fail
   refine (markTextZ _ _ (by omega) (by omega)).mono ?_
   rintro e wa0 ⟨s0, rfl, hb⟩
   have Ma0 := Hid.intro (hM.out.below hb)
   clear hb hM
   obtain ⟨u0, d0⟩ := Ma0.out.so b (o + j * 13) _ Q0.out
   have g0 := (Ma0.out.fz b (o + j * 13) hbl).trans (HFZ.out (o + j * 13))
   have Mb0 := Hid.intro (Ma0.out.set hb0 Q0.out rfl (.string s0))
   go_upto_region 5 with fail
   clear d0 g0 Ma0
   generalize wa0.setCell ⟨b, o + j * 13, none⟩ (.string s0) = wb0 at *
   go_upto_region 6 with fail
   obtain ⟨y1, hy1⟩ : ∃ t : Int, t = y0 + 1 := ⟨_, rfl⟩
   rw [← hy1]
   have ha1 : z ≤ y1 := by omega
   have hb1 : y1 ≤ y0 + 1 := by omega
   clear hy1
   obtain ⟨u1, d1⟩ := Mb0.out.so b (o + j * 13 + 1) _ Q1.out
   have g1 := (Mb0.out.fz b (o + j * 13 + 1) hbl).trans (HFZ.out (o + j * 13 + 1))
   have Mb1 := Hid.intro (Mb0.out.set hb0 Q1.out rfl (.int .i64 y1))
   go_upto_region 7 with fail
   clear d1 g1 Mb0
   generalize wb0.setCell ⟨b, o + j * 13 + 1, none⟩ (.int .i64 y1) = wb1 at *
   go_upto_region 8 with fail
   obtain ⟨y2, hy2⟩ : ∃ t : Int, t = y1 + 1 := ⟨_, rfl⟩
   rw [← hy2]
   have ha2 : z ≤ y2 := by omega
   have hb2 : y2 ≤ y1 + 1 := by omega
   clear hy2
   obtain ⟨u2, d2⟩ := Mb1.out.so b (o + j * 13 + 2) _ Q2.out
   have g2 := (Mb1.out.fz b (o + j * 13 + 2) hbl).trans (HFZ.out (o + j * 13 + 2))
   have Mb2 := Hid.intro (Mb1.out.set hb0 Q2.out rfl (.bool (y2 % 3 == 0)))
   go_upto_region 9 with fail
   clear d2 g2 Mb1
   generalize wb1.setCell ⟨b, o + j * 13 + 2, none⟩ (.bool (y2 % 3 == 0)) = wb2 at *
   go_upto_region 10 with fail
   obtain ⟨y3, hy3⟩ : ∃ t : Int, t = y2 + 1 := ⟨_, rfl⟩
   rw [← hy3]
   have ha3 : z ≤ y3 := by omega
   have hb3 : y3 ≤ y2 + 1 := by omega
   clear hy3
   obtain ⟨u3, d3⟩ := Mb2.out.so b (o + j * 13 + 3) _ Q3.out
   have g3 := (Mb2.out.fz b (o + j * 13 + 3) hbl).trans (HFZ.out (o + j * 13 + 3))
   have Mb3 := Hid.intro (Mb2.out.set hb0 Q3.out rfl (.int .i64 y3))
   go_upto_region 11 with fail
   clear d3 g3 Mb2
   generalize wb2.setCell ⟨b, o + j * 13 + 3, none⟩ (.int .i64 y3) = wb3 at *
   go_upto_region 12 with fail
   obtain ⟨y4, hy4⟩ : ∃ t : Int, t = y3 + 1 := ⟨_, rfl⟩
   rw [← hy4]
   have ha4 : z ≤ y4 := by omega
   have hb4 : y4 ≤ y3 + 1 := by omega
   clear hy4
   obtain ⟨u4, d4⟩ := Mb3.out.so b (o + j * 13 + 4) _ Q4.out
   have g4 := (Mb3.out.fz b (o + j * 13 + 4) hbl).trans (HFZ.out (o + j * 13 + 4))
   have Mb4 := Hid.intro (Mb3.out.set hb0 Q4.out rfl (.int .i64 y4))
   go_upto_region 13 with fail
   clear d4 g4 Mb3
   generalize wb3.setCell ⟨b, o + j * 13 + 4, none⟩ (.int .i64 y4) = wb4 at *
   go_upto_region 14 with fail
   obtain ⟨y5, hy5⟩ : ∃ t : Int, t = y4 + 1 := ⟨_, rfl⟩
   rw [← hy5]
   have ha5 : z ≤ y5 := by omega
   have hb5 : y5 ≤ y4 + 1 := by omega
   clear hy5
   obtain ⟨u5, d5⟩ := Mb4.out.so b (o + j * 13 + 5) _ Q5.out
   have g5 := (Mb4.out.fz b (o + j * 13 + 5) hbl).trans (HFZ.out (o + j * 13 + 5))
   have Mb5 := Hid.intro (Mb4.out.set hb0 Q5.out rfl (.int .i64 y5))
   go_upto_region 15 with fail
   clear d5 g5 Mb4
   generalize wb4.setCell ⟨b, o + j * 13 + 5, none⟩ (.int .i64 y5) = wb5 at *
   go_upto_region 16 with fail
   obtain ⟨y6, hy6⟩ : ∃ t : Int, t = y5 + 1 := ⟨_, rfl⟩
   rw [← hy6]
   have ha6 : z ≤ y6 := by omega
   have hb6 : y6 ≤ y5 + 1 := by omega
   clear hy6
   obtain ⟨u6, d6⟩ := Mb5.out.so b (o + j * 13 + 6) _ Q6.out
   have g6 := (Mb5.out.fz b (o + j * 13 + 6) hbl).trans (HFZ.out (o + j * 13 + 6))
   have Mb6 := Hid.intro (Mb5.out.set hb0 Q6.out rfl (.int .i64 y6))
   go_upto_region 17 with fail
   clear d6 g6 Mb5
   generalize wb5.setCell ⟨b, o + j * 13 + 6, none⟩ (.int .i64 y6) = wb6 at *
   go_upto_region 18 with fail
   obtain ⟨y7, hy7⟩ : ∃ t : Int, t = y6 + 1 := ⟨_, rfl⟩
   rw [← hy7]
   have ha7 : z ≤ y7 := by omega
   have hb7 : y7 ≤ y6 + 1 := by omega
   clear hy7
   obtain ⟨u7, d7⟩ := Mb6.out.so b (o + j * 13 + 7) _ Q7.out
   have g7 := (Mb6.out.fz b (o + j * 13 + 7) hbl).trans (HFZ.out (o + j * 13 + 7))
   have Mb7 := Hid.intro (Mb6.out.set hb0 Q7.out rfl (.int .i64 y7))
   go_upto_region 19 with fail
   clear d7 g7 Mb6
   generalize wb6.setCell ⟨b, o + j * 13 + 7, none⟩ (.int .i64 y7) = wb7 at *
   go_upto_region 20 with fail
   obtain ⟨y8, hy8⟩ : ∃ t : Int, t = y7 + 1 := ⟨_, rfl⟩
   rw [← hy8]
   have ha8 : z ≤ y8 := by omega
   have hb8 : y8 ≤ y7 + 1 := by omega
   clear hy8
   obtain ⟨u8, d8⟩ := Mb7.out.so b (o + j * 13 + 8) _ Q8.out
   have g8 := (Mb7.out.fz b (o + j * 13 + 8) hbl).trans (HFZ.out (o + j * 13 + 8))
   have Mb8 := Hid.intro (Mb7.out.set hb0 Q8.out rfl (.int .i64 y8))
   go_upto_region 21 with fail
   clear d8 g8 Mb7
   generalize wb7.setCell ⟨b, o + j * 13 + 8, none⟩ (.int .i64 y8) = wb8 at *
   go_upto_region 22 with fail
   obtain ⟨y9, hy9⟩ : ∃ t : Int, t = y8 + 1 := ⟨_, rfl⟩
   rw [← hy9]
   have ha9 : z ≤ y9 := by omega
   have hb9 : y9 ≤ y8 + 1 := by omega
   clear hy9
   obtain ⟨u9, d9⟩ := Mb8.out.so b (o + j * 13 + 9) _ Q9.out
   have g9 := (Mb8.out.fz b (o + j * 13 + 9) hbl).trans (HFZ.out (o + j * 13 + 9))
   have Mb9 := Hid.intro (Mb8.out.set hb0 Q9.out rfl (.int .i64 y9))
   go_upto_region 23 with fail
   clear d9 g9 Mb8
   generalize wb8.setCell ⟨b, o + j * 13 + 9, none⟩ (.int .i64 y9) = wb9 at *
   go_upto_region 24 with fail
   obtain ⟨y10, hy10⟩ : ∃ t : Int, t = y9 + 1 := ⟨_, rfl⟩
   rw [← hy10]
   have ha10 : z ≤ y10 := by omega
   have hb10 : y10 ≤ y9 + 1 := by omega
   clear hy10
   obtain ⟨u10, d10⟩ := Mb9.out.so b (o + j * 13 + 10) _ Q10.out
   have g10 := (Mb9.out.fz b (o + j * 13 + 10) hbl).trans (HFZ.out (o + j * 13 + 10))
   have Mb10 := Hid.intro (Mb9.out.set hb0 Q10.out rfl (.int .i64 y10))
   go_upto_region 25 with fail
   clear d10 g10 Mb9
   generalize wb9.setCell ⟨b, o + j * 13 + 10, none⟩ (.int .i64 y10) = wb10 at *
   go_upto_region 26 with fail
   obtain ⟨y11, hy11⟩ : ∃ t : Int, t = y10 + 1 := ⟨_, rfl⟩
   rw [← hy11]
   have ha11 : z ≤ y11 := by omega
   have hb11 : y11 ≤ y10 + 1 := by omega
   clear hy11
   obtain ⟨u11, d11⟩ := Mb10.out.so b (o + j * 13 + 11) _ Q11.out
   have g11 := (Mb10.out.fz b (o + j * 13 + 11) hbl).trans (HFZ.out (o + j * 13 + 11))
   have Mb11 := Hid.intro (Mb10.out.set hb0 Q11.out rfl (.int .i64 y11))
   go_upto_region 27 with fail
   clear d11 g11 Mb10
   generalize wb10.setCell ⟨b, o + j * 13 + 11, none⟩ (.int .i64 y11) = wb11 at *
   go_upto_region 28 with fail
   obtain ⟨y12, hy12⟩ : ∃ t : Int, t = y11 + 1 := ⟨_, rfl⟩
   rw [← hy12]
   have ha12 : z ≤ y12 := by omega
   have hb12 : y12 ≤ y11 + 1 := by omega
   clear hy12
   obtain ⟨u12, d12⟩ := Mb11.out.so b (o + j * 13 + 12) _ Q12.out
   have g12 := (Mb11.out.fz b (o + j * 13 + 12) hbl).trans (HFZ.out (o + j * 13 + 12))
   have Mb12 := Hid.intro (Mb11.out.set hb0 Q12.out rfl (.int .i64 y12))
   go_upto_region 29 with fail
   clear d12 g12 Mb11
   generalize wb11.setCell ⟨b, o + j * 13 + 12, none⟩ (.int .i64 y12) = wb12 at *
   have HYE : Hid (y12 + 1 ≤ z + 16 * (((j + 1 : Nat) : Int) + (((xs.take (j + 1)).map wSsv).sum : Nat))) := by
    show _ ≤ _
    have e2 := HS1.out
    have e4 := hY.out
    omega
   clear HS1 HS2 H1
   go_wp2_with fail
   go_roundw
   case rel => exact ⟨j + 1, y12 + 1, by omega, by go_num, rfl, by omega, HYE, Mb12⟩
   case measure => simp [intOf]; omega
  ·have hje : j = xs.length := by omega
   subst hje
   have HE : Hid (y0 ≤ z + 16 * (wS wSsv xs : Nat)) := by
    have e1 := HW.out
    have e4 := hY.out
    rw [List.take_length] at e4
    show _ ≤ _
    omega
   go_wp2_with fail
   go_ret
   exact ⟨y0, rfl, hz0, HE.out, hM.out⟩

set_option maxHeartbeats 2000000 in
set_option maxRecDepth 100000 in
theorem markScpS_any (xs : List Scp) (a : Option Addr) (cap lo : Nat) (z : Int) (wx ws w : World) (hin : SliceC ScpC 7 lo wx a xs) (hlo : 0 < lo) (hm : Mkd lo wx ws w) (h0 : 0 < z) (h1 : z + 16 * (wS wScp xs : Nat) ≤ 1073741824) :
  Calls Tryz.prog 30 #[.slice a xs.length cap, .int .i64 z] w fun e w' => ∃ z', e = .returned (.int .i64 z') ∧ z ≤ z' ∧ z' ≤ z + 16 * (wS wScp xs : Nat) ∧ Mkd lo wx ws w' := by
 have HI := Hid.intro hin
 have HM := Hid.intro hm
 have HW : Hid (wS wScp xs = xs.length + (xs.map wScp).sum) := rfl
 have hlen : xs.length ≤ 1048576000 := by have := HW.out; omega
 have H1 := Hid.intro h1
 clear hin hm h1
 go_enter Tryz.func30, Tryz.ntmps30
 go_wp2_with fail
 go_loopw [1, 5] (fun v i wr => ∃ (j : Nat) (y0 : Int), j ≤ xs.length ∧ i = .int .i64 j ∧ v = .int .i64 y0 ∧ z ≤ y0 ∧ Hid (y0 ≤ z + 16 * ((j : Int) + (((xs.take j).map wScp).sum : Nat))) ∧ Hid (Mkd lo wx ws wr)) (fun _ i _ => xs.length - (intOf i).toNat)
 case atStart => exact ⟨0, z, Nat.zero_le _, rfl, rfl, by omega, by show _ ≤ _; simp, HM⟩
 case round =>
  clear HM
  obtain ⟨j, y0, hj, rfl, rfl, hz0, hY, hM⟩ := hrel
  by_cases hlt : j < xs.length
  ·obtain ⟨x, hx⟩ : ∃ x, xs[j]? = some x := ⟨xs[j], List.getElem?_eq_getElem hlt⟩
   obtain ⟨b, o, rfl, hb0, hbl, hc⟩ := HI.out.at hx
   obtain ⟨q0, q1, q2, q3, q4, q5, q6, _, _⟩ := hc
   simp only [Nat.add_zero] at q0
   have HS1 : Hid (((xs.take (j + 1)).map wScp).sum = ((xs.take j).map wScp).sum + wScp x) := sum_take _ _ _ _ hx
   have HS2 : Hid (((xs.take (j + 1)).map wScp).sum ≤ (xs.map wScp).sum) := sum_take_le _ _ _
   have hyb : y0 + 16 * (1 + (wScp x : Nat)) ≤ 1073741824 := by
    have e1 := HW.out
    have e2 := HS1.out
    have e3 := HS2.out
    have e4 := hY.out
    have e5 := H1.out
    omega
   have Q0 := Hid.intro q0
   have Q1 := Hid.intro q1
   have Q2 := Hid.intro q2
   have Q3 := Hid.intro q3
   have Q4 := Hid.intro q4
   have Q5 := Hid.intro q5
   have Q6 := Hid.intro q6
   have hne : xs ≠ [] := fun e => by rw [e] at hlt; exact absurd hlt (Nat.not_lt_zero _)
   have HFZ : Hid (∀ p, wx.frozen? ⟨b, p, none⟩ = false) := HI.out.frz hne hlo
   have i0 : (0 : Int) ≤ (j : Int) := by omega
   have i1 : (j : Int) < (xs.length : Int) := by omega
   clear hx hne q0 q1 q2 q3 q4 q5 q6
   go_wp2_with fail
   refine (markTextZ _ _ (by omega) (by omega)).mono ?_
   rintro e wa0 ⟨s0, rfl, hb⟩
   have Ma0 := Hid.intro (hM.out.below hb)
   clear hb hM
   obtain ⟨u0, d0⟩ := Ma0.out.so b (o + j * 7) _ Q0.out
   have g0 := (Ma0.out.fz b (o + j * 7) hbl).trans (HFZ.out (o + j * 7))
   have Mb0 := Hid.intro (Ma0.out.set hb0 Q0.out rfl (.string s0))
   go_upto_region 5 with fail
   clear d0 g0 Ma0
   generalize wa0.setCell ⟨b, o + j * 7, none⟩ (.string s0) = wb0 at *
   go_upto_region 6 with fail
   obtain ⟨y1, hy1⟩ : ∃ t : Int, t = y0 + 1 := ⟨_, rfl⟩
   rw [← hy1]
   have ha1 : z ≤ y1 := by omega
   have hb1 : y1 ≤ y0 + 1 := by omega
   clear hy1
   obtain ⟨u1, d1⟩ := Mb0.out.so b (o + j * 7 + 1) _ Q1.out
   have g1 := (Mb0.out.fz b (o + j * 7 + 1) hbl).trans (HFZ.out (o + j * 7 + 1))
   have Mb1 := Hid.intro (Mb0.out.set hb0 Q1.out rfl (.int .i64 y1))
   go_upto_region 7 with fail
   clear d1 g1 Mb0
   generalize wb0.setCell ⟨b, o + j * 7 + 1, none⟩ (.int .i64 y1) = wb1 at *
   go_upto_region 8 with fail
   obtain ⟨y2, hy2⟩ : ∃ t : Int, t = y1 + 1 := ⟨_, rfl⟩
   rw [← hy2]
   have ha2 : z ≤ y2 := by omega
   have hb2 : y2 ≤ y1 + 1 := by omega
   clear hy2
   obtain ⟨u2, d2⟩ := Mb1.out.so b (o + j * 7 + 2) _ Q2.out
   have g2 := (Mb1.out.fz b (o + j * 7 + 2) hbl).trans (HFZ.out (o + j * 7 + 2))
   have Mb2 := Hid.intro (Mb1.out.set hb0 Q2.out rfl (.int .i64 y2))
   go_upto_region 9 with fail
   clear d2 g2 Mb1
   generalize wb1.setCell ⟨b, o + j * 7 + 2, none⟩ (.int .i64 y2) = wb2 at *
   go_upto_region 10 with fail
   obtain ⟨y3, hy3⟩ : ∃ t : Int, t = y2 + 1 := ⟨_, rfl⟩
   rw [← hy3]
   have ha3 : z ≤ y3 := by omega
   have hb3 : y3 ≤ y2 + 1 := by omega
   clear hy3
   obtain ⟨u3, d3⟩ := Mb2.out.so b (o + j * 7 + 3) _ Q3.out
   have g3 := (Mb2.out.fz b (o + j * 7 + 3) hbl).trans (HFZ.out (o + j * 7 + 3))
   have Mb3 := Hid.intro (Mb2.out.set hb0 Q3.out rfl (.int .i64 y3))
   go_upto_region 11 with fail
   clear d3 g3 Mb2
   generalize wb2.setCell ⟨b, o + j * 7 + 3, none⟩ (.int .i64 y3) = wb3 at *
   go_upto_region 12 with fail
   obtain ⟨y4, hy4⟩ : ∃ t : Int, t = y3 + 1 := ⟨_, rfl⟩
   rw [← hy4]
   have ha4 : z ≤ y4 := by omega
   have hb4 : y4 ≤ y3 + 1 := by omega
   clear hy4
   obtain ⟨u4, d4⟩ := Mb3.out.so b (o + j * 7 + 4) _ Q4.out
   have g4 := (Mb3.out.fz b (o + j * 7 + 4) hbl).trans (HFZ.out (o + j * 7 + 4))
   have Mb4 := Hid.intro (Mb3.out.set hb0 Q4.out rfl (.int .i64 y4))
   go_upto_region 13 with fail
   clear d4 g4 Mb3
   generalize wb3.setCell ⟨b, o + j * 7 + 4, none⟩ (.int .i64 y4) = wb4 at *
   go_upto_region 14 with fail
   obtain ⟨y5, hy5⟩ : ∃ t : Int, t = y4 + 1 := ⟨_, rfl⟩
   rw [← hy5]
   have ha5 : z ≤ y5 := by omega
   have hb5 : y5 ≤ y4 + 1 := by omega
   clear hy5
   obtain ⟨u5, d5⟩ := Mb4.out.so b (o + j * 7 + 5) _ Q5.out
   have g5 := (Mb4.out.fz b (o + j * 7 + 5) hbl).trans (HFZ.out (o + j * 7 + 5))
   have Mb5 := Hid.intro (Mb4.out.set hb0 Q5.out rfl (.bool (y5 % 3 == 0)))
   go_upto_region 15 with fail
   clear d5 g5 Mb4
   generalize wb4.setCell ⟨b, o + j * 7 + 5, none⟩ (.bool (y5 % 3 == 0)) = wb5 at *
   go_upto_region 16 with fail
   obtain ⟨y6, hy6⟩ : ∃ t : Int, t = y5 + 1 := ⟨_, rfl⟩
   rw [← hy6]
   have ha6 : z ≤ y6 := by omega
   have hb6 : y6 ≤ y5 + 1 := by omega
   clear hy6
   go_wp2_with fail
   refine (markTextZ _ _ (by omega) (by omega)).mono ?_
   rintro e wa6 ⟨s6, rfl, hb⟩
   have Ma6 := Hid.intro (Mb5.out.below hb)
   clear hb Mb5
   obtain ⟨u6, d6⟩ := Ma6.out.so b (o + j * 7 + 6) _ Q6.out
   have g6 := (Ma6.out.fz b (o + j * 7 + 6) hbl).trans (HFZ.out (o + j * 7 + 6))
   have Mb6 := Hid.intro (Ma6.out.set hb0 Q6.out rfl (.string s6))
   go_upto_region 17 with fail
   clear d6 g6 Ma6
   generalize wa6.setCell ⟨b, o + j * 7 + 6, none⟩ (.string s6) = wb6 at *
   have HYE : Hid (y6 + 1 ≤ z + 16 * (((j + 1 : Nat) : Int) + (((xs.take (j + 1)).map wScp).sum : Nat))) := by
    show _ ≤ _
    have e2 := HS1.out
    have e4 := hY.out
    omega
   clear HS1 HS2 H1
   go_wp2_with fail
   go_roundw
   case rel => exact ⟨j + 1, y6 + 1, by omega, by go_num, rfl, by omega, HYE, Mb6⟩
   case measure => simp [intOf]; omega
  ·have hje : j = xs.length := by omega
   subst hje
   have HE : Hid (y0 ≤ z + 16 * (wS wScp xs : Nat)) := by
    have e1 := HW.out
    have e4 := hY.out
    rw [List.take_length] at e4
    show _ ≤ _
    omega
   go_wp2_with fail
   go_ret
   exact ⟨y0, rfl, hz0, HE.out, hM.out⟩

set_option maxHeartbeats 2000000 in
set_option maxRecDepth 100000 in
theorem markSbtS_any (xs : List Sbt) (a : Option Addr) (cap lo : Nat) (z : Int) (wx ws w : World) (hin : SliceC SbtC 2 lo wx a xs) (hlo : 0 < lo) (hm : Mkd lo wx ws w) (h0 : 0 < z) (h1 : z + 16 * (wS wSbt xs : Nat) ≤ 1073741824) :
  Calls Tryz.prog 31 #[.slice a xs.length cap, .int .i64 z] w fun e w' => ∃ z', e = .returned (.int .i64 z') ∧ z ≤ z' ∧ z' ≤ z + 16 * (wS wSbt xs : Nat) ∧ Mkd lo wx ws w' := by
 have HI := Hid.intro hin
 have HM := Hid.intro hm
 have HW : Hid (wS wSbt xs = xs.length + (xs.map wSbt).sum) := rfl
 have hlen : xs.length ≤ 1048576000 := by have := HW.out; omega
 have H1 := Hid.intro h1
 clear hin hm h1
 go_enter Tryz.func31, Tryz.ntmps31
 go_wp2_with fail
 go_loopw [1, 5] (fun v i wr => ∃ (j : Nat) (y0 : Int), j ≤ xs.length ∧ i = .int .i64 j ∧ v = .int .i64 y0 ∧ z ≤ y0 ∧ Hid (y0 ≤ z + 16 * ((j : Int) + (((xs.take j).map wSbt).sum : Nat))) ∧ Hid (Mkd lo wx ws wr)) (fun _ i _ => xs.length - (intOf i).toNat)
 case atStart => exact ⟨0, z, Nat.zero_le _, rfl, rfl, by omega, by show _ ≤ _; simp, HM⟩
 case round =>
  clear HM
  obtain ⟨j, y0, hj, rfl, rfl, hz0, hY, hM⟩ := hrel
  by_cases hlt : j < xs.length
  ·obtain ⟨x, hx⟩ : ∃ x, xs[j]? = some x := ⟨xs[j], List.getElem?_eq_getElem hlt⟩
   obtain ⟨b, o, rfl, hb0, hbl, hc⟩ := HI.out.at hx
   obtain ⟨q0, q1, _⟩ := hc
   simp only [Nat.add_zero] at q0
   have HS1 : Hid (((xs.take (j + 1)).map wSbt).sum = ((xs.take j).map wSbt).sum + wSbt x) := sum_take _ _ _ _ hx
   have HS2 : Hid (((xs.take (j + 1)).map wSbt).sum ≤ (xs.map wSbt).sum) := sum_take_le _ _ _
   have hyb : y0 + 16 * (1 + (wSbt x : Nat)) ≤ 1073741824 := by
    have e1 := HW.out
    have e2 := HS1.out
    have e3 := HS2.out
    have e4 := hY.out
    have e5 := H1.out
    omega
   have Q0 := Hid.intro q0
   have Q1 := Hid.intro q1
   have hne : xs ≠ [] := fun e => by rw [e] at hlt; exact absurd hlt (Nat.not_lt_zero _)
   have HFZ : Hid (∀ p, wx.frozen? ⟨b, p, none⟩ = false) := HI.out.frz hne hlo
   have i0 : (0 : Int) ≤ (j : Int) := by omega
   have i1 : (j : Int) < (xs.length : Int) := by omega
   clear hx hne q0 q1
   go_wp2_with fail
   refine (markTextZ _ _ (by omega) (by omega)).mono ?_
   rintro e wa0 ⟨s0, rfl, hb⟩
   have Ma0 := Hid.intro (hM.out.below hb)
   clear hb hM
   obtain ⟨u0, d0⟩ := Ma0.out.so b (o + j * 2) _ Q0.out
   have g0 := (Ma0.out.fz b (o + j * 2) hbl).trans (HFZ.out (o + j * 2))
   have Mb0 := Hid.intro (Ma0.out.set hb0 Q0.out rfl (.string s0))
   go_upto_region 5 with fail
   clear d0 g0 Ma0
   generalize wa0.setCell ⟨b, o + j * 2, none⟩ (.string s0) = wb0 at *
   go_upto_region 6 with fail
   obtain ⟨y1, hy1⟩ : ∃ t : Int, t = y0 + 1 := ⟨_, rfl⟩
   rw [← hy1]
   have ha1 : z ≤ y1 := by omega
   have hb1 : y1 ≤ y0 + 1 := by omega
   clear hy1
   obtain ⟨u1, d1⟩ := Mb0.out.so b (o + j * 2 + 1) _ Q1.out
   have g1 := (Mb0.out.fz b (o + j * 2 + 1) hbl).trans (HFZ.out (o + j * 2 + 1))
   have HYE : Hid (y1 + 1 ≤ z + 16 * (((j + 1 : Nat) : Int) + (((xs.take (j + 1)).map wSbt).sum : Nat))) := by
    show _ ≤ _
    have e2 := HS1.out
    have e4 := hY.out
    omega
   clear HS1 HS2 H1
   go_wp2_with fail
   go_roundw
   case rel => exact ⟨j + 1, y1 + 1, by omega, by go_num, rfl, by omega, HYE, Hid.intro (Mb0.out.set hb0 Q1.out rfl _)⟩
   case measure => simp [intOf]; omega
  ·have hje : j = xs.length := by omega
   subst hje
   have HE : Hid (y0 ≤ z + 16 * (wS wSbt xs : Nat)) := by
    have e1 := HW.out
    have e4 := hY.out
    rw [List.take_length] at e4
    show _ ≤ _
    omega
   go_wp2_with fail
   go_ret
   exact ⟨y0, rfl, hz0, HE.out, hM.out⟩

set_option maxHeartbeats 1000000 in
set_option maxRecDepth 100000 in
theorem markSbk_any (x : Sbk) (a1 : Option Addr) (c1 : Nat) (a2 : Option Addr) (c2 : Nat) (a3 : Option Addr) (c3 : Nat) (lo : Nat) (z : Int) (wx ws w : World) (n1 : SliceC SsvC 13 lo wx a1 x.services) (n2 : SliceC ScpC 7 lo wx a2 x.copies) (n3 : SliceC SbtC 2 lo wx a3 x.berths) (hlo : 0 < lo) (hm : Mkd lo wx ws w) (h0 : 0 < z) (h1 : z + 16 * (wSbk x : Nat) ≤ 1073741824) :
  Calls Tryz.prog 10 #[.agg #[.int .i64 x.now, .slice a1 x.services.length c1, .slice a2 x.copies.length c2, .slice a3 x.berths.length c3], .int .i64 z] w fun e w' => ∃ z', e = .returned (.int .i64 z') ∧ z ≤ z' ∧ z' ≤ z + 16 * (wSbk x : Nat) ∧ Mkd lo wx ws w' := by
 have N1 := Hid.intro n1
 have N2 := Hid.intro n2
 have N3 := Hid.intro n3
 have HM := Hid.intro hm
 have hw : wSbk x = wS wSsv x.services + wS wScp x.copies + wS wSbt x.berths := rfl
 have hw1 : wSbk x ≤ wS wSsv x.services + wS wScp x.copies + wS wSbt x.berths := by omega
 have hw2 : wS wSsv x.services + wS wScp x.copies + wS wSbt x.berths ≤ wSbk x := by omega
 clear n1 n2 n3 hm hw
 go_enter Tryz.func10, Tryz.ntmps10
 go_upto_region 1 with fail
 have hbx : Below w.heap.size w (w.alloc (Obj.cells #[.int .i64 x.now, .slice a1 x.services.length c1, .slice a2 x.copies.length c2, .slice a3 x.berths.length c3] 34)) := (Below.refl _ w).alloc (Nat.le_refl _) _
 have k1 : (w.alloc (Obj.cells #[.int .i64 x.now, .slice a1 x.services.length c1, .slice a2 x.copies.length c2, .slice a3 x.berths.length c3] 34)).cell? ⟨w.heap.size, 1, none⟩ = some (.slice a1 x.services.length c1) := by simp
 have k2 : (w.alloc (Obj.cells #[.int .i64 x.now, .slice a1 x.services.length c1, .slice a2 x.copies.length c2, .slice a3 x.berths.length c3] 34)).cell? ⟨w.heap.size, 2, none⟩ = some (.slice a2 x.copies.length c2) := by simp
 have k3 : (w.alloc (Obj.cells #[.int .i64 x.now, .slice a1 x.services.length c1, .slice a2 x.copies.length c2, .slice a3 x.berths.length c3] 34)).cell? ⟨w.heap.size, 3, none⟩ = some (.slice a3 x.berths.length c3) := by simp
 have M0 := Hid.intro (HM.out.below hbx)
 have hs0 : w.heap.size < (w.alloc (Obj.cells #[.int .i64 x.now, .slice a1 x.services.length c1, .slice a2 x.copies.length c2, .slice a3 x.berths.length c3] 34)).heap.size := by simp
 have hwx : wx.heap.size ≤ w.heap.size := HM.out.sz
 generalize (w.alloc (Obj.cells #[.int .i64 x.now, .slice a1 x.services.length c1, .slice a2 x.copies.length c2, .slice a3 x.berths.length c3] 34)) = w0 at *
 clear hbx HM
 go_wp2_with fail
 refine (markSsvS_any x.services a1 c1 lo _ wx _ _ N1.out hlo M0.out.rebase (by omega) (by omega)).mono ?_
 rintro e w1 ⟨z1, rfl, ha1, hb1, hm1⟩
 have p2 := (hm1.up w.heap.size 2 hwx hs0).1.trans k2
 have p3 := (hm1.up w.heap.size 3 hwx hs0).1.trans k3
 have M1 := Hid.intro (M0.out.trans hm1)
 have hs1 : w.heap.size < w1.heap.size := block_lt_of_cell p2
 clear hm1 M0 k1 k2 k3
 go_wp2_with fail
 refine (markScpS_any x.copies a2 c2 lo _ wx _ _ N2.out hlo M1.out.rebase (by omega) (by omega)).mono ?_
 rintro e w2 ⟨z2, rfl, ha2, hb2, hm2⟩
 have r3 := (hm2.up w.heap.size 3 hwx hs1).1.trans p3
 have M2 := Hid.intro (M1.out.trans hm2)
 clear hm2 M1 p2 p3
 go_wp2_with fail
 refine (markSbtS_any x.berths a3 c3 lo _ wx _ _ N3.out hlo M2.out.rebase (by omega) (by omega)).mono ?_
 rintro e w3 ⟨z3, rfl, ha3, hb3, hm3⟩
 have M3 := Hid.intro (M2.out.trans hm3)
 clear hm3 M2 r3
 go_wp2_with fail
 go_ret
 exact ⟨z3, rfl, by omega, by omega, M3.out⟩

end Go.Proofs.YtnggdpjfmpjlhaaGreat
