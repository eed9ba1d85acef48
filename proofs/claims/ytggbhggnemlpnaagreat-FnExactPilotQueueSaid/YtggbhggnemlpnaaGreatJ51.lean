/-
  Several texts in one: Mrv, LawQ.
-/
import Derived.Test.YtggbhggnemlpnaaGreatJ49
import Derived.Deep.RegionHeld3
import Derived.Test.YtggbhggnemlpnaaGreatHqi
import Derived.Test.YtggbhggnemlpnaaGreatMrs
import Derived.Test.YtggbhggnemlpnaaGreatJ38
namespace Go.Proofs.YtggbhggnemlpnaaGreat
open Go.RowKit

/-- a list of n places holds the marks from k on -/
def MarkedS (w : World) (a : Option Addr) (n k : Nat) : Prop := n = 0 ∨ ∃ b o, a = some ⟨b, o, none⟩ ∧ ∀ j, j < n → w.cell? ⟨b, o + j, none⟩ = some (.string (mtOf (k + j)))

theorem MarkedS.below {w w' : World} {a : Option Addr} {n k : Nat} (h : MarkedS w a n k) (hb : Below w.heap.size w w') : MarkedS w' a n k := by
  rcases h with h | ⟨b, o, e, h⟩
  · exact .inl h
  · exact .inr ⟨b, o, e, fun j hj => (hb.cell (p := ⟨b, o + j, none⟩) (block_lt_of_cell (h j hj))).trans (h j hj)⟩

set_option maxHeartbeats 1000000 in
set_option maxRecDepth 100000 in
theorem markStrV_any (xs : List ByteArray) (a : Option Addr) (cap lo : Nat) (k : Nat) (wx ws w : World) (hin : SliceC StrC 1 lo wx a xs) (hlo : 0 < lo) (hm : Mkd lo wx ws w) (h0 : 0 < k) (h1 : k + xs.length ≤ 1073741824) :
    Calls Tryz.prog 12 #[.slice a xs.length cap, .int .i64 k] w fun e w' => e = .returned (.int .i64 ((k + xs.length : Nat) : Int)) ∧ MarkedS w' a xs.length k ∧ Mkd lo wx ws w' := by
  have HI := Hid.intro hin
  have HM := Hid.intro hm
  clear hin hm
  go_enter Tryz.func12, Tryz.ntmps12
  go_wp2_with fail
  go_loopw [1, 5] (fun v i wr => ∃ j : Nat, j ≤ xs.length ∧ i = .int .i64 j ∧ v = .int .i64 ((k + j : Nat) : Int) ∧ Hid (MarkedS wr a j k) ∧ Hid (Mkd lo wx ws wr)) (fun _ i _ => xs.length - (intOf i).toNat)
  case atStart => exact ⟨0, Nat.zero_le _, rfl, rfl, .inl rfl, HM⟩
  case round =>
    clear HM
    obtain ⟨j, hj, rfl, rfl, hV, hM⟩ := hrel
    by_cases hlt : j < xs.length
    · obtain ⟨x, hx⟩ : ∃ x, xs[j]? = some x := ⟨xs[j], List.getElem?_eq_getElem hlt⟩
      obtain ⟨b, o, rfl, hb, hbl, hc⟩ := HI.out.at hx
      obtain ⟨r0, _⟩ := hc
      simp only [Nat.mul_one, Nat.add_zero] at r0
      have HR := Hid.intro r0
      have hne : xs ≠ [] := fun e => by rw [e] at hlt; exact absurd hlt (Nat.not_lt_zero _)
      have i0 : (0 : Int) ≤ (j : Int) := by omega
      have i1 : (j : Int) < (xs.length : Int) := by omega
      clear hx r0
      go_wp2_with fail
      refine (markText_any (k + j) _ (by omega) (by omega)).mono ?_
      rintro e w1 ⟨rfl, hb1⟩
      have M1 := Hid.intro (hM.out.below hb1)
      have V1 := Hid.intro (hV.out.below hb1)
      obtain ⟨u0, c0⟩ := M1.out.so b (o + j) _ HR.out
      have f0 := (M1.out.fz b (o + j) hbl).trans (HI.out.frz hne hlo (o + j))
      have M2 := Hid.intro (M1.out.set hb HR.out rfl (.string (mtOf (k + j))))
      have V2 : Hid (MarkedS (w1.setCell ⟨b, o + j, none⟩ (.string (mtOf (k + j)))) (some ⟨b, o, none⟩) (j + 1) k) := by
        refine .inr ⟨b, o, rfl, fun j' hj' => ?_⟩
        by_cases e : j' = j
        · subst e
          exact World.cell?_setCell_same _ _ _ c0
        · rw [World.cell?_setCell_other _ _ _ _ (fun h => by injection h with _ h _; omega)]
          rcases V1.out with h | ⟨b', o', e', h⟩
          · omega
          · cases e'
            exact h j' (by omega)
      clear hb1 M1 V1 hne
      go_wp2_with fail
      go_roundw
      case rel => exact ⟨j + 1, by omega, by go_num, by go_num, V2, M2⟩
      case measure => simp [intOf]; omega
    · have hje : j = xs.length := by omega
      subst hje
      go_wp2_with fail
      go_ret
      exact ⟨rfl, hV.out, hM.out⟩

set_option maxHeartbeats 1000000 in
set_option maxRecDepth 100000 in
theorem heldStrS_any (a : Option Addr) (n cap k : Nat) (w : World) (hin : MarkedS w a n k) (h0 : 0 < k) (h1 : k + n ≤ 1073741824) :
    Calls Tryz.prog 13 #[.slice a n cap, .int .i64 k] w fun e w' => e = .returned (.int .i64 ((k + n : Nat) : Int)) ∧ Below w.heap.size w w' := by
  have HI := Hid.intro hin
  clear hin
  go_enter Tryz.func13, Tryz.ntmps13
  go_wp2_with fail
  go_loopw [1, 5] (fun v i wr => ∃ j : Nat, j ≤ n ∧ i = .int .i64 j ∧ v = .int .i64 ((k + j : Nat) : Int) ∧ Hid (Below w.heap.size w wr)) (fun _ i _ => n - (intOf i).toNat)
  case atStart => exact ⟨0, Nat.zero_le _, rfl, rfl, Below.refl _ _⟩
  case round =>
    obtain ⟨j, hj, rfl, rfl, hB⟩ := hrel
    by_cases hlt : j < n
    · have hM := HI.out.below hB.out
      obtain ⟨b, o, rfl, hc⟩ : ∃ b o, a = some ⟨b, o, none⟩ ∧ ∀ j, j < n → wr.cell? ⟨b, o + j, none⟩ = some (.string (mtOf (k + j))) := by
        rcases hM with h | h
        · omega
        · exact h
      have r0 := hc j hlt
      have HR := Hid.intro r0
      have i0 : (0 : Int) ≤ (j : Int) := by omega
      have i1 : (j : Int) < (n : Int) := by omega
      have hbl : b < wr.heap.size := block_lt_of_cell r0
      clear hc hM
      go_upto_region 4 with fail
      refine wp_region_held_drew (S := fun wy => wy.cell? ⟨b, o + j, none⟩ = some (.string (mtOf (k + j)))) (by kernel_rfl) (by simpa using r0) (fun hS => ?_)
      refine wpAnyH_take (i := 0) (oi := { dst := some 12, op := _, type := _, pos := _, after := _, guard := none }) (v := .slice (some ⟨b, o, none⟩) n cap) rfl (by kernel_rfl) (by kernel_rfl) (by kernel_rfl) (fun _ _ _ h => h) (Or.inl ⟨by rfl, ?_⟩) hS ?_
      · intro wy hy
        skip
        go_simp
      simp only [Act.put, List.setIfInBounds_toArray, List.set_cons_zero, List.set_cons_succ]
      refine wpAnyH_take (i := 1) (oi := { dst := some 13, op := _, type := _, pos := _, after := _, guard := none }) (v := .int .i64 (j : Int)) rfl (by kernel_rfl) (by kernel_rfl) (by kernel_rfl) (fun _ _ _ h => h) (Or.inl ⟨by rfl, ?_⟩) hS ?_
      · intro wy hy
        skip
        go_simp
      simp only [Act.put, List.setIfInBounds_toArray, List.set_cons_zero, List.set_cons_succ]
      refine wpAnyH_take (i := 2) (oi := { dst := some 14, op := _, type := _, pos := _, after := _, guard := none }) (v := .pointer (some ⟨b, o + j, none⟩)) rfl (by kernel_rfl) (by kernel_rfl) (by kernel_rfl) (fun _ _ _ h => h) (Or.inl ⟨by rfl, ?_⟩) hS ?_
      · intro wy hy
        skip
        go_simp
      simp only [Act.put, List.setIfInBounds_toArray, List.set_cons_zero, List.set_cons_succ]
      refine wpAnyH_take (i := 3) (oi := { dst := some 15, op := _, type := _, pos := _, after := _, guard := none }) (v := .string (mtOf (k + j))) rfl (by kernel_rfl) (by kernel_rfl) (by kernel_rfl) (fun _ _ _ h => h) (Or.inl ⟨by rfl, ?_⟩) hS ?_
      · intro wy hy
        skip
        go_simp
      simp only [Act.put, List.setIfInBounds_toArray, List.set_cons_zero, List.set_cons_succ]
      refine wpAnyH_take (i := 4) (oi := { dst := some 16, op := _, type := _, pos := _, after := _, guard := none }) (v := .int .i64 ((k + j : Nat) : Int)) rfl (by kernel_rfl) (by kernel_rfl) (by kernel_rfl) (fun _ _ _ h => h) (Or.inl ⟨by rfl, ?_⟩) hS ?_
      · intro wy hy
        skip
        go_simp
      simp only [Act.put, List.setIfInBounds_toArray, List.set_cons_zero, List.set_cons_succ]
      refine wpAnyH_ready (rs := [5]) (by kernel_rfl) (by simp) (AllReadyH.cons (o := { dst := some 17, op := _, type := _, pos := _, after := _, guard := none }) rfl (fun K hK => ?_) AllReadyH.nil)
      go_simp
      refine (markText_any (k + j) _ (by omega) (by omega)).mono ?_
      rintro e w1 ⟨rfl, hb1⟩
      have hd : Below wr.heap.size wr w1 := (Below.refl _ wr).drew.trans hb1
      have HB1 : Hid (Below w.heap.size w w1) := hB.out.trans (hd.mono hB.out.size)
      refine hK.out _ _ ((hd.cell (p := ⟨b, o + j, none⟩) hbl).trans HR.out) (fun hS => ?_)
      clear hK K hb1 hd
      refine wpAnyH_take (i := 6) (oi := { dst := some 18, op := _, type := _, pos := _, after := _, guard := none }) (v := .bool false) rfl (by kernel_rfl) (by kernel_rfl) (by kernel_rfl) (fun _ _ _ h => h) (Or.inl ⟨by rfl, ?_⟩) hS ?_
      · intro wy hy
        skip
        go_simp
      simp only [Act.put, List.setIfInBounds_toArray, List.set_cons_zero, List.set_cons_succ]
      refine wpAnyH_done (by kernel_rfl) ?_ _
      clear hS
      go_wp2_with fail
      go_roundw
      case rel => exact ⟨j + 1, by omega, by go_num, by go_num, HB1⟩
      case measure => simp [intOf]; omega
    · have hje : j = n := by omega
      subst hje
      go_wp2_with fail
      go_ret
      exact ⟨rfl, hB.out⟩

end Go.Proofs.YtggbhggnemlpnaaGreat

namespace Go.Proofs.YtggbhggnemlpnaaGreat
open Go.RowKit Go.WideMaps Go.Maps

/-- the eight cells that the last look reads -/
def TwoIn (b b0 : Nat) (x : Flt) (a1 : Option Addr) (c1 : Nat) (a2 : Option Addr) (c2 : Nat) (a3 : Option Addr) (c3 : Nat) (d1 : Option Addr) (e1 : Nat) (d2 : Option Addr) (e2 : Nat) (d3 : Option Addr) (e3 : Nat) (w : World) : Prop :=
  FltIn b x a1 c1 a2 c2 a3 c3 w ∧ FltIn b0 x d1 e1 d2 e2 d3 e3 w

theorem len_b {x : Flt} (h : wFlt x ≤ 1048576) : x.berths.length ≤ 1048576 := by have := wS_len (f := wBrt) (xs := x.berths); unfold wFlt at h; omega
theorem len_s {x : Flt} (h : wFlt x ≤ 1048576) : x.services.length ≤ 1048576 := by have := wS_len (f := wSvc) (xs := x.services); unfold wFlt at h; omega
theorem len_c {x : Flt} (h : wFlt x ≤ 1048576) : x.copies.length ≤ 1048576 := by have := wS_len (f := wCpy) (xs := x.copies); unfold wFlt at h; omega

theorem Mkd.keeps {lo : Nat} {wx ws w : World} (m : Mkd lo wx ws w) {l : Nat} (h : wx.heap.size ≤ l) : Keeps l ws w := ⟨m.bel.size, fun b o h1 h2 => m.up b o (Nat.le_trans h h1) h2⟩

set_option maxHeartbeats 4000000 in
set_option maxRecDepth 100000 in
theorem law_any (x : Flt) (a1 : Option Addr) (c1 : Nat) (a2 : Option Addr) (c2 : Nat) (a3 : Option Addr) (c3 : Nat) (lo : Nat) (w : World) (n1 : SliceC BrtC 6 lo w a1 x.berths) (n2 : SliceC SvcC 2 lo w a2 x.services) (n3 : SliceC CpyC 12 lo w a3 x.copies) :
    Calls Tryz.prog 3 #[.agg #[.bool x.pack, .slice a1 x.berths.length c1, .slice a2 x.services.length c2, .slice a3 x.copies.length c3]] w fun e w' => e = .returned (.bool true) ∧ Below w.heap.size w w' := by
  have N1 : Hid (SliceC BrtC 6 lo w a1 x.berths) := n1
  have N2 : Hid (SliceC SvcC 2 lo w a2 x.services) := n2
  have N3 : Hid (SliceC CpyC 12 lo w a3 x.copies) := n3
  have RS := Hid.intro (queL_small x)
  clear n1 n2 n3
  go_enter Tryz.func3, Tryz.ntmps3
  go_wp2_with fail
  refine (szFlt_any x a1 c1 a2 c2 a3 c3 lo 1048576 _ (N1.out.below BrtC.holds (B := w.heap.size) (by go_grown) (Nat.le_refl _)) (N2.out.below SvcC.holds (B := w.heap.size) (by go_grown) (Nat.le_refl _)) (N3.out.below CpyC.holds (B := w.heap.size) (by go_grown) (Nat.le_refl _)) (by omega) (by omega)).mono ?_
  rintro e w1 ⟨rfl, hb1⟩
  have HF1 : Hid (FltIn w.heap.size x a1 c1 a2 c2 a3 c3 w1) := FltIn.below (b := w.heap.size) ⟨by simp, by simp, by simp, by simp⟩ hb1 (by simp)
  have HB1 : Hid (Below w.heap.size w w1) := (show Below w.heap.size w _ by go_grown).trans (hb1.mono (by simp))
  clear hb1
  by_cases hz' : ¬ ((wFlt x : Nat) : Int) ≤ 1048576
  · have hz := hz'
    rw [szR_neg hz]
    go_wp2_with fail
    go_ret
    exact ⟨rfl, HB1.out⟩
  have hz := Classical.not_not.1 hz'
  clear hz'
  rw [szR_pos hz]
  have hwx : wFlt x ≤ 1048576 := by omega
  have HM : Hid (wFlt x ≤ 1048576) := hwx
  have hz0 : (0 : Int) ≤ 1048576 - (wFlt x : Nat) := by omega
  clear hwx hz
  generalize hR : (1048576 : Int) - (wFlt x : Nat) = R at *
  clear hR
  obtain ⟨f0, f1, f2, f3⟩ := HF1.out
  go_wp2_with fail
  refine (toFlt_any x a1 c1 a2 c2 a3 c3 lo _ (N1.out.below BrtC.holds (B := w.heap.size) HB1.out (Nat.le_refl _)) (N2.out.below SvcC.holds (B := w.heap.size) HB1.out (Nat.le_refl _)) (N3.out.below CpyC.holds (B := w.heap.size) HB1.out (Nat.le_refl _)) HM.out).mono ?_
  rintro e w2 ⟨g1, g2, g3, rfl, q1, q2, q3, hb2⟩
  have HF2 : Hid (FltIn w.heap.size x a1 c1 a2 c2 a3 c3 w2) := HF1.out.below hb2 (block_lt_of_cell f0)
  have HB2 : Hid (Below w.heap.size w w2) := HB1.out.trans (hb2.mono HB1.out.size)
  have Q1 : Hid (SliceC BrtC 6 w1.heap.size w2 (some ⟨g1, 0, none⟩) x.berths) := q1
  have Q2 : Hid (SliceC SvcC 2 w1.heap.size w2 (some ⟨g2, 0, none⟩) x.services) := q2
  have Q3 : Hid (SliceC CpyC 12 w1.heap.size w2 (some ⟨g3, 0, none⟩) x.copies) := q3
  clear hb2 q1 q2 q3 f0 f1 f2 f3 HF1 HB1
  go_wp2_with fail
  refine (specQueue_any x (some ⟨g1, 0, none⟩) x.berths.length (some ⟨g2, 0, none⟩) x.services.length (some ⟨g3, 0, none⟩) x.copies.length w1.heap.size _ Q1.out Q2.out Q3.out (len_b HM.out) (len_s HM.out) (len_c HM.out)).mono ?_
  rintro e w3 ⟨aw, cw, rfl, hsw, hb3⟩
  have HF3 : Hid (FltIn w.heap.size x a1 c1 a2 c2 a3 c3 w3) := HF2.out.below hb3 (block_lt_of_cell HF2.out.1)
  have HB3 : Hid (Below w.heap.size w w3) := HB2.out.trans (hb3.mono HB2.out.size)
  have HW : Hid (SliceC StrC 1 (w2.heap.size + 1) w3 aw (queL x)) := hsw
  have hz3 : w.heap.size < w3.heap.size := block_lt_of_cell HF3.out.1
  clear hb3 hsw Q1 Q2 Q3 HF2 HB2
  obtain ⟨f0, f1, f2, f3⟩ := HF3.out
  go_wp2_with fail
  refine (toFlt_any x a1 c1 a2 c2 a3 c3 lo _ (N1.out.below BrtC.holds (B := w.heap.size) HB3.out (Nat.le_refl _)) (N2.out.below SvcC.holds (B := w.heap.size) HB3.out (Nat.le_refl _)) (N3.out.below CpyC.holds (B := w.heap.size) HB3.out (Nat.le_refl _)) HM.out).mono ?_
  rintro e w4 ⟨g1, g2, g3, rfl, q1, q2, q3, hb4⟩
  have HF4 : Hid (FltIn w.heap.size x a1 c1 a2 c2 a3 c3 w4) := HF3.out.below hb4 (block_lt_of_cell f0)
  have HB4 : Hid (Below w.heap.size w w4) := HB3.out.trans (hb4.mono HB3.out.size)
  have Q1 : Hid (SliceC BrtC 6 w3.heap.size w4 (some ⟨g1, 0, none⟩) x.berths) := q1
  have Q2 : Hid (SliceC SvcC 2 w3.heap.size w4 (some ⟨g2, 0, none⟩) x.services) := q2
  have Q3 : Hid (SliceC CpyC 12 w3.heap.size w4 (some ⟨g3, 0, none⟩) x.copies) := q3
  have H34 : Hid (Below w3.heap.size w3 w4) := hb4
  have hz34 : w3.heap.size ≤ w4.heap.size := hb4.size
  have hz4 : w.heap.size < w4.heap.size := block_lt_of_cell HF4.out.1
  clear hb4 q1 q2 q3 f0 f1 f2 f3 HF3
  go_wp2_with fail
  refine (implQueue_any x (some ⟨g1, 0, none⟩) x.berths.length (some ⟨g2, 0, none⟩) x.services.length (some ⟨g3, 0, none⟩) x.copies.length w3.heap.size _ (Q1.out.below BrtC.holds (B := w4.heap.size) (by go_grown) (Nat.le_refl _)) (Q2.out.below SvcC.holds (B := w4.heap.size) (by go_grown) (Nat.le_refl _)) (Q3.out.below CpyC.holds (B := w4.heap.size) (by go_grown) (Nat.le_refl _)) (len_b HM.out) (len_s HM.out) (len_c HM.out)).mono ?_
  rintro e w5 ⟨ag, cg, rfl, hsg, hb5⟩
  have hb45 : Below w4.heap.size w4 w5 := (show Below w4.heap.size w4 _ by go_grown).trans (hb5.mono (by simp))
  have HX5 : Hid (FltIn w4.heap.size x (some ⟨g1, 0, none⟩) x.berths.length (some ⟨g2, 0, none⟩) x.services.length (some ⟨g3, 0, none⟩) x.copies.length w5) := FltIn.below (b := w4.heap.size) ⟨by simp, by simp, by simp, by simp⟩ hb5 (by simp)
  have HG5 : Hid (SliceC StrC 1 (w4.heap.size + 1) w5 ag (queL x)) := hsg.keep StrC.holds (Keeps.refl _ _) (by simp)
  have HF5 : Hid (FltIn w.heap.size x a1 c1 a2 c2 a3 c3 w5) := HF4.out.below hb45 hz4
  have H45 : Hid (Below w4.heap.size w4 w5) := hb45
  clear hb5 hb45 hsg HF4
  go_wp2_with fail
  refine (eqStrS_any (queL x) ag aw cg cw (w4.heap.size + 1) (w2.heap.size + 1) _ HG5.out (HW.out.below StrC.holds (H34.out.trans (H45.out.mono hz34)) (Nat.le_refl _)) RS.out.1).mono ?_
  rintro e w6 ⟨rfl, hb6⟩
  have H46 : Hid (Below w4.heap.size w4 w6) := H45.out.trans (hb6.mono H45.out.size)
  have HX6 : Hid (FltIn w4.heap.size x (some ⟨g1, 0, none⟩) x.berths.length (some ⟨g2, 0, none⟩) x.services.length (some ⟨g3, 0, none⟩) x.copies.length w6) := HX5.out.below hb6 (block_lt_of_cell HX5.out.1)
  have HF6 : Hid (FltIn w.heap.size x a1 c1 a2 c2 a3 c3 w6) := HF5.out.below hb6 (block_lt_of_cell HF5.out.1)
  have HG6 : Hid (SliceC StrC 1 (w4.heap.size + 1) w6 ag (queL x)) := HG5.out.below StrC.holds hb6 (Nat.le_refl _)
  have HB6 : Hid (Below w.heap.size w w6) := HB4.out.trans (H46.out.mono (by omega))
  clear hb6 H45 HX5 HF5 HG5
  go_wp2_with fail
  refine wp_region_held_drew (S := TwoIn w.heap.size w4.heap.size x a1 c1 a2 c2 a3 c3 (some ⟨g1, 0, none⟩) x.berths.length (some ⟨g2, 0, none⟩) x.services.length (some ⟨g3, 0, none⟩) x.copies.length) (by kernel_rfl) ⟨HF6.out, HX6.out⟩ (fun hS => ?_)
  refine wpAnyH_take (i := 0) (oi := { dst := some 27, op := _, type := _, pos := _, after := _, guard := none }) (v := .agg #[.bool x.pack, .slice (some ⟨g1, 0, none⟩) x.berths.length x.berths.length, .slice (some ⟨g2, 0, none⟩) x.services.length x.services.length, .slice (some ⟨g3, 0, none⟩) x.copies.length x.copies.length]) rfl (by kernel_rfl) (by kernel_rfl) (by kernel_rfl) (fun _ _ _ h => h) (Or.inl ⟨by rfl, ?_⟩) hS ?_
  · intro wy hy
    obtain ⟨⟨y0, y1, y2, y3⟩, v0, v1, v2, v3⟩ := hy
    go_simp
  simp only [Act.put, List.setIfInBounds_toArray, List.set_cons_zero, List.set_cons_succ]
  refine wpAnyH_take (i := 1) (oi := { dst := some 28, op := _, type := _, pos := _, after := _, guard := none }) (v := .agg #[.bool x.pack, .slice a1 x.berths.length c1, .slice a2 x.services.length c2, .slice a3 x.copies.length c3]) rfl (by kernel_rfl) (by kernel_rfl) (by kernel_rfl) (fun _ _ _ h => h) (Or.inl ⟨by rfl, ?_⟩) hS ?_
  · intro wy hy
    obtain ⟨⟨y0, y1, y2, y3⟩, v0, v1, v2, v3⟩ := hy
    go_simp
  simp only [Act.put, List.setIfInBounds_toArray, List.set_cons_zero, List.set_cons_succ]
  refine wpAnyH_ready (rs := [2]) (by kernel_rfl) (by simp) (AllReadyH.cons (o := { dst := some 29, op := _, type := _, pos := _, after := _, guard := none }) rfl (fun K hK => ?_) AllReadyH.nil)
  go_simp
  have hd : Below w.heap.size w w6.drew := HB6.out.drew
  refine (toFlt_any x a1 c1 a2 c2 a3 c3 lo _ (N1.out.below BrtC.holds (B := w.heap.size) hd (Nat.le_refl _)) (N2.out.below SvcC.holds (B := w.heap.size) hd (Nat.le_refl _)) (N3.out.below CpyC.holds (B := w.heap.size) hd (Nat.le_refl _)) HM.out).mono ?_
  rintro e w7 ⟨h1, h2, h3, rfl, q1, q2, q3, hb7⟩
  have hd7 : Below w6.heap.size w6 w7 := (Below.refl _ w6).drew.trans hb7
  have P1 : Hid (SliceC BrtC 6 w6.drew.heap.size w7 (some ⟨h1, 0, none⟩) x.berths) := q1
  have P2 : Hid (SliceC SvcC 2 w6.drew.heap.size w7 (some ⟨h2, 0, none⟩) x.services) := q2
  have P3 : Hid (SliceC CpyC 12 w6.drew.heap.size w7 (some ⟨h3, 0, none⟩) x.copies) := q3
  have H47 : Hid (Below w4.heap.size w4 w7) := H46.out.trans (hd7.mono H46.out.size)
  have HG7 : Hid (SliceC StrC 1 (w4.heap.size + 1) w7 ag (queL x)) := HG6.out.below StrC.holds hd7 (Nat.le_refl _)
  have HX7 : Hid (FltIn w4.heap.size x (some ⟨g1, 0, none⟩) x.berths.length (some ⟨g2, 0, none⟩) x.services.length (some ⟨g3, 0, none⟩) x.copies.length w7) := HX6.out.below hd7 (block_lt_of_cell HX6.out.1)
  have HF7 : Hid (FltIn w.heap.size x a1 c1 a2 c2 a3 c3 w7) := HF6.out.below hd7 (block_lt_of_cell HF6.out.1)
  refine hK.out _ _ ⟨HF7.out, HX7.out⟩ (fun hS => ?_)
  clear q1 q2 q3 hb7 hd7 hd HG6 HX6 HF6 H46 HB6
  clear hK K
  refine wpAnyH_ready (rs := [3]) (by kernel_rfl) (by simp) (AllReadyH.cons (o := { dst := some 30, op := _, type := _, pos := _, after := _, guard := none }) rfl (fun K hK => ?_) AllReadyH.nil)
  go_simp
  refine (eqFlt_any x (some ⟨g1, 0, none⟩) x.berths.length (some ⟨g2, 0, none⟩) x.services.length (some ⟨g3, 0, none⟩) x.copies.length (some ⟨h1, 0, none⟩) x.berths.length (some ⟨h2, 0, none⟩) x.services.length (some ⟨h3, 0, none⟩) x.copies.length w3.heap.size w6.drew.heap.size _ (Q1.out.below BrtC.holds H47.out (Nat.le_refl _)) (Q2.out.below SvcC.holds H47.out (Nat.le_refl _)) (Q3.out.below CpyC.holds H47.out (Nat.le_refl _)) P1.out P2.out P3.out HM.out).mono ?_
  rintro e w8 ⟨rfl, hb8⟩
  have H48 : Hid (Below w4.heap.size w4 w8) := H47.out.trans (hb8.mono H47.out.size)
  have HG8 : Hid (SliceC StrC 1 (w4.heap.size + 1) w8 ag (queL x)) := HG7.out.below StrC.holds hb8 (Nat.le_refl _)
  have HX8 : Hid (FltIn w4.heap.size x (some ⟨g1, 0, none⟩) x.berths.length (some ⟨g2, 0, none⟩) x.services.length (some ⟨g3, 0, none⟩) x.copies.length w8) := HX7.out.below hb8 (block_lt_of_cell HX7.out.1)
  have HF8 : Hid (FltIn w.heap.size x a1 c1 a2 c2 a3 c3 w8) := HF7.out.below hb8 (block_lt_of_cell HF7.out.1)
  refine hK.out _ _ ⟨HF8.out, HX8.out⟩ (fun hS => ?_)
  clear hK K hb8 HG7 HX7 HF7 H47 P1 P2 P3
  refine wpAnyH_take (i := 4) (oi := { dst := some 31, op := _, type := _, pos := _, after := _, guard := none }) (v := .bool false) rfl (by kernel_rfl) (by kernel_rfl) (by kernel_rfl) (fun _ _ _ h => h) (Or.inl ⟨by rfl, ?_⟩) hS ?_
  · intro wy hy
    obtain ⟨⟨y0, y1, y2, y3⟩, v0, v1, v2, v3⟩ := hy
    go_simp
  simp only [Act.put, List.setIfInBounds_toArray, List.set_cons_zero, List.set_cons_succ]
  refine wpAnyH_done (by kernel_rfl) ?_ _
  clear hS
  obtain ⟨x0, x1, x2, x3⟩ := HX8.out
  go_wp2_with fail
  refine (markFlt_any x (some ⟨g1, 0, none⟩) x.berths.length (some ⟨g2, 0, none⟩) x.services.length (some ⟨g3, 0, none⟩) x.copies.length w3.heap.size 1 w4 w8 _ Q1.out Q2.out Q3.out (by omega) (Mkd.start H48.out hz34) (by omega) (by have := HM.out; omega)).mono ?_
  rintro e w9 ⟨z, rfl, hz1, _, hmk⟩
  have H39 : Hid (Below w3.heap.size w3 w9) := (H34.out.trans (H48.out.mono hz34)).trans hmk.bel
  have HF9 : Hid (FltIn w.heap.size x a1 c1 a2 c2 a3 c3 w9) := HF8.out.below hmk.bel hz3
  have HG9 : Hid (SliceC StrC 1 (w4.heap.size + 1) w9 ag (queL x)) := HG8.out.keep StrC.holds (hmk.keeps (Nat.le_succ _)) (Nat.le_refl _)
  have hz49 : w4.heap.size + 1 ≤ w9.heap.size := Nat.le_trans (Nat.succ_le_of_lt (block_lt_of_cell x0)) hmk.bel.size
  have hzn : ¬ z < 0 := by omega
  clear hmk H48 HX8 HF8 HG8 x0 x1 x2 x3 Q1 Q2 Q3
  go_wp2_with fail
  refine (eqStrS_any (queL x) ag aw cg cw (w4.heap.size + 1) (w2.heap.size + 1) _ HG9.out (HW.out.below StrC.holds H39.out (Nat.le_refl _)) RS.out.1).mono ?_
  rintro e wA ⟨rfl, hbA⟩
  have H3A : Hid (Below w3.heap.size w3 wA) := H39.out.trans (hbA.mono H39.out.size)
  have HFA : Hid (FltIn w.heap.size x a1 c1 a2 c2 a3 c3 wA) := HF9.out.below hbA (block_lt_of_cell HF9.out.1)
  have HGA : Hid (SliceC StrC 1 (w4.heap.size + 1) wA ag (queL x)) := HG9.out.below StrC.holds hbA (Nat.le_refl _)
  have hz4A : w4.heap.size + 1 ≤ wA.heap.size := Nat.le_trans hz49 hbA.size
  clear hbA H39 HF9 HG9 hz49 hzn
  go_wp2_with fail
  refine (markStrV_any (queL x) ag cg (w4.heap.size + 1) 1 wA wA _ HGA.out (by omega) (Mkd.start (Below.refl _ _) hz4A) (by omega) (by have := RS.out.2.1; omega)).mono ?_
  rintro e wB ⟨rfl, hmB, hmk⟩
  have H3B : Hid (Below w3.heap.size w3 wB) := H3A.out.trans (hmk.bel.mono (by omega))
  have HFB : Hid (FltIn w.heap.size x a1 c1 a2 c2 a3 c3 wB) := HFA.out.below hmk.bel (by omega)
  have HMB := Hid.intro hmB
  clear hmB hmk H3A HFA HGA hz4A
  go_wp2_with fail
  refine (heldStrS_any ag (queL x).length cg 1 _ HMB.out (by omega) (by have := RS.out.2.1; omega)).mono ?_
  rintro e wC ⟨rfl, hbC⟩
  have H3C : Hid (Below w3.heap.size w3 wC) := H3B.out.trans (hbC.mono H3B.out.size)
  have HFC : Hid (FltIn w.heap.size x a1 c1 a2 c2 a3 c3 wC) := HFB.out.below hbC (block_lt_of_cell HFB.out.1)
  have HMC : Hid (MarkedS wC ag (queL x).length 1) := HMB.out.below hbC
  have HBC : Hid (Below w.heap.size w wC) := HB3.out.trans (H3C.out.mono (by omega))
  clear hbC H3B HFB HMB
  obtain ⟨f0, f1, f2, f3⟩ := HFC.out
  go_wp2_with fail
  refine (toFlt_any x a1 c1 a2 c2 a3 c3 lo _ (N1.out.below BrtC.holds (B := w.heap.size) HBC.out (Nat.le_refl _)) (N2.out.below SvcC.holds (B := w.heap.size) HBC.out (Nat.le_refl _)) (N3.out.below CpyC.holds (B := w.heap.size) HBC.out (Nat.le_refl _)) HM.out).mono ?_
  rintro e wD ⟨g4, g5, g6, rfl, q1, q2, q3, hbD⟩
  have H3D : Hid (Below w3.heap.size w3 wD) := H3C.out.trans (hbD.mono H3C.out.size)
  have HMD : Hid (MarkedS wD ag (queL x).length 1) := HMC.out.below hbD
  have Q1 : Hid (SliceC BrtC 6 wC.heap.size wD (some ⟨g4, 0, none⟩) x.berths) := q1
  have Q2 : Hid (SliceC SvcC 2 wC.heap.size wD (some ⟨g5, 0, none⟩) x.services) := q2
  have Q3 : Hid (SliceC CpyC 12 wC.heap.size wD (some ⟨g6, 0, none⟩) x.copies) := q3
  clear hbD q1 q2 q3 f0 f1 f2 f3 H3C HMC HFC HBC
  go_wp2_with fail
  refine (implQueue_any x (some ⟨g4, 0, none⟩) x.berths.length (some ⟨g5, 0, none⟩) x.services.length (some ⟨g6, 0, none⟩) x.copies.length wC.heap.size _ Q1.out Q2.out Q3.out (len_b HM.out) (len_s HM.out) (len_c HM.out)).mono ?_
  rintro e wE ⟨ah, ch, rfl, hsh, hbE⟩
  have H3E : Hid (Below w3.heap.size w3 wE) := H3D.out.trans (hbE.mono H3D.out.size)
  have HME : Hid (MarkedS wE ag (queL x).length 1) := HMD.out.below hbE
  have HHE : Hid (SliceC StrC 1 (wD.heap.size + 1) wE ah (queL x)) := hsh
  clear hbE hsh H3D HMD Q1 Q2 Q3
  go_wp2_with fail
  refine (eqStrS_any (queL x) ah aw ch cw (wD.heap.size + 1) (w2.heap.size + 1) _ HHE.out (HW.out.below StrC.holds H3E.out (Nat.le_refl _)) RS.out.1).mono ?_
  rintro e wF ⟨rfl, hbF⟩
  have H3F : Hid (Below w3.heap.size w3 wF) := H3E.out.trans (hbF.mono H3E.out.size)
  have HMF : Hid (MarkedS wF ag (queL x).length 1) := HME.out.below hbF
  clear hbF H3E HME HHE
  go_wp2_with fail
  refine (heldStrS_any ag (queL x).length cg 1 _ HMF.out (by omega) (by have := RS.out.2.1; omega)).mono ?_
  rintro e wG ⟨rfl, hbG⟩
  have HBG : Hid (Below w.heap.size w wG) := HB3.out.trans ((H3F.out.trans (hbG.mono H3F.out.size)).mono (by omega))
  clear hbG H3F HMF
  go_wp2_with fail
  go_ret
  exact ⟨rfl, HBG.out⟩

end Go.Proofs.YtggbhggnemlpnaaGreat
