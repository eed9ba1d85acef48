/-
  Walk: the law of runs watched. Made by mklmd.py.
-/
import Derived.Test.YtlhcadpelcegaaaMw3
import Derived.Test.YtlhcadpelcegaaaMw4
namespace Go.Proofs.Ytlhcadpelcegaaa
open Go.RowKit

theorem Mkd.keeps {lo : Nat} {wx ws w : World} (m : Mkd lo wx ws w) {l : Nat} (h : wx.heap.size ≤ l) : Keeps l ws w := ⟨m.bel.size, fun b o h1 h2 => m.up b o (Nat.le_trans h h1) h2⟩

theorem eqRnN_any (ys : List Rn) (n : Nat) (hn : ys.length = n) (a a' : Option Addr) (cap cap' lo lo' : Nat) (w : World) (hg : SliceC RnC 11 lo w a ys) (hh : SliceC RnC 11 lo' w a' ys) (hsm : wS wRn ys ≤ 1048576) :
    Calls Try.prog 21 #[.slice a n cap, .slice a' n cap'] w fun e w' => e = .returned (.bool true) ∧ Below w.heap.size w w' := by
  subst hn
  exact eqRnS_any ys a a' cap cap' lo lo' w hg hh hsm

theorem markRnN_any (ys : List Rn) (n : Nat) (hn : ys.length = n) (a : Option Addr) (cap lo : Nat) (k : Nat) (wx ws w : World) (hin : SliceC RnC 11 lo wx a ys) (hlo : 0 < lo) (hm : Mkd lo wx ws w) (h0 : 0 < k) (h1 : k + n * 11 ≤ 1073741824) :
    Calls Try.prog 24 #[.slice a n cap, .int .i64 k] w fun e w' => e = .returned (.int .i64 ((k + n * 11 : Nat) : Int)) ∧ MarkedR w' a n k ∧ Mkd lo wx ws w' := by
  subst hn
  exact markRnV_any ys a cap lo k wx ws w hin hlo hm h0 h1

theorem wS_wd (xs : List Rn) (c : Int) : wS wRn (xs.map (wdR · c)) = wS wRn xs := by
  unfold wS
  rw [List.length_map, List.map_map]
  congr 2
  apply List.map_congr_left
  intro x _
  show wRn (wdR x c) = wRn x
  unfold wRn
  rw [wdR_want]

theorem sizes_of {xs : List Rn} (h : wS wRn xs ≤ 1048576) : ∀ x ∈ xs, x.want.copy.size ≤ 1048576 ∧ x.want.hold.size ≤ 1048576 := fun x hx => by
  have := Nat.le_trans (wS_mem (f := wRn) hx) h
  unfold wRn at this
  omega

set_option maxHeartbeats 8000000 in
set_option maxRecDepth 100000 in
theorem law_any (xs : List Rn) (a : Option Addr) (cap : Nat) (c : Int) (lo : Nat) (w : World) (hg : SliceC RnC 11 lo w a xs) :
    Calls Try.prog 6 #[.slice a xs.length cap, .int .i64 c] w fun e w' => e = .returned (.bool true) ∧ Below w.heap.size w w' := by
  have HG : Hid (SliceC RnC 11 lo w a xs) := hg
  clear hg
  go_enter Try.func6, Try.ntmps6
  go_wp2_with fail
  refine (szRnS_any xs a cap lo _ _ HG.out (by omega) (by omega)).mono ?_
  rintro e w0 ⟨rfl, b0⟩
  by_cases d : (wS wRn xs : Int) ≤ 1048576
  case neg =>
    rw [szR_neg d]
    go_wp2_with fail
    go_ret
    exact ⟨rfl, b0⟩
  have HSM : Hid (wS wRn xs ≤ 1048576) := by show _ ≤ _; omega
  have hlen : xs.length ≤ 1048576 := Nat.le_trans wS_len HSM.out
  rw [szR_pos d]
  have HSY : Hid (wS wRn (xs.map (wdR · c)) ≤ 1048576) := by show _ ≤ _; rw [wS_wd]; exact HSM.out
  have HZZ := Hid.intro (sizes_of HSM.out)
  have HYL : Hid ((xs.map (wdR · c)).length = xs.length) := by show _ = _; simp
  generalize wS wRn xs = V at d
  have HB0 := Hid.intro b0
  clear b0
  go_wp2_with fail
  refine (toRnS_any xs _ _ lo _ (HG.out.below RnC.holds HB0.out (Nat.le_refl _)) HSM.out).mono ?_
  rintro e w1 ⟨g1, rfl, _, hs1, b1⟩
  have HS1 := Hid.intro hs1
  have HB1 : Hid (Below w.heap.size w w1) := HB0.out.trans (b1.mono HB0.out.size)
  clear hs1 b1 HB0
  go_wp2_with fail
  refine (specWatch_any xs (some ⟨g1, 0, none⟩) xs.length w0.heap.size c w1 HS1.out hlen).mono ?_
  rintro e w2 ⟨gw, qw, rfl, hsw, hgw, b2⟩
  have HW := Hid.intro hsw
  have HB2 : Hid (Below w.heap.size w w2) := HB1.out.trans (b2.mono HB1.out.size)
  have hp2 : 0 < w2.heap.size := by omega
  clear hsw b2 HB1 HS1 hgw
  go_wp2_with fail
  refine (toRnS_any xs _ _ lo _ (HG.out.below RnC.holds HB2.out (Nat.le_refl _)) HSM.out).mono ?_
  rintro e w3 ⟨g3, rfl, _, hs3, b3⟩
  have HX3 := Hid.intro hs3
  have H23 : Hid (Below w2.heap.size w2 w3) := b3
  have h23 : w2.heap.size ≤ w3.heap.size := b3.size
  clear hs3 b3
  go_wp2_with fail
  refine (implWatch_any xs g3 0 xs.length w2.heap.size c w3 HX3.out hlen HZZ.out).mono ?_
  rintro e w4 ⟨gg, qg, rfl, hsg, hz4, b4⟩
  have HG4 := Hid.intro hsg
  have H34 : Hid (Below w3.heap.size w3 w4) := b4
  clear hsg b4
  go_wp2_with fail
  refine (eqRnN_any _ xs.length HYL.out (some ⟨gg, 0, none⟩) (some ⟨gw, 0, none⟩) qg qw (w3.heap.size + 1) w1.heap.size _ HG4.out (HW.out.below RnC.holds (H23.out.trans (H34.out.mono h23)) (Nat.le_refl _)) HSY.out).mono ?_
  rintro e w5 ⟨rfl, b5⟩
  have H35 : Hid (Below w3.heap.size w3 w5) := H34.out.trans (b5.mono H34.out.size)
  have HG5 := Hid.intro (HG4.out.below RnC.holds b5 (Nat.le_refl _))
  have hz5 : w3.heap.size + 1 ≤ w5.heap.size := Nat.le_trans hz4 b5.size
  clear b5 H34 HG4 hz4
  have HB5 : Hid (Below w.heap.size w w5) := HB2.out.trans ((H23.out.trans (H35.out.mono h23)).mono HB2.out.size)
  go_wp2_with fail
  refine (toRnS_any xs _ _ lo _ (HG.out.below RnC.holds HB5.out (Nat.le_refl _)) HSM.out).mono ?_
  rintro e w6 ⟨g6, rfl, _, hs6, b6⟩
  have HS6 := Hid.intro hs6
  have H36 : Hid (Below w3.heap.size w3 w6) := H35.out.trans (b6.mono H35.out.size)
  have HG6 := Hid.intro (HG5.out.below RnC.holds b6 (Nat.le_refl _))
  have hz6 : w3.heap.size + 1 ≤ w6.heap.size := Nat.le_trans hz5 b6.size
  clear hs6 b6 H35 HG5 hz5 HB5
  go_wp2_with fail
  refine (eqRnS_any xs (some ⟨g3, 0, none⟩) (some ⟨g6, 0, none⟩) xs.length xs.length w2.heap.size w5.heap.size _ (HX3.out.below RnC.holds H36.out (Nat.le_refl _)) HS6.out HSM.out).mono ?_
  rintro e w7 ⟨rfl, b7⟩
  have H37 : Hid (Below w3.heap.size w3 w7) := H36.out.trans (b7.mono H36.out.size)
  have HG7 := Hid.intro (HG6.out.below RnC.holds b7 (Nat.le_refl _))
  have hz7 : w3.heap.size + 1 ≤ w7.heap.size := Nat.le_trans hz6 b7.size
  clear b7 H36 HG6 hz6 HS6
  go_wp2_with fail
  refine (markRnV_any xs (some ⟨g3, 0, none⟩) xs.length w2.heap.size 1 w3 w7 _ HX3.out hp2 (Mkd.start H37.out h23) (by omega) (by omega)).mono ?_
  rintro e w8 ⟨rfl, _, hmk⟩
  have H28 : Hid (Below w2.heap.size w2 w8) := (H23.out.trans (H37.out.mono h23)).trans hmk.bel
  have HG8 : Hid (SliceC RnC 11 (w3.heap.size + 1) w8 (some ⟨gg, 0, none⟩) (xs.map (wdR · c))) := HG7.out.keep RnC.holds (hmk.keeps (Nat.le_succ _)) (Nat.le_refl _)
  have hz8 : w3.heap.size + 1 ≤ w8.heap.size := Nat.le_trans hz7 hmk.bel.size
  clear hmk H37 HG7 hz7 HX3
  go_wp2_with fail
  refine (eqRnN_any _ xs.length HYL.out (some ⟨gg, 0, none⟩) (some ⟨gw, 0, none⟩) qg qw (w3.heap.size + 1) w1.heap.size _ HG8.out (HW.out.below RnC.holds H28.out (Nat.le_refl _)) HSY.out).mono ?_
  rintro e w9 ⟨rfl, b9⟩
  have H29 : Hid (Below w2.heap.size w2 w9) := H28.out.trans (b9.mono H28.out.size)
  have HG9 := Hid.intro (HG8.out.below RnC.holds b9 (Nat.le_refl _))
  have hz9 : w3.heap.size + 1 ≤ w9.heap.size := Nat.le_trans hz8 b9.size
  clear b9 H28 HG8 hz8
  go_wp2_with fail
  refine (markRnN_any _ xs.length HYL.out (some ⟨gg, 0, none⟩) qg (w3.heap.size + 1) 1 w9 w9 _ HG9.out (by omega) (Mkd.start (Below.refl _ _) hz9) (by omega) (by omega)).mono ?_
  rintro e wA ⟨rfl, hmA, hmk⟩
  have HMA := Hid.intro hmA
  have H2A : Hid (Below w2.heap.size w2 wA) := H29.out.trans (hmk.bel.mono (by omega))
  clear hmA hmk H29 HG9 hz9
  go_wp2_with fail
  refine (heldRnS_any (some ⟨gg, 0, none⟩) xs.length qg 1 _ HMA.out (by omega) (by omega)).mono ?_
  rintro e wB ⟨rfl, bB⟩
  have HMB := Hid.intro (HMA.out.below bB)
  have H2B : Hid (Below w2.heap.size w2 wB) := H2A.out.trans (bB.mono H2A.out.size)
  have HBB : Hid (Below w.heap.size w wB) := HB2.out.trans (H2B.out.mono HB2.out.size)
  clear bB HMA H2A
  go_wp2_with fail
  refine (toRnS_any xs _ _ lo _ (HG.out.below RnC.holds HBB.out (Nat.le_refl _)) HSM.out).mono ?_
  rintro e wC ⟨gC, rfl, _, hsC, bC⟩
  have HSC := Hid.intro hsC
  have HMC := Hid.intro (HMB.out.below bC)
  have H2C : Hid (Below w2.heap.size w2 wC) := H2B.out.trans (bC.mono H2B.out.size)
  clear hsC bC HMB H2B HBB
  go_wp2_with fail
  refine (implWatch_any xs gC 0 xs.length wB.heap.size c wC HSC.out hlen HZZ.out).mono ?_
  rintro e wD ⟨gD, qD, rfl, hsD, _, bD⟩
  have HSD := Hid.intro hsD
  have HMD := Hid.intro (HMC.out.below bD)
  have H2D : Hid (Below w2.heap.size w2 wD) := H2C.out.trans (bD.mono H2C.out.size)
  clear hsD bD HMC H2C HSC
  go_wp2_with fail
  refine (eqRnN_any _ xs.length HYL.out (some ⟨gD, 0, none⟩) (some ⟨gw, 0, none⟩) qD qw (wC.heap.size + 1) w1.heap.size _ HSD.out (HW.out.below RnC.holds H2D.out (Nat.le_refl _)) HSY.out).mono ?_
  rintro e wE ⟨rfl, bE⟩
  have HME := Hid.intro (HMD.out.below bE)
  have H2E : Hid (Below w2.heap.size w2 wE) := H2D.out.trans (bE.mono H2D.out.size)
  clear bE HMD H2D HSD
  go_wp2_with fail
  refine (heldRnS_any (some ⟨gg, 0, none⟩) xs.length qg 1 _ HME.out (by omega) (by omega)).mono ?_
  rintro e wF ⟨rfl, bF⟩
  have HBF : Hid (Below w.heap.size w wF) := HB2.out.trans ((H2E.out.trans (bF.mono H2E.out.size)).mono HB2.out.size)
  clear bF HME H2E
  go_wp2_with fail
  go_ret
  exact ⟨rfl, HBF.out⟩

end Go.Proofs.Ytlhcadpelcegaaa
