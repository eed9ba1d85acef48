/-
  Walk: the law.
-/
import Derived.Test.YtlonkhcbmminoaaCmi
namespace Go.Proofs.Ytlonkhcbmminoaa
open Go.RowKit

set_option maxHeartbeats 2000000 in
theorem law_any (xs ys : List Int) (a a' : Option Addr) (cap cap' lo : Nat) (w : World) (hg : SliceC IntC 1 lo w a xs) (hh : SliceC IntC 1 lo w a' ys) :
    Calls Try.prog 3 #[.slice a xs.length cap, .slice a' ys.length cap'] w fun e w' => e = .returned (.bool true) ∧ Below w.heap.size w w' := by
  have hl1 := hg.1
  have hl2 := hh.1
  unfold maxLen at hl1 hl2
  have HG : Hid (SliceC IntC 1 lo w a xs) := hg
  have HH : Hid (SliceC IntC 1 lo w a' ys) := hh
  clear hg hh
  by_cases hb1 : (1048576 : Int) < xs.length
  · go_enter Try.func3, Try.ntmps3
    go_wp2_with fail
    go_ret
    exact ⟨rfl, by go_grown⟩
  by_cases hb2 : (1048576 : Int) < ys.length
  · go_enter Try.func3, Try.ntmps3
    go_wp2_with fail
    go_ret
    exact ⟨rfl, by go_grown⟩
  go_enter Try.func3, Try.ntmps3
  go_wp2_with fail
  refine (toIntS_any xs _ _ lo _ HG.out (by omega)).mono ?_
  rintro e w1 ⟨g1, rfl, hg1, hs1, b1⟩
  have HS1 : Hid (SliceC IntC 1 w.heap.size w1 (some ⟨g1, 0, none⟩) xs) := hs1
  have HB1 : Hid (Below w.heap.size w w1) := b1
  clear hs1 b1 hg1
  go_wp2_with fail
  refine (toIntS_any ys _ _ lo _ (HH.out.below IntC.holds HB1.out (Nat.le_refl _)) (by omega)).mono ?_
  rintro e w2 ⟨g2, rfl, hg2, hs2, b2⟩
  have HS2 : Hid (SliceC IntC 1 w1.heap.size w2 (some ⟨g2, 0, none⟩) ys) := hs2
  have HS1' : Hid (SliceC IntC 1 w.heap.size w2 (some ⟨g1, 0, none⟩) xs) := HS1.out.below IntC.holds b2 (Nat.le_refl _)
  have HB2 : Hid (Below w.heap.size w w2) := HB1.out.trans (b2.mono HB1.out.size)
  clear hs2 b2 hg2 HS1 HB1
  go_wp2_with fail
  refine (specLess_any xs ys _ _ _ _ w.heap.size w1.heap.size _ HS1'.out HS2.out).mono ?_
  rintro e w3 ⟨rfl, b3⟩
  have HB3 : Hid (Below w.heap.size w w3) := HB2.out.trans (b3.mono HB2.out.size)
  clear b3 HB2 HS1' HS2
  go_wp2_with fail
  refine (toIntS_any xs _ _ lo _ (HG.out.below IntC.holds HB3.out (Nat.le_refl _)) (by omega)).mono ?_
  rintro e w4 ⟨g4, rfl, hg4, hs4, b4⟩
  have HS4 : Hid (SliceC IntC 1 w3.heap.size w4 (some ⟨g4, 0, none⟩) xs) := hs4
  have HB4 : Hid (Below w.heap.size w w4) := HB3.out.trans (b4.mono HB3.out.size)
  clear hs4 b4 hg4 HB3
  go_wp2_with fail
  refine (toIntS_any ys _ _ lo _ (HH.out.below IntC.holds HB4.out (Nat.le_refl _)) (by omega)).mono ?_
  rintro e w5 ⟨g5, rfl, hg5, hs5, b5⟩
  have HS5 : Hid (SliceC IntC 1 w4.heap.size w5 (some ⟨g5, 0, none⟩) ys) := hs5
  have HS4' : Hid (SliceC IntC 1 w3.heap.size w5 (some ⟨g4, 0, none⟩) xs) := HS4.out.below IntC.holds b5 (Nat.le_refl _)
  have HB5 : Hid (Below w.heap.size w w5) := HB4.out.trans (b5.mono HB4.out.size)
  clear hs5 b5 hg5 HB4 HS4
  go_wp2_with fail
  refine (implLess_any xs ys _ _ _ _ w3.heap.size w4.heap.size _ HS4'.out HS5.out).mono ?_
  rintro e w6 ⟨rfl, b6⟩
  have HS5' : Hid (SliceC IntC 1 w4.heap.size w6 (some ⟨g5, 0, none⟩) ys) := HS5.out.below IntC.holds b6 (Nat.le_refl _)
  have HS4'' : Hid (SliceC IntC 1 w3.heap.size w6 (some ⟨g4, 0, none⟩) xs) := HS4'.out.below IntC.holds b6 (Nat.le_refl _)
  have HB6 : Hid (Below w.heap.size w w6) := HB5.out.trans (b6.mono HB5.out.size)
  clear b6 HB5 HS5 HS4'
  generalize lessL xs ys = r
  go_wp2_with fail
  refine (toIntS_any xs _ _ lo _ (HG.out.below IntC.holds HB6.out (Nat.le_refl _)) (by omega)).mono ?_
  rintro e w7 ⟨g7, rfl, hg7, hs7, b7⟩
  have HS7 : Hid (SliceC IntC 1 w6.heap.size w7 (some ⟨g7, 0, none⟩) xs) := hs7
  have HS4 : Hid (SliceC IntC 1 w3.heap.size w7 (some ⟨g4, 0, none⟩) xs) := HS4''.out.below IntC.holds b7 (Nat.le_refl _)
  have HS5 : Hid (SliceC IntC 1 w4.heap.size w7 (some ⟨g5, 0, none⟩) ys) := HS5'.out.below IntC.holds b7 (Nat.le_refl _)
  have HB7 : Hid (Below w.heap.size w w7) := HB6.out.trans (b7.mono HB6.out.size)
  clear hs7 b7 hg7 HB6 HS4'' HS5'
  go_wp2_with fail
  refine (eqIntS_any xs _ _ _ _ w3.heap.size w6.heap.size _ HS4.out HS7.out (by omega)).mono ?_
  rintro e w8 ⟨rfl, b8⟩
  have HS5' : Hid (SliceC IntC 1 w4.heap.size w8 (some ⟨g5, 0, none⟩) ys) := HS5.out.below IntC.holds b8 (Nat.le_refl _)
  have HB8 : Hid (Below w.heap.size w w8) := HB7.out.trans (b8.mono HB7.out.size)
  clear b8 HB7 HS5 HS4 HS7
  go_wp2_with fail
  refine (toIntS_any ys _ _ lo _ (HH.out.below IntC.holds HB8.out (Nat.le_refl _)) (by omega)).mono ?_
  rintro e w9 ⟨g9, rfl, hg9, hs9, b9⟩
  have HS9 : Hid (SliceC IntC 1 w8.heap.size w9 (some ⟨g9, 0, none⟩) ys) := hs9
  have HS5 : Hid (SliceC IntC 1 w4.heap.size w9 (some ⟨g5, 0, none⟩) ys) := HS5'.out.below IntC.holds b9 (Nat.le_refl _)
  have HB9 : Hid (Below w.heap.size w w9) := HB8.out.trans (b9.mono HB8.out.size)
  clear hs9 b9 hg9 HB8 HS5'
  go_wp2_with fail
  refine (eqIntS_any ys _ _ _ _ w4.heap.size w8.heap.size _ HS5.out HS9.out (by omega)).mono ?_
  rintro e w10 ⟨rfl, b10⟩
  have HB10 : Hid (Below w.heap.size w w10) := HB9.out.trans (b10.mono HB9.out.size)
  clear b10 HB9
  go_wp2_with fail
  go_ret
  exact ⟨rfl, HB10.out⟩

end Go.Proofs.Ytlonkhcbmminoaa
