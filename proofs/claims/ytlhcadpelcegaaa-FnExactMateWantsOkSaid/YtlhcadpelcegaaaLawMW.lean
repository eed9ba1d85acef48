/-
  Walk: the law. Made by mklmr.py.
-/
import Derived.Test.YtlhcadpelcegaaaMt8
namespace Go.Proofs.Ytlhcadpelcegaaa
open Go.RowKit

set_option maxHeartbeats 2000000 in
theorem law_any (xs : List Wnt) (a : Option Addr) (cap : Nat) (lo : Nat) (w : World) (hg : SliceC WntC 7 lo w a xs) :
    Calls Try.prog 3 #[.slice a xs.length cap] w fun e w' => e = .returned (.bool true) ∧ Below w.heap.size w w' := by
  have HG : Hid (SliceC WntC 7 lo w a xs) := hg
  clear hg
  go_enter Try.func3, Try.ntmps3
  go_wp2_with fail
  refine (szWntS_any xs a cap lo _ _ HG.out (by omega) (by omega)).mono ?_
  rintro e w0 ⟨rfl, b0⟩
  by_cases d : (wS wWnt xs : Int) ≤ 1048576
  case neg =>
    rw [szR_neg d]
    go_wp2_with fail
    go_ret
    exact ⟨rfl, b0⟩
  have HSM : Hid (wS wWnt xs ≤ 1048576) := by show _ ≤ _; omega
  have hlen : xs.length ≤ 1048576 := Nat.le_trans wS_len HSM.out
  rw [szR_pos d]
  generalize wS wWnt xs = V at d
  have HB0 := Hid.intro b0
  clear b0
  go_wp2_with fail
  refine (toWntS_any xs _ _ lo _ (HG.out.below WntC.holds HB0.out (Nat.le_refl _)) HSM.out).mono ?_
  rintro e w1 ⟨g1, rfl, _, hs1, b1⟩
  have HS1 := Hid.intro hs1
  have HB1 : Hid (Below w.heap.size w w1) := HB0.out.trans (b1.mono HB0.out.size)
  clear hs1 b1 HB0
  go_wp2_with fail
  refine (specWantsOk_any xs _ _ _ _ HS1.out hlen).mono ?_
  rintro e w2 ⟨rfl, b2⟩
  have HB2 : Hid (Below w.heap.size w w2) := HB1.out.trans (b2.mono HB1.out.size)
  clear b2 HB1 HS1
  go_wp2_with fail
  refine (toWntS_any xs _ _ lo _ (HG.out.below WntC.holds HB2.out (Nat.le_refl _)) HSM.out).mono ?_
  rintro e w3 ⟨g3, rfl, _, hs3, b3⟩
  have HS3 := Hid.intro hs3
  have HB3 : Hid (Below w.heap.size w w3) := HB2.out.trans (b3.mono HB2.out.size)
  clear hs3 b3 HB2
  go_wp2_with fail
  refine (implWantsOk_any xs _ _ _ _ HS3.out hlen).mono ?_
  rintro e w4 ⟨rfl, b4⟩
  have HS4 := Hid.intro (HS3.out.below WntC.holds b4 (Nat.le_refl _))
  have HB4 : Hid (Below w.heap.size w w4) := HB3.out.trans (b4.mono HB3.out.size)
  clear b4 HB3 HS3
  generalize wsB xs = r
  go_wp2_with fail
  refine (toWntS_any xs _ _ lo _ (HG.out.below WntC.holds HB4.out (Nat.le_refl _)) HSM.out).mono ?_
  rintro e w5 ⟨g5, rfl, _, hs5, b5⟩
  have HS5 := Hid.intro hs5
  have HS6 := Hid.intro (HS4.out.below WntC.holds b5 (Nat.le_refl _))
  have HB5 : Hid (Below w.heap.size w w5) := HB4.out.trans (b5.mono HB4.out.size)
  clear hs5 b5 HB4 HS4
  go_wp2_with fail
  refine (eqWntS_any xs _ _ _ _ _ _ _ HS6.out HS5.out HSM.out).mono ?_
  rintro e w6 ⟨rfl, b6⟩
  have HB6 : Hid (Below w.heap.size w w6) := HB5.out.trans (b6.mono HB5.out.size)
  clear b6 HB5 HS6 HS5
  go_wp2_with fail
  go_ret
  exact ⟨rfl, HB6.out⟩

end Go.Proofs.Ytlhcadpelcegaaa
