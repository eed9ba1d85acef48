/-
  Lists of numbers in memory.
-/
import Derived.Test.YtlonkhcbmminoaaShp
namespace Go.Proofs.Ytlonkhcbmminoaa
open Go.RowKit

/-- a number -/
def IntC : Make Int := fun _ _ f x => f 0 = some (.int .i64 x)

theorem IntC.holds : Holds IntC 1 := fun _ _ _ _ f g x h _ _ c => (h 0 (by omega)).trans c

theorem info_int : (Try.prog.info? 3).map (fun i => (i.zero, i.size, i.bytes)) = some (some (.int .i64 0), 1, 8) := by kernel_rfl

set_option maxHeartbeats 1000000 in
theorem toIntS_any (xs : List Int) (a : Option Addr) (cap lo : Nat) (w : World) (hin : SliceC IntC 1 lo w a xs) (hsm : xs.length ≤ 1048576) :
    Calls Try.prog 5 #[.slice a xs.length cap] w fun e w' => ∃ g, e = .returned (.slice (some ⟨g, 0, none⟩) xs.length xs.length) ∧ w.heap.size ≤ g ∧ SliceC IntC 1 w.heap.size w' (some ⟨g, 0, none⟩) xs ∧ Below w.heap.size w w' := by
  obtain ⟨i0, hi, hz0, hz1, hz2⟩ := info_parts info_int
  have HI : Hid (SliceC IntC 1 lo w a xs) := hin
  clear hin
  go_enter Try.func5, Try.ntmps5
  go_wp2_with (at_make; refine wpList_make_full _ rfl _ _ 22 rfl w.heap.size 3 i0 _ 1 Try.underlying22 hi hz0 hz1 .i64 .i64 _ _ xs.length rfl rfl rfl rfl (by rw [hz2]; omega) (by unfold maxLen; omega) (Nat.le_refl _) ?_; intro w1 hown hgrow)
  have hb1 : Below w.heap.size w w1 := (Below.refl _ _).grown hgrow (Nat.le_refl _) (fun k h => by cases h)
  generalize hX : (madeCells _ (xs.length * 1)).toList = xs0 at hown
  clear hX hgrow hi hz0 hz1 hz2
  go_loopw [4] (fun i wr => ∃ (k : Nat) (cs : List Value), k ≤ xs.length ∧ i = .int .i64 k ∧ wr.ownsRow w.heap.size 3 1 (.slice (some ⟨w.heap.size, 0, none⟩) xs.length xs.length) xs.length cs ∧ RowC IntC 1 (w.heap.size + 1) wr cs xs k ∧ Below w.heap.size w wr) (fun i _ => xs.length - (intOf i).toNat)
  case atStart => exact ⟨0, xs0, Nat.zero_le _, rfl, hown, fun j n h => by omega, hb1⟩
  case round =>
    clear hown hb1
    obtain ⟨k, cs, hk, rfl, hown, hfil, hbel⟩ := hrel
    by_cases hlt : k < xs.length
    · obtain ⟨x, hx⟩ : ∃ x, xs[k]? = some x := ⟨xs[k], List.getElem?_eq_getElem hlt⟩
      obtain ⟨b, o, rfl, _, _, hc⟩ := (HI.out.below IntC.holds hbel (Nat.le_refl _)).at hx
      have r0 : _ = _ := hc
      simp only [Nat.mul_one, Nat.add_zero] at r0
      have HN : Hid (xs[k]? = some x) := hx
      have HO : Hid (wr.ownsRow w.heap.size 3 1 (.slice (some ⟨w.heap.size, 0, none⟩) xs.length xs.length) xs.length cs) := hown
      have HF : Hid (RowC IntC 1 (w.heap.size + 1) wr cs xs k) := hfil
      have hxl : cs.length = xs.length * 1 := hown.1
      obtain ⟨v0, c0⟩ : ∃ v, wr.cell? ⟨w.heap.size, k, none⟩ = some v := ⟨_, (hown.cellAt k (by omega)).trans (List.getElem?_eq_getElem (by omega))⟩
      have f0 := hown.frozenAt k
      have HL : Hid (cs.length = xs.length * 1) := hxl
      clear hx hown hfil hxl
      go_wp2_with fail
      go_roundw
      case rel =>
        have s0 := (HO.out.stored k (.int .i64 x)).1
        refine ⟨k + 1, _, by omega, by go_num, s0, ?_, hbel.setCell (Nat.le_refl _) _⟩
        have h1 := HF.out.step (vs := [.int .i64 x]) IntC.holds HN.out rfl (by have := HL.out; omega) rfl
        simp only [Nat.mul_one] at h1
        exact h1.keep IntC.holds (Keeps.set (by show w.heap.size < _; omega) _)
      case measure => simp [intOf]; omega
    · have HO : Hid (wr.ownsRow w.heap.size 3 1 (.slice (some ⟨w.heap.size, 0, none⟩) xs.length xs.length) xs.length cs) := hown
      have HF : Hid (RowC IntC 1 (w.heap.size + 1) wr cs xs k) := hfil
      clear hown hfil
      go_wp2_with fail
      go_ret
      have hke : k = xs.length := by omega
      subst hke
      exact ⟨_, rfl, Nat.le_refl _, sliceC_of_row HO.out HF.out IntC.holds HI.out.1 (by omega) (Nat.le_refl _), hbel⟩

set_option maxHeartbeats 1000000 in
theorem eqIntS_any (xs : List Int) (a a' : Option Addr) (cap cap' lo lo' : Nat) (w : World) (hg : SliceC IntC 1 lo w a xs) (hh : SliceC IntC 1 lo' w a' xs) (hsm : xs.length ≤ 1048576) :
    Calls Try.prog 7 #[.slice a xs.length cap, .slice a' xs.length cap'] w fun e w' => e = .returned (.bool true) ∧ Below w.heap.size w w' := by
  have HG : Hid (SliceC IntC 1 lo w a xs) := hg
  have HH : Hid (SliceC IntC 1 lo' w a' xs) := hh
  clear hg hh
  go_enter Try.func7, Try.ntmps7
  go_wp2_with fail
  go_loopw [5] (fun i wr => ∃ (k : Nat), k ≤ xs.length ∧ i = .int .i64 k ∧ Below w.heap.size w wr) (fun i _ => xs.length - (intOf i).toNat)
  case atStart => exact ⟨0, Nat.zero_le _, rfl, Below.refl _ _⟩
  case round =>
    obtain ⟨k, hk, rfl, hbel⟩ := hrel
    by_cases hlt : k < xs.length
    · obtain ⟨x, hx⟩ : ∃ x, xs[k]? = some x := ⟨xs[k], List.getElem?_eq_getElem hlt⟩
      obtain ⟨b, o, rfl, _, _, hc⟩ := (HG.out.below IntC.holds hbel (Nat.le_refl _)).at hx
      obtain ⟨b', o', rfl, _, _, hc'⟩ := (HH.out.below IntC.holds hbel (Nat.le_refl _)).at hx
      have r0 : _ = _ := hc
      have t0 : _ = _ := hc'
      simp only [Nat.mul_one, Nat.add_zero] at r0 t0
      have i0 : (0 : Int) ≤ (k : Int) := by omega
      have i1 : (k : Int) < (xs.length : Int) := by omega
      clear hx
      go_wp2_with fail
      go_region
      go_wp2_with fail
      go_roundw
      case rel => exact ⟨k + 1, by omega, by go_num, by go_grown⟩
      case measure => simp [intOf]; omega
    · go_wp2_with fail
      go_ret
      exact ⟨rfl, hbel⟩

end Go.Proofs.Ytlonkhcbmminoaa
