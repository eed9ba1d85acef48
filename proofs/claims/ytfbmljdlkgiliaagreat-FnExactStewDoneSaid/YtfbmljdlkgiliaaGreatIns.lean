/-
  Lists of numbers in memory.
-/
import Derived.Test.YtfbmljdlkgiliaaGreatShp
namespace Go.Proofs.YtfbmljdlkgiliaaGreat
open Go.RowKit

/-- a number -/
def IntC : Make Int := fun _ _ f x => f 0 = some (.int .i64 x)

theorem IntC.holds : Holds IntC 1 := fun _ _ _ _ f g x h _ _ c => (h 0 (by omega)).trans c

theorem info_int : (Tryz.prog.info? 3).map (fun i => (i.zero, i.size, i.bytes)) = some (some (.int .i64 0), 1, 8) := by kernel_rfl

set_option maxHeartbeats 1000000 in
theorem eqIntS_any (xs : List Int) (a a' : Option Addr) (cap cap' lo lo' : Nat) (w : World) (hg : SliceC IntC 1 lo w a xs) (hh : SliceC IntC 1 lo' w a' xs) (hsm : xs.length ≤ 1048576) :
    Calls Tryz.prog 12 #[.slice a xs.length cap, .slice a' xs.length cap'] w fun e w' => e = .returned (.bool true) ∧ Below w.heap.size w w' := by
  have HG : Hid (SliceC IntC 1 lo w a xs) := hg
  have HH : Hid (SliceC IntC 1 lo' w a' xs) := hh
  clear hg hh
  go_enter Tryz.func12, Tryz.ntmps12
  go_wp2_with fail
  go_loopw [5] (fun i wr => ∃ (k : Nat), k ≤ xs.length ∧ i = .int .i64 k ∧ Below w.heap.size w wr) (fun i _ => xs.length - (intOf i).toNat)
  case atStart => exact ⟨0, Nat.zero_le _, rfl, Below.refl _ _⟩
  case round =>
    obtain ⟨k, hk, rfl, hbel⟩ := hrel
    by_cases hlt : k < xs.length
    · obtain ⟨x, hx⟩ : ∃ x, xs[k]? = some x := ⟨xs[k], List.getElem?_eq_getElem hlt⟩
      obtain ⟨b, o, rfl, _, _, hc⟩ := (HG.out.below IntC.holds hbel (Nat.le_refl _)).at hx
      obtain ⟨b', o', rfl, _, _, hc'⟩ := (HH.out.below IntC.holds hbel (Nat.le_refl _)).at hx
      have r0 : _ = _ := hc
      have t0 : _ = _ := hc'
      simp only [Nat.mul_one, Nat.add_zero] at r0 t0
      have i0 : (0 : Int) ≤ (k : Int) := by omega
      have i1 : (k : Int) < (xs.length : Int) := by omega
      clear hx
      go_wp2_with fail
      go_region
      go_wp2_with fail
      go_roundw
      case rel => exact ⟨k + 1, by omega, by go_num, by go_grown⟩
      case measure => simp [intOf]; omega
    · go_wp2_with fail
      go_ret
      exact ⟨rfl, hbel⟩

end Go.Proofs.YtfbmljdlkgiliaaGreat
