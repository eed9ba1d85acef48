/-
  Walks over FleetRan: sizes, copies, equality. Made by mk.py.
-/
import Derived.Test.YtlegklkbmifdeaaShp
namespace Go.Proofs.Ytlegklkbmifdeaa
open Go.RowKit

structure Ran where
  copy : ByteArray
  version : Int
  state : Int

def wRan (x : Ran) : Nat := x.copy.size

/-- what its cells hold -/
def RanC : Make Ran := fun _ _ f x => f 0 = some (.string x.copy) ∧ f 1 = some (.int .i64 x.version) ∧ f 2 = some (.int .i64 x.state) ∧ x.copy.size ≤ maxLen

theorem RanC.holds : Holds RanC 3 := by
  rintro lo lo' w w' f g x h _ _ ⟨q0, q1, q2, z0⟩
  exact ⟨(h 0 (by omega)).trans q0, (h 1 (by omega)).trans q1, (h 2 (by omega)).trans q2, z0⟩

theorem isz_Ran : (Try.prog.info? 52).map (·.size) = some 3 := by kernel_rfl

set_option maxHeartbeats 2000000 in
theorem eqRan_any (x : Ran) (w : World) :
    Calls Try.prog 49 #[.agg #[.string x.copy, .int .i64 x.version, .int .i64 x.state], .agg #[.string x.copy, .int .i64 x.version, .int .i64 x.state]] w fun e w' => e = .returned (.bool true) ∧ Below w.heap.size w w' := by
  go_enter Try.func49, Try.ntmps49
  go_wp2
  go_ret
  exact ⟨rfl, by go_grown⟩

theorem info_Ran : (Try.prog.info? 52).map (fun i => (i.zero, i.size, i.bytes)) = some (some (.agg #[.string ⟨#[]⟩, .int .i64 0, .int .i64 0]), 3, 32) := by kernel_rfl

set_option maxHeartbeats 2000000 in
theorem eqRanS_any (xs : List Ran) (a a' : Option Addr) (cap cap' lo lo' : Nat) (w : World) (hg : SliceC RanC 3 lo w a xs) (hh : SliceC RanC 3 lo' w a' xs) (hsm : wS wRan xs ≤ 1048576) :
    Calls Try.prog 22 #[.slice a xs.length cap, .slice a' xs.length cap'] w fun e w' => e = .returned (.bool true) ∧ Below w.heap.size w w' := by
  have hlen : xs.length ≤ 1048576 := Nat.le_trans wS_len hsm
  have HG : Hid (SliceC RanC 3 lo w a xs) := hg
  have HH : Hid (SliceC RanC 3 lo' w a' xs) := hh
  clear hg hh hsm
  go_enter Try.func22, Try.ntmps22
  go_wp2_with fail
  go_loopw [5] (fun i wr => ∃ (k : Nat), k ≤ xs.length ∧ i = .int .i64 k ∧ Below w.heap.size w wr) (fun i _ => xs.length - (intOf i).toNat)
  case atStart => exact ⟨0, Nat.zero_le _, rfl, Below.refl _ _⟩
  case round =>
    obtain ⟨k, hk, rfl, hbel⟩ := hrel
    by_cases hlt : k < xs.length
    · obtain ⟨x, hx⟩ : ∃ x, xs[k]? = some x := ⟨xs[k], List.getElem?_eq_getElem hlt⟩
      obtain ⟨b, o, rfl, _, _, hc⟩ := (HG.out.below RanC.holds hbel (Nat.le_refl _)).at hx
      obtain ⟨b', o', rfl, _, _, hc'⟩ := (HH.out.below RanC.holds hbel (Nat.le_refl _)).at hx
      obtain ⟨q0, q1, q2, _⟩ := hc
      obtain ⟨r0, r1, r2, _⟩ := hc'
      simp only [Nat.add_zero] at q0 q1 q2 r0 r1 r2
      have k0 := cell_regrown q0
      have l0 := cell_regrown r0
      have k1 := cell_regrown q1
      have l1 := cell_regrown r1
      have k2 := cell_regrown q2
      have l2 := cell_regrown r2
      have cE : ∀ d os, Calls Try.prog 49 #[.agg #[.string x.copy, .int .i64 x.version, .int .i64 x.state], .agg #[.string x.copy, .int .i64 x.version, .int .i64 x.state]] (Sort.grow (redrawn wr d) os) fun e w'' => e = .returned (.bool true) ∧ ∃ p : Regrown, w'' = Sort.grow (redrawn wr p.d) p.os := fun d os => Calls.regrown_of (eqRan_any x _)
      have i0 : (0 : Int) ≤ (k : Int) := by omega
      have i1 : (k : Int) < (xs.length : Int) := by omega
      clear hx q0 q1 q2 r0 r1 r2 
      go_wp2_with fail
      refine wp_region_quiet_below (by kernel_rfl) (by kernel_rfl) ?_
      repeat (quiet_step (first | exact cE _ _))
      refine wpQuiet_nil ?_
      intro _ hw'
      obtain ⟨⟨dq, osq⟩, hw''⟩ := hw'
      have hB := hbel.trans ((below_regrown wr dq osq).mono hbel.size)
      simp only [] at hw''
      rw [← hw''] at hB
      clear hw'' cE k0 l0 k1 l1 k2 l2
      go_wp2_with fail
      go_roundw
      case rel => exact ⟨k + 1, by omega, by go_num, hB⟩
      case measure => simp [intOf]; omega
    · go_wp2_with fail
      go_ret
      exact ⟨rfl, hbel⟩

end Go.Proofs.Ytlegklkbmifdeaa
