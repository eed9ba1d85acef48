/-
  Walks over MateAsk: sizes, copies, equality. Made by mk.py.
-/
import Derived.Test.YtebcocejgenadaaGreatShp
namespace Go.Proofs.YtebcocejgenadaaGreat
open Go.RowKit

structure Aks where
  hold : ByteArray
  copy : ByteArray
  first : Int
  at_ : Int

def wAks (x : Aks) : Nat := x.hold.size + x.copy.size

/-- what its cells hold -/
def AksC : Make Aks := fun _ _ f x => f 0 = some (.string x.hold) ∧ f 1 = some (.string x.copy) ∧ f 2 = some (.int .i64 x.first) ∧ f 3 = some (.int .i64 x.at_) ∧ x.hold.size ≤ maxLen ∧ x.copy.size ≤ maxLen

theorem AksC.holds : Holds AksC 4 := by
  rintro lo lo' w w' f g x h _ _ ⟨q0, q1, q2, q3, z0, z1⟩
  exact ⟨(h 0 (by omega)).trans q0, (h 1 (by omega)).trans q1, (h 2 (by omega)).trans q2, (h 3 (by omega)).trans q3, z0, z1⟩

theorem isz_Aks : (Tryz.prog.info? 76).map (·.size) = some 4 := by kernel_rfl

set_option maxHeartbeats 2000000 in
theorem eqAks_any (x : Aks) (w : World) :
    Calls Tryz.prog 72 #[.agg #[.string x.hold, .string x.copy, .int .i64 x.first, .int .i64 x.at_], .agg #[.string x.hold, .string x.copy, .int .i64 x.first, .int .i64 x.at_]] w fun e w' => e = .returned (.bool true) ∧ Below w.heap.size w w' := by
  go_enter Tryz.func72, Tryz.ntmps72
  go_wp2
  go_ret
  exact ⟨rfl, by go_grown⟩

theorem info_Aks : (Tryz.prog.info? 76).map (fun i => (i.zero, i.size, i.bytes)) = some (some (.agg #[.string ⟨#[]⟩, .string ⟨#[]⟩, .int .i64 0, .int .i64 0]), 4, 48) := by kernel_rfl

set_option maxHeartbeats 2000000 in
theorem eqAksS_any (xs : List Aks) (a a' : Option Addr) (cap cap' lo lo' : Nat) (w : World) (hg : SliceC AksC 4 lo w a xs) (hh : SliceC AksC 4 lo' w a' xs) (hsm : wS wAks xs ≤ 1048576) :
    Calls Tryz.prog 59 #[.slice a xs.length cap, .slice a' xs.length cap'] w fun e w' => e = .returned (.bool true) ∧ Below w.heap.size w w' := by
  have hlen : xs.length ≤ 1048576 := Nat.le_trans wS_len hsm
  have HG : Hid (SliceC AksC 4 lo w a xs) := hg
  have HH : Hid (SliceC AksC 4 lo' w a' xs) := hh
  clear hg hh hsm
  go_enter Tryz.func59, Tryz.ntmps59
  go_wp2_with fail
  go_loopw [5] (fun i wr => ∃ (k : Nat), k ≤ xs.length ∧ i = .int .i64 k ∧ Below w.heap.size w wr) (fun i _ => xs.length - (intOf i).toNat)
  case atStart => exact ⟨0, Nat.zero_le _, rfl, Below.refl _ _⟩
  case round =>
    obtain ⟨k, hk, rfl, hbel⟩ := hrel
    by_cases hlt : k < xs.length
    · obtain ⟨x, hx⟩ : ∃ x, xs[k]? = some x := ⟨xs[k], List.getElem?_eq_getElem hlt⟩
      obtain ⟨b, o, rfl, _, _, hc⟩ := (HG.out.below AksC.holds hbel (Nat.le_refl _)).at hx
      obtain ⟨b', o', rfl, _, _, hc'⟩ := (HH.out.below AksC.holds hbel (Nat.le_refl _)).at hx
      obtain ⟨q0, q1, q2, q3, _, _⟩ := hc
      obtain ⟨r0, r1, r2, r3, _, _⟩ := hc'
      simp only [Nat.add_zero] at q0 q1 q2 q3 r0 r1 r2 r3
      have k0 := cell_regrown q0
      have l0 := cell_regrown r0
      have k1 := cell_regrown q1
      have l1 := cell_regrown r1
      have k2 := cell_regrown q2
      have l2 := cell_regrown r2
      have k3 := cell_regrown q3
      have l3 := cell_regrown r3
      have cE : ∀ d os, Calls Tryz.prog 72 #[.agg #[.string x.hold, .string x.copy, .int .i64 x.first, .int .i64 x.at_], .agg #[.string x.hold, .string x.copy, .int .i64 x.first, .int .i64 x.at_]] (Sort.grow (redrawn wr d) os) fun e w'' => e = .returned (.bool true) ∧ ∃ p : Regrown, w'' = Sort.grow (redrawn wr p.d) p.os := fun d os => Calls.regrown_of (eqAks_any x _)
      have i0 : (0 : Int) ≤ (k : Int) := by omega
      have i1 : (k : Int) < (xs.length : Int) := by omega
      clear hx q0 q1 q2 q3 r0 r1 r2 r3 
      go_wp2_with fail
      refine wp_region_quiet_below (by kernel_rfl) (by kernel_rfl) ?_
      repeat (quiet_step (first | exact cE _ _))
      refine wpQuiet_nil ?_
      intro _ hw'
      obtain ⟨⟨dq, osq⟩, hw''⟩ := hw'
      have hB := hbel.trans ((below_regrown wr dq osq).mono hbel.size)
      simp only [] at hw''
      rw [← hw''] at hB
      clear hw'' cE k0 l0 k1 l1 k2 l2 k3 l3
      go_wp2_with fail
      go_roundw
      case rel => exact ⟨k + 1, by omega, by go_num, hB⟩
      case measure => simp [intOf]; omega
    · go_wp2_with fail
      go_ret
      exact ⟨rfl, hbel⟩

end Go.Proofs.YtebcocejgenadaaGreat
