/-
  Several texts in one: Grt, Wnt.
-/
import Derived.Test.YtebcocejgenadaaGreatShp
namespace Go.Proofs.YtebcocejgenadaaGreat
open Go.RowKit

structure Grt where
  hold : ByteArray
  berth : ByteArray
  copy : ByteArray
  at_ : Int
  until_ : Int

def wGrt (x : Grt) : Nat := x.hold.size + x.berth.size + x.copy.size

/-- what its cells hold -/
def GrtC : Make Grt := fun _ _ f x => f 0 = some (.string x.hold) ∧ f 1 = some (.string x.berth) ∧ f 2 = some (.string x.copy) ∧ f 3 = some (.int .i64 x.at_) ∧ f 4 = some (.int .i64 x.until_) ∧ x.hold.size ≤ maxLen ∧ x.berth.size ≤ maxLen ∧ x.copy.size ≤ maxLen

theorem GrtC.holds : Holds GrtC 5 := by
  rintro lo lo' w w' f g x h _ _ ⟨q0, q1, q2, q3, q4, z0, z1, z2⟩
  exact ⟨(h 0 (by omega)).trans q0, (h 1 (by omega)).trans q1, (h 2 (by omega)).trans q2, (h 3 (by omega)).trans q3, (h 4 (by omega)).trans q4, z0, z1, z2⟩

theorem isz_Grt : (Tryz.prog.info? 68).map (·.size) = some 5 := by kernel_rfl

set_option maxHeartbeats 2000000 in
theorem eqGrt_any (x : Grt) (w : World) :
    Calls Tryz.prog 55 #[.agg #[.string x.hold, .string x.berth, .string x.copy, .int .i64 x.at_, .int .i64 x.until_], .agg #[.string x.hold, .string x.berth, .string x.copy, .int .i64 x.at_, .int .i64 x.until_]] w fun e w' => e = .returned (.bool true) ∧ Below w.heap.size w w' := by
  go_enter Tryz.func55, Tryz.ntmps55
  go_wp2
  go_ret
  exact ⟨rfl, by go_grown⟩

theorem info_Grt : (Tryz.prog.info? 68).map (fun i => (i.zero, i.size, i.bytes)) = some (some (.agg #[.string ⟨#[]⟩, .string ⟨#[]⟩, .string ⟨#[]⟩, .int .i64 0, .int .i64 0]), 5, 64) := by kernel_rfl

set_option maxHeartbeats 2000000 in
theorem eqGrtS_any (xs : List Grt) (a a' : Option Addr) (cap cap' lo lo' : Nat) (w : World) (hg : SliceC GrtC 5 lo w a xs) (hh : SliceC GrtC 5 lo' w a' xs) (hsm : wS wGrt xs ≤ 1048576) :
    Calls Tryz.prog 31 #[.slice a xs.length cap, .slice a' xs.length cap'] w fun e w' => e = .returned (.bool true) ∧ Below w.heap.size w w' := by
  have hlen : xs.length ≤ 1048576 := Nat.le_trans wS_len hsm
  have HG : Hid (SliceC GrtC 5 lo w a xs) := hg
  have HH : Hid (SliceC GrtC 5 lo' w a' xs) := hh
  clear hg hh hsm
  go_enter Tryz.func31, Tryz.ntmps31
  go_wp2_with fail
  go_loopw [5] (fun i wr => ∃ (k : Nat), k ≤ xs.length ∧ i = .int .i64 k ∧ Below w.heap.size w wr) (fun i _ => xs.length - (intOf i).toNat)
  case atStart => exact ⟨0, Nat.zero_le _, rfl, Below.refl _ _⟩
  case round =>
    obtain ⟨k, hk, rfl, hbel⟩ := hrel
    by_cases hlt : k < xs.length
    · obtain ⟨x, hx⟩ : ∃ x, xs[k]? = some x := ⟨xs[k], List.getElem?_eq_getElem hlt⟩
      obtain ⟨b, o, rfl, _, _, hc⟩ := (HG.out.below GrtC.holds hbel (Nat.le_refl _)).at hx
      obtain ⟨b', o', rfl, _, _, hc'⟩ := (HH.out.below GrtC.holds hbel (Nat.le_refl _)).at hx
      obtain ⟨q0, q1, q2, q3, q4, _, _, _⟩ := hc
      obtain ⟨r0, r1, r2, r3, r4, _, _, _⟩ := hc'
      simp only [Nat.add_zero] at q0 q1 q2 q3 q4 r0 r1 r2 r3 r4
      have k0 := cell_regrown q0
      have l0 := cell_regrown r0
      have k1 := cell_regrown q1
      have l1 := cell_regrown r1
      have k2 := cell_regrown q2
      have l2 := cell_regrown r2
      have k3 := cell_regrown q3
      have l3 := cell_regrown r3
      have k4 := cell_regrown q4
      have l4 := cell_regrown r4
      have cE : ∀ d os, Calls Tryz.prog 55 #[.agg #[.string x.hold, .string x.berth, .string x.copy, .int .i64 x.at_, .int .i64 x.until_], .agg #[.string x.hold, .string x.berth, .string x.copy, .int .i64 x.at_, .int .i64 x.until_]] (Sort.grow (redrawn wr d) os) fun e w'' => e = .returned (.bool true) ∧ ∃ p : Regrown, w'' = Sort.grow (redrawn wr p.d) p.os := fun d os => Calls.regrown_of (eqGrt_any x _)
      have i0 : (0 : Int) ≤ (k : Int) := by omega
      have i1 : (k : Int) < (xs.length : Int) := by omega
      clear hx q0 q1 q2 q3 q4 r0 r1 r2 r3 r4 
      go_wp2_with fail
      refine wp_region_quiet_below (by kernel_rfl) (by kernel_rfl) ?_
      repeat (quiet_step (first | exact cE _ _))
      refine wpQuiet_nil ?_
      intro _ hw'
      obtain ⟨⟨dq, osq⟩, hw''⟩ := hw'
      have hB := hbel.trans ((below_regrown wr dq osq).mono hbel.size)
      simp only [] at hw''
      rw [← hw''] at hB
      clear hw'' cE k0 l0 k1 l1 k2 l2 k3 l3 k4 l4
      go_wp2_with fail
      go_roundw
      case rel => exact ⟨k + 1, by omega, by go_num, hB⟩
      case measure => simp [intOf]; omega
    · go_wp2_with fail
      go_ret
      exact ⟨rfl, hbel⟩

end Go.Proofs.YtebcocejgenadaaGreat

namespace Go.Proofs.YtebcocejgenadaaGreat
open Go.RowKit

structure Wnt where
  copy : ByteArray
  version : Int
  hold : ByteArray
  pull : Int
  start : Int
  dies : Int
  grace : Int

def wWnt (x : Wnt) : Nat := x.copy.size + x.hold.size

/-- what its cells hold -/
def WntC : Make Wnt := fun _ _ f x => f 0 = some (.string x.copy) ∧ f 1 = some (.int .i64 x.version) ∧ f 2 = some (.string x.hold) ∧ f 3 = some (.int .i64 x.pull) ∧ f 4 = some (.int .i64 x.start) ∧ f 5 = some (.int .i64 x.dies) ∧ f 6 = some (.int .i64 x.grace) ∧ x.copy.size ≤ maxLen ∧ x.hold.size ≤ maxLen

theorem WntC.holds : Holds WntC 7 := by
  rintro lo lo' w w' f g x h _ _ ⟨q0, q1, q2, q3, q4, q5, q6, z0, z2⟩
  exact ⟨(h 0 (by omega)).trans q0, (h 1 (by omega)).trans q1, (h 2 (by omega)).trans q2, (h 3 (by omega)).trans q3, (h 4 (by omega)).trans q4, (h 5 (by omega)).trans q5, (h 6 (by omega)).trans q6, z0, z2⟩

theorem isz_Wnt : (Tryz.prog.info? 79).map (·.size) = some 7 := by kernel_rfl

set_option maxHeartbeats 2000000 in
theorem eqWnt_any (x : Wnt) (w : World) :
    Calls Tryz.prog 70 #[.agg #[.string x.copy, .int .i64 x.version, .string x.hold, .int .i64 x.pull, .int .i64 x.start, .int .i64 x.dies, .int .i64 x.grace], .agg #[.string x.copy, .int .i64 x.version, .string x.hold, .int .i64 x.pull, .int .i64 x.start, .int .i64 x.dies, .int .i64 x.grace]] w fun e w' => e = .returned (.bool true) ∧ Below w.heap.size w w' := by
  go_enter Tryz.func70, Tryz.ntmps70
  go_wp2
  go_ret
  exact ⟨rfl, by go_grown⟩

theorem info_Wnt : (Tryz.prog.info? 79).map (fun i => (i.zero, i.size, i.bytes)) = some (some (.agg #[.string ⟨#[]⟩, .int .i64 0, .string ⟨#[]⟩, .int .i64 0, .int .i64 0, .int .i64 0, .int .i64 0]), 7, 72) := by kernel_rfl

set_option maxHeartbeats 2000000 in
theorem eqWntS_any (xs : List Wnt) (a a' : Option Addr) (cap cap' lo lo' : Nat) (w : World) (hg : SliceC WntC 7 lo w a xs) (hh : SliceC WntC 7 lo' w a' xs) (hsm : wS wWnt xs ≤ 1048576) :
    Calls Tryz.prog 57 #[.slice a xs.length cap, .slice a' xs.length cap'] w fun e w' => e = .returned (.bool true) ∧ Below w.heap.size w w' := by
  have hlen : xs.length ≤ 1048576 := Nat.le_trans wS_len hsm
  have HG : Hid (SliceC WntC 7 lo w a xs) := hg
  have HH : Hid (SliceC WntC 7 lo' w a' xs) := hh
  clear hg hh hsm
  go_enter Tryz.func57, Tryz.ntmps57
  go_wp2_with fail
  go_loopw [5] (fun i wr => ∃ (k : Nat), k ≤ xs.length ∧ i = .int .i64 k ∧ Below w.heap.size w wr) (fun i _ => xs.length - (intOf i).toNat)
  case atStart => exact ⟨0, Nat.zero_le _, rfl, Below.refl _ _⟩
  case round =>
    obtain ⟨k, hk, rfl, hbel⟩ := hrel
    by_cases hlt : k < xs.length
    · obtain ⟨x, hx⟩ : ∃ x, xs[k]? = some x := ⟨xs[k], List.getElem?_eq_getElem hlt⟩
      obtain ⟨b, o, rfl, _, _, hc⟩ := (HG.out.below WntC.holds hbel (Nat.le_refl _)).at hx
      obtain ⟨b', o', rfl, _, _, hc'⟩ := (HH.out.below WntC.holds hbel (Nat.le_refl _)).at hx
      obtain ⟨q0, q1, q2, q3, q4, q5, q6, _, _⟩ := hc
      obtain ⟨r0, r1, r2, r3, r4, r5, r6, _, _⟩ := hc'
      simp only [Nat.add_zero] at q0 q1 q2 q3 q4 q5 q6 r0 r1 r2 r3 r4 r5 r6
      have k0 := cell_regrown q0
      have l0 := cell_regrown r0
      have k1 := cell_regrown q1
      have l1 := cell_regrown r1
      have k2 := cell_regrown q2
      have l2 := cell_regrown r2
      have k3 := cell_regrown q3
      have l3 := cell_regrown r3
      have k4 := cell_regrown q4
      have l4 := cell_regrown r4
      have k5 := cell_regrown q5
      have l5 := cell_regrown r5
      have k6 := cell_regrown q6
      have l6 := cell_regrown r6
      have cE : ∀ d os, Calls Tryz.prog 70 #[.agg #[.string x.copy, .int .i64 x.version, .string x.hold, .int .i64 x.pull, .int .i64 x.start, .int .i64 x.dies, .int .i64 x.grace], .agg #[.string x.copy, .int .i64 x.version, .string x.hold, .int .i64 x.pull, .int .i64 x.start, .int .i64 x.dies, .int .i64 x.grace]] (Sort.grow (redrawn wr d) os) fun e w'' => e = .returned (.bool true) ∧ ∃ p : Regrown, w'' = Sort.grow (redrawn wr p.d) p.os := fun d os => Calls.regrown_of (eqWnt_any x _)
      have i0 : (0 : Int) ≤ (k : Int) := by omega
      have i1 : (k : Int) < (xs.length : Int) := by omega
      clear hx q0 q1 q2 q3 q4 q5 q6 r0 r1 r2 r3 r4 r5 r6 
      go_wp2_with fail
      refine wp_region_quiet_below (by kernel_rfl) (by kernel_rfl) ?_
      repeat (quiet_step (first | exact cE _ _))
      refine wpQuiet_nil ?_
      intro _ hw'
      obtain ⟨⟨dq, osq⟩, hw''⟩ := hw'
      have hB := hbel.trans ((below_regrown wr dq osq).mono hbel.size)
      simp only [] at hw''
      rw [← hw''] at hB
      clear hw'' cE k0 l0 k1 l1 k2 l2 k3 l3 k4 l4 k5 l5 k6 l6
      go_wp2_with fail
      go_roundw
      case rel => exact ⟨k + 1, by omega, by go_num, hB⟩
      case measure => simp [intOf]; omega
    · go_wp2_with fail
      go_ret
      exact ⟨rfl, hbel⟩

end Go.Proofs.YtebcocejgenadaaGreat
