/-
  Walks over MateRun: sizes, copies, equality. Made by mk.py.
-/
import Derived.Test.YtebcocejgenadaaGreatJ1
namespace Go.Proofs.YtebcocejgenadaaGreat
open Go.RowKit

structure Rn where
  want : Wnt
  state : Int
  left : Int
  falls : Int
  until_ : Int

def wRn (x : Rn) : Nat := x.want.copy.size + x.want.hold.size

/-- what its cells hold -/
def RnC : Make Rn := fun _ _ f x => f 0 = some (.string x.want.copy) ∧ f 1 = some (.int .i64 x.want.version) ∧ f 2 = some (.string x.want.hold) ∧ f 3 = some (.int .i64 x.want.pull) ∧ f 4 = some (.int .i64 x.want.start) ∧ f 5 = some (.int .i64 x.want.dies) ∧ f 6 = some (.int .i64 x.want.grace) ∧ f 7 = some (.int .i64 x.state) ∧ f 8 = some (.int .i64 x.left) ∧ f 9 = some (.int .i64 x.falls) ∧ f 10 = some (.int .i64 x.until_) ∧ x.want.copy.size ≤ maxLen ∧ x.want.hold.size ≤ maxLen

theorem RnC.holds : Holds RnC 11 := by
  rintro lo lo' w w' f g x h _ _ ⟨q0, q1, q2, q3, q4, q5, q6, q7, q8, q9, q10, z0, z2⟩
  exact ⟨(h 0 (by omega)).trans q0, (h 1 (by omega)).trans q1, (h 2 (by omega)).trans q2, (h 3 (by omega)).trans q3, (h 4 (by omega)).trans q4, (h 5 (by omega)).trans q5, (h 6 (by omega)).trans q6, (h 7 (by omega)).trans q7, (h 8 (by omega)).trans q8, (h 9 (by omega)).trans q9, (h 10 (by omega)).trans q10, z0, z2⟩

theorem isz_Rn : (Tryz.prog.info? 81).map (·.size) = some 11 := by kernel_rfl

set_option maxHeartbeats 2000000 in
theorem eqRn_any (x : Rn) (w : World) :
    Calls Tryz.prog 71 #[.agg #[.string x.want.copy, .int .i64 x.want.version, .string x.want.hold, .int .i64 x.want.pull, .int .i64 x.want.start, .int .i64 x.want.dies, .int .i64 x.want.grace, .int .i64 x.state, .int .i64 x.left, .int .i64 x.falls, .int .i64 x.until_], .agg #[.string x.want.copy, .int .i64 x.want.version, .string x.want.hold, .int .i64 x.want.pull, .int .i64 x.want.start, .int .i64 x.want.dies, .int .i64 x.want.grace, .int .i64 x.state, .int .i64 x.left, .int .i64 x.falls, .int .i64 x.until_]] w fun e w' => e = .returned (.bool true) ∧ Below w.heap.size w w' := by
  go_enter Tryz.func71, Tryz.ntmps71
  go_wp2_with fail
  refine (eqWnt_any x.want _).mono ?_
  rintro e w1 ⟨rfl, hb1⟩
  have hB1 : Below w.heap.size w w1 := (show Below w.heap.size w _ by go_grown).trans (hb1.mono (by simp; omega))
  have k1_7 : w1.cell? ⟨w.heap.size, 7, none⟩ = some (.int .i64 x.state) := (hb1.cell (p := ⟨w.heap.size, 7, none⟩) (by simp; omega)).trans (by simp)
  have l1_7 : w1.cell? ⟨w.heap.size + 1, 7, none⟩ = some (.int .i64 x.state) := (hb1.cell (p := ⟨w.heap.size + 1, 7, none⟩) (by simp)).trans (by simp)
  have k1_8 : w1.cell? ⟨w.heap.size, 8, none⟩ = some (.int .i64 x.left) := (hb1.cell (p := ⟨w.heap.size, 8, none⟩) (by simp; omega)).trans (by simp)
  have l1_8 : w1.cell? ⟨w.heap.size + 1, 8, none⟩ = some (.int .i64 x.left) := (hb1.cell (p := ⟨w.heap.size + 1, 8, none⟩) (by simp)).trans (by simp)
  have k1_9 : w1.cell? ⟨w.heap.size, 9, none⟩ = some (.int .i64 x.falls) := (hb1.cell (p := ⟨w.heap.size, 9, none⟩) (by simp; omega)).trans (by simp)
  have l1_9 : w1.cell? ⟨w.heap.size + 1, 9, none⟩ = some (.int .i64 x.falls) := (hb1.cell (p := ⟨w.heap.size + 1, 9, none⟩) (by simp)).trans (by simp)
  have k1_10 : w1.cell? ⟨w.heap.size, 10, none⟩ = some (.int .i64 x.until_) := (hb1.cell (p := ⟨w.heap.size, 10, none⟩) (by simp; omega)).trans (by simp)
  have l1_10 : w1.cell? ⟨w.heap.size + 1, 10, none⟩ = some (.int .i64 x.until_) := (hb1.cell (p := ⟨w.heap.size + 1, 10, none⟩) (by simp)).trans (by simp)
  clear hb1
  go_wp2_with fail
  go_ret
  exact ⟨rfl, hB1⟩

theorem info_Rn : (Tryz.prog.info? 81).map (fun i => (i.zero, i.size, i.bytes)) = some (some (.agg #[.string ⟨#[]⟩, .int .i64 0, .string ⟨#[]⟩, .int .i64 0, .int .i64 0, .int .i64 0, .int .i64 0, .int .i64 0, .int .i64 0, .int .i64 0, .int .i64 0]), 11, 104) := by kernel_rfl

set_option maxHeartbeats 2000000 in
theorem eqRnS_any (xs : List Rn) (a a' : Option Addr) (cap cap' lo lo' : Nat) (w : World) (hg : SliceC RnC 11 lo w a xs) (hh : SliceC RnC 11 lo' w a' xs) (hsm : wS wRn xs ≤ 1048576) :
    Calls Tryz.prog 58 #[.slice a xs.length cap, .slice a' xs.length cap'] w fun e w' => e = .returned (.bool true) ∧ Below w.heap.size w w' := by
  have hlen : xs.length ≤ 1048576 := Nat.le_trans wS_len hsm
  have HG : Hid (SliceC RnC 11 lo w a xs) := hg
  have HH : Hid (SliceC RnC 11 lo' w a' xs) := hh
  clear hg hh hsm
  go_enter Tryz.func58, Tryz.ntmps58
  go_wp2_with fail
  go_loopw [5] (fun i wr => ∃ (k : Nat), k ≤ xs.length ∧ i = .int .i64 k ∧ Below w.heap.size w wr) (fun i _ => xs.length - (intOf i).toNat)
  case atStart => exact ⟨0, Nat.zero_le _, rfl, Below.refl _ _⟩
  case round =>
    obtain ⟨k, hk, rfl, hbel⟩ := hrel
    by_cases hlt : k < xs.length
    · obtain ⟨x, hx⟩ : ∃ x, xs[k]? = some x := ⟨xs[k], List.getElem?_eq_getElem hlt⟩
      obtain ⟨b, o, rfl, _, _, hc⟩ := (HG.out.below RnC.holds hbel (Nat.le_refl _)).at hx
      obtain ⟨b', o', rfl, _, _, hc'⟩ := (HH.out.below RnC.holds hbel (Nat.le_refl _)).at hx
      obtain ⟨q0, q1, q2, q3, q4, q5, q6, q7, q8, q9, q10, _, _⟩ := hc
      obtain ⟨r0, r1, r2, r3, r4, r5, r6, r7, r8, r9, r10, _, _⟩ := hc'
      simp only [Nat.add_zero] at q0 q1 q2 q3 q4 q5 q6 q7 q8 q9 q10 r0 r1 r2 r3 r4 r5 r6 r7 r8 r9 r10
      have k0 := cell_regrown q0
      have l0 := cell_regrown r0
      have k1 := cell_regrown q1
      have l1 := cell_regrown r1
      have k2 := cell_regrown q2
      have l2 := cell_regrown r2
      have k3 := cell_regrown q3
      have l3 := cell_regrown r3
      have k4 := cell_regrown q4
      have l4 := cell_regrown r4
      have k5 := cell_regrown q5
      have l5 := cell_regrown r5
      have k6 := cell_regrown q6
      have l6 := cell_regrown r6
      have k7 := cell_regrown q7
      have l7 := cell_regrown r7
      have k8 := cell_regrown q8
      have l8 := cell_regrown r8
      have k9 := cell_regrown q9
      have l9 := cell_regrown r9
      have k10 := cell_regrown q10
      have l10 := cell_regrown r10
      have cE : ∀ d os, Calls Tryz.prog 71 #[.agg #[.string x.want.copy, .int .i64 x.want.version, .string x.want.hold, .int .i64 x.want.pull, .int .i64 x.want.start, .int .i64 x.want.dies, .int .i64 x.want.grace, .int .i64 x.state, .int .i64 x.left, .int .i64 x.falls, .int .i64 x.until_], .agg #[.string x.want.copy, .int .i64 x.want.version, .string x.want.hold, .int .i64 x.want.pull, .int .i64 x.want.start, .int .i64 x.want.dies, .int .i64 x.want.grace, .int .i64 x.state, .int .i64 x.left, .int .i64 x.falls, .int .i64 x.until_]] (Sort.grow (redrawn wr d) os) fun e w'' => e = .returned (.bool true) ∧ ∃ p : Regrown, w'' = Sort.grow (redrawn wr p.d) p.os := fun d os => Calls.regrown_of (eqRn_any x _)
      have i0 : (0 : Int) ≤ (k : Int) := by omega
      have i1 : (k : Int) < (xs.length : Int) := by omega
      clear hx q0 q1 q2 q3 q4 q5 q6 q7 q8 q9 q10 r0 r1 r2 r3 r4 r5 r6 r7 r8 r9 r10 
      go_wp2_with fail
      refine wp_region_quiet_below (by kernel_rfl) (by kernel_rfl) ?_
      repeat (quiet_step (first | exact cE _ _))
      refine wpQuiet_nil ?_
      intro _ hw'
      obtain ⟨⟨dq, osq⟩, hw''⟩ := hw'
      have hB := hbel.trans ((below_regrown wr dq osq).mono hbel.size)
      simp only [] at hw''
      rw [← hw''] at hB
      clear hw'' cE k0 l0 k1 l1 k2 l2 k3 l3 k4 l4 k5 l5 k6 l6 k7 l7 k8 l8 k9 l9 k10 l10
      go_wp2_with fail
      go_roundw
      case rel => exact ⟨k + 1, by omega, by go_num, hB⟩
      case measure => simp [intOf]; omega
    · go_wp2_with fail
      go_ret
      exact ⟨rfl, hbel⟩

end Go.Proofs.YtebcocejgenadaaGreat
