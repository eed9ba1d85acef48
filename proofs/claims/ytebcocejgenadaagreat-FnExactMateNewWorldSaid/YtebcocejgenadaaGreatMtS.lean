/-
  Walks over slices of Mate: sizes, copies, equality. Made by mkwrl.py.
-/
import Derived.Test.YtebcocejgenadaaGreatMte
namespace Go.Proofs.YtebcocejgenadaaGreat
open Go.RowKit

theorem info_Mte : (Tryz.prog.info? 41).map (fun i => (i.zero, i.size, i.bytes)) = some (some (.agg #[.string ⟨#[]⟩, .bool false, .int .i64 0, .bool false, .int .i64 0, .slice none 0 0, .slice none 0 0, .slice none 0 0, .slice none 0 0]), 9, 144) := by kernel_rfl

set_option maxHeartbeats 2000000 in
theorem eqMteS_any (xs : List Mte) (a a' : Option Addr) (cap cap' lo lo' : Nat) (w : World) (hg : SliceC MteC 9 lo w a xs) (hh : SliceC MteC 9 lo' w a' xs) (hsm : wS wMte xs ≤ 1048576) :
    Calls Tryz.prog 17 #[.slice a xs.length cap, .slice a' xs.length cap'] w fun e w' => e = .returned (.bool true) ∧ Below w.heap.size w w' := by
  have hlen : xs.length ≤ 1048576 := Nat.le_trans wS_len hsm
  have HG : Hid (SliceC MteC 9 lo w a xs) := hg
  have HH : Hid (SliceC MteC 9 lo' w a' xs) := hh
  have HSM : Hid (wS wMte xs ≤ 1048576) := hsm
  clear hg hh hsm
  go_enter Tryz.func17, Tryz.ntmps17
  go_wp2_with fail
  go_loopw [5] (fun i wr => ∃ (k : Nat), k ≤ xs.length ∧ i = .int .i64 k ∧ Below w.heap.size w wr) (fun i _ => xs.length - (intOf i).toNat)
  case atStart => exact ⟨0, Nat.zero_le _, rfl, Below.refl _ _⟩
  case round =>
    obtain ⟨k, hk, rfl, hbel⟩ := hrel
    by_cases hlt : k < xs.length
    · obtain ⟨x, hx⟩ : ∃ x, xs[k]? = some x := ⟨xs[k], List.getElem?_eq_getElem hlt⟩
      obtain ⟨b, o, rfl, _, _, hc⟩ := (HG.out.below MteC.holds hbel (Nat.le_refl _)).at hx
      obtain ⟨b', o', rfl, _, _, hc'⟩ := (HH.out.below MteC.holds hbel (Nat.le_refl _)).at hx
      obtain ⟨a5, c5, a6, c6, a7, c7, a8, c8, q0, q1, q2, q3, q4, q5, q6, q7, q8, _, n5, n6, n7, n8⟩ := hc
      obtain ⟨a5p, c5p, a6p, c6p, a7p, c7p, a8p, c8p, r0, r1, r2, r3, r4, r5, r6, r7, r8, _, p5, p6, p7, p8⟩ := hc'
      simp only [Nat.add_zero] at q0 q1 q2 q3 q4 q5 q6 q7 q8 r0 r1 r2 r3 r4 r5 r6 r7 r8
      have hwx : wMte x ≤ 1048576 := Nat.le_trans (wS_mem (List.mem_of_getElem? hx)) HSM.out
      have k0 := cell_regrown q0
      have l0 := cell_regrown r0
      have k1 := cell_regrown q1
      have l1 := cell_regrown r1
      have k2 := cell_regrown q2
      have l2 := cell_regrown r2
      have k3 := cell_regrown q3
      have l3 := cell_regrown r3
      have k4 := cell_regrown q4
      have l4 := cell_regrown r4
      have k5 := cell_regrown q5
      have l5 := cell_regrown r5
      have k6 := cell_regrown q6
      have l6 := cell_regrown r6
      have k7 := cell_regrown q7
      have l7 := cell_regrown r7
      have k8 := cell_regrown q8
      have l8 := cell_regrown r8
      have cE : ∀ d os, Calls Tryz.prog 33 #[.agg #[.string x.name, .bool x.up, .int .i64 x.clock, .bool x.known, .int .i64 x.seen, .slice a5 x.wants.length c5, .slice a6 x.runs.length c6, .slice a7 x.asks.length c7, .slice a8 x.gives.length c8], .agg #[.string x.name, .bool x.up, .int .i64 x.clock, .bool x.known, .int .i64 x.seen, .slice a5p x.wants.length c5p, .slice a6p x.runs.length c6p, .slice a7p x.asks.length c7p, .slice a8p x.gives.length c8p]] (Sort.grow (redrawn wr d) os) fun e w'' => e = .returned (.bool true) ∧ ∃ p : Regrown, w'' = Sort.grow (redrawn wr p.d) p.os := fun d os => Calls.regrown_of (eqMte_any x a5 c5 a6 c6 a7 c7 a8 c8 a5p c5p a6p c6p a7p c7p a8p c8p lo lo' _ (n5.below WntC.holds (below_regrown wr d os) (Nat.le_refl _)) (n6.below RnC.holds (below_regrown wr d os) (Nat.le_refl _)) (n7.below AksC.holds (below_regrown wr d os) (Nat.le_refl _)) (n8.below AksC.holds (below_regrown wr d os) (Nat.le_refl _)) (p5.below WntC.holds (below_regrown wr d os) (Nat.le_refl _)) (p6.below RnC.holds (below_regrown wr d os) (Nat.le_refl _)) (p7.below AksC.holds (below_regrown wr d os) (Nat.le_refl _)) (p8.below AksC.holds (below_regrown wr d os) (Nat.le_refl _)) hwx)
      have i0 : (0 : Int) ≤ (k : Int) := by omega
      have i1 : (k : Int) < (xs.length : Int) := by omega
      clear hx q0 q1 q2 q3 q4 q5 q6 q7 q8 r0 r1 r2 r3 r4 r5 r6 r7 r8 n5 p5 n6 p6 n7 p7 n8 p8 hwx
      go_wp2_with fail
      refine wp_region_quiet_below (by kernel_rfl) (by kernel_rfl) ?_
      repeat (quiet_step (first | exact cE _ _))
      refine wpQuiet_nil ?_
      intro _ hw'
      obtain ⟨⟨dq, osq⟩, hw''⟩ := hw'
      have hB := hbel.trans ((below_regrown wr dq osq).mono hbel.size)
      simp only [] at hw''
      rw [← hw''] at hB
      clear hw'' cE k0 l0 k1 l1 k2 l2 k3 l3 k4 l4 k5 l5 k6 l6 k7 l7 k8 l8
      go_wp2_with fail
      go_roundw
      case rel => exact ⟨k + 1, by omega, by go_num, hB⟩
      case measure => simp [intOf]; omega
    · go_wp2_with fail
      go_ret
      exact ⟨rfl, hbel⟩

end Go.Proofs.YtebcocejgenadaaGreat
