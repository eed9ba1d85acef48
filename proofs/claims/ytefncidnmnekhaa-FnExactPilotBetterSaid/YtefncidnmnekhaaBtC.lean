/-
  The law FnExactPilotBetter, walked.
-/
import Derived.Test.YtefncidnmnekhaaBtB
namespace Go.Proofs.Ytefncidnmnekhaa
open Go.RowKit

set_option maxHeartbeats 4000000 in
theorem law_any (a0 a1 a2 a3 b0 b1 b2 b3 : Int) (pack : Bool) (w : World) :
    Calls Try.prog 3 #[.agg #[.int .i64 a0, .int .i64 a1, .int .i64 a2, .int .i64 a3], .agg #[.int .i64 b0, .int .i64 b1, .int .i64 b2, .int .i64 b3], .bool pack] w fun e w' => e = .returned (.bool true) ∧ Below w.heap.size w w' := by
  go_enter Try.func3, Try.ntmps3
  go_wp2_with fail
  have F1 : Hid (Four w.heap.size a0 a1 a2 a3 ((w.alloc (.cells #[.int .i64 a0, .int .i64 a1, .int .i64 a2, .int .i64 a3] 23)).alloc (.cells #[.int .i64 b0, .int .i64 b1, .int .i64 b2, .int .i64 b3] 23))) := ⟨by simp [go_sem], by simp [go_sem], by simp [go_sem], by simp [go_sem]⟩
  have F2 : Hid (Four (w.heap.size + 1) b0 b1 b2 b3 ((w.alloc (.cells #[.int .i64 a0, .int .i64 a1, .int .i64 a2, .int .i64 a3] 23)).alloc (.cells #[.int .i64 b0, .int .i64 b1, .int .i64 b2, .int .i64 b3] 23))) := ⟨by simp [go_sem], by simp [go_sem], by simp [go_sem], by simp [go_sem]⟩
  have HB : Hid (Below w.heap.size w ((w.alloc (.cells #[.int .i64 a0, .int .i64 a1, .int .i64 a2, .int .i64 a3] 23)).alloc (.cells #[.int .i64 b0, .int .i64 b1, .int .i64 b2, .int .i64 b3] 23))) := by show Below _ _ _; go_grown
  generalize ((w.alloc (.cells #[.int .i64 a0, .int .i64 a1, .int .i64 a2, .int .i64 a3] 23)).alloc (.cells #[.int .i64 b0, .int .i64 b1, .int .i64 b2, .int .i64 b3] 23)) = wr at *
  obtain ⟨p0, p1, p2, p3⟩ := F1.out
  obtain ⟨q0, q1, q2, q3⟩ := F2.out
  have x0 := cell_regrown p0
  have x1 := cell_regrown p1
  have x2 := cell_regrown p2
  have x3 := cell_regrown p3
  have y0 := cell_regrown q0
  have y1 := cell_regrown q1
  have y2 := cell_regrown q2
  have y3 := cell_regrown q3
  have cT : ∀ x0 x1 x2 x3 d os, Calls Try.prog 5 #[.agg #[.int .i64 x0, .int .i64 x1, .int .i64 x2, .int .i64 x3]] (Sort.grow (redrawn wr d) os) fun e w'' => e = .returned (.agg #[.int .i64 x0, .int .i64 x1, .int .i64 x2, .int .i64 x3]) ∧ ∃ p : Regrown, w'' = Sort.grow (redrawn wr p.d) p.os := fun x0 x1 x2 x3 d os => Calls.regrown_of (toScore_any x0 x1 x2 x3 _)
  have cS : ∀ d os, Calls Try.prog 4 #[.agg #[.int .i64 a0, .int .i64 a1, .int .i64 a2, .int .i64 a3], .agg #[.int .i64 b0, .int .i64 b1, .int .i64 b2, .int .i64 b3], .bool pack] (Sort.grow (redrawn wr d) os) fun e w'' => e = .returned (.bool (betterB a0 a1 a2 a3 b0 b1 b2 b3 pack)) ∧ ∃ p : Regrown, w'' = Sort.grow (redrawn wr p.d) p.os := fun d os => Calls.regrown_of (specBetter_any a0 a1 a2 a3 b0 b1 b2 b3 pack _)
  have hR : Hid (betterB a0 a1 a2 a3 b0 b1 b2 b3 pack = betterB a0 a1 a2 a3 b0 b1 b2 b3 pack) := rfl
  generalize hRR : betterB a0 a1 a2 a3 b0 b1 b2 b3 pack = R at cS
  have HRR : Hid (betterB a0 a1 a2 a3 b0 b1 b2 b3 pack = R) := hRR
  clear hRR hR p0 p1 p2 p3 q0 q1 q2 q3
  refine wp_region_quiet_below (by kernel_rfl) (by kernel_rfl) ?_
  repeat (quiet_step (first | (go_at_call 5; exact cT _ _ _ _ _ _) | (go_at_call 4; exact cS _ _)))
  refine wpQuiet_nil ?_
  intro _ hw'
  obtain ⟨⟨dq, osq⟩, hw''⟩ := hw'
  have hB := below_regrown wr dq osq
  simp only [] at hw''
  rw [← hw''] at hB
  clear hw'' cT cS x0 x1 x2 x3 y0 y1 y2 y3
  rename_i wr'
  have G1 : Hid (Four w.heap.size a0 a1 a2 a3 wr') := F1.out.below hB (block_lt_of_cell F1.out.1)
  have G2 : Hid (Four (w.heap.size + 1) b0 b1 b2 b3 wr') := F2.out.below hB (block_lt_of_cell F2.out.1)
  have HB' : Hid (Below w.heap.size w wr') := HB.out.trans (hB.mono HB.out.size)
  clear F1 F2 HB hB
  go_wp2_with fail
  obtain ⟨p0, p1, p2, p3⟩ := G1.out
  obtain ⟨q0, q1, q2, q3⟩ := G2.out
  have x0 := cell_regrown p0
  have x1 := cell_regrown p1
  have x2 := cell_regrown p2
  have x3 := cell_regrown p3
  have y0 := cell_regrown q0
  have y1 := cell_regrown q1
  have y2 := cell_regrown q2
  have y3 := cell_regrown q3
  have cT : ∀ x0 x1 x2 x3 d os, Calls Try.prog 5 #[.agg #[.int .i64 x0, .int .i64 x1, .int .i64 x2, .int .i64 x3]] (Sort.grow (redrawn wr' d) os) fun e w'' => e = .returned (.agg #[.int .i64 x0, .int .i64 x1, .int .i64 x2, .int .i64 x3]) ∧ ∃ p : Regrown, w'' = Sort.grow (redrawn wr' p.d) p.os := fun x0 x1 x2 x3 d os => Calls.regrown_of (toScore_any x0 x1 x2 x3 _)
  have cS : ∀ d os, Calls Try.prog 6 #[.agg #[.int .i64 a0, .int .i64 a1, .int .i64 a2, .int .i64 a3], .agg #[.int .i64 b0, .int .i64 b1, .int .i64 b2, .int .i64 b3], .bool pack] (Sort.grow (redrawn wr' d) os) fun e w'' => e = .returned (.bool R) ∧ ∃ p : Regrown, w'' = Sort.grow (redrawn wr' p.d) p.os := fun d os => by rw [← HRR.out]; exact Calls.regrown_of (implBetter_any a0 a1 a2 a3 b0 b1 b2 b3 pack _)
  clear p0 p1 p2 p3 q0 q1 q2 q3
  refine wp_region_quiet_below (by kernel_rfl) (by kernel_rfl) ?_
  repeat (quiet_step (first | (go_at_call 5; exact cT _ _ _ _ _ _) | (go_at_call 6; exact cS _ _)))
  refine wpQuiet_nil ?_
  intro _ hw'
  obtain ⟨⟨dq, osq⟩, hw''⟩ := hw'
  have hB := below_regrown wr' dq osq
  simp only [] at hw''
  rw [← hw''] at hB
  clear hw'' cT cS x0 x1 x2 x3 y0 y1 y2 y3
  have HB2 : Hid (Below w.heap.size w _) := HB'.out.trans (hB.mono HB'.out.size)
  clear hB HB' G1 G2
  go_wp2_with fail
  go_ret
  exact ⟨rfl, HB2.out⟩

end Go.Proofs.Ytefncidnmnekhaa
