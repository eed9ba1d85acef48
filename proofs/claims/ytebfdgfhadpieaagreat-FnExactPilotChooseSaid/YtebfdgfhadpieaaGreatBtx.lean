import Derived.Test.YtebfdgfhadpieaaGreatShp
import Derived.Deep.RegionHeld3
namespace Go.Proofs.YtebfdgfhadpieaaGreat
open Go.RowKit
def betterB (a0 a1 a2 a3 b0 b1 b2 b3 : Int) (pack : Bool) : Bool :=
 if a0 ≠ b0 then decide (b0 < a0) else if a1 ≠ b1 then decide (a1 < b1) else if a2 ≠ b2 then decide (a2 < b2) else if pack then decide (a3 < b3) else decide (b3 < a3)
def cmpX (a b : Int) : Int := if a < b then -1 else if b < a then 1 else 0
set_option maxHeartbeats 1000000 in
theorem isNaNX_any (a : Int) (w : World) :
  Calls Tryz.prog 98 #[.int .i64 a] w fun e w' => e = .returned (.bool false) ∧ w' = w := by
 go_enter Tryz.func98, Tryz.ntmps98
 go_wp2
 go_ret
 exact ⟨rfl, rfl⟩
set_option maxHeartbeats 1000000 in
theorem compareX_any (a b : Int) (w : World) :
  Calls Tryz.prog 75 #[.int .i64 a, .int .i64 b] w fun e w' => e = .returned (.int .i64 (cmpX a b)) ∧ w' = w := by
 by_cases h1 : a < b
 ·go_enter Tryz.func75, Tryz.ntmps75
  go_wp2_with (first | (go_at_call 98; refine (isNaNX_any _ _).mono ?_; rintro e w' ⟨rfl, rfl⟩))
  go_ret
  exact ⟨ret_int (by unfold cmpX; rw [if_pos h1]), rfl⟩
 by_cases h2 : b < a
 ·go_enter Tryz.func75, Tryz.ntmps75
  go_wp2_with (first | (go_at_call 98; refine (isNaNX_any _ _).mono ?_; rintro e w' ⟨rfl, rfl⟩))
  go_ret
  exact ⟨ret_int (by unfold cmpX; rw [if_neg (by omega), if_pos h2]), rfl⟩
 ·go_enter Tryz.func75, Tryz.ntmps75
  go_wp2_with (first | (go_at_call 98; refine (isNaNX_any _ _).mono ?_; rintro e w' ⟨rfl, rfl⟩))
  go_ret
  exact ⟨ret_int (by unfold cmpX; rw [if_neg (by omega), if_neg (by omega)]), rfl⟩
set_option maxHeartbeats 1000000 in
theorem grades_any (a b c d : Int) (w : World) :
  Calls Tryz.prog 74 #[.agg #[.int .i64 a, .int .i64 b, .int .i64 c, .int .i64 d]] w fun e w' => e = .returned (.agg #[.int .i64 a, .int .i64 b, .int .i64 c, .int .i64 d]) ∧ w' = (w.alloc (.cells #[.int .i64 a, .int .i64 b, .int .i64 c, .int .i64 d] 84)).alloc (.cells #[.int .i64 a, .int .i64 b, .int .i64 c, .int .i64 d] 122) := by
 go_enter Tryz.func74, Tryz.ntmps74
 go_wp2
 go_returns
 exact ⟨rfl, rfl⟩
set_option maxHeartbeats 1000000 in
theorem specBetter_any (a0 a1 a2 a3 b0 b1 b2 b3 : Int) (pack : Bool) (w : World) :
  Calls Tryz.prog 36 #[.agg #[.int .i64 a0, .int .i64 a1, .int .i64 a2, .int .i64 a3], .agg #[.int .i64 b0, .int .i64 b1, .int .i64 b2, .int .i64 b3], .bool pack] w fun e w' => e = .returned (.bool (betterB a0 a1 a2 a3 b0 b1 b2 b3 pack)) ∧ Below w.heap.size w w' := by
 unfold betterB
 by_cases h0 : a0 = b0
 ·subst h0
  by_cases h1 : a1 = b1
  ·subst h1
   by_cases h2 : a2 = b2
   ·subst h2
    cases pack
    all_goals
     go_enter Tryz.func36, Tryz.ntmps36
     go_wp2_with fail
     go_ret
     exact ⟨ret_bool (by simp), by go_grown⟩
   ·go_enter Tryz.func36, Tryz.ntmps36
    go_wp2_with fail
    go_ret
    exact ⟨ret_bool (by simp), by go_grown⟩
  ·go_enter Tryz.func36, Tryz.ntmps36
   go_wp2_with fail
   go_ret
   exact ⟨ret_bool (by simp), by go_grown⟩
 ·go_enter Tryz.func36, Tryz.ntmps36
  go_wp2_with fail
  go_ret
  exact ⟨ret_bool (by simp), by go_grown⟩
def Four (b : Nat) (v0 v1 v2 v3 : Int) (w : World) : Prop :=
 w.cell? ⟨b, 0, none⟩ = some (.int .i64 v0) ∧ w.cell? ⟨b, 1, none⟩ = some (.int .i64 v1) ∧ w.cell? ⟨b, 2, none⟩ = some (.int .i64 v2) ∧ w.cell? ⟨b, 3, none⟩ = some (.int .i64 v3)
theorem Four.below {b : Nat} {v0 v1 v2 v3 : Int} {w w' : World} {B : Nat} (h : Four b v0 v1 v2 v3 w) (k : Below B w w') (hb : b < B) : Four b v0 v1 v2 v3 w' :=
 ⟨(k.cell (p := ⟨b, 0, none⟩) hb).trans h.1, (k.cell (p := ⟨b, 1, none⟩) hb).trans h.2.1, (k.cell (p := ⟨b, 2, none⟩) hb).trans h.2.2.1, (k.cell (p := ⟨b, 3, none⟩) hb).trans h.2.2.2⟩
theorem cmpX_lt {a b : Int} (h : a < b) : cmpX a b = -1 := by unfold cmpX; rw [if_pos h]
theorem cmpX_gt {a b : Int} (h : b < a) : cmpX a b = 1 := by unfold cmpX; rw [if_neg (by omega), if_pos h]
theorem cmpX_eq {a b : Int} (h : ¬ a < b) (h' : ¬ b < a) : cmpX a b = 0 := by unfold cmpX; rw [if_neg h, if_neg h']
theorem betterB_same {a0 a1 a2 a3 b0 b1 b2 b3 : Int} {pack : Bool} (e0 : a0 = b0) (e1 : a1 = b1) (e2 : a2 = b2) (e3 : a3 = b3) : betterB a0 a1 a2 a3 b0 b1 b2 b3 pack = false := by
 subst e0 e1 e2 e3
 unfold betterB
 cases pack <;> simp
set_option maxHeartbeats 4000000 in
theorem implBetter_any (a0 a1 a2 a3 b0 b1 b2 b3 : Int) (pack : Bool) (w : World) :
  Calls Tryz.prog 44 #[.agg #[.int .i64 a0, .int .i64 a1, .int .i64 a2, .int .i64 a3], .agg #[.int .i64 b0, .int .i64 b1, .int .i64 b2, .int .i64 b3], .bool pack] w fun e w' => e = .returned (.bool (betterB a0 a1 a2 a3 b0 b1 b2 b3 pack)) ∧ Below w.heap.size w w' := by
 cases pack
 ·go_enter Tryz.func44, Tryz.ntmps44
  go_wp2_with fail
  go_cut [8, 9] from 15 to 18 (fun l r wx => ∃ p q : Nat, l = .pointer (some ⟨p, 0, none⟩) ∧ r = .pointer (some ⟨q, 0, none⟩) ∧ Hid (Four p a0 a1 a2 a3 wx) ∧ Hid (Four q b0 b1 b2 b3 wx) ∧ Hid (Four (w.heap.size + 2) 1 (-1) (-1) 1 wx) ∧ Hid (Below w.heap.size w wx))
  case first =>
   go_region_held3 (fun w' => w'.cell? ⟨w.heap.size, 0, none⟩ = some (.int .i64 a0) ∧ w'.cell? ⟨w.heap.size, 1, none⟩ = some (.int .i64 a1) ∧ w'.cell? ⟨w.heap.size, 2, none⟩ = some (.int .i64 a2) ∧ w'.cell? ⟨w.heap.size, 3, none⟩ = some (.int .i64 a3) ∧ w'.cell? ⟨w.heap.size + 1, 0, none⟩ = some (.int .i64 b0) ∧ w'.cell? ⟨w.heap.size + 1, 1, none⟩ = some (.int .i64 b1) ∧ w'.cell? ⟨w.heap.size + 1, 2, none⟩ = some (.int .i64 b2) ∧ w'.cell? ⟨w.heap.size + 1, 3, none⟩ = some (.int .i64 b3)) (simp [go_sem])
    (first | (go_at_call 74; refine (grades_any _ _ _ _ _).mono ?_; rintro e w' ⟨rfl, rfl⟩))
   all_goals
    rename_i hHeld
    clear hHeld
    go_wp2_with fail
    go_meet
    exact ⟨_, _, rfl, rfl, ⟨by simp [go_sem], by simp [go_sem], by simp [go_sem], by simp [go_sem]⟩, ⟨by simp [go_sem], by simp [go_sem], by simp [go_sem], by simp [go_sem]⟩, ⟨by simp [go_sem], by simp [go_sem], by simp [go_sem], by simp [go_sem]⟩, by show Below _ _ _; go_grown⟩
  case rest =>
   obtain ⟨p, q, rfl, rfl, hp, hq, hr, hb⟩ := hcut
   go_wp2_with fail
   go_loopw [19] (fun i wr => ∃ k : Nat, k ≤ 4 ∧ i = .int .i64 k ∧ Hid ((0 < k → a0 = b0) ∧ (1 < k → a1 = b1) ∧ (2 < k → a2 = b2) ∧ (3 < k → a3 = b3)) ∧ Hid (Four p a0 a1 a2 a3 wr) ∧ Hid (Four q b0 b1 b2 b3 wr) ∧ Hid (Four (w.heap.size + 2) 1 (-1) (-1) 1 wr) ∧ Hid (Below w.heap.size w wr)) (fun i _ => 4 - (intOf i).toNat)
   case atStart => exact ⟨0, by omega, rfl, ⟨by omega, by omega, by omega, by omega⟩, hp, hq, hr, hb⟩
   case round =>
    clear hp hq hr hb
    obtain ⟨k, hk, rfl, he, hp, hq, hr, hb⟩ := hrel
    have hk' : k = 0 ∨ k = 1 ∨ k = 2 ∨ k = 3 ∨ k = 4 := by omega
    rcases hk' with rfl | rfl | rfl | rfl | rfl
    ·obtain ⟨p0, p1, p2, p3⟩ := hp.out
     obtain ⟨q0, q1, q2, q3⟩ := hq.out
     have cE : ∀ d os, Calls Tryz.prog 75 #[.int .i64 a0, .int .i64 b0] (Sort.grow (redrawn wr d) os) fun e w'' => e = .returned (.int .i64 (cmpX a0 b0)) ∧ ∃ p : Regrown, w'' = Sort.grow (redrawn wr p.d) p.os := fun d os => Calls.regrown_of ((compareX_any a0 b0 _).mono (fun _ _ h => ⟨h.1, by rw [h.2]; exact Below.refl _ _⟩))
     have pk := cell_regrown p0
     have qk := cell_regrown q0
     clear p0 p1 p2 p3 q0 q1 q2 q3
     go_wp2_with fail
     refine wp_region_quiet_below (by kernel_rfl) (by kernel_rfl) ?_
     repeat (quiet_step (first | exact cE _ _))
     refine wpQuiet_nil ?_
     intro _ hw'
     obtain ⟨⟨dq, osq⟩, hw''⟩ := hw'
     have hB := below_regrown wr dq osq
     simp only [] at hw''
     rw [← hw''] at hB
     clear hw'' cE pk qk
     have HP : Hid (Four p a0 a1 a2 a3 _) := hp.out.below hB (block_lt_of_cell hp.out.1)
     have HQ : Hid (Four q b0 b1 b2 b3 _) := hq.out.below hB (block_lt_of_cell hq.out.1)
     have HR : Hid (Four (w.heap.size + 2) 1 (-1) (-1) 1 _) := hr.out.below hB (block_lt_of_cell hr.out.1)
     have HB : Hid (Below w.heap.size w _) := hb.out.trans (hB.mono hb.out.size)
     clear hp hq hr hb hB
     by_cases hlt : a0 < b0
     ·rw [cmpX_lt hlt]
      obtain ⟨r0, r1, r2, r3⟩ := HR.out
      go_wp2_with fail
      go_ret
      refine ⟨ret_bool ?_, HB.out⟩
      have HE := he.out
      unfold betterB
      rw [if_pos (by omega)]
      simp <;> omega
     by_cases hgt : b0 < a0
     ·rw [cmpX_gt hgt]
      obtain ⟨r0, r1, r2, r3⟩ := HR.out
      go_wp2_with fail
      go_ret
      refine ⟨ret_bool ?_, HB.out⟩
      have HE := he.out
      unfold betterB
      rw [if_pos (by omega)]
      simp <;> omega
     ·rw [cmpX_eq hlt hgt]
      go_wp2_with fail
      go_roundw
      case rel => exact ⟨1, by omega, by go_num, by have HE := he.out; exact ⟨fun _ => by omega, fun _ => by omega, fun _ => by omega, fun _ => by omega⟩, HP, HQ, HR, HB⟩
      case measure => simp [intOf]
    ·obtain ⟨p0, p1, p2, p3⟩ := hp.out
     obtain ⟨q0, q1, q2, q3⟩ := hq.out
     have cE : ∀ d os, Calls Tryz.prog 75 #[.int .i64 a1, .int .i64 b1] (Sort.grow (redrawn wr d) os) fun e w'' => e = .returned (.int .i64 (cmpX a1 b1)) ∧ ∃ p : Regrown, w'' = Sort.grow (redrawn wr p.d) p.os := fun d os => Calls.regrown_of ((compareX_any a1 b1 _).mono (fun _ _ h => ⟨h.1, by rw [h.2]; exact Below.refl _ _⟩))
     have pk := cell_regrown p1
     have qk := cell_regrown q1
     clear p0 p1 p2 p3 q0 q1 q2 q3
     go_wp2_with fail
     refine wp_region_quiet_below (by kernel_rfl) (by kernel_rfl) ?_
     repeat (quiet_step (first | exact cE _ _))
     refine wpQuiet_nil ?_
     intro _ hw'
     obtain ⟨⟨dq, osq⟩, hw''⟩ := hw'
     have hB := below_regrown wr dq osq
     simp only [] at hw''
     rw [← hw''] at hB
     clear hw'' cE pk qk
     have HP : Hid (Four p a0 a1 a2 a3 _) := hp.out.below hB (block_lt_of_cell hp.out.1)
     have HQ : Hid (Four q b0 b1 b2 b3 _) := hq.out.below hB (block_lt_of_cell hq.out.1)
     have HR : Hid (Four (w.heap.size + 2) 1 (-1) (-1) 1 _) := hr.out.below hB (block_lt_of_cell hr.out.1)
     have HB : Hid (Below w.heap.size w _) := hb.out.trans (hB.mono hb.out.size)
     clear hp hq hr hb hB
     by_cases hlt : a1 < b1
     ·rw [cmpX_lt hlt]
      obtain ⟨r0, r1, r2, r3⟩ := HR.out
      go_wp2_with fail
      go_ret
      refine ⟨ret_bool ?_, HB.out⟩
      have HE := he.out
      unfold betterB
      rw [if_neg (by have := HE.1; intro h; exact h (this (by omega)))]
      rw [if_pos (by omega)]
      simp <;> omega
     by_cases hgt : b1 < a1
     ·rw [cmpX_gt hgt]
      obtain ⟨r0, r1, r2, r3⟩ := HR.out
      go_wp2_with fail
      go_ret
      refine ⟨ret_bool ?_, HB.out⟩
      have HE := he.out
      unfold betterB
      rw [if_neg (by have := HE.1; intro h; exact h (this (by omega)))]
      rw [if_pos (by omega)]
      simp <;> omega
     ·rw [cmpX_eq hlt hgt]
      go_wp2_with fail
      go_roundw
      case rel => exact ⟨2, by omega, by go_num, by have HE := he.out; exact ⟨fun _ => by omega, fun _ => by omega, fun _ => by omega, fun _ => by omega⟩, HP, HQ, HR, HB⟩
      case measure => simp [intOf]
    ·obtain ⟨p0, p1, p2, p3⟩ := hp.out
     obtain ⟨q0, q1, q2, q3⟩ := hq.out
     have cE : ∀ d os, Calls Tryz.prog 75 #[.int .i64 a2, .int .i64 b2] (Sort.grow (redrawn wr d) os) fun e w'' => e = .returned (.int .i64 (cmpX a2 b2)) ∧ ∃ p : Regrown, w'' = Sort.grow (redrawn wr p.d) p.os := fun d os => Calls.regrown_of ((compareX_any a2 b2 _).mono (fun _ _ h => ⟨h.1, by rw [h.2]; exact Below.refl _ _⟩))
     have pk := cell_regrown p2
     have qk := cell_regrown q2
     clear p0 p1 p2 p3 q0 q1 q2 q3
     go_wp2_with fail
     refine wp_region_quiet_below (by kernel_rfl) (by kernel_rfl) ?_
     repeat (quiet_step (first | exact cE _ _))
     refine wpQuiet_nil ?_
     intro _ hw'
     obtain ⟨⟨dq, osq⟩, hw''⟩ := hw'
     have hB := below_regrown wr dq osq
     simp only [] at hw''
     rw [← hw''] at hB
     clear hw'' cE pk qk
     have HP : Hid (Four p a0 a1 a2 a3 _) := hp.out.below hB (block_lt_of_cell hp.out.1)
     have HQ : Hid (Four q b0 b1 b2 b3 _) := hq.out.below hB (block_lt_of_cell hq.out.1)
     have HR : Hid (Four (w.heap.size + 2) 1 (-1) (-1) 1 _) := hr.out.below hB (block_lt_of_cell hr.out.1)
     have HB : Hid (Below w.heap.size w _) := hb.out.trans (hB.mono hb.out.size)
     clear hp hq hr hb hB
     by_cases hlt : a2 < b2
     ·rw [cmpX_lt hlt]
      obtain ⟨r0, r1, r2, r3⟩ := HR.out
      go_wp2_with fail
      go_ret
      refine ⟨ret_bool ?_, HB.out⟩
      have HE := he.out
      unfold betterB
      rw [if_neg (by have := HE.1; intro h; exact h (this (by omega)))]
      rw [if_neg (by have := HE.2.1; intro h; exact h (this (by omega)))]
      rw [if_pos (by omega)]
      simp <;> omega
     by_cases hgt : b2 < a2
     ·rw [cmpX_gt hgt]
      obtain ⟨r0, r1, r2, r3⟩ := HR.out
      go_wp2_with fail
      go_ret
      refine ⟨ret_bool ?_, HB.out⟩
      have HE := he.out
      unfold betterB
      rw [if_neg (by have := HE.1; intro h; exact h (this (by omega)))]
      rw [if_neg (by have := HE.2.1; intro h; exact h (this (by omega)))]
      rw [if_pos (by omega)]
      simp <;> omega
     ·rw [cmpX_eq hlt hgt]
      go_wp2_with fail
      go_roundw
      case rel => exact ⟨3, by omega, by go_num, by have HE := he.out; exact ⟨fun _ => by omega, fun _ => by omega, fun _ => by omega, fun _ => by omega⟩, HP, HQ, HR, HB⟩
      case measure => simp [intOf]
    ·obtain ⟨p0, p1, p2, p3⟩ := hp.out
     obtain ⟨q0, q1, q2, q3⟩ := hq.out
     have cE : ∀ d os, Calls Tryz.prog 75 #[.int .i64 a3, .int .i64 b3] (Sort.grow (redrawn wr d) os) fun e w'' => e = .returned (.int .i64 (cmpX a3 b3)) ∧ ∃ p : Regrown, w'' = Sort.grow (redrawn wr p.d) p.os := fun d os => Calls.regrown_of ((compareX_any a3 b3 _).mono (fun _ _ h => ⟨h.1, by rw [h.2]; exact Below.refl _ _⟩))
     have pk := cell_regrown p3
     have qk := cell_regrown q3
     clear p0 p1 p2 p3 q0 q1 q2 q3
     go_wp2_with fail
     refine wp_region_quiet_below (by kernel_rfl) (by kernel_rfl) ?_
     repeat (quiet_step (first | exact cE _ _))
     refine wpQuiet_nil ?_
     intro _ hw'
     obtain ⟨⟨dq, osq⟩, hw''⟩ := hw'
     have hB := below_regrown wr dq osq
     simp only [] at hw''
     rw [← hw''] at hB
     clear hw'' cE pk qk
     have HP : Hid (Four p a0 a1 a2 a3 _) := hp.out.below hB (block_lt_of_cell hp.out.1)
     have HQ : Hid (Four q b0 b1 b2 b3 _) := hq.out.below hB (block_lt_of_cell hq.out.1)
     have HR : Hid (Four (w.heap.size + 2) 1 (-1) (-1) 1 _) := hr.out.below hB (block_lt_of_cell hr.out.1)
     have HB : Hid (Below w.heap.size w _) := hb.out.trans (hB.mono hb.out.size)
     clear hp hq hr hb hB
     by_cases hlt : a3 < b3
     ·rw [cmpX_lt hlt]
      obtain ⟨r0, r1, r2, r3⟩ := HR.out
      go_wp2_with fail
      go_ret
      refine ⟨ret_bool ?_, HB.out⟩
      have HE := he.out
      unfold betterB
      rw [if_neg (by have := HE.1; intro h; exact h (this (by omega)))]
      rw [if_neg (by have := HE.2.1; intro h; exact h (this (by omega)))]
      rw [if_neg (by have := HE.2.2.1; intro h; exact h (this (by omega)))]
      simp <;> omega
     by_cases hgt : b3 < a3
     ·rw [cmpX_gt hgt]
      obtain ⟨r0, r1, r2, r3⟩ := HR.out
      go_wp2_with fail
      go_ret
      refine ⟨ret_bool ?_, HB.out⟩
      have HE := he.out
      unfold betterB
      rw [if_neg (by have := HE.1; intro h; exact h (this (by omega)))]
      rw [if_neg (by have := HE.2.1; intro h; exact h (this (by omega)))]
      rw [if_neg (by have := HE.2.2.1; intro h; exact h (this (by omega)))]
      simp <;> omega
     ·rw [cmpX_eq hlt hgt]
      go_wp2_with fail
      go_roundw
      case rel => exact ⟨4, by omega, by go_num, by have HE := he.out; exact ⟨fun _ => by omega, fun _ => by omega, fun _ => by omega, fun _ => by omega⟩, HP, HQ, HR, HB⟩
      case measure => simp [intOf]
    ·go_wp2_with fail
     go_ret
     refine ⟨ret_bool ?_, hb.out⟩
     obtain ⟨e0, e1, e2, e3⟩ := he.out
     rw [betterB_same (e0 (by omega)) (e1 (by omega)) (e2 (by omega)) (e3 (by omega))]
 ·go_enter Tryz.func44, Tryz.ntmps44
  go_wp2_with fail
  go_cut [8, 9] from 15 to 18 (fun l r wx => ∃ p q : Nat, l = .pointer (some ⟨p, 0, none⟩) ∧ r = .pointer (some ⟨q, 0, none⟩) ∧ Hid (Four p a0 a1 a2 a3 wx) ∧ Hid (Four q b0 b1 b2 b3 wx) ∧ Hid (Four (w.heap.size + 2) 1 (-1) (-1) (-1) wx) ∧ Hid (Below w.heap.size w wx))
  case first =>
   go_region_held3 (fun w' => w'.cell? ⟨w.heap.size, 0, none⟩ = some (.int .i64 a0) ∧ w'.cell? ⟨w.heap.size, 1, none⟩ = some (.int .i64 a1) ∧ w'.cell? ⟨w.heap.size, 2, none⟩ = some (.int .i64 a2) ∧ w'.cell? ⟨w.heap.size, 3, none⟩ = some (.int .i64 a3) ∧ w'.cell? ⟨w.heap.size + 1, 0, none⟩ = some (.int .i64 b0) ∧ w'.cell? ⟨w.heap.size + 1, 1, none⟩ = some (.int .i64 b1) ∧ w'.cell? ⟨w.heap.size + 1, 2, none⟩ = some (.int .i64 b2) ∧ w'.cell? ⟨w.heap.size + 1, 3, none⟩ = some (.int .i64 b3)) (simp [go_sem])
    (first | (go_at_call 74; refine (grades_any _ _ _ _ _).mono ?_; rintro e w' ⟨rfl, rfl⟩))
   all_goals
    rename_i hHeld
    clear hHeld
    go_wp2_with fail
    go_meet
    exact ⟨_, _, rfl, rfl, ⟨by simp [go_sem], by simp [go_sem], by simp [go_sem], by simp [go_sem]⟩, ⟨by simp [go_sem], by simp [go_sem], by simp [go_sem], by simp [go_sem]⟩, ⟨by simp [go_sem], by simp [go_sem], by simp [go_sem], by simp [go_sem]⟩, by show Below _ _ _; go_grown⟩
  case rest =>
   obtain ⟨p, q, rfl, rfl, hp, hq, hr, hb⟩ := hcut
   go_wp2_with fail
   go_loopw [19] (fun i wr => ∃ k : Nat, k ≤ 4 ∧ i = .int .i64 k ∧ Hid ((0 < k → a0 = b0) ∧ (1 < k → a1 = b1) ∧ (2 < k → a2 = b2) ∧ (3 < k → a3 = b3)) ∧ Hid (Four p a0 a1 a2 a3 wr) ∧ Hid (Four q b0 b1 b2 b3 wr) ∧ Hid (Four (w.heap.size + 2) 1 (-1) (-1) (-1) wr) ∧ Hid (Below w.heap.size w wr)) (fun i _ => 4 - (intOf i).toNat)
   case atStart => exact ⟨0, by omega, rfl, ⟨by omega, by omega, by omega, by omega⟩, hp, hq, hr, hb⟩
   case round =>
    clear hp hq hr hb
    obtain ⟨k, hk, rfl, he, hp, hq, hr, hb⟩ := hrel
    have hk' : k = 0 ∨ k = 1 ∨ k = 2 ∨ k = 3 ∨ k = 4 := by omega
    rcases hk' with rfl | rfl | rfl | rfl | rfl
    ·obtain ⟨p0, p1, p2, p3⟩ := hp.out
     obtain ⟨q0, q1, q2, q3⟩ := hq.out
     have cE : ∀ d os, Calls Tryz.prog 75 #[.int .i64 a0, .int .i64 b0] (Sort.grow (redrawn wr d) os) fun e w'' => e = .returned (.int .i64 (cmpX a0 b0)) ∧ ∃ p : Regrown, w'' = Sort.grow (redrawn wr p.d) p.os := fun d os => Calls.regrown_of ((compareX_any a0 b0 _).mono (fun _ _ h => ⟨h.1, by rw [h.2]; exact Below.refl _ _⟩))
     have pk := cell_regrown p0
     have qk := cell_regrown q0
     clear p0 p1 p2 p3 q0 q1 q2 q3
     go_wp2_with fail
     refine wp_region_quiet_below (by kernel_rfl) (by kernel_rfl) ?_
     repeat (quiet_step (first | exact cE _ _))
     refine wpQuiet_nil ?_
     intro _ hw'
     obtain ⟨⟨dq, osq⟩, hw''⟩ := hw'
     have hB := below_regrown wr dq osq
     simp only [] at hw''
     rw [← hw''] at hB
     clear hw'' cE pk qk
     have HP : Hid (Four p a0 a1 a2 a3 _) := hp.out.below hB (block_lt_of_cell hp.out.1)
     have HQ : Hid (Four q b0 b1 b2 b3 _) := hq.out.below hB (block_lt_of_cell hq.out.1)
     have HR : Hid (Four (w.heap.size + 2) 1 (-1) (-1) (-1) _) := hr.out.below hB (block_lt_of_cell hr.out.1)
     have HB : Hid (Below w.heap.size w _) := hb.out.trans (hB.mono hb.out.size)
     clear hp hq hr hb hB
     by_cases hlt : a0 < b0
     ·rw [cmpX_lt hlt]
      obtain ⟨r0, r1, r2, r3⟩ := HR.out
      go_wp2_with fail
      go_ret
      refine ⟨ret_bool ?_, HB.out⟩
      have HE := he.out
      unfold betterB
      rw [if_pos (by omega)]
      simp <;> omega
     by_cases hgt : b0 < a0
     ·rw [cmpX_gt hgt]
      obtain ⟨r0, r1, r2, r3⟩ := HR.out
      go_wp2_with fail
      go_ret
      refine ⟨ret_bool ?_, HB.out⟩
      have HE := he.out
      unfold betterB
      rw [if_pos (by omega)]
      simp <;> omega
     ·rw [cmpX_eq hlt hgt]
      go_wp2_with fail
      go_roundw
      case rel => exact ⟨1, by omega, by go_num, by have HE := he.out; exact ⟨fun _ => by omega, fun _ => by omega, fun _ => by omega, fun _ => by omega⟩, HP, HQ, HR, HB⟩
      case measure => simp [intOf]
    ·obtain ⟨p0, p1, p2, p3⟩ := hp.out
     obtain ⟨q0, q1, q2, q3⟩ := hq.out
     have cE : ∀ d os, Calls Tryz.prog 75 #[.int .i64 a1, .int .i64 b1] (Sort.grow (redrawn wr d) os) fun e w'' => e = .returned (.int .i64 (cmpX a1 b1)) ∧ ∃ p : Regrown, w'' = Sort.grow (redrawn wr p.d) p.os := fun d os => Calls.regrown_of ((compareX_any a1 b1 _).mono (fun _ _ h => ⟨h.1, by rw [h.2]; exact Below.refl _ _⟩))
     have pk := cell_regrown p1
     have qk := cell_regrown q1
     clear p0 p1 p2 p3 q0 q1 q2 q3
     go_wp2_with fail
     refine wp_region_quiet_below (by kernel_rfl) (by kernel_rfl) ?_
     repeat (quiet_step (first | exact cE _ _))
     refine wpQuiet_nil ?_
     intro _ hw'
     obtain ⟨⟨dq, osq⟩, hw''⟩ := hw'
     have hB := below_regrown wr dq osq
     simp only [] at hw''
     rw [← hw''] at hB
     clear hw'' cE pk qk
     have HP : Hid (Four p a0 a1 a2 a3 _) := hp.out.below hB (block_lt_of_cell hp.out.1)
     have HQ : Hid (Four q b0 b1 b2 b3 _) := hq.out.below hB (block_lt_of_cell hq.out.1)
     have HR : Hid (Four (w.heap.size + 2) 1 (-1) (-1) (-1) _) := hr.out.below hB (block_lt_of_cell hr.out.1)
     have HB : Hid (Below w.heap.size w _) := hb.out.trans (hB.mono hb.out.size)
     clear hp hq hr hb hB
     by_cases hlt : a1 < b1
     ·rw [cmpX_lt hlt]
      obtain ⟨r0, r1, r2, r3⟩ := HR.out
      go_wp2_with fail
      go_ret
      refine ⟨ret_bool ?_, HB.out⟩
      have HE := he.out
      unfold betterB
      rw [if_neg (by have := HE.1; intro h; exact h (this (by omega)))]
      rw [if_pos (by omega)]
      simp <;> omega
     by_cases hgt : b1 < a1
     ·rw [cmpX_gt hgt]
      obtain ⟨r0, r1, r2, r3⟩ := HR.out
      go_wp2_with fail
      go_ret
      refine ⟨ret_bool ?_, HB.out⟩
      have HE := he.out
      unfold betterB
      rw [if_neg (by have := HE.1; intro h; exact h (this (by omega)))]
      rw [if_pos (by omega)]
      simp <;> omega
     ·rw [cmpX_eq hlt hgt]
      go_wp2_with fail
      go_roundw
      case rel => exact ⟨2, by omega, by go_num, by have HE := he.out; exact ⟨fun _ => by omega, fun _ => by omega, fun _ => by omega, fun _ => by omega⟩, HP, HQ, HR, HB⟩
      case measure => simp [intOf]
    ·obtain ⟨p0, p1, p2, p3⟩ := hp.out
     obtain ⟨q0, q1, q2, q3⟩ := hq.out
     have cE : ∀ d os, Calls Tryz.prog 75 #[.int .i64 a2, .int .i64 b2] (Sort.grow (redrawn wr d) os) fun e w'' => e = .returned (.int .i64 (cmpX a2 b2)) ∧ ∃ p : Regrown, w'' = Sort.grow (redrawn wr p.d) p.os := fun d os => Calls.regrown_of ((compareX_any a2 b2 _).mono (fun _ _ h => ⟨h.1, by rw [h.2]; exact Below.refl _ _⟩))
     have pk := cell_regrown p2
     have qk := cell_regrown q2
     clear p0 p1 p2 p3 q0 q1 q2 q3
     go_wp2_with fail
     refine wp_region_quiet_below (by kernel_rfl) (by kernel_rfl) ?_
     repeat (quiet_step (first | exact cE _ _))
     refine wpQuiet_nil ?_
     intro _ hw'
     obtain ⟨⟨dq, osq⟩, hw''⟩ := hw'
     have hB := below_regrown wr dq osq
     simp only [] at hw''
     rw [← hw''] at hB
     clear hw'' cE pk qk
     have HP : Hid (Four p a0 a1 a2 a3 _) := hp.out.below hB (block_lt_of_cell hp.out.1)
     have HQ : Hid (Four q b0 b1 b2 b3 _) := hq.out.below hB (block_lt_of_cell hq.out.1)
     have HR : Hid (Four (w.heap.size + 2) 1 (-1) (-1) (-1) _) := hr.out.below hB (block_lt_of_cell hr.out.1)
     have HB : Hid (Below w.heap.size w _) := hb.out.trans (hB.mono hb.out.size)
     clear hp hq hr hb hB
     by_cases hlt : a2 < b2
     ·rw [cmpX_lt hlt]
      obtain ⟨r0, r1, r2, r3⟩ := HR.out
      go_wp2_with fail
      go_ret
      refine ⟨ret_bool ?_, HB.out⟩
      have HE := he.out
      unfold betterB
      rw [if_neg (by have := HE.1; intro h; exact h (this (by omega)))]
      rw [if_neg (by have := HE.2.1; intro h; exact h (this (by omega)))]
      rw [if_pos (by omega)]
      simp <;> omega
     by_cases hgt : b2 < a2
     ·rw [cmpX_gt hgt]
      obtain ⟨r0, r1, r2, r3⟩ := HR.out
      go_wp2_with fail
      go_ret
      refine ⟨ret_bool ?_, HB.out⟩
      have HE := he.out
      unfold betterB
      rw [if_neg (by have := HE.1; intro h; exact h (this (by omega)))]
      rw [if_neg (by have := HE.2.1; intro h; exact h (this (by omega)))]
      rw [if_pos (by omega)]
      simp <;> omega
     ·rw [cmpX_eq hlt hgt]
      go_wp2_with fail
      go_roundw
      case rel => exact ⟨3, by omega, by go_num, by have HE := he.out; exact ⟨fun _ => by omega, fun _ => by omega, fun _ => by omega, fun _ => by omega⟩, HP, HQ, HR, HB⟩
      case measure => simp [intOf]
    ·obtain ⟨p0, p1, p2, p3⟩ := hp.out
     obtain ⟨q0, q1, q2, q3⟩ := hq.out
     have cE : ∀ d os, Calls Tryz.prog 75 #[.int .i64 a3, .int .i64 b3] (Sort.grow (redrawn wr d) os) fun e w'' => e = .returned (.int .i64 (cmpX a3 b3)) ∧ ∃ p : Regrown, w'' = Sort.grow (redrawn wr p.d) p.os := fun d os => Calls.regrown_of ((compareX_any a3 b3 _).mono (fun _ _ h => ⟨h.1, by rw [h.2]; exact Below.refl _ _⟩))
     have pk := cell_regrown p3
     have qk := cell_regrown q3
     clear p0 p1 p2 p3 q0 q1 q2 q3
     go_wp2_with fail
     refine wp_region_quiet_below (by kernel_rfl) (by kernel_rfl) ?_
     repeat (quiet_step (first | exact cE _ _))
     refine wpQuiet_nil ?_
     intro _ hw'
     obtain ⟨⟨dq, osq⟩, hw''⟩ := hw'
     have hB := below_regrown wr dq osq
     simp only [] at hw''
     rw [← hw''] at hB
     clear hw'' cE pk qk
     have HP : Hid (Four p a0 a1 a2 a3 _) := hp.out.below hB (block_lt_of_cell hp.out.1)
     have HQ : Hid (Four q b0 b1 b2 b3 _) := hq.out.below hB (block_lt_of_cell hq.out.1)
     have HR : Hid (Four (w.heap.size + 2) 1 (-1) (-1) (-1) _) := hr.out.below hB (block_lt_of_cell hr.out.1)
     have HB : Hid (Below w.heap.size w _) := hb.out.trans (hB.mono hb.out.size)
     clear hp hq hr hb hB
     by_cases hlt : a3 < b3
     ·rw [cmpX_lt hlt]
      obtain ⟨r0, r1, r2, r3⟩ := HR.out
      go_wp2_with fail
      go_ret
      refine ⟨ret_bool ?_, HB.out⟩
      have HE := he.out
      unfold betterB
      rw [if_neg (by have := HE.1; intro h; exact h (this (by omega)))]
      rw [if_neg (by have := HE.2.1; intro h; exact h (this (by omega)))]
      rw [if_neg (by have := HE.2.2.1; intro h; exact h (this (by omega)))]
      simp <;> omega
     by_cases hgt : b3 < a3
     ·rw [cmpX_gt hgt]
      obtain ⟨r0, r1, r2, r3⟩ := HR.out
      go_wp2_with fail
      go_ret
      refine ⟨ret_bool ?_, HB.out⟩
      have HE := he.out
      unfold betterB
      rw [if_neg (by have := HE.1; intro h; exact h (this (by omega)))]
      rw [if_neg (by have := HE.2.1; intro h; exact h (this (by omega)))]
      rw [if_neg (by have := HE.2.2.1; intro h; exact h (this (by omega)))]
      simp <;> omega
     ·rw [cmpX_eq hlt hgt]
      go_wp2_with fail
      go_roundw
      case rel => exact ⟨4, by omega, by go_num, by have HE := he.out; exact ⟨fun _ => by omega, fun _ => by omega, fun _ => by omega, fun _ => by omega⟩, HP, HQ, HR, HB⟩
      case measure => simp [intOf]
    ·go_wp2_with fail
     go_ret
     refine ⟨ret_bool ?_, hb.out⟩
     obtain ⟨e0, e1, e2, e3⟩ := he.out
     rw [betterB_same (e0 (by omega)) (e1 (by omega)) (e2 (by omega)) (e3 (by omega))]
end Go.Proofs.YtebfdgfhadpieaaGreat
