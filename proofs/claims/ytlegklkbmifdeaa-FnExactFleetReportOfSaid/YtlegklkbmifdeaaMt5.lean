/-
  Lists that ascend by name, by the program; runs that are ok. Made by mkmt5.py.
-/
import Derived.Test.YtlegklkbmifdeaaMt4
import Derived.Test.YtlegklkbmifdeaaBls
namespace Go.Proofs.Ytlegklkbmifdeaa
open Go.RowKit

/-- the name at a place stands behind the one ahead of it -/
def ascAt (ns : List ByteArray) : Nat → Bool
  | 0 => true
  | m + 1 => match ns[m]?, ns[m + 1]? with
    | some s, some t => Op.bytesLess s.toList t.toList
    | _, _ => true

def ascTo (ns : List ByteArray) : Nat → Bool
  | 0 => true
  | k + 1 => ascTo ns k && ascAt ns k

theorem ascTo_false {ns : List ByteArray} {k : Nat} (h : ascAt ns k = false) : ∀ n, k < n → ascTo ns n = false
  | 0, hn => absurd hn (Nat.not_lt_zero _)
  | n + 1, hn => by
    by_cases e : k = n
    · subst e; simp only [ascTo, h, Bool.and_false]
    · simp only [ascTo, ascTo_false h n (by omega), Bool.false_and]

theorem ascAt_at {ns : List ByteArray} {m : Nat} {s t : ByteArray} (h : ns[m]? = some s) (h2 : ns[m + 1]? = some t) : ascAt ns (m + 1) = Op.bytesLess s.toList t.toList := by
  simp only [ascAt, h, h2]

set_option maxHeartbeats 1000000 in
theorem nameWnt_any (x : Wnt) (w : World) :
    Calls Try.prog 95 #[.agg #[.string x.copy, .int .i64 x.version, .string x.hold, .int .i64 x.pull, .int .i64 x.start, .int .i64 x.dies, .int .i64 x.grace]] w fun e w' => e = .returned (.string x.copy) ∧ Below w.heap.size w w' := by
  go_enter Try.func95, Try.ntmps95
  go_wp2_with fail
  go_ret
  exact ⟨rfl, by go_grown⟩

set_option maxHeartbeats 4000000 in
set_option maxRecDepth 100000 in
theorem ascWnt_any (xs : List Wnt) (a : Option Addr) (cap lo : Nat) (w : World) (hin : SliceC WntC 7 lo w a xs) (hsm : xs.length ≤ 1048576) :
    Calls Try.prog 94 #[.slice a xs.length cap, .func (.func 95) #[] #[]] w fun e w' => e = .returned (.bool (ascTo (xs.map (·.copy)) xs.length)) ∧ Below w.heap.size w w' := by
  have HI : Hid (SliceC WntC 7 lo w a xs) := hin
  clear hin
  go_enter Try.func94, Try.ntmps94
  go_wp2_with fail
  go_loopw [5] (fun i wr => ∃ m : Nat, (m = 0 ∨ m + 1 ≤ xs.length) ∧ i = .int .i64 ((m : Int) + 1) ∧ Hid (ascTo (xs.map (·.copy)) (m + 1) = true) ∧ Below w.heap.size w wr) (fun i _ => xs.length + 1 - (intOf i).toNat)
  case atStart => exact ⟨0, .inl rfl, rfl, rfl, by go_grown⟩
  case round =>
    obtain ⟨m, hm, rfl, ho, hbel⟩ := hrel
    by_cases hlt : m + 1 < xs.length
    · obtain ⟨x, hx⟩ : ∃ x, xs[m]? = some x := ⟨xs[m], List.getElem?_eq_getElem (by omega)⟩
      obtain ⟨y, hy⟩ : ∃ y, xs[m + 1]? = some y := ⟨xs[m + 1], List.getElem?_eq_getElem (by omega)⟩
      have HIR := HI.out.below WntC.holds hbel (Nat.le_refl _)
      obtain ⟨b, o, rfl, _, _, hc⟩ := HIR.at hx
      obtain ⟨b', o', e', _, _, hc'⟩ := HIR.at hy
      cases e'
      obtain ⟨q0, q1, q2, q3, q4, q5, q6, _, _⟩ := hc
      obtain ⟨r0, r1, r2, r3, r4, r5, r6, _, _⟩ := hc'
      simp only [Nat.add_zero] at q0 q1 q2 q3 q4 q5 q6 r0 r1 r2 r3 r4 r5 r6
      have HA : Hid (ascAt (xs.map (·.copy)) (m + 1) = Op.bytesLess x.copy.toList y.copy.toList) := ascAt_at (by rw [List.getElem?_map, hx]; rfl) (by rw [List.getElem?_map, hy]; rfl)
      have k0 := cell_regrown q0
      have l0 := cell_regrown r0
      have k1 := cell_regrown q1
      have l1 := cell_regrown r1
      have k2 := cell_regrown q2
      have l2 := cell_regrown r2
      have k3 := cell_regrown q3
      have l3 := cell_regrown r3
      have k4 := cell_regrown q4
      have l4 := cell_regrown r4
      have k5 := cell_regrown q5
      have l5 := cell_regrown r5
      have k6 := cell_regrown q6
      have l6 := cell_regrown r6
      have cX : ∀ d os, Calls Try.prog 95 #[.agg #[.string x.copy, .int .i64 x.version, .string x.hold, .int .i64 x.pull, .int .i64 x.start, .int .i64 x.dies, .int .i64 x.grace]] (Sort.grow (redrawn wr d) os) fun e w'' => e = .returned (.string x.copy) ∧ ∃ p : Regrown, w'' = Sort.grow (redrawn wr p.d) p.os := fun d os => Calls.regrown_of (nameWnt_any x _)
      have cY : ∀ d os, Calls Try.prog 95 #[.agg #[.string y.copy, .int .i64 y.version, .string y.hold, .int .i64 y.pull, .int .i64 y.start, .int .i64 y.dies, .int .i64 y.grace]] (Sort.grow (redrawn wr d) os) fun e w'' => e = .returned (.string y.copy) ∧ ∃ p : Regrown, w'' = Sort.grow (redrawn wr p.d) p.os := fun d os => Calls.regrown_of (nameWnt_any y _)
      have i0 : (0 : Int) ≤ (m : Int) := by omega
      have i1 : (m : Int) < (xs.length : Int) := by omega
      have i2 : (0 : Int) ≤ (m : Int) + 1 := by omega
      have i3 : (m : Int) + 1 < (xs.length : Int) := by omega
      clear hx hy q0 q1 q2 q3 q4 q5 q6 r0 r1 r2 r3 r4 r5 r6 HIR
      have HWM : Hid (IntKind.i64.wrap (m : Int) = (m : Int)) := by show _ = _; rw [IntKind.wrap_i64]; omega
      have HLT : Hid (m + 1 < xs.length) := hlt
      generalize hq : Op.bytesLess x.copy.toList y.copy.toList = Q at HA
      have HQ : Hid (Op.bytesLess x.copy.toList y.copy.toList = Q) := hq
      clear hq hlt
      go_wp2_with fail
      refine wp_region_quiet_below (by kernel_rfl) (by kernel_rfl) ?_
      repeat (quiet_step (first | exact cX _ _ | exact cY _ _))
      rw [HWM.out]
      repeat (quiet_step (first | exact cX _ _ | exact cY _ _))
      refine wpQuiet_nil ?_
      intro _ hw'
      obtain ⟨⟨dq, osq⟩, hw''⟩ := hw'
      have hB := hbel.trans ((below_regrown wr dq osq).mono hbel.size)
      simp only [] at hw''
      rw [← hw''] at hB
      clear hw'' cX cY k0 l0 k1 l1 k2 l2 k3 l3 k4 l4 k5 l5 k6 l6
      rw [HQ.out]
      cases Q with
      | false =>
        have HE := Hid.intro (ascTo_false HA.out _ HLT.out)
        go_wp2_with fail
        go_ret
        exact ⟨ret_bool HE.out.symm, hB⟩
      | true =>
        have HE : Hid (ascTo (xs.map (·.copy)) (m + 1 + 1) = true) := by show _ = _; rw [ascTo, ho.out, HA.out]; rfl
        have hlt := HLT.out
        go_wp2_with fail
        go_roundw
        case rel => exact ⟨m + 1, .inr (by omega), by go_num, HE, hB⟩
        case measure => simp [intOf]; omega
    · have HE : Hid (ascTo (xs.map (·.copy)) xs.length = true) := by
        rcases (show m + 1 = xs.length ∨ xs.length = 0 by omega) with e | e
        · rw [← e]; exact ho.out
        · rw [e]; rfl
      go_wp2_with fail
      go_ret
      exact ⟨ret_bool HE.out.symm, hbel⟩

set_option maxHeartbeats 1000000 in
theorem nameRn_any (x : Rn) (w : World) :
    Calls Try.prog 76 #[.agg #[.string x.want.copy, .int .i64 x.want.version, .string x.want.hold, .int .i64 x.want.pull, .int .i64 x.want.start, .int .i64 x.want.dies, .int .i64 x.want.grace, .int .i64 x.state, .int .i64 x.left, .int .i64 x.falls, .int .i64 x.until_]] w fun e w' => e = .returned (.string x.want.copy) ∧ Below w.heap.size w w' := by
  go_enter Try.func76, Try.ntmps76
  go_wp2_with fail
  go_ret
  exact ⟨rfl, by go_grown⟩

set_option maxHeartbeats 4000000 in
set_option maxRecDepth 100000 in
theorem ascRn_any (xs : List Rn) (a : Option Addr) (cap lo : Nat) (w : World) (hin : SliceC RnC 11 lo w a xs) (hsm : xs.length ≤ 1048576) :
    Calls Try.prog 75 #[.slice a xs.length cap, .func (.func 76) #[] #[]] w fun e w' => e = .returned (.bool (ascTo (xs.map (·.want.copy)) xs.length)) ∧ Below w.heap.size w w' := by
  have HI : Hid (SliceC RnC 11 lo w a xs) := hin
  clear hin
  go_enter Try.func75, Try.ntmps75
  go_wp2_with fail
  go_loopw [5] (fun i wr => ∃ m : Nat, (m = 0 ∨ m + 1 ≤ xs.length) ∧ i = .int .i64 ((m : Int) + 1) ∧ Hid (ascTo (xs.map (·.want.copy)) (m + 1) = true) ∧ Below w.heap.size w wr) (fun i _ => xs.length + 1 - (intOf i).toNat)
  case atStart => exact ⟨0, .inl rfl, rfl, rfl, by go_grown⟩
  case round =>
    obtain ⟨m, hm, rfl, ho, hbel⟩ := hrel
    by_cases hlt : m + 1 < xs.length
    · obtain ⟨x, hx⟩ : ∃ x, xs[m]? = some x := ⟨xs[m], List.getElem?_eq_getElem (by omega)⟩
      obtain ⟨y, hy⟩ : ∃ y, xs[m + 1]? = some y := ⟨xs[m + 1], List.getElem?_eq_getElem (by omega)⟩
      have HIR := HI.out.below RnC.holds hbel (Nat.le_refl _)
      obtain ⟨b, o, rfl, _, _, hc⟩ := HIR.at hx
      obtain ⟨b', o', e', _, _, hc'⟩ := HIR.at hy
      cases e'
      obtain ⟨q0, q1, q2, q3, q4, q5, q6, q7, q8, q9, q10, _, _⟩ := hc
      obtain ⟨r0, r1, r2, r3, r4, r5, r6, r7, r8, r9, r10, _, _⟩ := hc'
      simp only [Nat.add_zero] at q0 q1 q2 q3 q4 q5 q6 q7 q8 q9 q10 r0 r1 r2 r3 r4 r5 r6 r7 r8 r9 r10
      have HA : Hid (ascAt (xs.map (·.want.copy)) (m + 1) = Op.bytesLess x.want.copy.toList y.want.copy.toList) := ascAt_at (by rw [List.getElem?_map, hx]; rfl) (by rw [List.getElem?_map, hy]; rfl)
      have k0 := cell_regrown q0
      have l0 := cell_regrown r0
      have k1 := cell_regrown q1
      have l1 := cell_regrown r1
      have k2 := cell_regrown q2
      have l2 := cell_regrown r2
      have k3 := cell_regrown q3
      have l3 := cell_regrown r3
      have k4 := cell_regrown q4
      have l4 := cell_regrown r4
      have k5 := cell_regrown q5
      have l5 := cell_regrown r5
      have k6 := cell_regrown q6
      have l6 := cell_regrown r6
      have k7 := cell_regrown q7
      have l7 := cell_regrown r7
      have k8 := cell_regrown q8
      have l8 := cell_regrown r8
      have k9 := cell_regrown q9
      have l9 := cell_regrown r9
      have k10 := cell_regrown q10
      have l10 := cell_regrown r10
      have cX : ∀ d os, Calls Try.prog 76 #[.agg #[.string x.want.copy, .int .i64 x.want.version, .string x.want.hold, .int .i64 x.want.pull, .int .i64 x.want.start, .int .i64 x.want.dies, .int .i64 x.want.grace, .int .i64 x.state, .int .i64 x.left, .int .i64 x.falls, .int .i64 x.until_]] (Sort.grow (redrawn wr d) os) fun e w'' => e = .returned (.string x.want.copy) ∧ ∃ p : Regrown, w'' = Sort.grow (redrawn wr p.d) p.os := fun d os => Calls.regrown_of (nameRn_any x _)
      have cY : ∀ d os, Calls Try.prog 76 #[.agg #[.string y.want.copy, .int .i64 y.want.version, .string y.want.hold, .int .i64 y.want.pull, .int .i64 y.want.start, .int .i64 y.want.dies, .int .i64 y.want.grace, .int .i64 y.state, .int .i64 y.left, .int .i64 y.falls, .int .i64 y.until_]] (Sort.grow (redrawn wr d) os) fun e w'' => e = .returned (.string y.want.copy) ∧ ∃ p : Regrown, w'' = Sort.grow (redrawn wr p.d) p.os := fun d os => Calls.regrown_of (nameRn_any y _)
      have i0 : (0 : Int) ≤ (m : Int) := by omega
      have i1 : (m : Int) < (xs.length : Int) := by omega
      have i2 : (0 : Int) ≤ (m : Int) + 1 := by omega
      have i3 : (m : Int) + 1 < (xs.length : Int) := by omega
      clear hx hy q0 q1 q2 q3 q4 q5 q6 q7 q8 q9 q10 r0 r1 r2 r3 r4 r5 r6 r7 r8 r9 r10 HIR
      have HWM : Hid (IntKind.i64.wrap (m : Int) = (m : Int)) := by show _ = _; rw [IntKind.wrap_i64]; omega
      have HLT : Hid (m + 1 < xs.length) := hlt
      generalize hq : Op.bytesLess x.want.copy.toList y.want.copy.toList = Q at HA
      have HQ : Hid (Op.bytesLess x.want.copy.toList y.want.copy.toList = Q) := hq
      clear hq hlt
      go_wp2_with fail
      refine wp_region_quiet_below (by kernel_rfl) (by kernel_rfl) ?_
      repeat (quiet_step (first | exact cX _ _ | exact cY _ _))
      rw [HWM.out]
      repeat (quiet_step (first | exact cX _ _ | exact cY _ _))
      refine wpQuiet_nil ?_
      intro _ hw'
      obtain ⟨⟨dq, osq⟩, hw''⟩ := hw'
      have hB := hbel.trans ((below_regrown wr dq osq).mono hbel.size)
      simp only [] at hw''
      rw [← hw''] at hB
      clear hw'' cX cY k0 l0 k1 l1 k2 l2 k3 l3 k4 l4 k5 l5 k6 l6 k7 l7 k8 l8 k9 l9 k10 l10
      rw [HQ.out]
      cases Q with
      | false =>
        have HE := Hid.intro (ascTo_false HA.out _ HLT.out)
        go_wp2_with fail
        go_ret
        exact ⟨ret_bool HE.out.symm, hB⟩
      | true =>
        have HE : Hid (ascTo (xs.map (·.want.copy)) (m + 1 + 1) = true) := by show _ = _; rw [ascTo, ho.out, HA.out]; rfl
        have hlt := HLT.out
        go_wp2_with fail
        go_roundw
        case rel => exact ⟨m + 1, .inr (by omega), by go_num, HE, hB⟩
        case measure => simp [intOf]; omega
    · have HE : Hid (ascTo (xs.map (·.want.copy)) xs.length = true) := by
        rcases (show m + 1 = xs.length ∨ xs.length = 0 by omega) with e | e
        · rw [← e]; exact ho.out
        · rw [e]; rfl
      go_wp2_with fail
      go_ret
      exact ⟨ret_bool HE.out.symm, hbel⟩

/-- runs that are ok -/
def rsB (xs : List Rn) (c : Int) : Bool := decide (xs.length ≤ 20) && (ascTo (xs.map (·.want.copy)) xs.length && xs.all (roB · c))

theorem rsB_no {xs : List Rn} {c : Int} {k : Nat} {x : Rn} (h : xs[k]? = some x) (hr : roB x c = false) : rsB xs c = false := by
  have : xs.all (roB · c) = false := by
    rw [List.all_eq_false]
    exact ⟨x, List.mem_of_getElem? h, by simp [hr]⟩
  unfold rsB
  rw [this, Bool.and_false, Bool.and_false]

theorem rsB_yes {xs : List Rn} {c : Int} (hl : xs.length ≤ 20) (ha : ascTo (xs.map (·.want.copy)) xs.length = true) (h : ∀ (j : Nat) x, j < xs.length → xs[j]? = some x → roB x c = true) : rsB xs c = true := by
  have : xs.all (roB · c) = true := by
    rw [List.all_eq_true]
    intro r hr
    obtain ⟨j, hj, e⟩ := List.getElem_of_mem hr
    exact h j r hj (by rw [List.getElem?_eq_getElem hj, e])
  unfold rsB
  rw [this, ha, decide_eq_true hl]
  rfl

theorem range_of_cells {w : World} {b o : Nat} {x : Rn} (h : RnC 0 w (fun i => w.cell? ⟨b, o + i, none⟩) x) : w.rangeAt b o [.string x.want.copy, .int .i64 x.want.version, .string x.want.hold, .int .i64 x.want.pull, .int .i64 x.want.start, .int .i64 x.want.dies, .int .i64 x.want.grace, .int .i64 x.state, .int .i64 x.left, .int .i64 x.falls, .int .i64 x.until_] := by
  obtain ⟨q0, q1, q2, q3, q4, q5, q6, q7, q8, q9, q10, _, _⟩ := h
  simp only [Nat.add_zero] at q0 q1 q2 q3 q4 q5 q6 q7 q8 q9 q10
  exact range_cons q0 (range_cons q1 (range_cons q2 (range_cons q3 (range_cons q4 (range_cons q5 (range_cons q6 (range_cons q7 (range_cons q8 (range_cons q9 (range_cons q10 (range_nil _ _ _)))))))))))

theorem rn_any_lo {lo : Nat} {w : World} {f : Nat → Option Value} {x : Rn} (h : RnC lo w f x) : RnC 0 w f x := h

set_option maxHeartbeats 4000000 in
set_option maxRecDepth 100000 in
theorem implRunsOk_any (xs : List Rn) (a : Option Addr) (cap lo : Nat) (c : Int) (w : World) (hin : SliceC RnC 11 lo w a xs) (hsm : xs.length ≤ 1048576) :
    Calls Try.prog 68 #[.slice a xs.length cap, .int .i64 c] w fun e w' => e = .returned (.bool (rsB xs c)) ∧ Below w.heap.size w w' := by
  have HI : Hid (SliceC RnC 11 lo w a xs) := hin
  clear hin
  by_cases hl : xs.length ≤ 20
  case neg =>
    have hl' : (20 : Int) < xs.length := by omega
    have HE : Hid (rsB xs c = false) := by show _ = _; unfold rsB; rw [decide_eq_false hl]; rfl
    clear hl
    go_enter Try.func68, Try.ntmps68
    go_wp2_with fail
    go_ret
    exact ⟨ret_bool HE.out.symm, by go_grown⟩
  have hl' : (xs.length : Int) ≤ 20 := by omega
  go_enter Try.func68, Try.ntmps68
  go_wp2_with fail
  refine (ascRn_any xs a cap lo _ HI.out hsm).mono ?_
  rintro e w1 ⟨rfl, hb1⟩
  cases hasc : ascTo (xs.map (·.want.copy)) xs.length with
  | false =>
    have HE : Hid (rsB xs c = false) := by show _ = _; unfold rsB; rw [hasc]; simp
    go_wp2_with fail
    go_ret
    exact ⟨ret_bool HE.out.symm, hb1⟩
  | true =>
    have HASC := Hid.intro hasc
    clear hasc
    go_wp2_with fail
    go_loopw [17] (fun i wr => ∃ k : Nat, k ≤ xs.length ∧ i = .int .i64 k ∧ Hid (∀ (j : Nat) x, j < k → xs[j]? = some x → roB x c = true) ∧ Below w.heap.size w wr) (fun i _ => xs.length - (intOf i).toNat)
    case atStart => exact ⟨0, Nat.zero_le _, rfl, fun j q h => by omega, hb1⟩
    case round =>
      clear hb1
      obtain ⟨k, hk, rfl, hN, hB⟩ := hrel
      by_cases hlt : k < xs.length
      · obtain ⟨x, hx⟩ : ∃ x, xs[k]? = some x := ⟨xs[k], List.getElem?_eq_getElem hlt⟩
        obtain ⟨b, o, rfl, _, hbl, hc⟩ := (HI.out.below RnC.holds hB (Nat.le_refl _)).at hx
        have hz := hc
        obtain ⟨_, _, _, _, _, _, _, _, _, _, _, z0, z2⟩ := hz
        have HRA := Hid.intro (range_of_cells hc)
        have Z0 := Hid.intro z0
        have Z2 := Hid.intro z2
        have HXX := Hid.intro hx
        clear hc z0 z2 hx
        have hza : Blk wr.heap.size #[.string ⟨#[]⟩, .int .i64 0, .string ⟨#[]⟩, .int .i64 0, .int .i64 0, .int .i64 0, .int .i64 0, .int .i64 0, .int .i64 0, .int .i64 0, .int .i64 0] 50 (wr.alloc (Obj.cells #[.string ⟨#[]⟩, .int .i64 0, .string ⟨#[]⟩, .int .i64 0, .int .i64 0, .int .i64 0, .int .i64 0, .int .i64 0, .int .i64 0, .int .i64 0, .int .i64 0] 50)) := Blk.alloc _ _ _
        have HTS : Hid ((wr.alloc (Obj.cells #[.string ⟨#[]⟩, .int .i64 0, .string ⟨#[]⟩, .int .i64 0, .int .i64 0, .int .i64 0, .int .i64 0, .int .i64 0, .int .i64 0, .int .i64 0, .int .i64 0] 50)).there wr.heap.size 0 11) := hza.there
        obtain ⟨w4, HW4⟩ : ∃ w4, Hid (w4 = (wr.alloc (Obj.cells #[.string ⟨#[]⟩, .int .i64 0, .string ⟨#[]⟩, .int .i64 0, .int .i64 0, .int .i64 0, .int .i64 0, .int .i64 0, .int .i64 0, .int .i64 0, .int .i64 0] 50)).setCells wr.heap.size 0 [.string x.want.copy, .int .i64 x.want.version, .string x.want.hold, .int .i64 x.want.pull, .int .i64 x.want.start, .int .i64 x.want.dies, .int .i64 x.want.grace, .int .i64 x.state, .int .i64 x.left, .int .i64 x.falls, .int .i64 x.until_]) := ⟨_, rfl⟩
        have HK4 : Hid (Blk wr.heap.size #[.string x.want.copy, .int .i64 x.want.version, .string x.want.hold, .int .i64 x.want.pull, .int .i64 x.want.start, .int .i64 x.want.dies, .int .i64 x.want.grace, .int .i64 x.state, .int .i64 x.left, .int .i64 x.falls, .int .i64 x.until_] 50 w4) := by
          show Blk _ _ _ _
          rw [HW4.out]
          exact hza.setAll #[.string x.want.copy, .int .i64 x.want.version, .string x.want.hold, .int .i64 x.want.pull, .int .i64 x.want.start, .int .i64 x.want.dies, .int .i64 x.want.grace, .int .i64 x.state, .int .i64 x.left, .int .i64 x.falls, .int .i64 x.until_] rfl
        have hbx : Below wr.heap.size wr w4 := by
          rw [HW4.out]
          exact below_setCells (Nat.le_refl _) _ _ _ ((Below.refl _ wr).alloc (Nat.le_refl _) _)
        have hB4 : Below w.heap.size w w4 := hB.trans (hbx.mono hB.size)
        clear hza hbx
        go_upto_region 6 with (first | (refine wpList_load_mid rfl 50 _ rfl b (o + k * 11) (by first | rfl | (simp [go_sem]; done)) [.string x.want.copy, .int .i64 x.want.version, .string x.want.hold, .int .i64 x.want.pull, .int .i64 x.want.start, .int .i64 x.want.dies, .int .i64 x.want.grace, .int .i64 x.state, .int .i64 x.left, .int .i64 x.falls, .int .i64 x.until_] _ HRA.out Try.underlying50 rfl isz_Rn ?_) | (refine wpList_store_to rfl 50 _ _ rfl wr.heap.size 0 #[.string x.want.copy, .int .i64 x.want.version, .string x.want.hold, .int .i64 x.want.pull, .int .i64 x.want.start, .int .i64 x.want.dies, .int .i64 x.want.grace, .int .i64 x.state, .int .i64 x.left, .int .i64 x.falls, .int .i64 x.until_] rfl rfl HTS.out isz_Rn (by simp [Value.oneCell']) w4 HW4.out ?_))
        clear HRA HTS HW4
        go_wp2_with (first | (refine wpList_load_mid rfl 50 _ rfl wr.heap.size 0 (by first | rfl | (simp [go_sem]; done)) [.string x.want.copy, .int .i64 x.want.version, .string x.want.hold, .int .i64 x.want.pull, .int .i64 x.want.start, .int .i64 x.want.dies, .int .i64 x.want.grace, .int .i64 x.state, .int .i64 x.left, .int .i64 x.falls, .int .i64 x.until_] _ HK4.out.rangeA Try.underlying50 rfl isz_Rn ?_))
        refine (runOf_any x _).mono ?_
        rintro e w5 ⟨rfl, hb5⟩
        have hB5 := hB4.trans (hb5.mono hB4.size)
        clear hb5 hB4 HK4
        go_wp2_with fail
        refine (rok_any x c _ Z0.out Z2.out).mono ?_
        rintro e w6 ⟨rfl, hb6⟩
        have hB6 := hB5.trans (hb6.mono hB5.size)
        clear hb6 hB5
        cases hro : roB x c with
        | false =>
          have HE := Hid.intro (rsB_no HXX.out hro)
          clear hro
          go_wp2_with fail
          go_ret
          exact ⟨ret_bool HE.out.symm, hB6⟩
        | true =>
          have HN2 : Hid (∀ (j : Nat) y, j < k + 1 → xs[j]? = some y → roB y c = true) := fun j y hj hy => by
            by_cases e : j = k
            · subst e
              have := HXX.out.symm.trans hy
              cases this
              exact hro
            · exact hN.out j y (by omega) hy
          clear hro
          go_wp2_with fail
          go_roundw
          case rel => exact ⟨k + 1, by omega, by go_num, HN2, hB6⟩
          case measure => simp [intOf]; omega
      · have hke : k = xs.length := by omega
        subst hke
        have HE := Hid.intro (rsB_yes hl HASC.out hN.out)
        go_wp2_with fail
        go_ret
        exact ⟨ret_bool HE.out.symm, hB⟩

end Go.Proofs.Ytlegklkbmifdeaa
