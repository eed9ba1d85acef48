/-
  Lists that ascend by name, by the program; runs that are ok. Made by mkmt5.py.
-/
import Derived.Test.YtnhmhnlekagloaaMt4
import Derived.Test.YtnhmhnlekagloaaBls
namespace Go.Proofs.Ytnhmhnlekagloaa
open Go.RowKit

/-- the name at a place stands behind the one ahead of it -/
def ascAt (ns : List ByteArray) : Nat → Bool
  | 0 => true
  | m + 1 => match ns[m]?, ns[m + 1]? with
    | some s, some t => Op.bytesLess s.toList t.toList
    | _, _ => true

def ascTo (ns : List ByteArray) : Nat → Bool
  | 0 => true
  | k + 1 => ascTo ns k && ascAt ns k

theorem ascTo_false {ns : List ByteArray} {k : Nat} (h : ascAt ns k = false) : ∀ n, k < n → ascTo ns n = false
  | 0, hn => absurd hn (Nat.not_lt_zero _)
  | n + 1, hn => by
    by_cases e : k = n
    · subst e; simp only [ascTo, h, Bool.and_false]
    · simp only [ascTo, ascTo_false h n (by omega), Bool.false_and]

theorem ascAt_at {ns : List ByteArray} {m : Nat} {s t : ByteArray} (h : ns[m]? = some s) (h2 : ns[m + 1]? = some t) : ascAt ns (m + 1) = Op.bytesLess s.toList t.toList := by
  simp only [ascAt, h, h2]

set_option maxHeartbeats 1000000 in
theorem nameWnt_any (x : Wnt) (w : World) :
    Calls Try.prog 56 #[.agg #[.string x.copy, .int .i64 x.version, .string x.hold, .int .i64 x.pull, .int .i64 x.start, .int .i64 x.dies, .int .i64 x.grace]] w fun e w' => e = .returned (.string x.copy) ∧ Below w.heap.size w w' := by
  go_enter Try.func56, Try.ntmps56
  go_wp2_with fail
  go_ret
  exact ⟨rfl, by go_grown⟩

set_option maxHeartbeats 4000000 in
set_option maxRecDepth 100000 in
theorem ascWnt_any (xs : List Wnt) (a : Option Addr) (cap lo : Nat) (w : World) (hin : SliceC WntC 7 lo w a xs) (hsm : xs.length ≤ 1048576) :
    Calls Try.prog 55 #[.slice a xs.length cap, .func (.func 56) #[] #[]] w fun e w' => e = .returned (.bool (ascTo (xs.map (·.copy)) xs.length)) ∧ Below w.heap.size w w' := by
  have HI : Hid (SliceC WntC 7 lo w a xs) := hin
  clear hin
  go_enter Try.func55, Try.ntmps55
  go_wp2_with fail
  go_loopw [5] (fun i wr => ∃ m : Nat, (m = 0 ∨ m + 1 ≤ xs.length) ∧ i = .int .i64 ((m : Int) + 1) ∧ Hid (ascTo (xs.map (·.copy)) (m + 1) = true) ∧ Below w.heap.size w wr) (fun i _ => xs.length + 1 - (intOf i).toNat)
  case atStart => exact ⟨0, .inl rfl, rfl, rfl, by go_grown⟩
  case round =>
    obtain ⟨m, hm, rfl, ho, hbel⟩ := hrel
    by_cases hlt : m + 1 < xs.length
    · obtain ⟨x, hx⟩ : ∃ x, xs[m]? = some x := ⟨xs[m], List.getElem?_eq_getElem (by omega)⟩
      obtain ⟨y, hy⟩ : ∃ y, xs[m + 1]? = some y := ⟨xs[m + 1], List.getElem?_eq_getElem (by omega)⟩
      have HIR := HI.out.below WntC.holds hbel (Nat.le_refl _)
      obtain ⟨b, o, rfl, _, _, hc⟩ := HIR.at hx
      obtain ⟨b', o', e', _, _, hc'⟩ := HIR.at hy
      cases e'
      obtain ⟨q0, q1, q2, q3, q4, q5, q6, _, _⟩ := hc
      obtain ⟨r0, r1, r2, r3, r4, r5, r6, _, _⟩ := hc'
      simp only [Nat.add_zero] at q0 q1 q2 q3 q4 q5 q6 r0 r1 r2 r3 r4 r5 r6
      have HA : Hid (ascAt (xs.map (·.copy)) (m + 1) = Op.bytesLess x.copy.toList y.copy.toList) := ascAt_at (by rw [List.getElem?_map, hx]; rfl) (by rw [List.getElem?_map, hy]; rfl)
      have k0 := cell_regrown q0
      have l0 := cell_regrown r0
      have k1 := cell_regrown q1
      have l1 := cell_regrown r1
      have k2 := cell_regrown q2
      have l2 := cell_regrown r2
      have k3 := cell_regrown q3
      have l3 := cell_regrown r3
      have k4 := cell_regrown q4
      have l4 := cell_regrown r4
      have k5 := cell_regrown q5
      have l5 := cell_regrown r5
      have k6 := cell_regrown q6
      have l6 := cell_regrown r6
      have cX : ∀ d os, Calls Try.prog 56 #[.agg #[.string x.copy, .int .i64 x.version, .string x.hold, .int .i64 x.pull, .int .i64 x.start, .int .i64 x.dies, .int .i64 x.grace]] (Sort.grow (redrawn wr d) os) fun e w'' => e = .returned (.string x.copy) ∧ ∃ p : Regrown, w'' = Sort.grow (redrawn wr p.d) p.os := fun d os => Calls.regrown_of (nameWnt_any x _)
      have cY : ∀ d os, Calls Try.prog 56 #[.agg #[.string y.copy, .int .i64 y.version, .string y.hold, .int .i64 y.pull, .int .i64 y.start, .int .i64 y.dies, .int .i64 y.grace]] (Sort.grow (redrawn wr d) os) fun e w'' => e = .returned (.string y.copy) ∧ ∃ p : Regrown, w'' = Sort.grow (redrawn wr p.d) p.os := fun d os => Calls.regrown_of (nameWnt_any y _)
      have i0 : (0 : Int) ≤ (m : Int) := by omega
      have i1 : (m : Int) < (xs.length : Int) := by omega
      have i2 : (0 : Int) ≤ (m : Int) + 1 := by omega
      have i3 : (m : Int) + 1 < (xs.length : Int) := by omega
      clear hx hy q0 q1 q2 q3 q4 q5 q6 r0 r1 r2 r3 r4 r5 r6 HIR
      have HWM : Hid (IntKind.i64.wrap (m : Int) = (m : Int)) := by show _ = _; rw [IntKind.wrap_i64]; omega
      have HLT : Hid (m + 1 < xs.length) := hlt
      generalize hq : Op.bytesLess x.copy.toList y.copy.toList = Q at HA
      have HQ : Hid (Op.bytesLess x.copy.toList y.copy.toList = Q) := hq
      clear hq hlt
      go_wp2_with fail
      refine wp_region_quiet_below (by kernel_rfl) (by kernel_rfl) ?_
      repeat (quiet_step (first | exact cX _ _ | exact cY _ _))
      rw [HWM.out]
      repeat (quiet_step (first | exact cX _ _ | exact cY _ _))
      refine wpQuiet_nil ?_
      intro _ hw'
      obtain ⟨⟨dq, osq⟩, hw''⟩ := hw'
      have hB := hbel.trans ((below_regrown wr dq osq).mono hbel.size)
      simp only [] at hw''
      rw [← hw''] at hB
      clear hw'' cX cY k0 l0 k1 l1 k2 l2 k3 l3 k4 l4 k5 l5 k6 l6
      rw [HQ.out]
      cases Q with
      | false =>
        have HE := Hid.intro (ascTo_false HA.out _ HLT.out)
        go_wp2_with fail
        go_ret
        exact ⟨ret_bool HE.out.symm, hB⟩
      | true =>
        have HE : Hid (ascTo (xs.map (·.copy)) (m + 1 + 1) = true) := by show _ = _; rw [ascTo, ho.out, HA.out]; rfl
        have hlt := HLT.out
        go_wp2_with fail
        go_roundw
        case rel => exact ⟨m + 1, .inr (by omega), by go_num, HE, hB⟩
        case measure => simp [intOf]; omega
    · have HE : Hid (ascTo (xs.map (·.copy)) xs.length = true) := by
        rcases (show m + 1 = xs.length ∨ xs.length = 0 by omega) with e | e
        · rw [← e]; exact ho.out
        · rw [e]; rfl
      go_wp2_with fail
      go_ret
      exact ⟨ret_bool HE.out.symm, hbel⟩

/-- runs that are ok -/
def rsB (xs : List Rn) (c : Int) : Bool := decide (xs.length ≤ 20) && (ascTo (xs.map (·.want.copy)) xs.length && xs.all (roB · c))

theorem rsB_no {xs : List Rn} {c : Int} {k : Nat} {x : Rn} (h : xs[k]? = some x) (hr : roB x c = false) : rsB xs c = false := by
  have : xs.all (roB · c) = false := by
    rw [List.all_eq_false]
    exact ⟨x, List.mem_of_getElem? h, by simp [hr]⟩
  unfold rsB
  rw [this, Bool.and_false, Bool.and_false]

theorem rsB_yes {xs : List Rn} {c : Int} (hl : xs.length ≤ 20) (ha : ascTo (xs.map (·.want.copy)) xs.length = true) (h : ∀ (j : Nat) x, j < xs.length → xs[j]? = some x → roB x c = true) : rsB xs c = true := by
  have : xs.all (roB · c) = true := by
    rw [List.all_eq_true]
    intro r hr
    obtain ⟨j, hj, e⟩ := List.getElem_of_mem hr
    exact h j r hj (by rw [List.getElem?_eq_getElem hj, e])
  unfold rsB
  rw [this, ha, decide_eq_true hl]
  rfl

theorem range_of_cells {w : World} {b o : Nat} {x : Rn} (h : RnC 0 w (fun i => w.cell? ⟨b, o + i, none⟩) x) : w.rangeAt b o [.string x.want.copy, .int .i64 x.want.version, .string x.want.hold, .int .i64 x.want.pull, .int .i64 x.want.start, .int .i64 x.want.dies, .int .i64 x.want.grace, .int .i64 x.state, .int .i64 x.left, .int .i64 x.falls, .int .i64 x.until_] := by
  obtain ⟨q0, q1, q2, q3, q4, q5, q6, q7, q8, q9, q10, _, _⟩ := h
  simp only [Nat.add_zero] at q0 q1 q2 q3 q4 q5 q6 q7 q8 q9 q10
  exact range_cons q0 (range_cons q1 (range_cons q2 (range_cons q3 (range_cons q4 (range_cons q5 (range_cons q6 (range_cons q7 (range_cons q8 (range_cons q9 (range_cons q10 (range_nil _ _ _)))))))))))

theorem rn_any_lo {lo : Nat} {w : World} {f : Nat → Option Value} {x : Rn} (h : RnC lo w f x) : RnC 0 w f x := h

end Go.Proofs.Ytnhmhnlekagloaa
