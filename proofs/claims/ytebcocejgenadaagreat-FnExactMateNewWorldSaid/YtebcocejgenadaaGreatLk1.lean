/-
  The program's checks of a book. Made by mklk1.py.
-/
import Derived.Test.YtebcocejgenadaaGreatLkp
namespace Go.Proofs.YtebcocejgenadaaGreat
open Go.RowKit

theorem grt_range {lo : Nat} {w : World} {b o : Nat} {y : Grt} (h : GrtC lo w (fun i => w.cell? ⟨b, o + i, none⟩) y) : w.rangeAt b o [.string y.hold, .string y.berth, .string y.copy, .int .i64 y.at_, .int .i64 y.until_] := by
  obtain ⟨q0, q1, q2, q3, q4, _⟩ := h
  simp only [Nat.add_zero] at q0 q1 q2 q3 q4
  exact range_cons q0 (range_cons q1 (range_cons q2 (range_cons q3 (range_cons q4 (range_nil _ _ _)))))

theorem plm_range {lo : Nat} {w : World} {b o : Nat} {y : Plm} {p2 : Option Addr} {q2 : Nat} (h : w.cell? ⟨b, o + 0, none⟩ = some (.string y.berth) ∧ w.cell? ⟨b, o + 1, none⟩ = some (.int .i64 y.seen) ∧ w.cell? ⟨b, o + 2, none⟩ = some (.slice p2 y.wants.length q2) ∧ y.berth.size ≤ maxLen ∧ SliceC WntC 7 lo w p2 y.wants) : w.rangeAt b o [.string y.berth, .int .i64 y.seen, .slice p2 y.wants.length q2] := by
  obtain ⟨q0, q1, q2, _⟩ := h
  simp only [Nat.add_zero] at q0 q1 q2
  exact range_cons q0 (range_cons q1 (range_cons q2 (range_nil _ _ _)))

set_option maxHeartbeats 1000000 in
theorem nameGrt_any (x : Grt) (w : World) :
    Calls Tryz.prog 109 #[.agg #[.string x.hold, .string x.berth, .string x.copy, .int .i64 x.at_, .int .i64 x.until_]] w fun e w' => e = .returned (.string x.hold) ∧ Below w.heap.size w w' := by
  go_enter Tryz.func109, Tryz.ntmps109
  go_wp2_with fail
  go_ret
  exact ⟨rfl, by go_grown⟩

set_option maxHeartbeats 4000000 in
set_option maxRecDepth 100000 in
theorem ascGrt_any (xs : List Grt) (a : Option Addr) (cap lo : Nat) (w : World) (hin : SliceC GrtC 5 lo w a xs) (hsm : xs.length ≤ 1048576) :
    Calls Tryz.prog 108 #[.slice a xs.length cap, .func (.func 109) #[] #[]] w fun e w' => e = .returned (.bool (ascTo (xs.map (·.hold)) xs.length)) ∧ Below w.heap.size w w' := by
  have HI : Hid (SliceC GrtC 5 lo w a xs) := hin
  clear hin
  go_enter Tryz.func108, Tryz.ntmps108
  go_wp2_with fail
  go_loopw [5] (fun i wr => ∃ m : Nat, (m = 0 ∨ m + 1 ≤ xs.length) ∧ i = .int .i64 ((m : Int) + 1) ∧ Hid (ascTo (xs.map (·.hold)) (m + 1) = true) ∧ Below w.heap.size w wr) (fun i _ => xs.length + 1 - (intOf i).toNat)
  case atStart => exact ⟨0, .inl rfl, rfl, rfl, by go_grown⟩
  case round =>
    obtain ⟨m, hm, rfl, ho, hbel⟩ := hrel
    by_cases hlt : m + 1 < xs.length
    · obtain ⟨x, hx⟩ : ∃ x, xs[m]? = some x := ⟨xs[m], List.getElem?_eq_getElem (by omega)⟩
      obtain ⟨y, hy⟩ : ∃ y, xs[m + 1]? = some y := ⟨xs[m + 1], List.getElem?_eq_getElem (by omega)⟩
      have HIR := HI.out.below GrtC.holds hbel (Nat.le_refl _)
      obtain ⟨b, o, rfl, _, _, hc⟩ := HIR.at hx
      obtain ⟨b', o', e', _, _, hc'⟩ := HIR.at hy
      cases e'
      obtain ⟨q0, q1, q2, q3, q4, _, _⟩ := hc
      obtain ⟨r0, r1, r2, r3, r4, _, _⟩ := hc'
      simp only [Nat.add_zero] at q0 q1 q2 q3 q4 r0 r1 r2 r3 r4
      have HA : Hid (ascAt (xs.map (·.hold)) (m + 1) = Op.bytesLess x.hold.toList y.hold.toList) := ascAt_at (by rw [List.getElem?_map, hx]; rfl) (by rw [List.getElem?_map, hy]; rfl)
      have k0 := cell_regrown q0
      have l0 := cell_regrown r0
      have k1 := cell_regrown q1
      have l1 := cell_regrown r1
      have k2 := cell_regrown q2
      have l2 := cell_regrown r2
      have k3 := cell_regrown q3
      have l3 := cell_regrown r3
      have k4 := cell_regrown q4
      have l4 := cell_regrown r4
      have cX : ∀ d os, Calls Tryz.prog 109 #[.agg #[.string x.hold, .string x.berth, .string x.copy, .int .i64 x.at_, .int .i64 x.until_]] (Sort.grow (redrawn wr d) os) fun e w'' => e = .returned (.string x.hold) ∧ ∃ p : Regrown, w'' = Sort.grow (redrawn wr p.d) p.os := fun d os => Calls.regrown_of (nameGrt_any x _)
      have cY : ∀ d os, Calls Tryz.prog 109 #[.agg #[.string y.hold, .string y.berth, .string y.copy, .int .i64 y.at_, .int .i64 y.until_]] (Sort.grow (redrawn wr d) os) fun e w'' => e = .returned (.string y.hold) ∧ ∃ p : Regrown, w'' = Sort.grow (redrawn wr p.d) p.os := fun d os => Calls.regrown_of (nameGrt_any y _)
      have i0 : (0 : Int) ≤ (m : Int) := by omega
      have i1 : (m : Int) < (xs.length : Int) := by omega
      have i2 : (0 : Int) ≤ (m : Int) + 1 := by omega
      have i3 : (m : Int) + 1 < (xs.length : Int) := by omega
      clear hx hy q0 q1 q2 q3 q4 r0 r1 r2 r3 r4 HIR
      have HWM : Hid (IntKind.i64.wrap (m : Int) = (m : Int)) := by show _ = _; rw [IntKind.wrap_i64]; omega
      have HLT : Hid (m + 1 < xs.length) := hlt
      generalize hq : Op.bytesLess x.hold.toList y.hold.toList = Q at HA
      have HQ : Hid (Op.bytesLess x.hold.toList y.hold.toList = Q) := hq
      clear hq hlt
      go_wp2_with fail
      refine wp_region_quiet_below (by kernel_rfl) (by kernel_rfl) ?_
      repeat (quiet_step (first | exact cX _ _ | exact cY _ _))
      rw [HWM.out]
      repeat (quiet_step (first | exact cX _ _ | exact cY _ _))
      refine wpQuiet_nil ?_
      intro _ hw'
      obtain ⟨⟨dq, osq⟩, hw''⟩ := hw'
      have hB := hbel.trans ((below_regrown wr dq osq).mono hbel.size)
      simp only [] at hw''
      rw [← hw''] at hB
      clear hw'' cX cY k0 l0 k1 l1 k2 l2 k3 l3 k4 l4
      rw [HQ.out]
      cases Q with
      | false =>
        have HE := Hid.intro (ascTo_false HA.out _ HLT.out)
        go_wp2_with fail
        go_ret
        exact ⟨ret_bool HE.out.symm, hB⟩
      | true =>
        have HE : Hid (ascTo (xs.map (·.hold)) (m + 1 + 1) = true) := by show _ = _; rw [ascTo, ho.out, HA.out]; rfl
        have hlt := HLT.out
        go_wp2_with fail
        go_roundw
        case rel => exact ⟨m + 1, .inr (by omega), by go_num, HE, hB⟩
        case measure => simp [intOf]; omega
    · have HE : Hid (ascTo (xs.map (·.hold)) xs.length = true) := by
        rcases (show m + 1 = xs.length ∨ xs.length = 0 by omega) with e | e
        · rw [← e]; exact ho.out
        · rw [e]; rfl
      go_wp2_with fail
      go_ret
      exact ⟨ret_bool HE.out.symm, hbel⟩


set_option maxHeartbeats 1000000 in
theorem namePlm_any (x : Plm) (p2 : Option Addr) (q2 : Nat) (w : World) :
    Calls Tryz.prog 113 #[.agg #[.string x.berth, .int .i64 x.seen, .slice p2 x.wants.length q2]] w fun e w' => e = .returned (.string x.berth) ∧ Below w.heap.size w w' := by
  go_enter Tryz.func113, Tryz.ntmps113
  go_wp2_with fail
  go_ret
  exact ⟨rfl, by go_grown⟩

set_option maxHeartbeats 4000000 in
set_option maxRecDepth 100000 in
theorem ascPlm_any (xs : List Plm) (a : Option Addr) (cap lo : Nat) (w : World) (hin : SliceC PlmC 3 lo w a xs) (hsm : xs.length ≤ 1048576) :
    Calls Tryz.prog 112 #[.slice a xs.length cap, .func (.func 113) #[] #[]] w fun e w' => e = .returned (.bool (ascTo (xs.map (·.berth)) xs.length)) ∧ Below w.heap.size w w' := by
  have HI : Hid (SliceC PlmC 3 lo w a xs) := hin
  clear hin
  go_enter Tryz.func112, Tryz.ntmps112
  go_wp2_with fail
  go_loopw [5] (fun i wr => ∃ m : Nat, (m = 0 ∨ m + 1 ≤ xs.length) ∧ i = .int .i64 ((m : Int) + 1) ∧ Hid (ascTo (xs.map (·.berth)) (m + 1) = true) ∧ Below w.heap.size w wr) (fun i _ => xs.length + 1 - (intOf i).toNat)
  case atStart => exact ⟨0, .inl rfl, rfl, rfl, by go_grown⟩
  case round =>
    obtain ⟨m, hm, rfl, ho, hbel⟩ := hrel
    by_cases hlt : m + 1 < xs.length
    · obtain ⟨x, hx⟩ : ∃ x, xs[m]? = some x := ⟨xs[m], List.getElem?_eq_getElem (by omega)⟩
      obtain ⟨y, hy⟩ : ∃ y, xs[m + 1]? = some y := ⟨xs[m + 1], List.getElem?_eq_getElem (by omega)⟩
      have HIR := HI.out.below PlmC.holds hbel (Nat.le_refl _)
      obtain ⟨b, o, rfl, _, _, hc⟩ := HIR.at hx
      obtain ⟨b', o', e', _, _, hc'⟩ := HIR.at hy
      cases e'
      obtain ⟨p2, q2, e0, e1, e2, _, _⟩ := hc
      obtain ⟨p2p, q2p, r0, r1, r2, _, _⟩ := hc'
      simp only [Nat.add_zero] at e0 e1 e2 r0 r1 r2
      have HA : Hid (ascAt (xs.map (·.berth)) (m + 1) = Op.bytesLess x.berth.toList y.berth.toList) := ascAt_at (by rw [List.getElem?_map, hx]; rfl) (by rw [List.getElem?_map, hy]; rfl)
      have k0 := cell_regrown e0
      have l0 := cell_regrown r0
      have k1 := cell_regrown e1
      have l1 := cell_regrown r1
      have k2 := cell_regrown e2
      have l2 := cell_regrown r2
      have cX : ∀ d os, Calls Tryz.prog 113 #[.agg #[.string x.berth, .int .i64 x.seen, .slice p2 x.wants.length q2]] (Sort.grow (redrawn wr d) os) fun e w'' => e = .returned (.string x.berth) ∧ ∃ p : Regrown, w'' = Sort.grow (redrawn wr p.d) p.os := fun d os => Calls.regrown_of (namePlm_any x p2 q2 _)
      have cY : ∀ d os, Calls Tryz.prog 113 #[.agg #[.string y.berth, .int .i64 y.seen, .slice p2p y.wants.length q2p]] (Sort.grow (redrawn wr d) os) fun e w'' => e = .returned (.string y.berth) ∧ ∃ p : Regrown, w'' = Sort.grow (redrawn wr p.d) p.os := fun d os => Calls.regrown_of (namePlm_any y p2p q2p _)
      have i0 : (0 : Int) ≤ (m : Int) := by omega
      have i1 : (m : Int) < (xs.length : Int) := by omega
      have i2 : (0 : Int) ≤ (m : Int) + 1 := by omega
      have i3 : (m : Int) + 1 < (xs.length : Int) := by omega
      clear hx hy e0 e1 e2 r0 r1 r2 HIR
      have HWM : Hid (IntKind.i64.wrap (m : Int) = (m : Int)) := by show _ = _; rw [IntKind.wrap_i64]; omega
      have HLT : Hid (m + 1 < xs.length) := hlt
      generalize hq : Op.bytesLess x.berth.toList y.berth.toList = Q at HA
      have HQ : Hid (Op.bytesLess x.berth.toList y.berth.toList = Q) := hq
      clear hq hlt
      go_wp2_with fail
      refine wp_region_quiet_below (by kernel_rfl) (by kernel_rfl) ?_
      repeat (quiet_step (first | exact cX _ _ | exact cY _ _))
      rw [HWM.out]
      repeat (quiet_step (first | exact cX _ _ | exact cY _ _))
      refine wpQuiet_nil ?_
      intro _ hw'
      obtain ⟨⟨dq, osq⟩, hw''⟩ := hw'
      have hB := hbel.trans ((below_regrown wr dq osq).mono hbel.size)
      simp only [] at hw''
      rw [← hw''] at hB
      clear hw'' cX cY k0 l0 k1 l1 k2 l2
      rw [HQ.out]
      cases Q with
      | false =>
        have HE := Hid.intro (ascTo_false HA.out _ HLT.out)
        go_wp2_with fail
        go_ret
        exact ⟨ret_bool HE.out.symm, hB⟩
      | true =>
        have HE : Hid (ascTo (xs.map (·.berth)) (m + 1 + 1) = true) := by show _ = _; rw [ascTo, ho.out, HA.out]; rfl
        have hlt := HLT.out
        go_wp2_with fail
        go_roundw
        case rel => exact ⟨m + 1, .inr (by omega), by go_num, HE, hB⟩
        case measure => simp [intOf]; omega
    · have HE : Hid (ascTo (xs.map (·.berth)) xs.length = true) := by
        rcases (show m + 1 = xs.length ∨ xs.length = 0 by omega) with e | e
        · rw [← e]; exact ho.out
        · rw [e]; rfl
      go_wp2_with fail
      go_ret
      exact ⟨ret_bool HE.out.symm, hbel⟩


set_option maxHeartbeats 1000000 in
theorem between_any (b h c : ByteArray) (n : Int) (w : World) (z0 : b.size ≤ maxLen) (z1 : h.size ≤ maxLen) (z2 : c.size ≤ maxLen) :
    Calls Tryz.prog 110 #[.string b, .string h, .string c, .int .i64 n] w fun e w' => e = .returned (.bool (nmB b && hdB h && nmB c && inR n 0 1000000)) ∧ w' = w := by
  have Z0 := Hid.intro z0
  have Z1 := Hid.intro z1
  have Z2 := Hid.intro z2
  clear z0 z1 z2
  go_enter Tryz.func110, Tryz.ntmps110
  go_wp2_with fail
  refine (mname_any b _ Z0.out).mono ?_
  rintro e v0 ⟨rfl, rfl⟩
  cases g0 : nmB b with
  | false =>
    have HE : Hid ((nmB b && hdB h && nmB c && inR n 0 1000000) = false) := by show _ = _; simp [g0]
    clear g0
    go_wp2_with fail
    go_ret
    exact ⟨ret_bool HE.out.symm, rfl⟩
  | true =>
    go_wp2_with fail
    refine (mhold_any h _ Z1.out).mono ?_
    rintro e v1 ⟨rfl, rfl⟩
    cases g1 : hdB h with
    | false =>
      have HE : Hid ((nmB b && hdB h && nmB c && inR n 0 1000000) = false) := by show _ = _; simp [g1]
      clear g0 g1
      go_wp2_with fail
      go_ret
      exact ⟨ret_bool HE.out.symm, rfl⟩
    | true =>
      go_wp2_with fail
      refine (mname_any c _ Z2.out).mono ?_
      rintro e v2 ⟨rfl, rfl⟩
      cases g2 : nmB c with
      | false =>
        have HE : Hid ((nmB b && hdB h && nmB c && inR n 0 1000000) = false) := by show _ = _; simp [g2]
        clear g0 g1 g2
        go_wp2_with fail
        go_ret
        exact ⟨ret_bool HE.out.symm, rfl⟩
      | true =>
        go_wp2_with fail
        refine (isIn_any n 0 1000000 _).mono ?_
        rintro e v3 ⟨rfl, rfl⟩
        cases g3 : inR n 0 1000000 with
        | false =>
          have HE : Hid ((nmB b && hdB h && nmB c && inR n 0 1000000) = false) := by show _ = _; simp [g3]
          clear g0 g1 g2 g3
          go_wp2_with fail
          go_ret
          exact ⟨ret_bool HE.out.symm, rfl⟩
        | true =>
          have HE : Hid ((nmB b && hdB h && nmB c && inR n 0 1000000) = true) := by show _ = _; rw [g0, g1, g2, g3]; rfl
          clear g0 g1 g2 g3
          go_wp2_with fail
          go_ret
          exact ⟨ret_bool HE.out.symm, rfl⟩

set_option maxHeartbeats 400000 in
theorem until_any (t : Int) (w : World) :
    Calls Tryz.prog 111 #[.int .i64 t] w fun e w' => e = .returned (.int .i64 (wrap64 (t + 32))) ∧ w' = w := by
  go_enter Tryz.func111, Tryz.ntmps111
  go_wp2_with fail
  go_ret
  exact ⟨rfl, rfl⟩


set_option maxHeartbeats 4000000 in
set_option maxRecDepth 100000 in
theorem time_any (x : Lnd) (a1 : Option Addr) (c1 : Nat) (a2 : Option Addr) (c2 : Nat) (lo : Nat) (w : World) (hin : LSl x lo a1 a2 w) :
    Calls Tryz.prog 99 #[.agg #[.int .i64 x.time, .slice a1 x.grants.length c1, .slice a2 x.places.length c2]] w fun e w' => e = .returned (.bool (tmB x.time)) ∧ Below w.heap.size w w' := by
  have HI := Hid.intro hin
  clear hin
  have HK1 : Hid (Blk w.heap.size #[.int .i64 x.time, .slice a1 x.grants.length c1, .slice a2 x.places.length c2] 27 (w.alloc (Obj.cells #[.int .i64 x.time, .slice a1 x.grants.length c1, .slice a2 x.places.length c2] 27))) := Blk.alloc _ _ _
  have hB1 : Below w.heap.size w (w.alloc (Obj.cells #[.int .i64 x.time, .slice a1 x.grants.length c1, .slice a2 x.places.length c2] 27)) := (Below.refl _ w).alloc (Nat.le_refl _) _
  go_enter Tryz.func99, Tryz.ntmps99
  go_upto_region 1 with fail
  generalize w.alloc (Obj.cells #[.int .i64 x.time, .slice a1 x.grants.length c1, .slice a2 x.places.length c2] 27) = w1 at *
  have k0 : w1.cell? ⟨w.heap.size, 0, none⟩ = some (.int .i64 x.time) := HK1.out.cell rfl
  go_wp2_with fail
  refine (isIn_any x.time 0 2000000 _).mono ?_
  rintro e v0 ⟨rfl, rfl⟩
  cases g0 : inR x.time 0 2000000 with
  | false =>
    go_wp2_with fail
    go_ret
    exact ⟨ret_bool (by unfold tmB; rw [g0]; rfl), hB1⟩
  | true =>
    cases g1 : (x.time.tmod 2 == 0) with
    | false =>
      go_wp2_with fail
      go_ret
      exact ⟨ret_bool (by unfold tmB; rw [g0, g1]; rfl), hB1⟩
    | true =>
      go_wp2_with fail
      go_ret
      exact ⟨ret_bool (by unfold tmB; rw [g0, g1]; rfl), hB1⟩


end Go.Proofs.YtebcocejgenadaaGreat
