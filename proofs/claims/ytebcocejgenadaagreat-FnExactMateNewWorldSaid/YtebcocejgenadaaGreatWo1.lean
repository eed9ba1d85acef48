/-
  The program's checks of a world. Made by mkwo1.py.
-/
import Derived.Test.YtebcocejgenadaaGreatJ20
import Derived.Test.YtebcocejgenadaaGreatLk5
namespace Go.Proofs.YtebcocejgenadaaGreat
open Go.RowKit

set_option maxHeartbeats 1000000 in
theorem nameMte_any (x : Mte) (p5 : Option Addr) (q5 : Nat) (p6 : Option Addr) (q6 : Nat) (p7 : Option Addr) (q7 : Nat) (p8 : Option Addr) (q8 : Nat) (w : World) :
    Calls Tryz.prog 78 #[.agg #[.string x.name, .bool x.up, .int .i64 x.clock, .bool x.known, .int .i64 x.seen, .slice p5 x.wants.length q5, .slice p6 x.runs.length q6, .slice p7 x.asks.length q7, .slice p8 x.gives.length q8]] w fun e w' => e = .returned (.string x.name) ∧ Below w.heap.size w w' := by
  go_enter Tryz.func78, Tryz.ntmps78
  go_wp2_with fail
  go_ret
  exact ⟨rfl, by go_grown⟩

set_option maxHeartbeats 4000000 in
set_option maxRecDepth 100000 in
theorem ascMte_any (xs : List Mte) (a : Option Addr) (cap lo : Nat) (w : World) (hin : SliceC MteC 9 lo w a xs) (hsm : xs.length ≤ 1048576) :
    Calls Tryz.prog 77 #[.slice a xs.length cap, .func (.func 78) #[] #[]] w fun e w' => e = .returned (.bool (ascTo (xs.map (·.name)) xs.length)) ∧ Below w.heap.size w w' := by
  have HI : Hid (SliceC MteC 9 lo w a xs) := hin
  clear hin
  go_enter Tryz.func77, Tryz.ntmps77
  go_wp2_with fail
  go_loopw [5] (fun i wr => ∃ m : Nat, (m = 0 ∨ m + 1 ≤ xs.length) ∧ i = .int .i64 ((m : Int) + 1) ∧ Hid (ascTo (xs.map (·.name)) (m + 1) = true) ∧ Below w.heap.size w wr) (fun i _ => xs.length + 1 - (intOf i).toNat)
  case atStart => exact ⟨0, .inl rfl, rfl, rfl, by go_grown⟩
  case round =>
    obtain ⟨m, hm, rfl, ho, hbel⟩ := hrel
    by_cases hlt : m + 1 < xs.length
    · obtain ⟨x, hx⟩ : ∃ x, xs[m]? = some x := ⟨xs[m], List.getElem?_eq_getElem (by omega)⟩
      obtain ⟨y, hy⟩ : ∃ y, xs[m + 1]? = some y := ⟨xs[m + 1], List.getElem?_eq_getElem (by omega)⟩
      have HIR := HI.out.below MteC.holds hbel (Nat.le_refl _)
      obtain ⟨b, o, rfl, _, _, hc⟩ := HIR.at hx
      obtain ⟨b', o', e', _, _, hc'⟩ := HIR.at hy
      cases e'
      obtain ⟨p5, q5, p6, q6, p7, q7, p8, q8, e0, e1, e2, e3, e4, e5, e6, e7, e8, _, _⟩ := hc
      obtain ⟨p5p, q5p, p6p, q6p, p7p, q7p, p8p, q8p, r0, r1, r2, r3, r4, r5, r6, r7, r8, _, _⟩ := hc'
      simp only [Nat.add_zero] at e0 e1 e2 e3 e4 e5 e6 e7 e8 r0 r1 r2 r3 r4 r5 r6 r7 r8
      have HA : Hid (ascAt (xs.map (·.name)) (m + 1) = Op.bytesLess x.name.toList y.name.toList) := ascAt_at (by rw [List.getElem?_map, hx]; rfl) (by rw [List.getElem?_map, hy]; rfl)
      have k0 := cell_regrown e0
      have l0 := cell_regrown r0
      have k1 := cell_regrown e1
      have l1 := cell_regrown r1
      have k2 := cell_regrown e2
      have l2 := cell_regrown r2
      have k3 := cell_regrown e3
      have l3 := cell_regrown r3
      have k4 := cell_regrown e4
      have l4 := cell_regrown r4
      have k5 := cell_regrown e5
      have l5 := cell_regrown r5
      have k6 := cell_regrown e6
      have l6 := cell_regrown r6
      have k7 := cell_regrown e7
      have l7 := cell_regrown r7
      have k8 := cell_regrown e8
      have l8 := cell_regrown r8
      have cX : ∀ d os, Calls Tryz.prog 78 #[.agg #[.string x.name, .bool x.up, .int .i64 x.clock, .bool x.known, .int .i64 x.seen, .slice p5 x.wants.length q5, .slice p6 x.runs.length q6, .slice p7 x.asks.length q7, .slice p8 x.gives.length q8]] (Sort.grow (redrawn wr d) os) fun e w'' => e = .returned (.string x.name) ∧ ∃ p : Regrown, w'' = Sort.grow (redrawn wr p.d) p.os := fun d os => Calls.regrown_of (nameMte_any x p5 q5 p6 q6 p7 q7 p8 q8 _)
      have cY : ∀ d os, Calls Tryz.prog 78 #[.agg #[.string y.name, .bool y.up, .int .i64 y.clock, .bool y.known, .int .i64 y.seen, .slice p5p y.wants.length q5p, .slice p6p y.runs.length q6p, .slice p7p y.asks.length q7p, .slice p8p y.gives.length q8p]] (Sort.grow (redrawn wr d) os) fun e w'' => e = .returned (.string y.name) ∧ ∃ p : Regrown, w'' = Sort.grow (redrawn wr p.d) p.os := fun d os => Calls.regrown_of (nameMte_any y p5p q5p p6p q6p p7p q7p p8p q8p _)
      have i0 : (0 : Int) ≤ (m : Int) := by omega
      have i1 : (m : Int) < (xs.length : Int) := by omega
      have i2 : (0 : Int) ≤ (m : Int) + 1 := by omega
      have i3 : (m : Int) + 1 < (xs.length : Int) := by omega
      clear hx hy e0 e1 e2 e3 e4 e5 e6 e7 e8 r0 r1 r2 r3 r4 r5 r6 r7 r8 HIR
      have HWM : Hid (IntKind.i64.wrap (m : Int) = (m : Int)) := by show _ = _; rw [IntKind.wrap_i64]; omega
      have HLT : Hid (m + 1 < xs.length) := hlt
      generalize hq : Op.bytesLess x.name.toList y.name.toList = Q at HA
      have HQ : Hid (Op.bytesLess x.name.toList y.name.toList = Q) := hq
      clear hq hlt
      go_wp2_with fail
      refine wp_region_quiet_below (by kernel_rfl) (by kernel_rfl) ?_
      repeat (quiet_step (first | exact cX _ _ | exact cY _ _))
      rw [HWM.out]
      repeat (quiet_step (first | exact cX _ _ | exact cY _ _))
      refine wpQuiet_nil ?_
      intro _ hw'
      obtain ⟨⟨dq, osq⟩, hw''⟩ := hw'
      have hB := hbel.trans ((below_regrown wr dq osq).mono hbel.size)
      simp only [] at hw''
      rw [← hw''] at hB
      clear hw'' cX cY k0 l0 k1 l1 k2 l2 k3 l3 k4 l4 k5 l5 k6 l6 k7 l7 k8 l8
      rw [HQ.out]
      cases Q with
      | false =>
        have HE := Hid.intro (ascTo_false HA.out _ HLT.out)
        go_wp2_with fail
        go_ret
        exact ⟨ret_bool HE.out.symm, hB⟩
      | true =>
        have HE : Hid (ascTo (xs.map (·.name)) (m + 1 + 1) = true) := by show _ = _; rw [ascTo, ho.out, HA.out]; rfl
        have hlt := HLT.out
        go_wp2_with fail
        go_roundw
        case rel => exact ⟨m + 1, .inr (by omega), by go_num, HE, hB⟩
        case measure => simp [intOf]; omega
    · have HE : Hid (ascTo (xs.map (·.name)) xs.length = true) := by
        rcases (show m + 1 = xs.length ∨ xs.length = 0 by omega) with e | e
        · rw [← e]; exact ho.out
        · rw [e]; rfl
      go_wp2_with fail
      go_ret
      exact ⟨ret_bool HE.out.symm, hbel⟩


set_option maxHeartbeats 4000000 in
set_option maxRecDepth 100000 in
theorem wfew_any (x : Wrl) (a1 : Option Addr) (c1 : Nat) (a2 : Option Addr) (c2 : Nat) (a3 : Option Addr) (c3 : Nat) (a4 : Option Addr) (c4 : Nat) (lo : Nat) (w : World) (hin : WSl x lo a1 a2 a3 a4 w) :
    Calls Tryz.prog 62 #[.agg #[.int .i64 x.land.time, .slice a1 x.land.grants.length c1, .slice a2 x.land.places.length c2, .slice a3 x.mates.length c3, .slice a4 x.flight.length c4]] w fun e w' => e = .returned (.bool (fwB x)) ∧ Below w.heap.size w w' := by
  have HI := Hid.intro hin
  clear hin
  have HK1 : Hid (Blk w.heap.size #[.int .i64 x.land.time, .slice a1 x.land.grants.length c1, .slice a2 x.land.places.length c2, .slice a3 x.mates.length c3, .slice a4 x.flight.length c4] 30 (w.alloc (Obj.cells #[.int .i64 x.land.time, .slice a1 x.land.grants.length c1, .slice a2 x.land.places.length c2, .slice a3 x.mates.length c3, .slice a4 x.flight.length c4] 30))) := Blk.alloc _ _ _
  have hB1 : Below w.heap.size w (w.alloc (Obj.cells #[.int .i64 x.land.time, .slice a1 x.land.grants.length c1, .slice a2 x.land.places.length c2, .slice a3 x.mates.length c3, .slice a4 x.flight.length c4] 30)) := (Below.refl _ w).alloc (Nat.le_refl _) _
  go_enter Tryz.func62, Tryz.ntmps62
  go_upto_region 1 with fail
  generalize w.alloc (Obj.cells #[.int .i64 x.land.time, .slice a1 x.land.grants.length c1, .slice a2 x.land.places.length c2, .slice a3 x.mates.length c3, .slice a4 x.flight.length c4] 30) = w1 at *
  have k3 : w1.cell? ⟨w.heap.size, 3, none⟩ = some (.slice a3 x.mates.length c3) := HK1.out.cell rfl
  have k4 : w1.cell? ⟨w.heap.size, 4, none⟩ = some (.slice a4 x.flight.length c4) := HK1.out.cell rfl
  go_wp2_with fail
  refine (isIn_any (x.mates.length : Int) 1 4 _).mono ?_
  rintro e v0 ⟨rfl, rfl⟩
  cases g0 : inR (x.mates.length : Int) 1 4 with
  | false =>
    have HE : Hid (fwB x = false) := by show _ = _; unfold fwB; rw [g0]; rfl
    clear g0
    go_wp2_with fail
    go_ret
    exact ⟨ret_bool HE.out.symm, hB1⟩
  | true =>
    by_cases hl : x.flight.length ≤ 300
    · have hl' : (x.flight.length : Int) ≤ 300 := by omega
      have HE : Hid (fwB x = true) := by show _ = _; unfold fwB; rw [g0, decide_eq_true hl]; rfl
      clear g0 hl
      go_wp2_with fail
      go_ret
      exact ⟨ret_bool HE.out.symm, hB1⟩
    · have hl' : (300 : Int) < x.flight.length := by omega
      have HE : Hid (fwB x = false) := by show _ = _; unfold fwB; rw [decide_eq_false hl, Bool.and_false]
      clear g0 hl
      go_wp2_with fail
      go_ret
      exact ⟨ret_bool (by rw [HE.out]; exact decide_eq_false (by omega)), hB1⟩

set_option maxHeartbeats 4000000 in
set_option maxRecDepth 100000 in
theorem wland_any (x : Wrl) (a1 : Option Addr) (c1 : Nat) (a2 : Option Addr) (c2 : Nat) (a3 : Option Addr) (c3 : Nat) (a4 : Option Addr) (c4 : Nat) (lo : Nat) (w : World) (hin : WSl x lo a1 a2 a3 a4 w) :
    Calls Tryz.prog 63 #[.agg #[.int .i64 x.land.time, .slice a1 x.land.grants.length c1, .slice a2 x.land.places.length c2, .slice a3 x.mates.length c3, .slice a4 x.flight.length c4]] w fun e w' => e = .returned (.bool (loB x.land)) ∧ Below w.heap.size w w' := by
  have HI := Hid.intro hin
  clear hin
  have HK1 : Hid (Blk w.heap.size #[.int .i64 x.land.time, .slice a1 x.land.grants.length c1, .slice a2 x.land.places.length c2, .slice a3 x.mates.length c3, .slice a4 x.flight.length c4] 30 (w.alloc (Obj.cells #[.int .i64 x.land.time, .slice a1 x.land.grants.length c1, .slice a2 x.land.places.length c2, .slice a3 x.mates.length c3, .slice a4 x.flight.length c4] 30))) := Blk.alloc _ _ _
  have hB1 : Below w.heap.size w (w.alloc (Obj.cells #[.int .i64 x.land.time, .slice a1 x.land.grants.length c1, .slice a2 x.land.places.length c2, .slice a3 x.mates.length c3, .slice a4 x.flight.length c4] 30)) := (Below.refl _ w).alloc (Nat.le_refl _) _
  go_enter Tryz.func63, Tryz.ntmps63
  go_upto_region 1 with fail
  generalize w.alloc (Obj.cells #[.int .i64 x.land.time, .slice a1 x.land.grants.length c1, .slice a2 x.land.places.length c2, .slice a3 x.mates.length c3, .slice a4 x.flight.length c4] 30) = w1 at *
  have HKL : Hid (w1.rangeAt w.heap.size 0 [.int .i64 x.land.time, .slice a1 x.land.grants.length c1, .slice a2 x.land.places.length c2]) := range_cons (HK1.out.cell rfl) (range_cons (HK1.out.cell rfl) (range_cons (HK1.out.cell rfl) (range_nil _ _ _)))
  go_wp2_with (refine wpList_load_mid rfl 27 _ rfl w.heap.size 0 (by first | rfl | (simp [go_sem]; done)) [.int .i64 x.land.time, .slice a1 x.land.grants.length c1, .slice a2 x.land.places.length c2] _ HKL.out Tryz.underlying27 rfl isz_Lnd ?_)
  refine (implLandOk_any x.land a1 c1 a2 c2 lo _ (HI.out.sl.below hB1 (Nat.le_refl _))).mono ?_
  rintro e w2 ⟨rfl, hb2⟩
  have hB2 := hB1.trans (hb2.mono hB1.size)
  clear hb2 hB1 HK1 HKL
  go_wp2_with fail
  go_ret
  exact ⟨rfl, hB2⟩

set_option maxHeartbeats 8000000 in
set_option maxRecDepth 100000 in
theorem wmates_any (x : Wrl) (a1 : Option Addr) (c1 : Nat) (a2 : Option Addr) (c2 : Nat) (a3 : Option Addr) (c3 : Nat) (a4 : Option Addr) (c4 : Nat) (lo : Nat) (w : World) (hin : WSl x lo a1 a2 a3 a4 w) :
    Calls Tryz.prog 64 #[.agg #[.int .i64 x.land.time, .slice a1 x.land.grants.length c1, .slice a2 x.land.places.length c2, .slice a3 x.mates.length c3, .slice a4 x.flight.length c4]] w fun e w' => e = .returned (.bool (msB x.mates)) ∧ Below w.heap.size w w' := by
  have HI := Hid.intro hin
  clear hin
  have HK1 : Hid (Blk w.heap.size #[.int .i64 x.land.time, .slice a1 x.land.grants.length c1, .slice a2 x.land.places.length c2, .slice a3 x.mates.length c3, .slice a4 x.flight.length c4] 30 (w.alloc (Obj.cells #[.int .i64 x.land.time, .slice a1 x.land.grants.length c1, .slice a2 x.land.places.length c2, .slice a3 x.mates.length c3, .slice a4 x.flight.length c4] 30))) := Blk.alloc _ _ _
  have hB1 : Below w.heap.size w (w.alloc (Obj.cells #[.int .i64 x.land.time, .slice a1 x.land.grants.length c1, .slice a2 x.land.places.length c2, .slice a3 x.mates.length c3, .slice a4 x.flight.length c4] 30)) := (Below.refl _ w).alloc (Nat.le_refl _) _
  go_enter Tryz.func64, Tryz.ntmps64
  go_upto_region 1 with fail
  generalize w.alloc (Obj.cells #[.int .i64 x.land.time, .slice a1 x.land.grants.length c1, .slice a2 x.land.places.length c2, .slice a3 x.mates.length c3, .slice a4 x.flight.length c4] 30) = w1 at *
  have k3 : w1.cell? ⟨w.heap.size, 3, none⟩ = some (.slice a3 x.mates.length c3) := HK1.out.cell rfl
  go_wp2_with fail
  go_loopw [8] (fun i wr => ∃ k : Nat, k ≤ x.mates.length ∧ i = .int .i64 k ∧ Hid (∀ (j : Nat) y, j < k → x.mates[j]? = some y → mvB y = true) ∧ Hid (Blk w.heap.size #[.int .i64 x.land.time, .slice a1 x.land.grants.length c1, .slice a2 x.land.places.length c2, .slice a3 x.mates.length c3, .slice a4 x.flight.length c4] 30 wr) ∧ Below w.heap.size w wr) (fun i _ => x.mates.length - (intOf i).toNat)
  case atStart => exact ⟨0, Nat.zero_le _, rfl, fun j q h => by omega, HK1, hB1⟩
  case round =>
    clear HK1 hB1 k3
    have hmx := HI.out.l3
    obtain ⟨k, hk, rfl, hN, HK, hB⟩ := hrel
    have k3 : wr.cell? ⟨w.heap.size, 3, none⟩ = some (.slice a3 x.mates.length c3) := HK.out.cell rfl
    by_cases hlt : k < x.mates.length
    case neg =>
      have hke : k = x.mates.length := by omega
      subst hke
      have HE := Hid.intro (msB_all hN.out)
      go_wp2_with fail
      refine (ascMte_any x.mates a3 c3 lo _ (HI.out.s3.below MteC.holds hB (Nat.le_refl _)) HI.out.l3).mono ?_
      rintro e w5 ⟨rfl, hb5⟩
      have hB5 := hB.trans (hb5.mono hB.size)
      clear hb5 hB HK k3
      go_wp2_with fail
      go_ret
      exact ⟨ret_bool HE.out.symm, hB5⟩
    obtain ⟨y, hy⟩ : ∃ y, x.mates[k]? = some y := ⟨x.mates[k], List.getElem?_eq_getElem hlt⟩
    obtain ⟨b, o, e1, _, hbl, hc⟩ := (HI.out.s3.below MteC.holds hB (Nat.le_refl _)).at hy
    subst e1
    obtain ⟨p5, q5, p6, q6, p7, q7, p8, q8, hra, hms⟩ := mte_at hc (HI.out.em k y hy)
    have HRA := Hid.intro hra
    have HMS := Hid.intro hms
    have HXX := Hid.intro hy
    clear hy hc hra hms hbl
    have hb4 : Below wr.heap.size wr (wr.alloc (Obj.cells #[.string y.name, .bool y.up, .int .i64 y.clock, .bool y.known, .int .i64 y.seen, .slice p5 y.wants.length q5, .slice p6 y.runs.length q6, .slice p7 y.asks.length q7, .slice p8 y.gives.length q8] 41)) := (Below.refl _ _).alloc (Nat.le_refl _) _
    have HG4 : Hid (Blk wr.heap.size #[.string y.name, .bool y.up, .int .i64 y.clock, .bool y.known, .int .i64 y.seen, .slice p5 y.wants.length q5, .slice p6 y.runs.length q6, .slice p7 y.asks.length q7, .slice p8 y.gives.length q8] 41 (wr.alloc (Obj.cells #[.string y.name, .bool y.up, .int .i64 y.clock, .bool y.known, .int .i64 y.seen, .slice p5 y.wants.length q5, .slice p6 y.runs.length q6, .slice p7 y.asks.length q7, .slice p8 y.gives.length q8] 41))) := Blk.alloc _ _ _
    have HK4 := Hid.intro (HK.out.below hb4 HK.out.lt)
    have hB4 := hB.trans (hb4.mono hB.size)
    replace HMS := Hid.intro (HMS.out.below hb4 (Nat.le_refl _))
    clear HK hB hb4
    go_upto_region 4 with (refine wpList_load_mid rfl 41 _ rfl b (o + k * 9) (by first | rfl | (simp [go_sem]; done)) [.string y.name, .bool y.up, .int .i64 y.clock, .bool y.known, .int .i64 y.seen, .slice p5 y.wants.length q5, .slice p6 y.runs.length q6, .slice p7 y.asks.length q7, .slice p8 y.gives.length q8] _ HRA.out Tryz.underlying41 rfl isz_Mte ?_)
    clear HRA k3
    generalize wr.alloc (Obj.cells #[.string y.name, .bool y.up, .int .i64 y.clock, .bool y.known, .int .i64 y.seen, .slice p5 y.wants.length q5, .slice p6 y.runs.length q6, .slice p7 y.asks.length q7, .slice p8 y.gives.length q8] 41) = w4 at *
    generalize wr.heap.size = q at *
    go_wp2_with (refine wpList_load_mid rfl 41 _ rfl q 0 (by first | rfl | (simp [go_sem]; done)) [.string y.name, .bool y.up, .int .i64 y.clock, .bool y.known, .int .i64 y.seen, .slice p5 y.wants.length q5, .slice p6 y.runs.length q6, .slice p7 y.asks.length q7, .slice p8 y.gives.length q8] _ HG4.out.rangeA Tryz.underlying41 rfl isz_Mte ?_)
    refine (implValid_any y p5 q5 p6 q6 p7 q7 p8 q8 lo _ HMS.out).mono ?_
    rintro e w5 ⟨rfl, hb5⟩
    have HK5 := Hid.intro (HK4.out.below hb5 HK4.out.lt)
    have hB5 := hB4.trans (hb5.mono hB4.size)
    clear hb5 hB4 HK4 HG4 HMS
    cases g0 : mvB y with
    | false =>
      have HE := Hid.intro (msB_no HXX.out g0)
      clear g0
      go_wp2_with fail
      go_ret
      exact ⟨ret_bool HE.out.symm, hB5⟩
    | true =>
      have HN2 : Hid (∀ (j : Nat) z, j < k + 1 → x.mates[j]? = some z → mvB z = true) := fun j z hj hz => by
        by_cases e : j = k
        · subst e
          have := HXX.out.symm.trans hz
          cases this
          exact g0
        · exact hN.out j z (by omega) hz
      clear g0
      go_wp2_with fail
      go_roundw
      case rel => exact ⟨k + 1, by omega, by go_num, HN2, HK5, hB5⟩
      case measure => simp [intOf]; omega


end Go.Proofs.YtebcocejgenadaaGreat
