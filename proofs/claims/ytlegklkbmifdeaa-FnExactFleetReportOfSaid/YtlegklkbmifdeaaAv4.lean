/-
  A mate that is valid, by the program. Made by mkav4.py.
-/
import Derived.Test.YtlegklkbmifdeaaMte
import Derived.Test.YtlegklkbmifdeaaAv3
namespace Go.Proofs.Ytlegklkbmifdeaa
open Go.RowKit

/-- the lists of a mate -/
structure MSl (x : Mte) (lo : Nat) (a5 a6 a7 a8 : Option Addr) (w : World) : Prop where
  nm : x.name.size ≤ maxLen
  s5 : SliceC WntC 7 lo w a5 x.wants
  s6 : SliceC RnC 11 lo w a6 x.runs
  s7 : SliceC AksC 4 lo w a7 x.asks
  s8 : SliceC AksC 4 lo w a8 x.gives
  l5 : x.wants.length ≤ 1048576
  l6 : x.runs.length ≤ 1048576
  l7 : x.asks.length ≤ 1048576
  l8 : x.gives.length ≤ 1048576

theorem MSl.below {x : Mte} {lo B : Nat} {a5 a6 a7 a8 : Option Addr} {w w' : World} (h : MSl x lo a5 a6 a7 a8 w) (hb : Below B w w') (hB : w.heap.size ≤ B) : MSl x lo a5 a6 a7 a8 w' :=
  ⟨h.nm, h.s5.below WntC.holds hb hB, h.s6.below RnC.holds hb hB, h.s7.below AksC.holds hb hB, h.s8.below AksC.holds hb hB, h.l5, h.l6, h.l7, h.l8⟩

/-- a run that a machine without its mate may have left -/
def drB (r : Rn) : Bool := alB r.state || !(r.want.hold.toList == [])
/-- a mate that is down -/
def dnB (x : Mte) : Bool := x.runs.all drB && (!x.known && x.seen == 0 && decide (x.wants.length + x.asks.length + x.gives.length = 0))
def dwB (x : Mte) : Bool := x.up || dnB x
/-- a mate that is valid -/
def mvB (x : Mte) : Bool := nmB x.name && inR x.clock 0 1000000 && inR x.seen 0 1000000 && ((wsB x.wants && (x.known || decide (x.wants.length = 0))) && (rsB x.runs x.clock && ((aksB x.asks x.clock && aksB x.gives x.clock && apB x.asks x.gives) && dwB x)))

theorem dnB_all {x : Mte} (h : ∀ (j : Nat) r, j < x.runs.length → x.runs[j]? = some r → drB r = true) : x.runs.all drB = true := by
  rw [List.all_eq_true]
  intro r hr
  obtain ⟨j, hj, e⟩ := List.getElem_of_mem hr
  exact h j r hj (by rw [List.getElem?_eq_getElem hj, e])

theorem dnB_no {x : Mte} {k : Nat} {r : Rn} (h : x.runs[k]? = some r) (hr : drB r = false) : dnB x = false := by
  have : x.runs.all drB = false := by
    rw [List.all_eq_false]
    exact ⟨r, List.mem_of_getElem? h, by simp [hr]⟩
  unfold dnB
  rw [this, Bool.false_and]

set_option maxHeartbeats 1000000 in
theorem hasHold_any (r : Rn) (w : World) :
    Calls Try.prog 72 #[.agg #[.string r.want.copy, .int .i64 r.want.version, .string r.want.hold, .int .i64 r.want.pull, .int .i64 r.want.start, .int .i64 r.want.dies, .int .i64 r.want.grace, .int .i64 r.state, .int .i64 r.left, .int .i64 r.falls, .int .i64 r.until_]] w fun e w' => e = .returned (.bool (!(r.want.hold.toList == []))) ∧ Below w.heap.size w w' := by
  go_enter Try.func72, Try.ntmps72
  go_wp2_with fail
  go_ret
  exact ⟨ret_bool (by cases r.want.hold.toList <;> rfl), by go_grown⟩

set_option maxHeartbeats 4000000 in
set_option maxRecDepth 100000 in
theorem numbers_any (x : Mte) (a5 : Option Addr) (c5 : Nat) (a6 : Option Addr) (c6 : Nat) (a7 : Option Addr) (c7 : Nat) (a8 : Option Addr) (c8 : Nat) (lo : Nat) (w : World) (hin : MSl x lo a5 a6 a7 a8 w) :
    Calls Try.prog 57 #[.agg #[.string x.name, .bool x.up, .int .i64 x.clock, .bool x.known, .int .i64 x.seen, .slice a5 x.wants.length c5, .slice a6 x.runs.length c6, .slice a7 x.asks.length c7, .slice a8 x.gives.length c8]] w fun e w' => e = .returned (.bool (nmB x.name && inR x.clock 0 1000000 && inR x.seen 0 1000000)) ∧ Below w.heap.size w w' := by
  have HI := Hid.intro hin
  clear hin
  have HK1 : Hid (Blk w.heap.size #[.string x.name, .bool x.up, .int .i64 x.clock, .bool x.known, .int .i64 x.seen, .slice a5 x.wants.length c5, .slice a6 x.runs.length c6, .slice a7 x.asks.length c7, .slice a8 x.gives.length c8] 36 (w.alloc (Obj.cells #[.string x.name, .bool x.up, .int .i64 x.clock, .bool x.known, .int .i64 x.seen, .slice a5 x.wants.length c5, .slice a6 x.runs.length c6, .slice a7 x.asks.length c7, .slice a8 x.gives.length c8] 36))) := Blk.alloc _ _ _
  have hB1 : Below w.heap.size w (w.alloc (Obj.cells #[.string x.name, .bool x.up, .int .i64 x.clock, .bool x.known, .int .i64 x.seen, .slice a5 x.wants.length c5, .slice a6 x.runs.length c6, .slice a7 x.asks.length c7, .slice a8 x.gives.length c8] 36)) := (Below.refl _ w).alloc (Nat.le_refl _) _
  go_enter Try.func57, Try.ntmps57
  go_upto_region 1 with fail
  generalize w.alloc (Obj.cells #[.string x.name, .bool x.up, .int .i64 x.clock, .bool x.known, .int .i64 x.seen, .slice a5 x.wants.length c5, .slice a6 x.runs.length c6, .slice a7 x.asks.length c7, .slice a8 x.gives.length c8] 36) = w1 at *
  have k0 : w1.cell? ⟨w.heap.size, 0, none⟩ = some (.string x.name) := HK1.out.cell rfl
  have k2 : w1.cell? ⟨w.heap.size, 2, none⟩ = some (.int .i64 x.clock) := HK1.out.cell rfl
  have k4 : w1.cell? ⟨w.heap.size, 4, none⟩ = some (.int .i64 x.seen) := HK1.out.cell rfl
  go_wp2_with fail
  refine (mname_any x.name _ HI.out.nm).mono ?_
  rintro e v0 ⟨rfl, rfl⟩
  cases g0 : nmB x.name with
  | false =>
    have HE : Hid ((nmB x.name && inR x.clock 0 1000000 && inR x.seen 0 1000000) = false) := by show _ = _; rw [g0]; simp
    clear g0
    go_wp2_with fail
    go_ret
    exact ⟨ret_bool HE.out.symm, hB1⟩
  | true =>
    go_wp2_with fail
    refine (isIn_any x.clock 0 1000000 _).mono ?_
    rintro e v1 ⟨rfl, rfl⟩
    cases g1 : inR x.clock 0 1000000 with
    | false =>
      have HE : Hid ((nmB x.name && inR x.clock 0 1000000 && inR x.seen 0 1000000) = false) := by show _ = _; rw [g1]; simp
      clear g0 g1
      go_wp2_with fail
      go_ret
      exact ⟨ret_bool HE.out.symm, hB1⟩
    | true =>
      go_wp2_with fail
      refine (isIn_any x.seen 0 1000000 _).mono ?_
      rintro e v2 ⟨rfl, rfl⟩
      cases g2 : inR x.seen 0 1000000 with
      | false =>
        have HE : Hid ((nmB x.name && inR x.clock 0 1000000 && inR x.seen 0 1000000) = false) := by show _ = _; rw [g2]; simp
        clear g0 g1 g2
        go_wp2_with fail
        go_ret
        exact ⟨ret_bool HE.out.symm, hB1⟩
      | true =>
        have HE : Hid ((nmB x.name && inR x.clock 0 1000000 && inR x.seen 0 1000000) = true) := by show _ = _; rw [g0, g1, g2]; rfl
        go_wp2_with fail
        go_ret
        exact ⟨ret_bool HE.out.symm, hB1⟩

set_option maxHeartbeats 4000000 in
set_option maxRecDepth 100000 in
theorem heard_any (x : Mte) (a5 : Option Addr) (c5 : Nat) (a6 : Option Addr) (c6 : Nat) (a7 : Option Addr) (c7 : Nat) (a8 : Option Addr) (c8 : Nat) (lo : Nat) (w : World) (hin : MSl x lo a5 a6 a7 a8 w) :
    Calls Try.prog 58 #[.agg #[.string x.name, .bool x.up, .int .i64 x.clock, .bool x.known, .int .i64 x.seen, .slice a5 x.wants.length c5, .slice a6 x.runs.length c6, .slice a7 x.asks.length c7, .slice a8 x.gives.length c8]] w fun e w' => e = .returned (.bool (wsB x.wants && (x.known || decide (x.wants.length = 0)))) ∧ Below w.heap.size w w' := by
  have HI := Hid.intro hin
  clear hin
  have HK1 : Hid (Blk w.heap.size #[.string x.name, .bool x.up, .int .i64 x.clock, .bool x.known, .int .i64 x.seen, .slice a5 x.wants.length c5, .slice a6 x.runs.length c6, .slice a7 x.asks.length c7, .slice a8 x.gives.length c8] 36 (w.alloc (Obj.cells #[.string x.name, .bool x.up, .int .i64 x.clock, .bool x.known, .int .i64 x.seen, .slice a5 x.wants.length c5, .slice a6 x.runs.length c6, .slice a7 x.asks.length c7, .slice a8 x.gives.length c8] 36))) := Blk.alloc _ _ _
  have hB1 : Below w.heap.size w (w.alloc (Obj.cells #[.string x.name, .bool x.up, .int .i64 x.clock, .bool x.known, .int .i64 x.seen, .slice a5 x.wants.length c5, .slice a6 x.runs.length c6, .slice a7 x.asks.length c7, .slice a8 x.gives.length c8] 36)) := (Below.refl _ w).alloc (Nat.le_refl _) _
  go_enter Try.func58, Try.ntmps58
  go_upto_region 1 with fail
  generalize w.alloc (Obj.cells #[.string x.name, .bool x.up, .int .i64 x.clock, .bool x.known, .int .i64 x.seen, .slice a5 x.wants.length c5, .slice a6 x.runs.length c6, .slice a7 x.asks.length c7, .slice a8 x.gives.length c8] 36) = w1 at *
  have k5 : w1.cell? ⟨w.heap.size, 5, none⟩ = some (.slice a5 x.wants.length c5) := HK1.out.cell rfl
  go_wp2_with fail
  refine (implWantsOk_any x.wants a5 c5 lo _ (HI.out.s5.below WntC.holds hB1 (Nat.le_refl _)) HI.out.l5).mono ?_
  rintro e w2 ⟨rfl, hb2⟩
  have HK2 := Hid.intro (HK1.out.below hb2 HK1.out.lt)
  have hB2 := hB1.trans (hb2.mono hB1.size)
  clear hb2 HK1 hB1 k5
  have k3 : w2.cell? ⟨w.heap.size, 3, none⟩ = some (.bool x.known) := HK2.out.cell rfl
  have k5 : w2.cell? ⟨w.heap.size, 5, none⟩ = some (.slice a5 x.wants.length c5) := HK2.out.cell rfl
  cases g0 : wsB x.wants with
  | false =>
    go_wp2_with fail
    go_ret
    exact ⟨ret_bool (by rw [g0]; rfl), hB2⟩
  | true =>
    cases g1 : x.known with
    | true =>
      rw [g1] at k3
      go_wp2_with fail
      go_ret
      exact ⟨ret_bool (by rw [g0, g1]; rfl), hB2⟩
    | false =>
      rw [g1] at k3
      by_cases hz : x.wants.length = 0
      · have hz2 : ((x.wants.length : Int) == 0) = true := by rw [hz]; rfl
        have HD : Hid (decide (x.wants.length = 0) = true) := decide_eq_true hz
        clear hz
        go_wp2_with fail
        go_ret
        exact ⟨ret_bool (by rw [g0, g1, HD.out]; rfl), hB2⟩
      · have hz2 : ((x.wants.length : Int) == 0) = false := by simp; simpa using hz
        have HD : Hid (decide (x.wants.length = 0) = false) := decide_eq_false hz
        clear hz
        go_wp2_with fail
        go_ret
        exact ⟨ret_bool (by rw [g0, g1, HD.out]; rfl), hB2⟩

set_option maxHeartbeats 4000000 in
set_option maxRecDepth 100000 in
theorem runsNow_any (x : Mte) (a5 : Option Addr) (c5 : Nat) (a6 : Option Addr) (c6 : Nat) (a7 : Option Addr) (c7 : Nat) (a8 : Option Addr) (c8 : Nat) (lo : Nat) (w : World) (hin : MSl x lo a5 a6 a7 a8 w) :
    Calls Try.prog 59 #[.agg #[.string x.name, .bool x.up, .int .i64 x.clock, .bool x.known, .int .i64 x.seen, .slice a5 x.wants.length c5, .slice a6 x.runs.length c6, .slice a7 x.asks.length c7, .slice a8 x.gives.length c8]] w fun e w' => e = .returned (.bool (rsB x.runs x.clock)) ∧ Below w.heap.size w w' := by
  have HI := Hid.intro hin
  clear hin
  have HK1 : Hid (Blk w.heap.size #[.string x.name, .bool x.up, .int .i64 x.clock, .bool x.known, .int .i64 x.seen, .slice a5 x.wants.length c5, .slice a6 x.runs.length c6, .slice a7 x.asks.length c7, .slice a8 x.gives.length c8] 36 (w.alloc (Obj.cells #[.string x.name, .bool x.up, .int .i64 x.clock, .bool x.known, .int .i64 x.seen, .slice a5 x.wants.length c5, .slice a6 x.runs.length c6, .slice a7 x.asks.length c7, .slice a8 x.gives.length c8] 36))) := Blk.alloc _ _ _
  have hB1 : Below w.heap.size w (w.alloc (Obj.cells #[.string x.name, .bool x.up, .int .i64 x.clock, .bool x.known, .int .i64 x.seen, .slice a5 x.wants.length c5, .slice a6 x.runs.length c6, .slice a7 x.asks.length c7, .slice a8 x.gives.length c8] 36)) := (Below.refl _ w).alloc (Nat.le_refl _) _
  go_enter Try.func59, Try.ntmps59
  go_upto_region 1 with fail
  generalize w.alloc (Obj.cells #[.string x.name, .bool x.up, .int .i64 x.clock, .bool x.known, .int .i64 x.seen, .slice a5 x.wants.length c5, .slice a6 x.runs.length c6, .slice a7 x.asks.length c7, .slice a8 x.gives.length c8] 36) = w1 at *
  have k2 : w1.cell? ⟨w.heap.size, 2, none⟩ = some (.int .i64 x.clock) := HK1.out.cell rfl
  have k6 : w1.cell? ⟨w.heap.size, 6, none⟩ = some (.slice a6 x.runs.length c6) := HK1.out.cell rfl
  go_wp2_with fail
  refine (implRunsOk_any x.runs a6 c6 lo x.clock _ (HI.out.s6.below RnC.holds hB1 (Nat.le_refl _)) HI.out.l6).mono ?_
  rintro e w2 ⟨rfl, hb2⟩
  have hB2 := hB1.trans (hb2.mono hB1.size)
  clear hb2 HK1 hB1 k2 k6
  go_wp2_with fail
  go_ret
  exact ⟨rfl, hB2⟩

set_option maxHeartbeats 4000000 in
set_option maxRecDepth 100000 in
theorem askGive_any (x : Mte) (a5 : Option Addr) (c5 : Nat) (a6 : Option Addr) (c6 : Nat) (a7 : Option Addr) (c7 : Nat) (a8 : Option Addr) (c8 : Nat) (lo : Nat) (w : World) (hin : MSl x lo a5 a6 a7 a8 w) :
    Calls Try.prog 60 #[.agg #[.string x.name, .bool x.up, .int .i64 x.clock, .bool x.known, .int .i64 x.seen, .slice a5 x.wants.length c5, .slice a6 x.runs.length c6, .slice a7 x.asks.length c7, .slice a8 x.gives.length c8]] w fun e w' => e = .returned (.bool (aksB x.asks x.clock && aksB x.gives x.clock && apB x.asks x.gives)) ∧ Below w.heap.size w w' := by
  have HI := Hid.intro hin
  clear hin
  have HK1 : Hid (Blk w.heap.size #[.string x.name, .bool x.up, .int .i64 x.clock, .bool x.known, .int .i64 x.seen, .slice a5 x.wants.length c5, .slice a6 x.runs.length c6, .slice a7 x.asks.length c7, .slice a8 x.gives.length c8] 36 (w.alloc (Obj.cells #[.string x.name, .bool x.up, .int .i64 x.clock, .bool x.known, .int .i64 x.seen, .slice a5 x.wants.length c5, .slice a6 x.runs.length c6, .slice a7 x.asks.length c7, .slice a8 x.gives.length c8] 36))) := Blk.alloc _ _ _
  have hB1 : Below w.heap.size w (w.alloc (Obj.cells #[.string x.name, .bool x.up, .int .i64 x.clock, .bool x.known, .int .i64 x.seen, .slice a5 x.wants.length c5, .slice a6 x.runs.length c6, .slice a7 x.asks.length c7, .slice a8 x.gives.length c8] 36)) := (Below.refl _ w).alloc (Nat.le_refl _) _
  go_enter Try.func60, Try.ntmps60
  go_upto_region 1 with fail
  generalize w.alloc (Obj.cells #[.string x.name, .bool x.up, .int .i64 x.clock, .bool x.known, .int .i64 x.seen, .slice a5 x.wants.length c5, .slice a6 x.runs.length c6, .slice a7 x.asks.length c7, .slice a8 x.gives.length c8] 36) = w1 at *
  have k2 : w1.cell? ⟨w.heap.size, 2, none⟩ = some (.int .i64 x.clock) := HK1.out.cell rfl
  have k7 : w1.cell? ⟨w.heap.size, 7, none⟩ = some (.slice a7 x.asks.length c7) := HK1.out.cell rfl
  go_wp2_with fail
  refine (implAsksOk_any x.asks a7 c7 lo x.clock _ (HI.out.s7.below AksC.holds hB1 (Nat.le_refl _)) HI.out.l7).mono ?_
  rintro e w2 ⟨rfl, hb2⟩
  have HK2 := Hid.intro (HK1.out.below hb2 HK1.out.lt)
  have hB2 := hB1.trans (hb2.mono hB1.size)
  clear hb2 HK1 hB1
  clear k2 k7
  have k2 : w2.cell? ⟨w.heap.size, 2, none⟩ = some (.int .i64 x.clock) := HK2.out.cell rfl
  have k8 : w2.cell? ⟨w.heap.size, 8, none⟩ = some (.slice a8 x.gives.length c8) := HK2.out.cell rfl
  cases g0 : aksB x.asks x.clock with
  | false =>
    go_wp2_with fail
    go_ret
    exact ⟨ret_bool (by rw [g0]; rfl), hB2⟩
  | true =>
    go_wp2_with fail
    refine (implAsksOk_any x.gives a8 c8 lo x.clock _ (HI.out.s8.below AksC.holds hB2 (Nat.le_refl _)) HI.out.l8).mono ?_
    rintro e w3 ⟨rfl, hb3⟩
    have HK3 := Hid.intro (HK2.out.below hb3 HK2.out.lt)
    have hB3 := hB2.trans (hb3.mono hB2.size)
    clear hb3 HK2 hB2
    clear k2 k8
    have k7 : w3.cell? ⟨w.heap.size, 7, none⟩ = some (.slice a7 x.asks.length c7) := HK3.out.cell rfl
    have k8 : w3.cell? ⟨w.heap.size, 8, none⟩ = some (.slice a8 x.gives.length c8) := HK3.out.cell rfl
    cases g1 : aksB x.gives x.clock with
    | false =>
      go_wp2_with fail
      go_ret
      exact ⟨ret_bool (by rw [g0, g1]; rfl), hB3⟩
    | true =>
      go_wp2_with fail
      refine (apart_any x.asks x.gives a7 c7 lo a8 c8 _ (HI.out.s7.below AksC.holds hB3 (Nat.le_refl _)) (HI.out.s8.below AksC.holds hB3 (Nat.le_refl _)) HI.out.l7 HI.out.l8).mono ?_
      rintro e w4 ⟨rfl, hb4⟩
      have hB4 := hB3.trans (hb4.mono hB3.size)
      clear hb4 HK3 hB3 k7 k8
      go_wp2_with fail
      go_ret
      exact ⟨ret_bool (by rw [g0, g1]; rfl), hB4⟩

set_option maxHeartbeats 8000000 in
set_option maxRecDepth 100000 in
theorem down_any (x : Mte) (a5 : Option Addr) (c5 : Nat) (a6 : Option Addr) (c6 : Nat) (a7 : Option Addr) (c7 : Nat) (a8 : Option Addr) (c8 : Nat) (lo : Nat) (w : World) (hin : MSl x lo a5 a6 a7 a8 w) :
    Calls Try.prog 61 #[.agg #[.string x.name, .bool x.up, .int .i64 x.clock, .bool x.known, .int .i64 x.seen, .slice a5 x.wants.length c5, .slice a6 x.runs.length c6, .slice a7 x.asks.length c7, .slice a8 x.gives.length c8]] w fun e w' => e = .returned (.bool (dwB x)) ∧ Below w.heap.size w w' := by
  cases hu : x.up with
  | true =>
    rw [show dwB x = true by unfold dwB; rw [hu]; rfl]
    have HI := Hid.intro hin
    clear hin
    have HK1 : Hid (Blk w.heap.size #[.string x.name, .bool true, .int .i64 x.clock, .bool x.known, .int .i64 x.seen, .slice a5 x.wants.length c5, .slice a6 x.runs.length c6, .slice a7 x.asks.length c7, .slice a8 x.gives.length c8] 36 (w.alloc (Obj.cells #[.string x.name, .bool true, .int .i64 x.clock, .bool x.known, .int .i64 x.seen, .slice a5 x.wants.length c5, .slice a6 x.runs.length c6, .slice a7 x.asks.length c7, .slice a8 x.gives.length c8] 36))) := Blk.alloc _ _ _
    have hB1 : Below w.heap.size w (w.alloc (Obj.cells #[.string x.name, .bool true, .int .i64 x.clock, .bool x.known, .int .i64 x.seen, .slice a5 x.wants.length c5, .slice a6 x.runs.length c6, .slice a7 x.asks.length c7, .slice a8 x.gives.length c8] 36)) := (Below.refl _ w).alloc (Nat.le_refl _) _
    go_enter Try.func61, Try.ntmps61
    go_upto_region 1 with fail
    generalize w.alloc (Obj.cells #[.string x.name, .bool true, .int .i64 x.clock, .bool x.known, .int .i64 x.seen, .slice a5 x.wants.length c5, .slice a6 x.runs.length c6, .slice a7 x.asks.length c7, .slice a8 x.gives.length c8] 36) = w1 at *
    have k1 : w1.cell? ⟨w.heap.size, 1, none⟩ = some (.bool true) := HK1.out.cell rfl
    go_wp2_with fail
    go_ret
    exact ⟨rfl, hB1⟩
  | false =>
    rw [show dwB x = dnB x by unfold dwB; rw [hu]; rfl]
    clear hu
    have HI := Hid.intro hin
    clear hin
    have HK1 : Hid (Blk w.heap.size #[.string x.name, .bool false, .int .i64 x.clock, .bool x.known, .int .i64 x.seen, .slice a5 x.wants.length c5, .slice a6 x.runs.length c6, .slice a7 x.asks.length c7, .slice a8 x.gives.length c8] 36 (w.alloc (Obj.cells #[.string x.name, .bool false, .int .i64 x.clock, .bool x.known, .int .i64 x.seen, .slice a5 x.wants.length c5, .slice a6 x.runs.length c6, .slice a7 x.asks.length c7, .slice a8 x.gives.length c8] 36))) := Blk.alloc _ _ _
    have hB1 : Below w.heap.size w (w.alloc (Obj.cells #[.string x.name, .bool false, .int .i64 x.clock, .bool x.known, .int .i64 x.seen, .slice a5 x.wants.length c5, .slice a6 x.runs.length c6, .slice a7 x.asks.length c7, .slice a8 x.gives.length c8] 36)) := (Below.refl _ w).alloc (Nat.le_refl _) _
    go_enter Try.func61, Try.ntmps61
    go_upto_region 1 with fail
    generalize w.alloc (Obj.cells #[.string x.name, .bool false, .int .i64 x.clock, .bool x.known, .int .i64 x.seen, .slice a5 x.wants.length c5, .slice a6 x.runs.length c6, .slice a7 x.asks.length c7, .slice a8 x.gives.length c8] 36) = w1 at *
    have k1 : w1.cell? ⟨w.heap.size, 1, none⟩ = some (.bool false) := HK1.out.cell rfl
    have k6 : w1.cell? ⟨w.heap.size, 6, none⟩ = some (.slice a6 x.runs.length c6) := HK1.out.cell rfl
    go_wp2_with fail
    go_loopw [10] (fun i wr => ∃ k : Nat, k ≤ x.runs.length ∧ i = .int .i64 k ∧ Hid (∀ (j : Nat) r, j < k → x.runs[j]? = some r → drB r = true) ∧ Hid (Blk w.heap.size #[.string x.name, .bool false, .int .i64 x.clock, .bool x.known, .int .i64 x.seen, .slice a5 x.wants.length c5, .slice a6 x.runs.length c6, .slice a7 x.asks.length c7, .slice a8 x.gives.length c8] 36 wr) ∧ Below w.heap.size w wr) (fun i _ => x.runs.length - (intOf i).toNat)
    case atStart => exact ⟨0, Nat.zero_le _, rfl, fun j q h => by omega, HK1, hB1⟩
    case round =>
      clear HK1 hB1 k1 k6
      obtain ⟨k, hk, rfl, hN, HK, hB⟩ := hrel
      have hl6 := HI.out.l6
      by_cases hlt : k < x.runs.length
      case neg =>
        have hke : k = x.runs.length := by omega
        subst hke
        have k3 : wr.cell? ⟨w.heap.size, 3, none⟩ = some (.bool x.known) := HK.out.cell rfl
        have k4 : wr.cell? ⟨w.heap.size, 4, none⟩ = some (.int .i64 x.seen) := HK.out.cell rfl
        have k5 : wr.cell? ⟨w.heap.size, 5, none⟩ = some (.slice a5 x.wants.length c5) := HK.out.cell rfl
        have k7 : wr.cell? ⟨w.heap.size, 7, none⟩ = some (.slice a7 x.asks.length c7) := HK.out.cell rfl
        have k8 : wr.cell? ⟨w.heap.size, 8, none⟩ = some (.slice a8 x.gives.length c8) := HK.out.cell rfl
        have HNA := Hid.intro (dnB_all hN.out)
        have hl5 := HI.out.l5
        have hl7 := HI.out.l7
        have hl8 := HI.out.l8
        clear hN hk
        cases g1 : x.known with
        | true =>
          rw [g1] at k3
          have HE : Hid (dnB x = false) := by show _ = _; unfold dnB; rw [g1]; simp
          go_wp2_with fail
          go_ret
          exact ⟨ret_bool HE.out.symm, hB⟩
        | false =>
          rw [g1] at k3
          cases g2 : (x.seen == 0) with
          | false =>
            have HE : Hid (dnB x = false) := by show _ = _; unfold dnB; rw [g2]; simp
            go_wp2_with fail
            go_ret
            exact ⟨ret_bool HE.out.symm, hB⟩
          | true =>
            by_cases hz : x.wants.length + x.asks.length + x.gives.length = 0
            · have HE : Hid (dnB x = true) := by show _ = _; unfold dnB; rw [HNA.out, g1, g2, decide_eq_true hz]; rfl
              have hz2 : ((x.wants.length : Int) + (x.asks.length : Int) + (x.gives.length : Int) == 0) = true := by simp; omega
              clear hz
              go_wp2_with fail
              go_ret
              exact ⟨ret_bool HE.out.symm, hB⟩
            · have HE : Hid (dnB x = false) := by show _ = _; unfold dnB; rw [decide_eq_false hz]; simp
              have hz2 : ((x.wants.length : Int) + (x.asks.length : Int) + (x.gives.length : Int) == 0) = false := by simp; omega
              clear hz
              go_wp2_with fail
              go_ret
              exact ⟨ret_bool HE.out.symm, hB⟩
      obtain ⟨r, hr⟩ : ∃ r, x.runs[k]? = some r := ⟨x.runs[k], List.getElem?_eq_getElem hlt⟩
      obtain ⟨b, o, e6, _, hbl, hc⟩ := (HI.out.s6.below RnC.holds hB (Nat.le_refl _)).at hr
      subst e6
      have HRA := Hid.intro (range_of_cells hc)
      have HXX := Hid.intro hr
      clear hc hr
      have HR4 : Hid (Blk wr.heap.size #[.string r.want.copy, .int .i64 r.want.version, .string r.want.hold, .int .i64 r.want.pull, .int .i64 r.want.start, .int .i64 r.want.dies, .int .i64 r.want.grace, .int .i64 r.state, .int .i64 r.left, .int .i64 r.falls, .int .i64 r.until_] 50 (wr.alloc (Obj.cells #[.string r.want.copy, .int .i64 r.want.version, .string r.want.hold, .int .i64 r.want.pull, .int .i64 r.want.start, .int .i64 r.want.dies, .int .i64 r.want.grace, .int .i64 r.state, .int .i64 r.left, .int .i64 r.falls, .int .i64 r.until_] 50))) := Blk.alloc _ _ _
      have HK4 : Hid (Blk w.heap.size #[.string x.name, .bool false, .int .i64 x.clock, .bool x.known, .int .i64 x.seen, .slice a5 x.wants.length c5, .slice (some ⟨b, o, none⟩) x.runs.length c6, .slice a7 x.asks.length c7, .slice a8 x.gives.length c8] 36 (wr.alloc (Obj.cells #[.string r.want.copy, .int .i64 r.want.version, .string r.want.hold, .int .i64 r.want.pull, .int .i64 r.want.start, .int .i64 r.want.dies, .int .i64 r.want.grace, .int .i64 r.state, .int .i64 r.left, .int .i64 r.falls, .int .i64 r.until_] 50))) := HK.out.below ((Below.refl _ _).alloc (Nat.le_refl _) _) HK.out.lt
      have hB4 : Below w.heap.size w (wr.alloc (Obj.cells #[.string r.want.copy, .int .i64 r.want.version, .string r.want.hold, .int .i64 r.want.pull, .int .i64 r.want.start, .int .i64 r.want.dies, .int .i64 r.want.grace, .int .i64 r.state, .int .i64 r.left, .int .i64 r.falls, .int .i64 r.until_] 50)) := hB.trans (((Below.refl wr.heap.size wr).alloc (Nat.le_refl _) _).mono hB.size)
      clear HK hB
      go_upto_region 6 with (refine wpList_load_mid rfl 50 _ rfl b (o + k * 11) (by first | rfl | (simp [go_sem]; done)) [.string r.want.copy, .int .i64 r.want.version, .string r.want.hold, .int .i64 r.want.pull, .int .i64 r.want.start, .int .i64 r.want.dies, .int .i64 r.want.grace, .int .i64 r.state, .int .i64 r.left, .int .i64 r.falls, .int .i64 r.until_] _ HRA.out Try.underlying50 rfl isz_Rn ?_)
      clear HRA
      generalize wr.alloc (Obj.cells #[.string r.want.copy, .int .i64 r.want.version, .string r.want.hold, .int .i64 r.want.pull, .int .i64 r.want.start, .int .i64 r.want.dies, .int .i64 r.want.grace, .int .i64 r.state, .int .i64 r.left, .int .i64 r.falls, .int .i64 r.until_] 50) = w4 at *
      generalize wr.heap.size = q at *
      go_wp2_with (refine wpList_load_mid rfl 50 _ rfl q 0 (by first | rfl | (simp [go_sem]; done)) [.string r.want.copy, .int .i64 r.want.version, .string r.want.hold, .int .i64 r.want.pull, .int .i64 r.want.start, .int .i64 r.want.dies, .int .i64 r.want.grace, .int .i64 r.state, .int .i64 r.left, .int .i64 r.falls, .int .i64 r.until_] _ HR4.out.rangeA Try.underlying50 rfl isz_Rn ?_)
      refine (implAlive_any r _).mono ?_
      rintro e w5 ⟨rfl, hb5⟩
      have HR5 := Hid.intro (HR4.out.below hb5 HR4.out.lt)
      have HK5 := Hid.intro (HK4.out.below hb5 HK4.out.lt)
      have hB5 := hB4.trans (hb5.mono hB4.size)
      clear hb5 HR4 HK4 hB4
      cases g1 : alB r.state with
      | true =>
        have HN2 : Hid (∀ (j : Nat) y, j < k + 1 → x.runs[j]? = some y → drB y = true) := fun j y hj hy => by
          by_cases e : j = k
          · subst e
            have := HXX.out.symm.trans hy
            cases this
            unfold drB
            rw [g1]
            rfl
          · exact hN.out j y (by omega) hy
        clear g1
        go_wp2_with fail
        go_roundw
        case rel => exact ⟨k + 1, by omega, by go_num, HN2, HK5, hB5⟩
        case measure => simp [intOf]; omega
      | false =>
        have d0 : w5.cell? ⟨q, 0, none⟩ = some (.string r.want.copy) := HR5.out.cell rfl
        have d1 : w5.cell? ⟨q, 1, none⟩ = some (.int .i64 r.want.version) := HR5.out.cell rfl
        have d2 : w5.cell? ⟨q, 2, none⟩ = some (.string r.want.hold) := HR5.out.cell rfl
        have d3 : w5.cell? ⟨q, 3, none⟩ = some (.int .i64 r.want.pull) := HR5.out.cell rfl
        have d4 : w5.cell? ⟨q, 4, none⟩ = some (.int .i64 r.want.start) := HR5.out.cell rfl
        have d5 : w5.cell? ⟨q, 5, none⟩ = some (.int .i64 r.want.dies) := HR5.out.cell rfl
        have d6 : w5.cell? ⟨q, 6, none⟩ = some (.int .i64 r.want.grace) := HR5.out.cell rfl
        have d7 : w5.cell? ⟨q, 7, none⟩ = some (.int .i64 r.state) := HR5.out.cell rfl
        have d8 : w5.cell? ⟨q, 8, none⟩ = some (.int .i64 r.left) := HR5.out.cell rfl
        have d9 : w5.cell? ⟨q, 9, none⟩ = some (.int .i64 r.falls) := HR5.out.cell rfl
        have d10 : w5.cell? ⟨q, 10, none⟩ = some (.int .i64 r.until_) := HR5.out.cell rfl
        go_wp2_with fail
        clear d0 d1 d2 d3 d4 d5 d6 d7 d8 d9 d10
        refine (hasHold_any r _).mono ?_
        rintro e w6 ⟨rfl, hb6⟩
        have HK6 := Hid.intro (HK5.out.below hb6 HK5.out.lt)
        have hB6 := hB5.trans (hb6.mono hB5.size)
        clear hb6 HR5 HK5 hB5
        cases g2 : (r.want.hold.toList == []) with
        | true =>
          have HE : Hid (dnB x = false) := dnB_no HXX.out (by unfold drB; rw [g1, g2]; rfl)
          clear g1 g2
          go_wp2_with fail
          go_ret
          exact ⟨ret_bool HE.out.symm, hB6⟩
        | false =>
          have HN2 : Hid (∀ (j : Nat) y, j < k + 1 → x.runs[j]? = some y → drB y = true) := fun j y hj hy => by
            by_cases e : j = k
            · subst e
              have := HXX.out.symm.trans hy
              cases this
              unfold drB
              rw [g1, g2]
              rfl
            · exact hN.out j y (by omega) hy
          clear g1 g2
          go_wp2_with fail
          go_roundw
          case rel => exact ⟨k + 1, by omega, by go_num, HN2, HK6, hB6⟩
          case measure => simp [intOf]; omega

set_option maxHeartbeats 2000000 in
set_option maxRecDepth 100000 in
theorem allM_any (x : Mte) (a5 : Option Addr) (c5 : Nat) (a6 : Option Addr) (c6 : Nat) (a7 : Option Addr) (c7 : Nat) (a8 : Option Addr) (c8 : Nat) (rs : List (Nat × Bool)) (g cap : Nat) (w : World) (hrl : rs.length ≤ 8)
    (hsay : ∀ (k : Nat) r, rs[k]? = some r → ∀ v, Below w.heap.size w v → Calls Try.prog r.1 #[.agg #[.string x.name, .bool x.up, .int .i64 x.clock, .bool x.known, .int .i64 x.seen, .slice a5 x.wants.length c5, .slice a6 x.runs.length c6, .slice a7 x.asks.length c7, .slice a8 x.gives.length c8]] v fun e w' => e = .returned (.bool r.2) ∧ Below v.heap.size v w') (heg : ∀ (k : Nat) r, rs[k]? = some r → ∀ args w, (callFunc r.1 args).run Try.prog w = .ok (.enter r.1 args) w)
    (hR : ChkIn g rs w) (hg : g < w.heap.size) :
    Calls Try.prog 44 #[.slice (some ⟨g, 0, none⟩) rs.length cap, .agg #[.string x.name, .bool x.up, .int .i64 x.clock, .bool x.known, .int .i64 x.seen, .slice a5 x.wants.length c5, .slice a6 x.runs.length c6, .slice a7 x.asks.length c7, .slice a8 x.gives.length c8]] w fun e w' => e = .returned (.bool (allR rs)) ∧ Below w.heap.size w w' := by
  have HR := Hid.intro hR
  have HSAY := Hid.intro hsay
  have HEG := Hid.intro heg
  have HX0 : Hid (Blk w.heap.size #[.string x.name, .bool x.up, .int .i64 x.clock, .bool x.known, .int .i64 x.seen, .slice a5 x.wants.length c5, .slice a6 x.runs.length c6, .slice a7 x.asks.length c7, .slice a8 x.gives.length c8] 36 (w.alloc (.cells #[.string x.name, .bool x.up, .int .i64 x.clock, .bool x.known, .int .i64 x.seen, .slice a5 x.wants.length c5, .slice a6 x.runs.length c6, .slice a7 x.asks.length c7, .slice a8 x.gives.length c8] 36))) := Blk.alloc _ _ _
  have hb0 : Below w.heap.size w (w.alloc (Obj.cells #[.string x.name, .bool x.up, .int .i64 x.clock, .bool x.known, .int .i64 x.seen, .slice a5 x.wants.length c5, .slice a6 x.runs.length c6, .slice a7 x.asks.length c7, .slice a8 x.gives.length c8] 36)) := (Below.refl _ w).alloc (Nat.le_refl _) _
  clear hR hsay heg
  go_enter Try.func44, Try.ntmps44
  go_wp2_with fail
  generalize w.alloc (Obj.cells #[.string x.name, .bool x.up, .int .i64 x.clock, .bool x.known, .int .i64 x.seen, .slice a5 x.wants.length c5, .slice a6 x.runs.length c6, .slice a7 x.asks.length c7, .slice a8 x.gives.length c8] 36) = w0 at *
  go_loopw [9] (fun i wr => ∃ k : Nat, k ≤ rs.length ∧ i = .int .i64 k ∧ Hid (∀ (j : Nat) q, j < k → rs[j]? = some q → q.2 = true) ∧ Hid (Blk w.heap.size #[.string x.name, .bool x.up, .int .i64 x.clock, .bool x.known, .int .i64 x.seen, .slice a5 x.wants.length c5, .slice a6 x.runs.length c6, .slice a7 x.asks.length c7, .slice a8 x.gives.length c8] 36 wr) ∧ Below w.heap.size w wr) (fun i _ => rs.length - (intOf i).toNat)
  case atStart => exact ⟨0, Nat.zero_le _, rfl, fun j q h => by omega, HX0, hb0⟩
  case round =>
    clear HX0 hb0
    obtain ⟨k, hk, rfl, hN, hX, hB⟩ := hrel
    by_cases hlt : k < rs.length
    · obtain ⟨r, hr⟩ : ∃ r, rs[k]? = some r := ⟨rs[k], List.getElem?_eq_getElem hlt⟩
      have c0 : wr.cell? ⟨g, k, none⟩ = some (.func (.func r.1) #[] #[]) := (hB.cell (p := ⟨g, k, none⟩) hg).trans (HR.out k r hr)
      have HSK := Hid.intro (HSAY.out k r hr)
      have heg := HEG.out k r hr
      have HRR := Hid.intro hr
      obtain ⟨fid, tr⟩ := r
      simp only at c0 HSK heg
      clear hr
      go_wp2_with (first | (refine wpList_load_mid rfl 36 _ rfl w.heap.size 0 (by first | rfl | (simp [go_sem]; done)) [.string x.name, .bool x.up, .int .i64 x.clock, .bool x.known, .int .i64 x.seen, .slice a5 x.wants.length c5, .slice a6 x.runs.length c6, .slice a7 x.asks.length c7, .slice a8 x.gives.length c8] _ hX.out.rangeA Try.underlying36 rfl isz_Mte ?_))
      refine (HSK.out wr hB).mono ?_
      rintro e w5 ⟨rfl, hb5⟩
      have HX5 := Hid.intro (hX.out.below hb5 hX.out.lt)
      have hB5 := hB.trans (hb5.mono hB.size)
      clear hb5 heg HSK c0 hX hB
      cases tr with
      | false =>
        have HE := Hid.intro (allR_no HRR.out rfl)
        go_wp2_with fail
        go_ret
        exact ⟨ret_bool HE.out.symm, hB5⟩
      | true =>
        have HN2 : Hid (∀ (j : Nat) q, j < k + 1 → rs[j]? = some q → q.2 = true) := fun j q hj hq => by
          by_cases e : j = k
          · subst e
            have := HRR.out.symm.trans hq
            cases this
            rfl
          · exact hN.out j q (by omega) hq
        go_wp2_with fail
        go_roundw
        case rel => exact ⟨k + 1, by omega, by go_num, HN2, HX5, hB5⟩
        case measure => simp [intOf]; omega
    · have hke : k = rs.length := by omega
      subst hke
      have HE := Hid.intro (allR_yes hN.out)
      go_wp2_with fail
      go_ret
      exact ⟨ret_bool HE.out.symm, hB⟩

/-- the checks of a mate -/
def mvR (x : Mte) : List (Nat × Bool) := [(57, nmB x.name && inR x.clock 0 1000000 && inR x.seen 0 1000000), (58, wsB x.wants && (x.known || decide (x.wants.length = 0))), (59, rsB x.runs x.clock), (60, aksB x.asks x.clock && aksB x.gives x.clock && apB x.asks x.gives), (61, dwB x)]

theorem mvR_all (x : Mte) : allR (mvR x) = mvB x := by
  simp [allR, mvR, mvB]

theorem mvR_says (x : Mte) (a5 : Option Addr) (c5 : Nat) (a6 : Option Addr) (c6 : Nat) (a7 : Option Addr) (c7 : Nat) (a8 : Option Addr) (c8 : Nat) (lo : Nat) (w : World) (hin : MSl x lo a5 a6 a7 a8 w) : ∀ (k : Nat) r, (mvR x)[k]? = some r → ∀ v, Below w.heap.size w v → Calls Try.prog r.1 #[.agg #[.string x.name, .bool x.up, .int .i64 x.clock, .bool x.known, .int .i64 x.seen, .slice a5 x.wants.length c5, .slice a6 x.runs.length c6, .slice a7 x.asks.length c7, .slice a8 x.gives.length c8]] v fun e w' => e = .returned (.bool r.2) ∧ Below v.heap.size v w' := by
  intro k r hk
  have h := List.mem_of_getElem? hk
  simp only [mvR, List.mem_cons, List.not_mem_nil, or_false] at h
  rcases h with rfl | rfl | rfl | rfl | rfl
  · exact fun v hb => numbers_any x a5 c5 a6 c6 a7 c7 a8 c8 lo v (hin.below hb (Nat.le_refl _))
  · exact fun v hb => heard_any x a5 c5 a6 c6 a7 c7 a8 c8 lo v (hin.below hb (Nat.le_refl _))
  · exact fun v hb => runsNow_any x a5 c5 a6 c6 a7 c7 a8 c8 lo v (hin.below hb (Nat.le_refl _))
  · exact fun v hb => askGive_any x a5 c5 a6 c6 a7 c7 a8 c8 lo v (hin.below hb (Nat.le_refl _))
  · exact fun v hb => down_any x a5 c5 a6 c6 a7 c7 a8 c8 lo v (hin.below hb (Nat.le_refl _))

theorem mvR_enters (x : Mte) : ∀ (k : Nat) r, (mvR x)[k]? = some r → ∀ args w, (callFunc r.1 args).run Try.prog w = .ok (.enter r.1 args) w := by
  intro k r hk
  have h := List.mem_of_getElem? hk
  simp only [mvR, List.mem_cons, List.not_mem_nil, or_false] at h
  rcases h with rfl | rfl | rfl | rfl | rfl
  · exact enters_of Try.func57 (by kernel_rfl) rfl
  · exact enters_of Try.func58 (by kernel_rfl) rfl
  · exact enters_of Try.func59 (by kernel_rfl) rfl
  · exact enters_of Try.func60 (by kernel_rfl) rfl
  · exact enters_of Try.func61 (by kernel_rfl) rfl

abbrev mvV : List Value := [.func (.func 57) #[] #[], .func (.func 58) #[] #[], .func (.func 59) #[] #[], .func (.func 60) #[] #[], .func (.func 61) #[] #[]]

theorem mvR_in {g : Nat} {w : World} (x : Mte) (h : w.rangeAt g 0 mvV) : ChkIn g (mvR x) w := by
  intro k r hk
  have hk8 : k < 5 := (List.getElem?_eq_some_iff.1 hk).1
  have hc : k = 0 ∨ k = 1 ∨ k = 2 ∨ k = 3 ∨ k = 4 := by omega
  rcases hc with rfl | rfl | rfl | rfl | rfl
  · cases hk; simpa using h 0 _ rfl
  · cases hk; simpa using h 1 _ rfl
  · cases hk; simpa using h 2 _ rfl
  · cases hk; simpa using h 3 _ rfl
  · cases hk; simpa using h 4 _ rfl

set_option maxHeartbeats 1000000 in
set_option maxRecDepth 100000 in
theorem mateChecks_any (w : World) :
    Calls Try.prog 45 #[] w fun e w' => e = .returned (.slice (some ⟨w.heap.size, 0, none⟩) 5 5) ∧ w'.rangeAt w.heap.size 0 mvV ∧ w.heap.size < w'.heap.size ∧ Below w.heap.size w w' := by
  go_enter Try.func45, Try.ntmps45
  go_wp2_with fail
  go_ret
  refine ⟨rfl, ?_, ?_, ?_⟩
  · exact range_cons (by simp) (range_cons (by simp) (range_cons (by simp) (range_cons (by simp) (range_cons (by simp) (range_nil _ _ _)))))
  · simp
  · go_grown

set_option maxHeartbeats 2000000 in
set_option maxRecDepth 100000 in
theorem implValid_any (x : Mte) (a5 : Option Addr) (c5 : Nat) (a6 : Option Addr) (c6 : Nat) (a7 : Option Addr) (c7 : Nat) (a8 : Option Addr) (c8 : Nat) (lo : Nat) (w : World) (hin : MSl x lo a5 a6 a7 a8 w) :
    Calls Try.prog 20 #[.agg #[.string x.name, .bool x.up, .int .i64 x.clock, .bool x.known, .int .i64 x.seen, .slice a5 x.wants.length c5, .slice a6 x.runs.length c6, .slice a7 x.asks.length c7, .slice a8 x.gives.length c8]] w fun e w' => e = .returned (.bool (mvB x)) ∧ Below w.heap.size w w' := by
  have HI := Hid.intro hin
  clear hin
  have HK1 : Hid (Blk w.heap.size #[.string x.name, .bool x.up, .int .i64 x.clock, .bool x.known, .int .i64 x.seen, .slice a5 x.wants.length c5, .slice a6 x.runs.length c6, .slice a7 x.asks.length c7, .slice a8 x.gives.length c8] 36 (w.alloc (Obj.cells #[.string x.name, .bool x.up, .int .i64 x.clock, .bool x.known, .int .i64 x.seen, .slice a5 x.wants.length c5, .slice a6 x.runs.length c6, .slice a7 x.asks.length c7, .slice a8 x.gives.length c8] 36))) := Blk.alloc _ _ _
  have hB1 : Below w.heap.size w (w.alloc (Obj.cells #[.string x.name, .bool x.up, .int .i64 x.clock, .bool x.known, .int .i64 x.seen, .slice a5 x.wants.length c5, .slice a6 x.runs.length c6, .slice a7 x.asks.length c7, .slice a8 x.gives.length c8] 36)) := (Below.refl _ w).alloc (Nat.le_refl _) _
  go_enter Try.func20, Try.ntmps20
  go_upto_region 1 with fail
  generalize w.alloc (Obj.cells #[.string x.name, .bool x.up, .int .i64 x.clock, .bool x.known, .int .i64 x.seen, .slice a5 x.wants.length c5, .slice a6 x.runs.length c6, .slice a7 x.asks.length c7, .slice a8 x.gives.length c8] 36) = w1 at *
  refine wp_region_held_drew (S := fun wy => Blk w.heap.size #[.string x.name, .bool x.up, .int .i64 x.clock, .bool x.known, .int .i64 x.seen, .slice a5 x.wants.length c5, .slice a6 x.runs.length c6, .slice a7 x.asks.length c7, .slice a8 x.gives.length c8] 36 wy) (by kernel_rfl) HK1.out.drew (fun hS => ?_)
  have hBd : Below w.heap.size w w1.drew := hB1.drew
  generalize w1.drew = wd at *
  refine wpAnyH_take (i := 1) (oi := { dst := some 4, op := _, type := _, pos := _, after := _, guard := none }) (v := .agg #[.string x.name, .bool x.up, .int .i64 x.clock, .bool x.known, .int .i64 x.seen, .slice a5 x.wants.length c5, .slice a6 x.runs.length c6, .slice a7 x.asks.length c7, .slice a8 x.gives.length c8]) rfl (by kernel_rfl) (by kernel_rfl) (by kernel_rfl) (fun _ _ _ h => h) (yieldsIf_load_mid (by rfl) _ _ rfl w.heap.size (0) rfl [.string x.name, .bool x.up, .int .i64 x.clock, .bool x.known, .int .i64 x.seen, .slice a5 x.wants.length c5, .slice a6 x.runs.length c6, .slice a7 x.asks.length c7, .slice a8 x.gives.length c8] _ (fun _ h => h.rangeA) Try.underlying36 rfl isz_Mte) hS ?_
  simp only [Act.put, List.setIfInBounds_toArray, List.set_cons_zero, List.set_cons_succ]
  refine wpAnyH_ready (rs := [0]) (by kernel_rfl) (by simp) (AllReadyH.cons (o := { dst := some 3, op := _, type := _, pos := _, after := _, guard := none }) rfl (fun K hK => ?_) AllReadyH.nil)
  go_simp
  refine (mateChecks_any _).mono ?_
  rintro e w2 ⟨rfl, hr2, hg2, hb2⟩
  have hB2 := hBd.trans (hb2.mono hBd.size)
  have HR2 := Hid.intro hr2
  have HI2 := Hid.intro (HI.out.below hB2 (Nat.le_refl _))
  clear hr2
  refine hK.out _ _ (hS.below hb2 hS.lt) (fun hS => ?_)
  clear hK K
  refine wpAnyH_ready (rs := [2]) (by kernel_rfl) (by simp) (AllReadyH.cons (o := { dst := some 5, op := _, type := _, pos := _, after := _, guard := none }) rfl (fun K hK => ?_) AllReadyH.nil)
  go_simp
  refine (allM_any x a5 c5 a6 c6 a7 c7 a8 c8 (mvR x) wd.heap.size 5 _ (by simp [mvR]) (mvR_says x a5 c5 a6 c6 a7 c7 a8 c8 lo _ HI2.out) (mvR_enters x) (mvR_in x HR2.out) hg2).mono ?_
  rintro e w3 ⟨rfl, hb3⟩
  have hB3 := hB2.trans (hb3.mono hB2.size)
  refine hK.out _ _ (hS.below hb3 hS.lt) (fun hS => ?_)
  clear hK K
  refine wpAnyH_take (i := 3) (oi := { dst := some 2, op := _, type := _, pos := _, after := _, guard := none }) (v := .bool (allR (mvR x))) rfl (by kernel_rfl) (by kernel_rfl) (by kernel_rfl) (fun _ _ _ h => h) (Or.inl ⟨by rfl, ?_⟩) hS ?_
  · intro wy hy
    clear hy
    go_simp
  simp only [Act.put, List.setIfInBounds_toArray, List.set_cons_zero, List.set_cons_succ]
  refine wpAnyH_done (by kernel_rfl) ?_ _
  clear hS
  go_wp2_with fail
  go_ret
  exact ⟨ret_bool (mvR_all x), hB3⟩

end Go.Proofs.Ytlegklkbmifdeaa
