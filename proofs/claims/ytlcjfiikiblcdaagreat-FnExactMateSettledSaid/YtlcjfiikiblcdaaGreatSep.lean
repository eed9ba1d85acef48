/-
  What is settled. Made by mkse.py.
-/
import Derived.Test.YtlcjfiikiblcdaaGreatSfp
import Derived.Test.YtlcjfiikiblcdaaGreatEqw
namespace Go.Proofs.YtlcjfiikiblcdaaGreat
open Go.RowKit

/-- wants that are the same, one by one -/
def sameW (a b : List Wnt) : Bool := decide (a.length = b.length) && (List.range a.length).all fun k => match a[k]?, b[k]? with
  | some x, some y => eqW x y
  | _, _ => true
/-- runs that are ready and just those that are wanted -/
def rdL (rs : List Rn) (ws : List Wnt) : Bool := rs.all (fun r => decide (r.state = 4)) && sameW (rs.map (·.want)) ws
/-- the wants of the last place with a name among the first k -/
def wTo (ps : List Plm) (s : ByteArray) : Nat → List Wnt
  | 0 => []
  | k + 1 => match ps[k]? with
    | some p => if p.berth = s then p.wants else wTo ps s k
    | none => wTo ps s k
/-- a mate that is settled -/
def stB (ps : List Plm) (y : Mte) : Bool := y.up && rdL y.runs (wTo ps y.name ps.length)
/-- a world that is settled -/
def seB (x : Wrl) : Bool := woB x && x.mates.all (stB x.land.places)

theorem same_len {a b : List Wnt} (h : ¬ a.length = b.length) : sameW a b = false := by
  unfold sameW
  rw [decide_eq_false h]
  rfl

theorem same_no {a b : List Wnt} {k : Nat} {x y : Wnt} (hx : a[k]? = some x) (hy : b[k]? = some y) (h : eqW x y = false) : sameW a b = false := by
  have hl := lt_of_some hx
  unfold sameW
  have : ((List.range a.length).all fun k => match a[k]?, b[k]? with
      | some x, some y => eqW x y
      | _, _ => true) = false := by
    rw [List.all_eq_false]
    refine ⟨k, List.mem_range.2 hl, ?_⟩
    rw [hx, hy]
    simp [h]
  rw [this, Bool.and_false]

theorem same_yes {a b : List Wnt} (hl : a.length = b.length) (h : ∀ (k : Nat) x y, a[k]? = some x → b[k]? = some y → eqW x y = true) : sameW a b = true := by
  unfold sameW
  rw [decide_eq_true hl, Bool.true_and, List.all_eq_true]
  intro k hk
  have hk2 := List.mem_range.1 hk
  have e1 : a[k]? = some a[k] := List.getElem?_eq_getElem hk2
  have e2 : b[k]? = some b[k] := List.getElem?_eq_getElem (by omega)
  rw [e1, e2]
  exact h k _ _ e1 e2

theorem rd_len {rs : List Rn} {ws : List Wnt} (h : ¬ rs.length = ws.length) : rdL rs ws = false := by
  unfold rdL
  rw [same_len (by rw [List.length_map]; exact h), Bool.and_false]

theorem rd_state {rs : List Rn} {ws : List Wnt} {k : Nat} {r : Rn} (hr : rs[k]? = some r) (h : ¬ r.state = 4) : rdL rs ws = false := by
  have : rs.all (fun r => decide (r.state = 4)) = false := by
    rw [List.all_eq_false]
    exact ⟨r, List.mem_of_getElem? hr, by simp [h]⟩
  unfold rdL
  rw [this, Bool.false_and]

theorem rd_no {rs : List Rn} {ws : List Wnt} {k : Nat} {r : Rn} {v : Wnt} (hr : rs[k]? = some r) (hv : ws[k]? = some v) (h : (decide (r.state = 4) && eqW r.want v) = false) : rdL rs ws = false := by
  by_cases hs : r.state = 4
  · rw [decide_eq_true hs, Bool.true_and] at h
    unfold rdL
    rw [same_no (show (rs.map (·.want))[k]? = some r.want by rw [List.getElem?_map, hr]; rfl) hv h, Bool.and_false]
  · exact rd_state hr hs

theorem rd_all {rs : List Rn} (ws : List Wnt) (h : ∀ (k : Nat) r, k < rs.length → rs[k]? = some r → r.state = 4) : rdL rs ws = sameW (rs.map (·.want)) ws := by
  have : rs.all (fun r => decide (r.state = 4)) = true := by
    rw [List.all_eq_true]
    intro r hr
    obtain ⟨j, hj, e⟩ := List.getElem_of_mem hr
    exact decide_eq_true (h j r hj (by rw [List.getElem?_eq_getElem hj, e]))
  unfold rdL
  rw [this, Bool.true_and]

theorem rd_yes {rs : List Rn} {ws : List Wnt} (hl : rs.length = ws.length) (h : ∀ (k : Nat) r v, k < rs.length → rs[k]? = some r → ws[k]? = some v → (decide (r.state = 4) && eqW r.want v) = true) : rdL rs ws = true := by
  have h4 : ∀ (k : Nat) r, k < rs.length → rs[k]? = some r → r.state = 4 := by
    intro k r hk hr
    have := h k r ws[k] hk hr (List.getElem?_eq_getElem (by omega))
    simp only [Bool.and_eq_true, decide_eq_true_eq] at this
    exact this.1
  rw [rd_all ws h4]
  refine same_yes (by rw [List.length_map]; exact hl) (fun k x y hx hy => ?_)
  rw [List.getElem?_map] at hx
  cases hr : rs[k]? with
  | none => rw [hr] at hx; cases hx
  | some r =>
    rw [hr] at hx
    cases hx
    have := h k r y (lt_of_some hr) hr hy
    simp only [Bool.and_eq_true] at this
    exact this.2

theorem wTo_step {ps : List Plm} {s : ByteArray} {k : Nat} {p : Plm} (h : ps[k]? = some p) : wTo ps s (k + 1) = if p.berth = s then p.wants else wTo ps s k := by
  simp only [wTo, h]

theorem se_no {x : Wrl} {k : Nat} {y : Mte} (h : seB x = x.mates.all (stB x.land.places)) (hy : x.mates[k]? = some y) (hs : stB x.land.places y = false) : seB x = false := by
  rw [h, List.all_eq_false]
  exact ⟨y, List.mem_of_getElem? hy, by simp [hs]⟩

theorem se_yes {x : Wrl} (h : seB x = x.mates.all (stB x.land.places)) (hs : ∀ (k : Nat) y, k < x.mates.length → x.mates[k]? = some y → stB x.land.places y = true) : seB x = true := by
  rw [h, List.all_eq_true]
  intro r hr
  obtain ⟨j, hj, e⟩ := List.getElem_of_mem hr
  exact hs j r hj (by rw [List.getElem?_eq_getElem hj, e])

theorem run7o {w : World} {b o : Nat} {x : Rn} (h : w.rangeAt b o [.string x.want.copy, .int .i64 x.want.version, .string x.want.hold, .int .i64 x.want.pull, .int .i64 x.want.start, .int .i64 x.want.dies, .int .i64 x.want.grace, .int .i64 x.state, .int .i64 x.left, .int .i64 x.falls, .int .i64 x.until_]) : w.rangeAt b o [.string x.want.copy, .int .i64 x.want.version, .string x.want.hold, .int .i64 x.want.pull, .int .i64 x.want.start, .int .i64 x.want.dies, .int .i64 x.want.grace] := fun j v hj => by
  have hl : j < 7 := lt_of_some hj
  refine h j v ?_
  show ([.string x.want.copy, .int .i64 x.want.version, .string x.want.hold, .int .i64 x.want.pull, .int .i64 x.want.start, .int .i64 x.want.dies, .int .i64 x.want.grace] ++ [.int .i64 x.state, .int .i64 x.left, .int .i64 x.falls, .int .i64 x.until_])[j]? = some v
  rw [List.getElem?_append_left (by simpa using hl)]
  exact hj

theorem wntRange {w : World} {lo b o : Nat} {v : Wnt} (h : WntC lo w (fun i => w.cell? ⟨b, o + i, none⟩) v) : w.rangeAt b o [.string v.copy, .int .i64 v.version, .string v.hold, .int .i64 v.pull, .int .i64 v.start, .int .i64 v.dies, .int .i64 v.grace] := by
  obtain ⟨q0, q1, q2, q3, q4, q5, q6, _, _⟩ := h
  simp only [Nat.add_zero] at q0 q1 q2 q3 q4 q5 q6
  exact range_cons q0 (range_cons q1 (range_cons q2 (range_cons q3 (range_cons q4 (range_cons q5 (range_cons q6 (range_nil _ _ _)))))))

end Go.Proofs.YtlcjfiikiblcdaaGreat
