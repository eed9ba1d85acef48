/-
  What is alive in a world. Made by mksf.py.
-/
import Derived.Test.YtlcjfiikiblcdaaGreatWop
import Derived.Test.YtlcjfiikiblcdaaGreatOny
import Derived.Test.YtlcjfiikiblcdaaGreatLk4
namespace Go.Proofs.YtlcjfiikiblcdaaGreat
open Go.RowKit

/-- the wants of what is alive -/
def alR (rs : List Rn) : List Rn := rs.filter (fun r => alB r.state)
def alW (ys : List Mte) : List Wnt := ys.flatMap fun y => (alR y.runs).map (·.want)
/-- a world that is safe -/
def sfB (x : Wrl) : Bool := woB x && difTo ((alW x.mates).map (·.hold)) (alW x.mates).length

theorem alW_step {ys : List Mte} {k : Nat} {y : Mte} (h : ys[k]? = some y) : alW (ys.take (k + 1)) = alW (ys.take k) ++ (alR y.runs).map (·.want) := by
  unfold alW
  rw [List.take_add_one, h, List.flatMap_append]
  simp

theorem want_step {fs : List Rn} {n : Nat} {r : Rn} (h : fs[n]? = some r) : (fs.take (n + 1)).map (·.want) = (fs.take n).map (·.want) ++ [r.want] := by
  rw [List.take_add_one, h, List.map_append]
  rfl

theorem ok_few {x : Wrl} (h : woB x = true) : x.mates.length ≤ 4 ∧ ∀ (k : Nat) y, x.mates[k]? = some y → y.runs.length ≤ 20 := by
  unfold woB fwB inR msB at h
  simp only [Bool.and_eq_true, decide_eq_true_eq] at h
  obtain ⟨⟨⟨_, h2⟩, _⟩, _, h4, _⟩ := h
  refine ⟨by omega, fun k y hy => ?_⟩
  have h5 := List.all_eq_true.1 h4 y (List.mem_of_getElem? hy)
  unfold mvB rsB at h5
  simp only [Bool.and_eq_true, decide_eq_true_eq] at h5
  exact h5.2.2.1.1

theorem alR_len (rs : List Rn) : (alR rs).length ≤ rs.length := List.length_filter_le _ _

theorem sz_runs {lo : Nat} {w : World} {a : Option Addr} {xs : List Rn} (h : SliceC RnC 11 lo w a xs) : SzRn xs maxLen := by
  intro z hz
  obtain ⟨j, hj, e⟩ := List.getElem_of_mem hz
  obtain ⟨_, _, _, _, _, hc⟩ := h.at (show xs[j]? = some z by rw [List.getElem?_eq_getElem hj, e])
  obtain ⟨_, _, _, _, _, _, _, _, _, _, _, z0, z2⟩ := hc
  exact ⟨z0, z2⟩

theorem sz_alW {lo : Nat} {w : World} {a : Option Addr} {ys : List Mte} (h : SliceC MteC 9 lo w a ys) : SzWnt (alW ys) maxLen := by
  intro z hz
  obtain ⟨y, hy, hz⟩ := List.mem_flatMap.1 hz
  obtain ⟨r, hr, rfl⟩ := List.mem_map.1 hz
  obtain ⟨j, hj, e⟩ := List.getElem_of_mem hy
  obtain ⟨_, _, _, _, _, hc⟩ := h.at (show ys[j]? = some y by rw [List.getElem?_eq_getElem hj, e])
  obtain ⟨_, _, _, _, _, _, _, _, _, _, _, _, _, _, _, _, _, _, _, n6, _⟩ := hc
  exact sz_runs n6 r (List.mem_filter.1 hr).1

theorem own_at {base cap n : Nat} {b : Option Addr} {w : World} {fs : List Rn} {r : Rn} (h : w.ownsRow base 74 11 (.slice b fs.length cap) fs.length (rvRn fs)) (hn : fs[n]? = some r) : ∃ c, b = some ⟨c, 0, none⟩ ∧ w.rangeAt c (n * 11) [.string r.want.copy, .int .i64 r.want.version, .string r.want.hold, .int .i64 r.want.pull, .int .i64 r.want.start, .int .i64 r.want.dies, .int .i64 r.want.grace, .int .i64 r.state, .int .i64 r.left, .int .i64 r.falls, .int .i64 r.until_] := by
  have hl := lt_of_some hn
  obtain ⟨g, cap', e⟩ := rowf h (fun e => by injection e with _ e2 _; omega)
  have e1 : b = some ⟨g, 0, none⟩ := by injection e
  subst e1
  refine ⟨g, rfl, fun j v hj => ?_⟩
  have hj' : j < 11 := lt_of_some hj
  have := h.cellAt (n * 11 + j) (by omega)
  rw [this, rvRn_at fs n r j hn hj']
  exact hj

theorem run7 {w : World} {b : Nat} {x : Rn} (h : w.rangeAt b 0 [.string x.want.copy, .int .i64 x.want.version, .string x.want.hold, .int .i64 x.want.pull, .int .i64 x.want.start, .int .i64 x.want.dies, .int .i64 x.want.grace, .int .i64 x.state, .int .i64 x.left, .int .i64 x.falls, .int .i64 x.until_]) : w.rangeAt b 0 [.string x.want.copy, .int .i64 x.want.version, .string x.want.hold, .int .i64 x.want.pull, .int .i64 x.want.start, .int .i64 x.want.dies, .int .i64 x.want.grace] := fun j v hj => by
  have hl : j < 7 := lt_of_some hj
  refine h j v ?_
  show ([.string x.want.copy, .int .i64 x.want.version, .string x.want.hold, .int .i64 x.want.pull, .int .i64 x.want.start, .int .i64 x.want.dies, .int .i64 x.want.grace] ++ [.int .i64 x.state, .int .i64 x.left, .int .i64 x.falls, .int .i64 x.until_])[j]? = some v
  rw [List.getElem?_append_left (by simpa using hl)]
  exact hj

end Go.Proofs.YtlcjfiikiblcdaaGreat
