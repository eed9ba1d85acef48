/-
  What is desired; the scaler, by the specification. Made by mksk5.py.
-/
import Derived.Test.YtfbmljdlkgiliaaGreatSk4
namespace Go.Proofs.YtfbmljdlkgiliaaGreat
open Go.RowKit

/-- what a service's Want is to be by its load -/
def desI (v : Ssv) : Int :=
  let d := (v.load + v.per - 1).tdiv v.per
  let e := if d < v.least then v.least else d
  if v.most < e then v.most else e

/-- numbers of a service that are no more than they may be -/
structure SvNum (v : Ssv) : Prop where
  per : 0 ≤ v.per ∧ v.per ≤ 1000000
  load : 0 ≤ v.load ∧ v.load ≤ 1000000
  want : 0 ≤ v.want ∧ v.want ≤ 10
  over : 0 ≤ v.over ∧ v.over ≤ 10
  cool : 0 ≤ v.cool ∧ v.cool ≤ 3

theorem svNum {v : Ssv} {now : Int} (h : svB v now = true) : SvNum v := by
  unfold svB sldB at h
  by_cases hp : v.per = 0
  · simp [inR, hp] at h
    exact ⟨by omega, by omega, by omega, by omega, by omega⟩
  · simp [inR, hp] at h
    exact ⟨by omega, by omega, by omega, by omega, by omega⟩

set_option maxHeartbeats 4000000 in
set_option maxRecDepth 100000 in
theorem desired_any (v : Ssv) (w : World) (hn : SvNum v) (hp : 0 < v.per) :
    Calls Tryz.prog 20 #[.agg #[.string v.name, .int .i64 v.version, .bool v.gone, .int .i64 v.image, .int .i64 v.want, .int .i64 v.down, .int .i64 v.over, .int .i64 v.next, .int .i64 v.per, .int .i64 v.least, .int .i64 v.most, .int .i64 v.load, .int .i64 v.cool]] w fun e w' => e = .returned (.int .i64 (desI v)) ∧ Below w.heap.size w w' := by
  have hB1 : Below w.heap.size w (w.alloc (Obj.cells #[.string v.name, .int .i64 v.version, .bool v.gone, .int .i64 v.image, .int .i64 v.want, .int .i64 v.down, .int .i64 v.over, .int .i64 v.next, .int .i64 v.per, .int .i64 v.least, .int .i64 v.most, .int .i64 v.load, .int .i64 v.cool] 46)) := by go_grown
  have HK : Hid (Blk w.heap.size #[.string v.name, .int .i64 v.version, .bool v.gone, .int .i64 v.image, .int .i64 v.want, .int .i64 v.down, .int .i64 v.over, .int .i64 v.next, .int .i64 v.per, .int .i64 v.least, .int .i64 v.most, .int .i64 v.load, .int .i64 v.cool] 46 (w.alloc (Obj.cells #[.string v.name, .int .i64 v.version, .bool v.gone, .int .i64 v.image, .int .i64 v.want, .int .i64 v.down, .int .i64 v.over, .int .i64 v.next, .int .i64 v.per, .int .i64 v.least, .int .i64 v.most, .int .i64 v.load, .int .i64 v.cool] 46))) := Blk.alloc _ _ _
  obtain ⟨hper, hload, _, _, _⟩ := hn
  have hq0 : 0 ≤ (v.load + v.per - 1).tdiv v.per := Int.tdiv_nonneg (by omega) (by omega)
  have hq1 : (v.load + v.per - 1).tdiv v.per ≤ 2000000 := by
    have h1 : (v.load + v.per - 1).tdiv v.per ≤ v.load + v.per - 1 := by
      rw [Int.tdiv_eq_ediv_of_nonneg (by omega)]
      exact Int.ediv_le_self _ (by omega)
    omega
  have hz : (v.per == 0) = false := by simp; omega
  have hz2 : ¬ v.per = 0 := by omega
  have HW1 : IntKind.i64.wrap (v.load + v.per) = v.load + v.per := by rw [IntKind.wrap_i64]; omega
  have HW2 : IntKind.i64.wrap (v.load + v.per - 1) = v.load + v.per - 1 := by rw [IntKind.wrap_i64]; omega
  have HW3 : IntKind.i64.wrap ((v.load + v.per - 1).tdiv v.per) = (v.load + v.per - 1).tdiv v.per := by rw [IntKind.wrap_i64]; omega
  go_enter Tryz.func20, Tryz.ntmps20
  go_upto_region 1 with fail
  generalize w.alloc (Obj.cells #[.string v.name, .int .i64 v.version, .bool v.gone, .int .i64 v.image, .int .i64 v.want, .int .i64 v.down, .int .i64 v.over, .int .i64 v.next, .int .i64 v.per, .int .i64 v.least, .int .i64 v.most, .int .i64 v.load, .int .i64 v.cool] 46) = w1 at *

  have k8 : w1.cell? ⟨w.heap.size, 8, none⟩ = some (.int .i64 v.per) := HK.out.cell rfl
  have k9 : w1.cell? ⟨w.heap.size, 9, none⟩ = some (.int .i64 v.least) := HK.out.cell rfl
  have k10 : w1.cell? ⟨w.heap.size, 10, none⟩ = some (.int .i64 v.most) := HK.out.cell rfl
  have k11 : w1.cell? ⟨w.heap.size, 11, none⟩ = some (.int .i64 v.load) := HK.out.cell rfl
  clear HK
  obtain ⟨d, hd⟩ : ∃ d, d = (v.load + v.per - 1).tdiv v.per := ⟨_, rfl⟩
  rw [← hd] at hq0 hq1 HW3
  have HD : Hid (desI v = if v.most < (if d < v.least then v.least else d) then v.most else (if d < v.least then v.least else d)) := by show _ = _; unfold desI; rw [← hd]
  go_cut [3] (fun p wz => p = .int .i64 d ∧ wz = w1)
  case first =>
    rw [hd] at HW3
    go_wp2_with fail
    go_meet
    exact ⟨by rw [hd], rfl⟩
  case rest =>
    obtain ⟨rfl, rfl⟩ := hcut
    clear hd
    by_cases h1 : d < v.least
    · rw [if_pos h1] at HD
      by_cases h2 : v.most < v.least
      · rw [if_pos h2] at HD
        go_wp2_with fail
        go_ret
        exact ⟨ret_int HD.out.symm, hB1⟩
      · rw [if_neg h2] at HD
        have h2' : v.least ≤ v.most := by omega
        go_wp2_with fail
        go_ret
        exact ⟨ret_int HD.out.symm, hB1⟩
    · rw [if_neg h1] at HD
      have h1' : v.least ≤ d := by omega
      by_cases h2 : v.most < d
      · rw [if_pos h2] at HD
        go_wp2_with fail
        go_ret
        exact ⟨ret_int HD.out.symm, hB1⟩
      · rw [if_neg h2] at HD
        have h2' : d ≤ v.most := by omega
        go_wp2_with fail
        go_ret
        exact ⟨ret_int HD.out.symm, hB1⟩

/-- an act that is answered -/
def AcRes (a : Sac) (w : World) (e : Ending) (w' : World) : Prop := ∃ (ae : Option Addr) (ce : Nat), e = .returned (.agg #[.string a.service, .int .i64 a.seen, .int .i64 a.create, .int .i64 a.want, .int .i64 a.cool, .bool a.scale, .slice ae a.ends.length ce, .bool a.drop]) ∧ SliceC SenC 2 w.heap.size w' ae a.ends ∧ Below w.heap.size w w'

/-- what the scaler asks for -/
def scA (v : Ssv) : Sac :=
  if v.want < v.least then ⟨v.name, v.version, 0, v.least, 0, true, [], false⟩
  else if v.most < v.want then ⟨v.name, v.version, 0, v.most, 0, true, [], false⟩
  else if v.want < desI v then ⟨v.name, v.version, 0, desI v, 0, true, [], false⟩
  else if desI v < v.want then (if 3 ≤ v.cool then ⟨v.name, v.version, 0, v.want - 1, 0, true, [], false⟩ else ⟨v.name, v.version, 0, v.want, v.cool + 1, true, [], false⟩)
  else if v.cool = 0 then ⟨v.name, v.version, 0, 0, 0, false, [], false⟩
  else ⟨v.name, v.version, 0, v.want, 0, true, [], false⟩

end Go.Proofs.YtfbmljdlkgiliaaGreat
