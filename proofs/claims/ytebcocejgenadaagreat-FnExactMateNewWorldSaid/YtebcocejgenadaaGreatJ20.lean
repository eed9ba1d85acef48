/-
  Several texts in one: Wop, Cln.
-/
import Derived.Test.YtebcocejgenadaaGreatJ7
import Derived.Test.YtebcocejgenadaaGreatAv4
import Derived.Test.YtebcocejgenadaaGreatLkp
import Derived.Test.YtebcocejgenadaaGreatProg
import Derived.Shelf.Strconv.Clone
import Derived.KernelRfl
import Derived.WalkKit
namespace Go.Proofs.YtebcocejgenadaaGreat
open Go.RowKit

/-- the lists of a world -/
structure WSl (x : Wrl) (lo : Nat) (a1 a2 a3 a4 : Option Addr) (w : World) : Prop where
  sl : LSl x.land lo a1 a2 w
  s3 : SliceC MteC 9 lo w a3 x.mates
  s4 : SliceC StrC 1 lo w a4 x.flight
  l3 : x.mates.length ≤ 1048576
  l4 : x.flight.length ≤ 1048576
  em : ∀ (k : Nat) y, x.mates[k]? = some y → wMte y ≤ 1048576

theorem WSl.below {x : Wrl} {lo B : Nat} {a1 a2 a3 a4 : Option Addr} {w w' : World} (h : WSl x lo a1 a2 a3 a4 w) (hb : Below B w w') (hB : w.heap.size ≤ B) : WSl x lo a1 a2 a3 a4 w' :=
  ⟨h.sl.below hb hB, h.s3.below MteC.holds hb hB, h.s4.below StrC.holds hb hB, h.l3, h.l4, h.em⟩

theorem flat_sumW : ∀ (ps : List Plm), (ps.flatMap (·.wants)).length ≤ (ps.map wPlm).sum
  | [] => by simp
  | p :: r => by
    have ih := flat_sumW r
    simp only [List.flatMap_cons, List.length_append, List.map_cons, List.sum_cons]
    have h : p.wants.length ≤ wPlm p := by have := wS_len (f := wWnt) (xs := p.wants); unfold wPlm; omega
    omega

theorem wrl_all {x : Wrl} (h : wWrl x ≤ 1048576) {lo : Nat} {a1 a2 a3 a4 : Option Addr} {w : World} (s1 : SliceC GrtC 5 lo w a1 x.land.grants) (s2 : SliceC PlmC 3 lo w a2 x.land.places) (s3 : SliceC MteC 9 lo w a3 x.mates) (s4 : SliceC StrC 1 lo w a4 x.flight) : WSl x lo a1 a2 a3 a4 w := by
  unfold wWrl at h
  have h0 : wLnd x.land ≤ 1048576 := by omega
  refine ⟨⟨s1, s2, ?_, ?_, ?_⟩, s3, s4, ?_, ?_, ?_⟩
  · have := wS_len (f := wGrt) (xs := x.land.grants); unfold wLnd at h0; omega
  · have := wS_len (f := wPlm) (xs := x.land.places); unfold wLnd at h0; omega
  · have := flat_sumW x.land.places; unfold wLnd wS at h0; omega
  · have := wS_len (f := wMte) (xs := x.mates); omega
  · have := wS_len (f := ByteArray.size) (xs := x.flight); omega
  · intro k y hy
    have := wS_mem (f := wMte) (List.mem_of_getElem? hy)
    omega

/-- mates that are ok -/
def msB (xs : List Mte) : Bool := xs.all mvB && ascTo (xs.map (·.name)) xs.length
/-- few mates, few texts -/
def fwB (x : Wrl) : Bool := inR x.mates.length 1 4 && decide (x.flight.length ≤ 300)
/-- a world that is ok -/
def woB (x : Wrl) : Bool := fwB x && (loB x.land && msB x.mates)

theorem msB_no {xs : List Mte} {k : Nat} {y : Mte} (h : xs[k]? = some y) (hr : mvB y = false) : msB xs = false := by
  have : xs.all mvB = false := by
    rw [List.all_eq_false]
    exact ⟨y, List.mem_of_getElem? h, by simp [hr]⟩
  unfold msB
  rw [this, Bool.false_and]

theorem msB_all {xs : List Mte} (h : ∀ (j : Nat) x, j < xs.length → xs[j]? = some x → mvB x = true) : msB xs = ascTo (xs.map (·.name)) xs.length := by
  have : xs.all mvB = true := by
    rw [List.all_eq_true]
    intro r hr
    obtain ⟨j, hj, e⟩ := List.getElem_of_mem hr
    exact h j r hj (by rw [List.getElem?_eq_getElem hj, e])
  unfold msB
  rw [this, Bool.true_and]

theorem msB_asc {xs : List Mte} {k : Nat} (hk : k < xs.length) (h : ascAt (xs.map (·.name)) k = false) : msB xs = false := by
  unfold msB
  rw [ascTo_false h _ hk]
  simp

theorem mte_at {lo : Nat} {w : World} {b o : Nat} {y : Mte} (h : MteC lo w (fun i => w.cell? ⟨b, o + i, none⟩) y) (hw : wMte y ≤ 1048576) : ∃ (p5 : Option Addr) (q5 : Nat) (p6 : Option Addr) (q6 : Nat) (p7 : Option Addr) (q7 : Nat) (p8 : Option Addr) (q8 : Nat), w.rangeAt b o [.string y.name, .bool y.up, .int .i64 y.clock, .bool y.known, .int .i64 y.seen, .slice p5 y.wants.length q5, .slice p6 y.runs.length q6, .slice p7 y.asks.length q7, .slice p8 y.gives.length q8] ∧ MSl y lo p5 p6 p7 p8 w := by
  obtain ⟨p5, c5, p6, c6, p7, c7, p8, c8, q0, q1, q2, q3, q4, q5, q6, q7, q8, z0, n5, n6, n7, n8⟩ := h
  simp only [Nat.add_zero] at q0 q1 q2 q3 q4 q5 q6 q7 q8
  refine ⟨p5, c5, p6, c6, p7, c7, p8, c8, range_cons q0 (range_cons q1 (range_cons q2 (range_cons q3 (range_cons q4 (range_cons q5 (range_cons q6 (range_cons q7 (range_cons q8 (range_nil _ _ _))))))))), z0, n5, n6, n7, n8, ?_, ?_, ?_, ?_⟩
  · have := wS_len (f := wWnt) (xs := y.wants); unfold wMte at hw; omega
  · have := wS_len (f := wRn) (xs := y.runs); unfold wMte at hw; omega
  · have := wS_len (f := wAks) (xs := y.asks); unfold wMte at hw; omega
  · have := wS_len (f := wAks) (xs := y.gives); unfold wMte at hw; omega

end Go.Proofs.YtebcocejgenadaaGreat

namespace Go.Proofs.YtebcocejgenadaaGreat
open Go.RowKit

/-- the numbers of this program -/
def rhoC : Go.Shelf.Ren := {
  f := fun n => if n = 316 then 89 else 0,
  t := fun n => if n = 3 then 3 else if n = 4 then 4 else if n = 5 then 5 else if n = 9 then 9 else if n = 37 then 61 else if n = 127 then 126 else 0,
  g := fun n => n }

/-- it lies there as function 89 -/
theorem laysC : LaysM.n316 Tryz.prog rhoC := {
  mixed := by kernel_rfl,
  f316 := by kernel_rfl,
  t0 := by kernel_rfl,
  a0 := fun w => by kernel_rfl,
  z0 := fun w => by kernel_rfl,
  v0 := fun w => by kernel_rfl,
  t3 := by kernel_rfl,
  a3 := fun w => by kernel_rfl,
  z3 := fun w => by kernel_rfl,
  v3 := fun w => by kernel_rfl,
  t4 := by kernel_rfl,
  a4 := fun w => by kernel_rfl,
  z4 := fun w => by kernel_rfl,
  v4 := fun w => by kernel_rfl,
  t9 := by kernel_rfl,
  a9 := fun w => by kernel_rfl,
  z9 := fun w => by kernel_rfl,
  v9 := fun w => by kernel_rfl,
  t37 := by kernel_rfl,
  a37 := fun w => by kernel_rfl,
  z37 := fun w => by kernel_rfl,
  v37 := fun w => by kernel_rfl,
  t127 := by kernel_rfl,
  a127 := fun w => by kernel_rfl,
  z127 := fun w => by kernel_rfl,
  v127 := fun w => by kernel_rfl,
  t5 := by kernel_rfl,
  a5 := fun w => by kernel_rfl,
  z5 := fun w => by kernel_rfl,
  v5 := fun w => by kernel_rfl,
  i0 := by kernel_rfl,
  i3 := by kernel_rfl,
  i4 := by kernel_rfl,
  i5 := by kernel_rfl,
  i9 := by kernel_rfl,
  i37 := by kernel_rfl,
  i127 := by kernel_rfl }

theorem clone_any (s : ByteArray) (w : World) (hs : s.size ≤ 200) :
    Calls Tryz.prog 69 #[.string s] w fun e w' => e = .returned (.string s) ∧ Below w.heap.size w w' := by
  go_enter Tryz.func69, Tryz.ntmps69
  go_wp2_with fail
  refine (Any.stringslite_Clone laysC s w (by omega)).mono ?_
  rintro e w1 ⟨rfl, hb⟩
  go_wp2_with fail
  go_ret
  exact ⟨rfl, hb⟩

end Go.Proofs.YtebcocejgenadaaGreat
