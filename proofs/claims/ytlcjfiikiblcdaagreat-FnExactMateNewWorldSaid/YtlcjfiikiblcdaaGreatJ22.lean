/-
  Several texts in one: Lkp, Wop, Cln.
-/
import Derived.Test.YtlcjfiikiblcdaaGreatLnd
import Derived.Test.YtlcjfiikiblcdaaGreatMt8
import Derived.Test.YtlcjfiikiblcdaaGreatWrl
import Derived.Test.YtlcjfiikiblcdaaGreatAv4
import Derived.Test.YtlcjfiikiblcdaaGreatProg
import Derived.Shelf.Strconv.Clone
import Derived.KernelRfl
import Derived.WalkKit
namespace Go.Proofs.YtlcjfiikiblcdaaGreat
open Go.RowKit

/-- the lists of a book -/
structure LSl (x : Lnd) (lo : Nat) (a1 a2 : Option Addr) (w : World) : Prop where
  s1 : SliceC GrtC 5 lo w a1 x.grants
  s2 : SliceC PlmC 3 lo w a2 x.places
  l1 : x.grants.length ≤ 1048576
  l2 : x.places.length ≤ 1048576
  l3 : (x.places.flatMap (·.wants)).length ≤ 1048576

theorem LSl.below {x : Lnd} {lo B : Nat} {a1 a2 : Option Addr} {w w' : World} (h : LSl x lo a1 a2 w) (hb : Below B w w') (hB : w.heap.size ≤ B) : LSl x lo a1 a2 w' :=
  ⟨h.s1.below GrtC.holds hb hB, h.s2.below PlmC.holds hb hB, h.l1, h.l2, h.l3⟩

/-- a time that is ok -/
def tmB (t : Int) : Bool := inR t 0 2000000 && t.tmod 2 == 0
/-- a grant that is ok up to a time -/
def gtB (y : Grt) (u : Int) : Bool := nmB y.berth && hdB y.hold && nmB y.copy && inR y.at_ 0 1000000 && inR y.until_ 0 u
/-- grants that are ok -/
def gsB (xs : List Grt) (u : Int) : Bool := decide (xs.length ≤ 40) && (ascTo (xs.map (·.hold)) xs.length && xs.all (gtB · u))
/-- a place that is ok -/
def plB (y : Plm) : Bool := nmB y.berth && inR y.seen 1 1000000 && wsB y.wants
/-- places that are ok, each alone -/
def psB (xs : List Plm) : Bool := decide (xs.length ≤ 4) && (ascTo (xs.map (·.berth)) xs.length && xs.all plB)
/-- all holds of places -/
def hsP (xs : List Plm) : List ByteArray := (xs.flatMap (·.wants)).map (·.hold)
def oneB (xs : List Plm) : Bool := difTo (hsP xs) (hsP xs).length
/-- a book that is ok -/
def loB (x : Lnd) : Bool := tmB x.time && (gsB x.grants (wrap64 (x.time + 32)) && (psB x.places && oneB x.places))

theorem gsB_no {xs : List Grt} {u : Int} {k : Nat} {y : Grt} (h : xs[k]? = some y) (hr : gtB y u = false) : gsB xs u = false := by
  have : xs.all (gtB · u) = false := by
    rw [List.all_eq_false]
    exact ⟨y, List.mem_of_getElem? h, by simp [hr]⟩
  unfold gsB
  rw [this, Bool.and_false, Bool.and_false]

theorem gsB_yes {xs : List Grt} {u : Int} (hl : xs.length ≤ 40) (ha : ascTo (xs.map (·.hold)) xs.length = true) (h : ∀ (j : Nat) x, j < xs.length → xs[j]? = some x → gtB x u = true) : gsB xs u = true := by
  have : xs.all (gtB · u) = true := by
    rw [List.all_eq_true]
    intro r hr
    obtain ⟨j, hj, e⟩ := List.getElem_of_mem hr
    exact h j r hj (by rw [List.getElem?_eq_getElem hj, e])
  unfold gsB
  rw [this, ha, decide_eq_true hl]
  rfl

theorem gsB_asc {xs : List Grt} {u : Int} {k : Nat} (hk : k < xs.length) (h : ascAt (xs.map (·.hold)) k = false) : gsB xs u = false := by
  unfold gsB
  rw [ascTo_false h _ hk]
  simp

theorem psB_no {xs : List Plm} {k : Nat} {y : Plm} (h : xs[k]? = some y) (hr : plB y = false) : psB xs = false := by
  have : xs.all plB = false := by
    rw [List.all_eq_false]
    exact ⟨y, List.mem_of_getElem? h, by simp [hr]⟩
  unfold psB
  rw [this, Bool.and_false, Bool.and_false]

theorem psB_yes {xs : List Plm} (hl : xs.length ≤ 4) (ha : ascTo (xs.map (·.berth)) xs.length = true) (h : ∀ (j : Nat) x, j < xs.length → xs[j]? = some x → plB x = true) : psB xs = true := by
  have : xs.all plB = true := by
    rw [List.all_eq_true]
    intro r hr
    obtain ⟨j, hj, e⟩ := List.getElem_of_mem hr
    exact h j r hj (by rw [List.getElem?_eq_getElem hj, e])
  unfold psB
  rw [this, ha, decide_eq_true hl]
  rfl

theorem psB_asc {xs : List Plm} {k : Nat} (hk : k < xs.length) (h : ascAt (xs.map (·.berth)) k = false) : psB xs = false := by
  unfold psB
  rw [ascTo_false h _ hk]
  simp

theorem wants_le {xs : List Plm} {k : Nat} {y : Plm} (h : xs[k]? = some y) (hl : (xs.flatMap (·.wants)).length ≤ 1048576) : y.wants.length ≤ 1048576 := by
  refine Nat.le_trans ?_ hl
  have hm := List.mem_of_getElem? h
  obtain ⟨a, b, rfl⟩ := List.append_of_mem hm
  simp
  omega

theorem flat_step {xs : List Plm} {k : Nat} {y : Plm} (h : xs[k]? = some y) : (xs.take (k + 1)).flatMap (·.wants) = (xs.take k).flatMap (·.wants) ++ y.wants := by
  rw [List.take_add_one, h, List.flatMap_append]
  simp

theorem flat_le (xs : List Plm) (k : Nat) : ((xs.take k).flatMap (·.wants)).length ≤ (xs.flatMap (·.wants)).length := by
  conv => rhs; rw [← List.take_append_drop k xs]
  rw [List.flatMap_append, List.length_append]
  omega

/-- no text that is not empty is there twice -/
def NoTwo (a b : ByteArray) : Prop := b.toList = [] ∨ a ≠ b

theorem difAt_iff {hs : List ByteArray} {k : Nat} {h : ByteArray} (e : hs[k]? = some h) : difAt hs k = true ↔ ∀ j g, j < k → hs[j]? = some g → NoTwo g h := by
  rw [difAt_at e]
  have hm : ∀ g, g ∈ hR hs k ↔ ∃ j, j < k ∧ hs[j]? = some g := by
    intro g
    clear e
    induction k with
    | zero => simp [hR]
    | succ n ih =>
      cases hn : hs[n]? with
      | none =>
        have : hR hs (n + 1) = hR hs n := by simp [hR, hn]
        rw [this, ih]
        constructor
        · rintro ⟨j, hj, e⟩; exact ⟨j, by omega, e⟩
        · rintro ⟨j, hj, e⟩
          refine ⟨j, ?_, e⟩
          rcases Nat.lt_or_ge j n with h | h
          · exact h
          · have : j = n := by omega
            subst this
            rw [hn] at e
            cases e
      | some y =>
        rw [hR_step hn, List.mem_cons, ih]
        constructor
        · rintro (rfl | ⟨j, hj, e⟩)
          · exact ⟨n, by omega, hn⟩
          · exact ⟨j, by omega, e⟩
        · rintro ⟨j, hj, e⟩
          rcases Nat.lt_or_ge j n with h | h
          · exact .inr ⟨j, h, e⟩
          · have : j = n := by omega
            subst this
            rw [hn] at e
            cases e
            exact .inl rfl
  have hc : cntOf h (hR hs k) = 0 ↔ h ∉ hR hs k := by
    unfold cntOf
    rw [List.countP_eq_zero]
    constructor
    · intro h1 h2
      have := h1 h h2
      simp at this
    · intro h1 a ha
      simp
      rintro rfl
      exact h1 ha
  simp only [Bool.or_eq_true, decide_eq_true_eq, beq_iff_eq, hc, hm]
  constructor
  · rintro (h1 | h1) j g hj hg
    · exact .inl h1
    · refine .inr ?_
      rintro rfl
      exact h1 ⟨j, hj, hg⟩
  · intro h1
    by_cases h0 : h.toList = []
    · exact .inl h0
    · right
      rintro ⟨j, hj, e2⟩
      rcases h1 j h hj e2 with h2 | h2
      · exact h0 h2
      · exact h2 rfl

theorem difTo_iff (hs : List ByteArray) : ∀ n, n ≤ hs.length → (difTo hs n = true ↔ ∀ (k : Nat) h, k < n → hs[k]? = some h → ∀ (j : Nat) g, j < k → hs[j]? = some g → NoTwo g h)
  | 0, _ => by simp [difTo]
  | n + 1, hn => by
    have ih := difTo_iff hs n (by omega)
    have hx : hs[n]? = some hs[n] := List.getElem?_eq_getElem (by omega)
    simp only [difTo, Bool.and_eq_true, ih, difAt_iff hx]
    constructor
    · rintro ⟨h1, h2⟩ k h hk e
      rcases Nat.lt_or_ge k n with h3 | h3
      · exact h1 k h h3 e
      · have : k = n := by omega
        subst this
        rw [hx] at e
        cases e
        exact fun j g hj hg => h2 j g hj hg
    · intro h1
      exact ⟨fun k h hk e => h1 k h (by omega) e, fun j g hj hg => h1 n _ (by omega) hx j g hj hg⟩

theorem dif_pair (hs : List ByteArray) : difTo hs hs.length = true ↔ hs.Pairwise NoTwo := by
  rw [difTo_iff hs hs.length (Nat.le_refl _), List.pairwise_iff_getElem]
  constructor
  · intro h i j hi hj hij
    exact h j _ hj (List.getElem?_eq_getElem hj) i _ hij (List.getElem?_eq_getElem hi)
  · intro h k y hk e j g hj hg
    have hj' : j < hs.length := by omega
    have e1 : hs[k] = y := by rw [List.getElem?_eq_getElem hk] at e; exact Option.some.inj e
    have e2 : hs[j] = g := by rw [List.getElem?_eq_getElem hj'] at hg; exact Option.some.inj hg
    rw [← e1, ← e2]
    exact h j k hj' hk hj

/-- two places share no hold -/
def Apart2 (p q : Plm) : Prop := ∀ u ∈ p.wants, ∀ v ∈ q.wants, NoTwo u.hold v.hold

theorem one_iff {xs : List Plm} (h : ∀ p ∈ xs, wsB p.wants = true) : oneB xs = true ↔ xs.Pairwise Apart2 := by
  unfold oneB
  rw [dif_pair]
  unfold hsP
  rw [List.pairwise_map, List.pairwise_flatMap]
  constructor
  · rintro ⟨_, h2⟩
    exact h2
  · intro h2
    refine ⟨fun p hp => ?_, h2⟩
    have := h p hp
    unfold wsB at this
    simp only [Bool.and_eq_true] at this
    have h3 := this.2.2.2
    rw [show p.wants.length = (p.wants.map (·.hold)).length by simp, dif_pair, List.pairwise_map] at h3
    exact h3

end Go.Proofs.YtlcjfiikiblcdaaGreat

namespace Go.Proofs.YtlcjfiikiblcdaaGreat
open Go.RowKit

/-- the lists of a world -/
structure WSl (x : Wrl) (lo : Nat) (a1 a2 a3 a4 : Option Addr) (w : World) : Prop where
  sl : LSl x.land lo a1 a2 w
  s3 : SliceC MteC 9 lo w a3 x.mates
  s4 : SliceC StrC 1 lo w a4 x.flight
  l3 : x.mates.length ≤ 1048576
  l4 : x.flight.length ≤ 1048576
  em : ∀ (k : Nat) y, x.mates[k]? = some y → wMte y ≤ 1048576

theorem WSl.below {x : Wrl} {lo B : Nat} {a1 a2 a3 a4 : Option Addr} {w w' : World} (h : WSl x lo a1 a2 a3 a4 w) (hb : Below B w w') (hB : w.heap.size ≤ B) : WSl x lo a1 a2 a3 a4 w' :=
  ⟨h.sl.below hb hB, h.s3.below MteC.holds hb hB, h.s4.below StrC.holds hb hB, h.l3, h.l4, h.em⟩

theorem flat_sumW : ∀ (ps : List Plm), (ps.flatMap (·.wants)).length ≤ (ps.map wPlm).sum
  | [] => by simp
  | p :: r => by
    have ih := flat_sumW r
    simp only [List.flatMap_cons, List.length_append, List.map_cons, List.sum_cons]
    have h : p.wants.length ≤ wPlm p := by have := wS_len (f := wWnt) (xs := p.wants); unfold wPlm; omega
    omega

theorem wrl_all {x : Wrl} (h : wWrl x ≤ 1048576) {lo : Nat} {a1 a2 a3 a4 : Option Addr} {w : World} (s1 : SliceC GrtC 5 lo w a1 x.land.grants) (s2 : SliceC PlmC 3 lo w a2 x.land.places) (s3 : SliceC MteC 9 lo w a3 x.mates) (s4 : SliceC StrC 1 lo w a4 x.flight) : WSl x lo a1 a2 a3 a4 w := by
  unfold wWrl at h
  have h0 : wLnd x.land ≤ 1048576 := by omega
  refine ⟨⟨s1, s2, ?_, ?_, ?_⟩, s3, s4, ?_, ?_, ?_⟩
  · have := wS_len (f := wGrt) (xs := x.land.grants); unfold wLnd at h0; omega
  · have := wS_len (f := wPlm) (xs := x.land.places); unfold wLnd at h0; omega
  · have := flat_sumW x.land.places; unfold wLnd wS at h0; omega
  · have := wS_len (f := wMte) (xs := x.mates); omega
  · have := wS_len (f := ByteArray.size) (xs := x.flight); omega
  · intro k y hy
    have := wS_mem (f := wMte) (List.mem_of_getElem? hy)
    omega

/-- mates that are ok -/
def msB (xs : List Mte) : Bool := xs.all mvB && ascTo (xs.map (·.name)) xs.length
/-- few mates, few texts -/
def fwB (x : Wrl) : Bool := inR x.mates.length 1 4 && decide (x.flight.length ≤ 300)
/-- a world that is ok -/
def woB (x : Wrl) : Bool := fwB x && (loB x.land && msB x.mates)

theorem msB_no {xs : List Mte} {k : Nat} {y : Mte} (h : xs[k]? = some y) (hr : mvB y = false) : msB xs = false := by
  have : xs.all mvB = false := by
    rw [List.all_eq_false]
    exact ⟨y, List.mem_of_getElem? h, by simp [hr]⟩
  unfold msB
  rw [this, Bool.false_and]

theorem msB_all {xs : List Mte} (h : ∀ (j : Nat) x, j < xs.length → xs[j]? = some x → mvB x = true) : msB xs = ascTo (xs.map (·.name)) xs.length := by
  have : xs.all mvB = true := by
    rw [List.all_eq_true]
    intro r hr
    obtain ⟨j, hj, e⟩ := List.getElem_of_mem hr
    exact h j r hj (by rw [List.getElem?_eq_getElem hj, e])
  unfold msB
  rw [this, Bool.true_and]

theorem msB_asc {xs : List Mte} {k : Nat} (hk : k < xs.length) (h : ascAt (xs.map (·.name)) k = false) : msB xs = false := by
  unfold msB
  rw [ascTo_false h _ hk]
  simp

theorem mte_at {lo : Nat} {w : World} {b o : Nat} {y : Mte} (h : MteC lo w (fun i => w.cell? ⟨b, o + i, none⟩) y) (hw : wMte y ≤ 1048576) : ∃ (p5 : Option Addr) (q5 : Nat) (p6 : Option Addr) (q6 : Nat) (p7 : Option Addr) (q7 : Nat) (p8 : Option Addr) (q8 : Nat), w.rangeAt b o [.string y.name, .bool y.up, .int .i64 y.clock, .bool y.known, .int .i64 y.seen, .slice p5 y.wants.length q5, .slice p6 y.runs.length q6, .slice p7 y.asks.length q7, .slice p8 y.gives.length q8] ∧ MSl y lo p5 p6 p7 p8 w := by
  obtain ⟨p5, c5, p6, c6, p7, c7, p8, c8, q0, q1, q2, q3, q4, q5, q6, q7, q8, z0, n5, n6, n7, n8⟩ := h
  simp only [Nat.add_zero] at q0 q1 q2 q3 q4 q5 q6 q7 q8
  refine ⟨p5, c5, p6, c6, p7, c7, p8, c8, range_cons q0 (range_cons q1 (range_cons q2 (range_cons q3 (range_cons q4 (range_cons q5 (range_cons q6 (range_cons q7 (range_cons q8 (range_nil _ _ _))))))))), z0, n5, n6, n7, n8, ?_, ?_, ?_, ?_⟩
  · have := wS_len (f := wWnt) (xs := y.wants); unfold wMte at hw; omega
  · have := wS_len (f := wRn) (xs := y.runs); unfold wMte at hw; omega
  · have := wS_len (f := wAks) (xs := y.asks); unfold wMte at hw; omega
  · have := wS_len (f := wAks) (xs := y.gives); unfold wMte at hw; omega

end Go.Proofs.YtlcjfiikiblcdaaGreat

namespace Go.Proofs.YtlcjfiikiblcdaaGreat
open Go.RowKit

/-- the numbers of this program -/
def rhoC : Go.Shelf.Ren := {
  f := fun n => if n = 316 then 124 else 0,
  t := fun n => if n = 3 then 3 else if n = 4 then 4 else if n = 5 then 5 else if n = 9 then 9 else if n = 37 then 93 else if n = 127 then 185 else 0,
  g := fun n => n }

/-- it lies there as function 124 -/
theorem laysC : LaysM.n316 Tryz.prog rhoC := {
  mixed := by kernel_rfl,
  f316 := by kernel_rfl,
  t0 := by kernel_rfl,
  a0 := fun w => by kernel_rfl,
  z0 := fun w => by kernel_rfl,
  v0 := fun w => by kernel_rfl,
  t3 := by kernel_rfl,
  a3 := fun w => by kernel_rfl,
  z3 := fun w => by kernel_rfl,
  v3 := fun w => by kernel_rfl,
  t4 := by kernel_rfl,
  a4 := fun w => by kernel_rfl,
  z4 := fun w => by kernel_rfl,
  v4 := fun w => by kernel_rfl,
  t9 := by kernel_rfl,
  a9 := fun w => by kernel_rfl,
  z9 := fun w => by kernel_rfl,
  v9 := fun w => by kernel_rfl,
  t37 := by kernel_rfl,
  a37 := fun w => by kernel_rfl,
  z37 := fun w => by kernel_rfl,
  v37 := fun w => by kernel_rfl,
  t127 := by kernel_rfl,
  a127 := fun w => by kernel_rfl,
  z127 := fun w => by kernel_rfl,
  v127 := fun w => by kernel_rfl,
  t5 := by kernel_rfl,
  a5 := fun w => by kernel_rfl,
  z5 := fun w => by kernel_rfl,
  v5 := fun w => by kernel_rfl,
  i0 := by kernel_rfl,
  i3 := by kernel_rfl,
  i4 := by kernel_rfl,
  i5 := by kernel_rfl,
  i9 := by kernel_rfl,
  i37 := by kernel_rfl,
  i127 := by kernel_rfl }

theorem clone_any (s : ByteArray) (w : World) (hs : s.size ≤ 200) :
    Calls Tryz.prog 90 #[.string s] w fun e w' => e = .returned (.string s) ∧ Below w.heap.size w w' := by
  go_enter Tryz.func90, Tryz.ntmps90
  go_wp2_with fail
  refine (Any.stringslite_Clone laysC s w (by omega)).mono ?_
  rintro e w1 ⟨rfl, hb⟩
  go_wp2_with fail
  go_ret
  exact ⟨rfl, hb⟩

end Go.Proofs.YtlcjfiikiblcdaaGreat
