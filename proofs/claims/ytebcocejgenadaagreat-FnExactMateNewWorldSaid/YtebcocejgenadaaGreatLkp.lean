/-
  Books that are ok: what both sides count. Made by mklk1.py.
-/
import Derived.Test.YtebcocejgenadaaGreatJ2
import Derived.Test.YtebcocejgenadaaGreatMt8
namespace Go.Proofs.YtebcocejgenadaaGreat
open Go.RowKit

/-- the lists of a book -/
structure LSl (x : Lnd) (lo : Nat) (a1 a2 : Option Addr) (w : World) : Prop where
  s1 : SliceC GrtC 5 lo w a1 x.grants
  s2 : SliceC PlmC 3 lo w a2 x.places
  l1 : x.grants.length ≤ 1048576
  l2 : x.places.length ≤ 1048576
  l3 : (x.places.flatMap (·.wants)).length ≤ 1048576

theorem LSl.below {x : Lnd} {lo B : Nat} {a1 a2 : Option Addr} {w w' : World} (h : LSl x lo a1 a2 w) (hb : Below B w w') (hB : w.heap.size ≤ B) : LSl x lo a1 a2 w' :=
  ⟨h.s1.below GrtC.holds hb hB, h.s2.below PlmC.holds hb hB, h.l1, h.l2, h.l3⟩

/-- a time that is ok -/
def tmB (t : Int) : Bool := inR t 0 2000000 && t.tmod 2 == 0
/-- a grant that is ok up to a time -/
def gtB (y : Grt) (u : Int) : Bool := nmB y.berth && hdB y.hold && nmB y.copy && inR y.at_ 0 1000000 && inR y.until_ 0 u
/-- grants that are ok -/
def gsB (xs : List Grt) (u : Int) : Bool := decide (xs.length ≤ 40) && (ascTo (xs.map (·.hold)) xs.length && xs.all (gtB · u))
/-- a place that is ok -/
def plB (y : Plm) : Bool := nmB y.berth && inR y.seen 1 1000000 && wsB y.wants
/-- places that are ok, each alone -/
def psB (xs : List Plm) : Bool := decide (xs.length ≤ 4) && (ascTo (xs.map (·.berth)) xs.length && xs.all plB)
/-- all holds of places -/
def hsP (xs : List Plm) : List ByteArray := (xs.flatMap (·.wants)).map (·.hold)
def oneB (xs : List Plm) : Bool := difTo (hsP xs) (hsP xs).length
/-- a book that is ok -/
def loB (x : Lnd) : Bool := tmB x.time && (gsB x.grants (wrap64 (x.time + 32)) && (psB x.places && oneB x.places))

theorem gsB_no {xs : List Grt} {u : Int} {k : Nat} {y : Grt} (h : xs[k]? = some y) (hr : gtB y u = false) : gsB xs u = false := by
  have : xs.all (gtB · u) = false := by
    rw [List.all_eq_false]
    exact ⟨y, List.mem_of_getElem? h, by simp [hr]⟩
  unfold gsB
  rw [this, Bool.and_false, Bool.and_false]

theorem gsB_yes {xs : List Grt} {u : Int} (hl : xs.length ≤ 40) (ha : ascTo (xs.map (·.hold)) xs.length = true) (h : ∀ (j : Nat) x, j < xs.length → xs[j]? = some x → gtB x u = true) : gsB xs u = true := by
  have : xs.all (gtB · u) = true := by
    rw [List.all_eq_true]
    intro r hr
    obtain ⟨j, hj, e⟩ := List.getElem_of_mem hr
    exact h j r hj (by rw [List.getElem?_eq_getElem hj, e])
  unfold gsB
  rw [this, ha, decide_eq_true hl]
  rfl

theorem gsB_asc {xs : List Grt} {u : Int} {k : Nat} (hk : k < xs.length) (h : ascAt (xs.map (·.hold)) k = false) : gsB xs u = false := by
  unfold gsB
  rw [ascTo_false h _ hk]
  simp

theorem psB_no {xs : List Plm} {k : Nat} {y : Plm} (h : xs[k]? = some y) (hr : plB y = false) : psB xs = false := by
  have : xs.all plB = false := by
    rw [List.all_eq_false]
    exact ⟨y, List.mem_of_getElem? h, by simp [hr]⟩
  unfold psB
  rw [this, Bool.and_false, Bool.and_false]

theorem psB_yes {xs : List Plm} (hl : xs.length ≤ 4) (ha : ascTo (xs.map (·.berth)) xs.length = true) (h : ∀ (j : Nat) x, j < xs.length → xs[j]? = some x → plB x = true) : psB xs = true := by
  have : xs.all plB = true := by
    rw [List.all_eq_true]
    intro r hr
    obtain ⟨j, hj, e⟩ := List.getElem_of_mem hr
    exact h j r hj (by rw [List.getElem?_eq_getElem hj, e])
  unfold psB
  rw [this, ha, decide_eq_true hl]
  rfl

theorem psB_asc {xs : List Plm} {k : Nat} (hk : k < xs.length) (h : ascAt (xs.map (·.berth)) k = false) : psB xs = false := by
  unfold psB
  rw [ascTo_false h _ hk]
  simp

theorem wants_le {xs : List Plm} {k : Nat} {y : Plm} (h : xs[k]? = some y) (hl : (xs.flatMap (·.wants)).length ≤ 1048576) : y.wants.length ≤ 1048576 := by
  refine Nat.le_trans ?_ hl
  have hm := List.mem_of_getElem? h
  obtain ⟨a, b, rfl⟩ := List.append_of_mem hm
  simp
  omega

theorem flat_step {xs : List Plm} {k : Nat} {y : Plm} (h : xs[k]? = some y) : (xs.take (k + 1)).flatMap (·.wants) = (xs.take k).flatMap (·.wants) ++ y.wants := by
  rw [List.take_add_one, h, List.flatMap_append]
  simp

theorem flat_le (xs : List Plm) (k : Nat) : ((xs.take k).flatMap (·.wants)).length ≤ (xs.flatMap (·.wants)).length := by
  conv => rhs; rw [← List.take_append_drop k xs]
  rw [List.flatMap_append, List.length_append]
  omega

/-- no text that is not empty is there twice -/
def NoTwo (a b : ByteArray) : Prop := b.toList = [] ∨ a ≠ b

theorem difAt_iff {hs : List ByteArray} {k : Nat} {h : ByteArray} (e : hs[k]? = some h) : difAt hs k = true ↔ ∀ j g, j < k → hs[j]? = some g → NoTwo g h := by
  rw [difAt_at e]
  have hm : ∀ g, g ∈ hR hs k ↔ ∃ j, j < k ∧ hs[j]? = some g := by
    intro g
    clear e
    induction k with
    | zero => simp [hR]
    | succ n ih =>
      cases hn : hs[n]? with
      | none =>
        have : hR hs (n + 1) = hR hs n := by simp [hR, hn]
        rw [this, ih]
        constructor
        · rintro ⟨j, hj, e⟩; exact ⟨j, by omega, e⟩
        · rintro ⟨j, hj, e⟩
          refine ⟨j, ?_, e⟩
          rcases Nat.lt_or_ge j n with h | h
          · exact h
          · have : j = n := by omega
            subst this
            rw [hn] at e
            cases e
      | some y =>
        rw [hR_step hn, List.mem_cons, ih]
        constructor
        · rintro (rfl | ⟨j, hj, e⟩)
          · exact ⟨n, by omega, hn⟩
          · exact ⟨j, by omega, e⟩
        · rintro ⟨j, hj, e⟩
          rcases Nat.lt_or_ge j n with h | h
          · exact .inr ⟨j, h, e⟩
          · have : j = n := by omega
            subst this
            rw [hn] at e
            cases e
            exact .inl rfl
  have hc : cntOf h (hR hs k) = 0 ↔ h ∉ hR hs k := by
    unfold cntOf
    rw [List.countP_eq_zero]
    constructor
    · intro h1 h2
      have := h1 h h2
      simp at this
    · intro h1 a ha
      simp
      rintro rfl
      exact h1 ha
  simp only [Bool.or_eq_true, decide_eq_true_eq, beq_iff_eq, hc, hm]
  constructor
  · rintro (h1 | h1) j g hj hg
    · exact .inl h1
    · refine .inr ?_
      rintro rfl
      exact h1 ⟨j, hj, hg⟩
  · intro h1
    by_cases h0 : h.toList = []
    · exact .inl h0
    · right
      rintro ⟨j, hj, e2⟩
      rcases h1 j h hj e2 with h2 | h2
      · exact h0 h2
      · exact h2 rfl

theorem difTo_iff (hs : List ByteArray) : ∀ n, n ≤ hs.length → (difTo hs n = true ↔ ∀ (k : Nat) h, k < n → hs[k]? = some h → ∀ (j : Nat) g, j < k → hs[j]? = some g → NoTwo g h)
  | 0, _ => by simp [difTo]
  | n + 1, hn => by
    have ih := difTo_iff hs n (by omega)
    have hx : hs[n]? = some hs[n] := List.getElem?_eq_getElem (by omega)
    simp only [difTo, Bool.and_eq_true, ih, difAt_iff hx]
    constructor
    · rintro ⟨h1, h2⟩ k h hk e
      rcases Nat.lt_or_ge k n with h3 | h3
      · exact h1 k h h3 e
      · have : k = n := by omega
        subst this
        rw [hx] at e
        cases e
        exact fun j g hj hg => h2 j g hj hg
    · intro h1
      exact ⟨fun k h hk e => h1 k h (by omega) e, fun j g hj hg => h1 n _ (by omega) hx j g hj hg⟩

theorem dif_pair (hs : List ByteArray) : difTo hs hs.length = true ↔ hs.Pairwise NoTwo := by
  rw [difTo_iff hs hs.length (Nat.le_refl _), List.pairwise_iff_getElem]
  constructor
  · intro h i j hi hj hij
    exact h j _ hj (List.getElem?_eq_getElem hj) i _ hij (List.getElem?_eq_getElem hi)
  · intro h k y hk e j g hj hg
    have hj' : j < hs.length := by omega
    have e1 : hs[k] = y := by rw [List.getElem?_eq_getElem hk] at e; exact Option.some.inj e
    have e2 : hs[j] = g := by rw [List.getElem?_eq_getElem hj'] at hg; exact Option.some.inj hg
    rw [← e1, ← e2]
    exact h j k hj' hk hj

/-- two places share no hold -/
def Apart2 (p q : Plm) : Prop := ∀ u ∈ p.wants, ∀ v ∈ q.wants, NoTwo u.hold v.hold

theorem one_iff {xs : List Plm} (h : ∀ p ∈ xs, wsB p.wants = true) : oneB xs = true ↔ xs.Pairwise Apart2 := by
  unfold oneB
  rw [dif_pair]
  unfold hsP
  rw [List.pairwise_map, List.pairwise_flatMap]
  constructor
  · rintro ⟨_, h2⟩
    exact h2
  · intro h2
    refine ⟨fun p hp => ?_, h2⟩
    have := h p hp
    unfold wsB at this
    simp only [Bool.and_eq_true] at this
    have h3 := this.2.2.2
    rw [show p.wants.length = (p.wants.map (·.hold)).length by simp, dif_pair, List.pairwise_map] at h3
    exact h3

end Go.Proofs.YtebcocejgenadaaGreat
