/-
  PilotValid: the program's checks and the specification's say the same.
-/
import Derived.Test.YtggbhggnemlpnaaGreatJ27
import Derived.Test.YtggbhggnemlpnaaGreatJ41
namespace Go.Proofs.YtggbhggnemlpnaaGreat
open Go.RowKit

theorem ascTo_iff {ns : List ByteArray} : ∀ n, ascTo ns n = true ↔ ∀ k, k < n → ascAt ns k = true
  | 0 => by simp [ascTo]
  | n + 1 => by
    simp only [ascTo, Bool.and_eq_true, ascTo_iff n]
    constructor
    · rintro ⟨h1, h2⟩ k hk
      by_cases e : k = n
      · subst e; exact h2
      · exact h1 k (by omega)
    · intro h
      exact ⟨fun k hk => h k (by omega), h n (by omega)⟩

theorem allTo_iff {f : Nat → Bool} : ∀ n, allTo f n = true ↔ ∀ k, k < n → f k = true
  | 0 => by simp [allTo]
  | n + 1 => by
    simp only [allTo, Bool.and_eq_true, allTo_iff n]
    constructor
    · rintro ⟨h1, h2⟩ k hk
      by_cases e : k = n
      · subst e; exact h2
      · exact h1 k (by omega)
    · intro h
      exact ⟨fun k hk => h k (by omega), h n (by omega)⟩

theorem ascAt_iff {ns : List ByteArray} {k : Nat} {s : ByteArray} (hk : ns[k]? = some s) : ascAt ns k = true ↔ P.nameOk s = true ∧ ltAt ns k = true := by
  cases k with
  | zero => simp only [ascAt, hk, ltAt, and_true]
  | succ j =>
    have hlt : j + 1 < ns.length := (List.getElem?_eq_some_iff.mp hk).1
    have ht : ns[j]? = some ns[j] := List.getElem?_eq_getElem (by omega)
    simp only [ascAt, hk, ht, ltAt, Bool.and_eq_true]

theorem asc_iff {α : Type} (f : α → ByteArray) (xs : List α) : ascTo (xs.map f) xs.length = true ↔ ∀ (k : Nat) (y : α), xs[k]? = some y → P.nameOk (f y) = true ∧ ltAt (xs.map f) k = true := by
  rw [ascTo_iff]
  constructor
  · intro h k y hy
    exact (ascAt_iff (by rw [List.getElem?_map, hy]; rfl)).1 (h k (List.getElem?_eq_some_iff.mp hy).1)
  · intro h k hk
    have hy : xs[k]? = some xs[k] := List.getElem?_eq_getElem hk
    exact (ascAt_iff (by rw [List.getElem?_map, hy]; rfl)).2 (h k _ hy)

theorem all_iff {α : Type} (f : α → Bool) (xs : List α) : xs.all f = true ↔ ∀ (k : Nat) (y : α), xs[k]? = some y → f y = true := by
  rw [List.all_eq_true]
  constructor
  · intro h k y hy
    exact h y (List.mem_of_getElem? hy)
  · intro h y hy
    obtain ⟨j, hj, e⟩ := List.mem_iff_getElem.mp hy
    exact h j y (by rw [List.getElem?_eq_getElem hj, e])

theorem inB_inR (n a b : Int) : inB n a b = inR n a b := by
  unfold inB inR
  rw [Bool.eq_iff_iff]
  simp

theorem sLike_eq : sLike = likeOk := by
  funext l
  unfold sLike likeOk
  rw [inB_inR]

theorem sCopy_iff (y : Cpy) : sCopy y = true ↔ P.nameOk y.name = true ∧ P.nameOk y.service = true ∧ copyOk y = true := by
  unfold sCopy sCopy3 copyOk likesOk
  simp only [inB_inR, sLike_eq, Bool.and_eq_true]
  constructor
  · rintro ⟨h1, h2, h3, h4, h5, h6, ⟨h7, h8, h9, h10, h11⟩, h12⟩
    exact ⟨h1, h2, ⟨⟨⟨⟨⟨⟨⟨h3, h4⟩, h5⟩, h6⟩, h7⟩, h8, h12⟩, h9⟩, h10⟩, h11⟩
  · rintro ⟨h1, h2, ⟨⟨⟨⟨⟨⟨⟨h3, h4⟩, h5⟩, h6⟩, h7⟩, h8, h12⟩, h9⟩, h10⟩, h11⟩
    exact ⟨h1, h2, h3, h4, h5, h6, ⟨h7, h8, h9, h10, h11⟩, h12⟩

theorem sBerth_iff (y : Brt) : sBerth y = true ↔ P.nameOk y.name = true ∧ berthAt y = true := by
  unfold sBerth berthAt
  simp only [inB_inR, ← mk_eq_sm, Bool.and_eq_true]
  constructor
  · rintro ⟨h1, h2, h3, h4, h5⟩
    exact ⟨h1, ⟨⟨h2, h4⟩, h5⟩, h3⟩
  · rintro ⟨h1, ⟨⟨h2, h4⟩, h5⟩, h3⟩
    exact ⟨h1, h2, h3, h4, h5⟩

theorem idxV_lt (bs : List Svc) (s : ByteArray) : idxV bs s < 0 ↔ lastOf (bs.map (·.name)) s bs.length = none := by
  rw [lastOf_none]
  unfold idxV
  cases h : bs.findIdx? (fun b => decide (b.name = s)) with
  | none =>
    rw [List.findIdx?_eq_none_iff] at h
    constructor
    · intro _ j hj e
      rw [List.getElem?_map, List.getElem?_eq_getElem hj] at e
      simp at e
      have := h bs[j] (List.getElem_mem hj)
      simp at this
      exact this e
    · intro _; decide
  | some k =>
    rw [List.findIdx?_eq_some_iff_getElem] at h
    obtain ⟨hk, h1, _⟩ := h
    constructor
    · intro e
      simp at e
      omega
    · intro e
      refine absurd ?_ (e k hk)
      rw [List.getElem?_map, List.getElem?_eq_getElem hk]
      simpa using h1

theorem some_not {α : Type} {o : Option α} : o.isSome = true ↔ ¬ o = none := by cases o <;> simp

/-- who is found has a name -/
theorem last_name {bs : List ByteArray} {s : ByteArray} {n : Nat} (h : ¬ lastOf bs s n = none) : ∃ j, j < n ∧ bs[j]? = some s := by
  rw [lastOf_none] at h
  exact Classical.byContradiction fun hc => h fun j hj e => hc ⟨j, hj, e⟩

theorem use_std (cs : List Cpy) (s : ByteArray) : ∀ k, k ≤ 1048576 → (useTo cs s (-1) k).1 = (stdTo cs s k : Nat)
  | 0, _ => rfl
  | k + 1, hk => by
    have ih := use_std cs s k (by omega)
    have hle := stdTo_le cs s k
    unfold useTo stdTo
    cases h : cs[k]? with
    | none => exact ih
    | some c =>
      by_cases e : c.at_ = s
      · simp only [e, if_true, true_and]
        rw [if_pos (by omega), ih]
        show wrap64 _ = _
        rw [show wrap64 (((stdTo cs s k : Nat) : Int) + 1) = ((stdTo cs s k : Nat) : Int) + 1 from by unfold wrap64; omega]
        omega
      · simp only [e, if_false, false_and]
        exact ih

theorem size_zero {s : ByteArray} : s.size = 0 ↔ s = ⟨#[]⟩ :=
  ⟨fun e => ByteArray.ext (Array.eq_empty_of_size_eq_zero e), fun e => by subst e; rfl⟩

theorem name_ne {s : ByteArray} (h : P.nameOk s = true) : ¬ s = ⟨#[]⟩ := by
  intro e
  subst e
  revert h
  decide

theorem idxB_in {bs : List Brt} {k : Nat} {y : Brt} (h : bs[k]? = some y) : ¬ idxB bs y.name < 0 := by
  rw [idxB_lt, lastOf_none]
  intro hc
  exact hc k (List.getElem?_eq_some_iff.mp h).1 (by rw [List.getElem?_map, h]; rfl)

theorem used_in {x : Flt} {k : Nat} {y : Brt} (h : x.berths[k]? = some y) (hn : P.nameOk y.name = true) : usedR x y.name = (useTo x.copies y.name (-1) x.copies.length).2 := by
  unfold usedR sumTo
  rw [if_neg (idxB_in h), if_neg (name_ne hn)]

theorem valid_eq (x : Flt) (l3 : x.copies.length ≤ 1048576) : validI x = validS x := by
  unfold validI validS
  congr 1
  rw [Bool.eq_iff_iff]
  simp only [Bool.and_eq_true, ordOk, asc_iff, berthsOk, svcsOk, copiesOk, standOk, all_iff, allTo_iff]
  constructor
  · rintro ⟨⟨⟨ob, os⟩, oc⟩, hb, hs, hc, hst⟩
    refine ⟨fun k hk => ?_, fun k hk => ?_, fun k hk => ?_⟩
    · have hy : x.services[k]? = some x.services[k] := List.getElem?_eq_getElem hk
      simp only [sSvcAt, hy, Bool.and_eq_true, inB_inR]
      exact ⟨(os k _ hy).1, (os k _ hy).2, hs k _ hy⟩
    · have hy : x.copies[k]? = some x.copies[k] := List.getElem?_eq_getElem hk
      have h1 := hc k _ hy
      simp only [copyAt, Bool.and_eq_true, Bool.or_eq_true, decide_eq_true_eq, some_not] at h1
      obtain ⟨⟨h2, h3⟩, h4⟩ := h1
      simp only [sCpyAt, hy, Bool.and_eq_true, Bool.or_eq_true, decide_eq_true_eq, Bool.not_eq_true', decide_eq_false_iff_not, sCopy_iff]
      obtain ⟨j, hj, e⟩ := last_name h2
      have hjs : x.services[j]? = some x.services[j] := List.getElem?_eq_getElem hj
      have hsn : x.services[j].name = x.copies[k].service := by
        rw [List.getElem?_map, hjs] at e
        simpa using e
      refine ⟨⟨(oc k _ hy).1, by rw [← hsn]; exact (os j _ hjs).1, h4⟩, (oc k _ hy).2, by rw [idxV_lt]; exact h2, ?_⟩
      rcases h3 with h3 | h3
      · exact Or.inr (by rw [idxB_lt]; exact h3)
      · exact Or.inl (size_zero.1 h3)
    · have hy : x.berths[k]? = some x.berths[k] := List.getElem?_eq_getElem hk
      have h1 := hst k _ hy
      simp only [standAt, Bool.and_eq_true, decide_eq_true_eq] at h1
      obtain ⟨⟨h2, h3⟩, h4⟩ := h1
      simp only [sBrtAt, hy, Bool.and_eq_true, Bool.not_eq_true', decide_eq_false_iff_not, sBerth_iff]
      rw [used_in hy (ob k _ hy).1]
      rw [use_std _ _ _ l3] at h2
      exact ⟨⟨(ob k _ hy).1, hb k _ hy⟩, (ob k _ hy).2, by omega, by omega, by omega⟩
  · rintro ⟨hs, hc, hb⟩
    have hs' : ∀ (k : Nat) (y : Svc), x.services[k]? = some y → P.nameOk y.name = true ∧ ltAt (x.services.map (·.name)) k = true ∧ inR y.spare 0 60 = true := by
      intro k y hy
      have := hs k (List.getElem?_eq_some_iff.mp hy).1
      simpa only [sSvcAt, hy, Bool.and_eq_true, inB_inR] using this
    have hc' : ∀ (k : Nat) (y : Cpy), x.copies[k]? = some y → (P.nameOk y.name = true ∧ P.nameOk y.service = true ∧ copyOk y = true) ∧ ltAt (x.copies.map (·.name)) k = true ∧ ¬ idxV x.services y.service < 0 ∧ (y.at_ = ⟨#[]⟩ ∨ ¬ idxB x.berths y.at_ < 0) := by
      intro k y hy
      have := hc k (List.getElem?_eq_some_iff.mp hy).1
      simpa only [sCpyAt, hy, Bool.and_eq_true, Bool.or_eq_true, decide_eq_true_eq, Bool.not_eq_true', decide_eq_false_iff_not, sCopy_iff] using this
    have hb' : ∀ (k : Nat) (y : Brt), x.berths[k]? = some y → (P.nameOk y.name = true ∧ berthAt y = true) ∧ ltAt (x.berths.map (·.name)) k = true ∧ ¬ y.room < (usedR x y.name).1 ∧ ¬ y.hold < (usedR x y.name).2 ∧ ¬ 10 < stdTo x.copies y.name x.copies.length := by
      intro k y hy
      have := hb k (List.getElem?_eq_some_iff.mp hy).1
      simpa only [sBrtAt, hy, Bool.and_eq_true, Bool.not_eq_true', decide_eq_false_iff_not, sBerth_iff] using this
    refine ⟨⟨⟨fun k y hy => ⟨(hb' k y hy).1.1, (hb' k y hy).2.1⟩, fun k y hy => ⟨(hs' k y hy).1, (hs' k y hy).2.1⟩⟩, fun k y hy => ⟨(hc' k y hy).1.1, (hc' k y hy).2.1⟩⟩, fun k y hy => (hb' k y hy).1.2, fun k y hy => (hs' k y hy).2.2, fun k y hy => ?_, fun k y hy => ?_⟩
    · obtain ⟨⟨_, _, h4⟩, _, h2, h3⟩ := hc' k y hy
      simp only [copyAt, Bool.and_eq_true, Bool.or_eq_true, decide_eq_true_eq, some_not]
      rw [idxV_lt] at h2
      refine ⟨⟨h2, ?_⟩, h4⟩
      rcases h3 with h3 | h3
      · exact Or.inr (size_zero.2 h3)
      · exact Or.inl (by rw [idxB_lt] at h3; exact h3)
    · obtain ⟨⟨hn, _⟩, _, h1, h2, h3⟩ := hb' k y hy
      rw [used_in hy hn] at h1 h2
      simp only [standAt, Bool.and_eq_true, decide_eq_true_eq]
      rw [use_std _ _ _ l3]
      exact ⟨⟨by omega, by omega⟩, by omega⟩

end Go.Proofs.YtggbhggnemlpnaaGreat
