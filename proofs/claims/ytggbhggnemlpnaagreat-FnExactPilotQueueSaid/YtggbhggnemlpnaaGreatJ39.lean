/-
  Several texts in one: Eqv, Mgp.
-/
import Derived.Test.YtggbhggnemlpnaaGreatJ26
import Derived.Test.YtggbhggnemlpnaaGreatJ38
import Derived.Test.YtggbhggnemlpnaaGreatJ8
namespace Go.Proofs.YtggbhggnemlpnaaGreat
open Go.RowKit

theorem ascTo_iff {ns : List ByteArray} : ∀ n, ascTo ns n = true ↔ ∀ k, k < n → ascAt ns k = true
  | 0 => by simp [ascTo]
  | n + 1 => by
    simp only [ascTo, Bool.and_eq_true, ascTo_iff n]
    constructor
    · rintro ⟨h1, h2⟩ k hk
      by_cases e : k = n
      · subst e; exact h2
      · exact h1 k (by omega)
    · intro h
      exact ⟨fun k hk => h k (by omega), h n (by omega)⟩

theorem allTo_iff {f : Nat → Bool} : ∀ n, allTo f n = true ↔ ∀ k, k < n → f k = true
  | 0 => by simp [allTo]
  | n + 1 => by
    simp only [allTo, Bool.and_eq_true, allTo_iff n]
    constructor
    · rintro ⟨h1, h2⟩ k hk
      by_cases e : k = n
      · subst e; exact h2
      · exact h1 k (by omega)
    · intro h
      exact ⟨fun k hk => h k (by omega), h n (by omega)⟩

theorem ascAt_iff {ns : List ByteArray} {k : Nat} {s : ByteArray} (hk : ns[k]? = some s) : ascAt ns k = true ↔ P.nameOk s = true ∧ ltAt ns k = true := by
  cases k with
  | zero => simp only [ascAt, hk, ltAt, and_true]
  | succ j =>
    have hlt : j + 1 < ns.length := (List.getElem?_eq_some_iff.mp hk).1
    have ht : ns[j]? = some ns[j] := List.getElem?_eq_getElem (by omega)
    simp only [ascAt, hk, ht, ltAt, Bool.and_eq_true]

theorem asc_iff {α : Type} (f : α → ByteArray) (xs : List α) : ascTo (xs.map f) xs.length = true ↔ ∀ (k : Nat) (y : α), xs[k]? = some y → P.nameOk (f y) = true ∧ ltAt (xs.map f) k = true := by
  rw [ascTo_iff]
  constructor
  · intro h k y hy
    exact (ascAt_iff (by rw [List.getElem?_map, hy]; rfl)).1 (h k (List.getElem?_eq_some_iff.mp hy).1)
  · intro h k hk
    have hy : xs[k]? = some xs[k] := List.getElem?_eq_getElem hk
    exact (ascAt_iff (by rw [List.getElem?_map, hy]; rfl)).2 (h k _ hy)

theorem all_iff {α : Type} (f : α → Bool) (xs : List α) : xs.all f = true ↔ ∀ (k : Nat) (y : α), xs[k]? = some y → f y = true := by
  rw [List.all_eq_true]
  constructor
  · intro h k y hy
    exact h y (List.mem_of_getElem? hy)
  · intro h y hy
    obtain ⟨j, hj, e⟩ := List.mem_iff_getElem.mp hy
    exact h j y (by rw [List.getElem?_eq_getElem hj, e])

theorem inB_inR (n a b : Int) : inB n a b = inR n a b := by
  unfold inB inR
  rw [Bool.eq_iff_iff]
  simp

theorem sLike_eq : sLike = likeOk := by
  funext l
  unfold sLike likeOk
  rw [inB_inR]

theorem sCopy_iff (y : Cpy) : sCopy y = true ↔ P.nameOk y.name = true ∧ P.nameOk y.service = true ∧ copyOk y = true := by
  unfold sCopy sCopy3 copyOk likesOk
  simp only [inB_inR, sLike_eq, Bool.and_eq_true]
  constructor
  · rintro ⟨h1, h2, h3, h4, h5, h6, ⟨h7, h8, h9, h10, h11⟩, h12⟩
    exact ⟨h1, h2, ⟨⟨⟨⟨⟨⟨⟨h3, h4⟩, h5⟩, h6⟩, h7⟩, h8, h12⟩, h9⟩, h10⟩, h11⟩
  · rintro ⟨h1, h2, ⟨⟨⟨⟨⟨⟨⟨h3, h4⟩, h5⟩, h6⟩, h7⟩, h8, h12⟩, h9⟩, h10⟩, h11⟩
    exact ⟨h1, h2, h3, h4, h5, h6, ⟨h7, h8, h9, h10, h11⟩, h12⟩

theorem sBerth_iff (y : Brt) : sBerth y = true ↔ P.nameOk y.name = true ∧ berthAt y = true := by
  unfold sBerth berthAt
  simp only [inB_inR, ← mk_eq_sm, Bool.and_eq_true]
  constructor
  · rintro ⟨h1, h2, h3, h4, h5⟩
    exact ⟨h1, ⟨⟨h2, h4⟩, h5⟩, h3⟩
  · rintro ⟨h1, ⟨⟨h2, h4⟩, h5⟩, h3⟩
    exact ⟨h1, h2, h3, h4, h5⟩

theorem idxV_lt (bs : List Svc) (s : ByteArray) : idxV bs s < 0 ↔ lastOf (bs.map (·.name)) s bs.length = none := by
  rw [lastOf_none]
  unfold idxV
  cases h : bs.findIdx? (fun b => decide (b.name = s)) with
  | none =>
    rw [List.findIdx?_eq_none_iff] at h
    constructor
    · intro _ j hj e
      rw [List.getElem?_map, List.getElem?_eq_getElem hj] at e
      simp at e
      have := h bs[j] (List.getElem_mem hj)
      simp at this
      exact this e
    · intro _; decide
  | some k =>
    rw [List.findIdx?_eq_some_iff_getElem] at h
    obtain ⟨hk, h1, _⟩ := h
    constructor
    · intro e
      simp at e
      omega
    · intro e
      refine absurd ?_ (e k hk)
      rw [List.getElem?_map, List.getElem?_eq_getElem hk]
      simpa using h1

theorem some_not {α : Type} {o : Option α} : o.isSome = true ↔ ¬ o = none := by cases o <;> simp

/-- who is found has a name -/
theorem last_name {bs : List ByteArray} {s : ByteArray} {n : Nat} (h : ¬ lastOf bs s n = none) : ∃ j, j < n ∧ bs[j]? = some s := by
  rw [lastOf_none] at h
  exact Classical.byContradiction fun hc => h fun j hj e => hc ⟨j, hj, e⟩

theorem use_std (cs : List Cpy) (s : ByteArray) : ∀ k, k ≤ 1048576 → (useTo cs s (-1) k).1 = (stdTo cs s k : Nat)
  | 0, _ => rfl
  | k + 1, hk => by
    have ih := use_std cs s k (by omega)
    have hle := stdTo_le cs s k
    unfold useTo stdTo
    cases h : cs[k]? with
    | none => exact ih
    | some c =>
      by_cases e : c.at_ = s
      · simp only [e, if_true, true_and]
        rw [if_pos (by omega), ih]
        show wrap64 _ = _
        rw [show wrap64 (((stdTo cs s k : Nat) : Int) + 1) = ((stdTo cs s k : Nat) : Int) + 1 from by unfold wrap64; omega]
        omega
      · simp only [e, if_false, false_and]
        exact ih

theorem size_zero {s : ByteArray} : s.size = 0 ↔ s = ⟨#[]⟩ :=
  ⟨fun e => ByteArray.ext (Array.eq_empty_of_size_eq_zero e), fun e => by subst e; rfl⟩

theorem name_ne {s : ByteArray} (h : P.nameOk s = true) : ¬ s = ⟨#[]⟩ := by
  intro e
  subst e
  revert h
  decide

theorem idxB_in {bs : List Brt} {k : Nat} {y : Brt} (h : bs[k]? = some y) : ¬ idxB bs y.name < 0 := by
  rw [idxB_lt, lastOf_none]
  intro hc
  exact hc k (List.getElem?_eq_some_iff.mp h).1 (by rw [List.getElem?_map, h]; rfl)

theorem used_in {x : Flt} {k : Nat} {y : Brt} (h : x.berths[k]? = some y) (hn : P.nameOk y.name = true) : usedR x y.name = (useTo x.copies y.name (-1) x.copies.length).2 := by
  unfold usedR sumTo
  rw [if_neg (idxB_in h), if_neg (name_ne hn)]

theorem valid_eq (x : Flt) (l3 : x.copies.length ≤ 1048576) : validI x = validS x := by
  unfold validI validS
  congr 1
  rw [Bool.eq_iff_iff]
  simp only [Bool.and_eq_true, ordOk, asc_iff, berthsOk, svcsOk, copiesOk, standOk, all_iff, allTo_iff]
  constructor
  · rintro ⟨⟨⟨ob, os⟩, oc⟩, hb, hs, hc, hst⟩
    refine ⟨fun k hk => ?_, fun k hk => ?_, fun k hk => ?_⟩
    · have hy : x.services[k]? = some x.services[k] := List.getElem?_eq_getElem hk
      simp only [sSvcAt, hy, Bool.and_eq_true, inB_inR]
      exact ⟨(os k _ hy).1, (os k _ hy).2, hs k _ hy⟩
    · have hy : x.copies[k]? = some x.copies[k] := List.getElem?_eq_getElem hk
      have h1 := hc k _ hy
      simp only [copyAt, Bool.and_eq_true, Bool.or_eq_true, decide_eq_true_eq, some_not] at h1
      obtain ⟨⟨h2, h3⟩, h4⟩ := h1
      simp only [sCpyAt, hy, Bool.and_eq_true, Bool.or_eq_true, decide_eq_true_eq, Bool.not_eq_true', decide_eq_false_iff_not, sCopy_iff]
      obtain ⟨j, hj, e⟩ := last_name h2
      have hjs : x.services[j]? = some x.services[j] := List.getElem?_eq_getElem hj
      have hsn : x.services[j].name = x.copies[k].service := by
        rw [List.getElem?_map, hjs] at e
        simpa using e
      refine ⟨⟨(oc k _ hy).1, by rw [← hsn]; exact (os j _ hjs).1, h4⟩, (oc k _ hy).2, by rw [idxV_lt]; exact h2, ?_⟩
      rcases h3 with h3 | h3
      · exact Or.inr (by rw [idxB_lt]; exact h3)
      · exact Or.inl (size_zero.1 h3)
    · have hy : x.berths[k]? = some x.berths[k] := List.getElem?_eq_getElem hk
      have h1 := hst k _ hy
      simp only [standAt, Bool.and_eq_true, decide_eq_true_eq] at h1
      obtain ⟨⟨h2, h3⟩, h4⟩ := h1
      simp only [sBrtAt, hy, Bool.and_eq_true, Bool.not_eq_true', decide_eq_false_iff_not, sBerth_iff]
      rw [used_in hy (ob k _ hy).1]
      rw [use_std _ _ _ l3] at h2
      exact ⟨⟨(ob k _ hy).1, hb k _ hy⟩, (ob k _ hy).2, by omega, by omega, by omega⟩
  · rintro ⟨hs, hc, hb⟩
    have hs' : ∀ (k : Nat) (y : Svc), x.services[k]? = some y → P.nameOk y.name = true ∧ ltAt (x.services.map (·.name)) k = true ∧ inR y.spare 0 60 = true := by
      intro k y hy
      have := hs k (List.getElem?_eq_some_iff.mp hy).1
      simpa only [sSvcAt, hy, Bool.and_eq_true, inB_inR] using this
    have hc' : ∀ (k : Nat) (y : Cpy), x.copies[k]? = some y → (P.nameOk y.name = true ∧ P.nameOk y.service = true ∧ copyOk y = true) ∧ ltAt (x.copies.map (·.name)) k = true ∧ ¬ idxV x.services y.service < 0 ∧ (y.at_ = ⟨#[]⟩ ∨ ¬ idxB x.berths y.at_ < 0) := by
      intro k y hy
      have := hc k (List.getElem?_eq_some_iff.mp hy).1
      simpa only [sCpyAt, hy, Bool.and_eq_true, Bool.or_eq_true, decide_eq_true_eq, Bool.not_eq_true', decide_eq_false_iff_not, sCopy_iff] using this
    have hb' : ∀ (k : Nat) (y : Brt), x.berths[k]? = some y → (P.nameOk y.name = true ∧ berthAt y = true) ∧ ltAt (x.berths.map (·.name)) k = true ∧ ¬ y.room < (usedR x y.name).1 ∧ ¬ y.hold < (usedR x y.name).2 ∧ ¬ 10 < stdTo x.copies y.name x.copies.length := by
      intro k y hy
      have := hb k (List.getElem?_eq_some_iff.mp hy).1
      simpa only [sBrtAt, hy, Bool.and_eq_true, Bool.not_eq_true', decide_eq_false_iff_not, sBerth_iff] using this
    refine ⟨⟨⟨fun k y hy => ⟨(hb' k y hy).1.1, (hb' k y hy).2.1⟩, fun k y hy => ⟨(hs' k y hy).1, (hs' k y hy).2.1⟩⟩, fun k y hy => ⟨(hc' k y hy).1.1, (hc' k y hy).2.1⟩⟩, fun k y hy => (hb' k y hy).1.2, fun k y hy => (hs' k y hy).2.2, fun k y hy => ?_, fun k y hy => ?_⟩
    · obtain ⟨⟨_, _, h4⟩, _, h2, h3⟩ := hc' k y hy
      simp only [copyAt, Bool.and_eq_true, Bool.or_eq_true, decide_eq_true_eq, some_not]
      rw [idxV_lt] at h2
      refine ⟨⟨h2, ?_⟩, h4⟩
      rcases h3 with h3 | h3
      · exact Or.inr (size_zero.2 h3)
      · exact Or.inl (by rw [idxB_lt] at h3; exact h3)
    · obtain ⟨⟨hn, _⟩, _, h1, h2, h3⟩ := hb' k y hy
      rw [used_in hy hn] at h1 h2
      simp only [standAt, Bool.and_eq_true, decide_eq_true_eq]
      rw [use_std _ _ _ l3]
      exact ⟨⟨by omega, by omega⟩, by omega⟩

end Go.Proofs.YtggbhggnemlpnaaGreat

namespace Go.Proofs.YtggbhggnemlpnaaGreat
open Go.RowKit

theorem bl_irr : ∀ x, Op.bytesLess x x = false
  | [] => rfl
  | a :: x => by simp [Op.bytesLess, bl_irr x]

theorem bl_tr : ∀ x y z, Op.bytesLess x y = true → Op.bytesLess y z = true → Op.bytesLess x z = true
  | _, _, [], _, h => by simp [Op.bytesLess] at h
  | [], _, _ :: _, _, _ => rfl
  | a :: x, [], c :: z, h, _ => by simp [Op.bytesLess] at h
  | a :: x, b :: y, c :: z, h1, h2 => by
    simp only [Op.bytesLess, Bool.or_eq_true, Bool.and_eq_true, decide_eq_true_eq, beq_iff_eq] at h1 h2 ⊢
    rcases h1 with h1 | ⟨rfl, h1⟩
    · rcases h2 with h2 | ⟨rfl, h2⟩
      · exact Or.inl (UInt8.lt_trans h1 h2)
      · exact Or.inl h1
    · rcases h2 with h2 | ⟨rfl, h2⟩
      · exact Or.inl h2
      · exact Or.inr ⟨rfl, bl_tr x y z h1 h2⟩

/-- names that ascend -/
def AscN (ns : List ByteArray) : Prop := ∀ k s t, ns[k]? = some s → ns[k + 1]? = some t → Op.bytesLess s.toList t.toList = true

theorem asc_of {α : Type} (f : α → ByteArray) (xs : List α) (h : ascTo (xs.map f) xs.length = true) : AscN (xs.map f) := by
  intro k s t hs ht
  have hlt := lt_of_some ht
  rw [List.length_map] at hlt
  have h1 := ((asc_iff f xs).1 h (k + 1) _ (List.getElem?_eq_getElem hlt)).2
  simp only [ltAt, hs, ht] at h1
  exact h1

theorem AscN.lt {ns : List ByteArray} (h : AscN ns) : ∀ d i s t, ns[i]? = some s → ns[i + d + 1]? = some t → Op.bytesLess s.toList t.toList = true
  | 0, i, s, t, hs, ht => h i s t hs ht
  | d + 1, i, s, t, hs, ht => by
    have hlt := lt_of_some ht
    have hu : ns[i + d + 1]? = some ns[i + d + 1] := List.getElem?_eq_getElem (by omega)
    exact bl_tr _ _ _ (AscN.lt h d i s _ hs hu) (h (i + d + 1) _ t hu ht)

theorem AscN.less {ns : List ByteArray} (h : AscN ns) {i j : Nat} {s t : ByteArray} (hi : ns[i]? = some s) (hj : ns[j]? = some t) (hl : i < j) : Op.bytesLess s.toList t.toList = true :=
  h.lt (j - i - 1) i s t hi (by rw [show i + (j - i - 1) + 1 = j by omega]; exact hj)

theorem AscN.inj {ns : List ByteArray} (h : AscN ns) {i j : Nat} {s : ByteArray} (hi : ns[i]? = some s) (hj : ns[j]? = some s) : i = j := by
  rcases Nat.lt_trichotomy i j with hl | hl | hl
  · have := h.less hi hj hl
    rw [bl_irr] at this
    cases this
  · exact hl
  · have := h.less hj hi hl
    rw [bl_irr] at this
    cases this

theorem AscN.less_iff {ns : List ByteArray} (h : AscN ns) {i j : Nat} {s t : ByteArray} (hi : ns[i]? = some s) (hj : ns[j]? = some t) : i < j ↔ Op.bytesLess s.toList t.toList = true := by
  constructor
  · exact h.less hi hj
  · intro hb
    rcases Nat.lt_trichotomy i j with hl | hl | hl
    · exact hl
    · subst hl
      rw [hi] at hj
      cases hj
      rw [bl_irr] at hb
      cases hb
    · have := bl_tr _ _ _ hb (h.less hj hi hl)
      rw [bl_irr] at this
      cases this

theorem AscN.last {ns : List ByteArray} (h : AscN ns) {s : ByteArray} {n k : Nat} (hk : ns[k]? = some s) (hn : k < n) : lastOf ns s n = some k := by
  cases e : lastOf ns s n with
  | none => exact absurd hk ((lastOf_none ns s n).1 e k hn)
  | some j => rw [h.inj (lastOf_get e).2 hk]

theorem idxC_some {cs : List Cpy} (h : AscN (cs.map (·.name))) {s : ByteArray} {k : Nat} (e : lastOf (cs.map (·.name)) s cs.length = some k) : idxC cs s = k ∧ ∃ c, cs[k]? = some c ∧ c.name = s := by
  obtain ⟨hk, hs⟩ := lastOf_get e
  obtain ⟨c, hc, hn⟩ := get_map hs
  refine ⟨idxC_at hc hn fun j b hj hb he => ?_, c, hc, hn⟩
  have := h.inj (map_get (f := (·.name)) hb) (show _ = some b.name by rw [he]; exact hs)
  omega

theorem idxC_no {cs : List Cpy} {s : ByteArray} (e : lastOf (cs.map (·.name)) s cs.length = none) : idxC cs s = -1 :=
  idxC_none fun j b hj hb he => (lastOf_none _ s _).1 e j hj (by rw [map_get hb, he])

theorem valid_parts {x : Flt} (h : validI x = true) : x.services.length ≤ 30 ∧ x.copies.length ≤ 60 ∧ AscN (svN x) ∧ AscN (cpN x) ∧ (∀ (k : Nat) (y : Svc), x.services[k]? = some y → 0 ≤ y.spare ∧ y.spare ≤ 60) ∧ ∀ (k : Nat) (c : Cpy), x.copies[k]? = some c → ∃ s, lastOf (svN x) c.service x.services.length = some s := by
  unfold validI at h
  simp only [Bool.and_eq_true, fewOk, ordOk, svcsOk, copiesOk, all_iff, decide_eq_true_eq] at h
  obtain ⟨⟨⟨_, h1⟩, h2⟩, ⟨⟨_, h3⟩, h4⟩, _, h5, h6, _⟩ := h
  refine ⟨h1, h2, asc_of _ _ h3, asc_of _ _ h4, fun k y hy => ?_, fun k c hc => ?_⟩
  · have := h5 k y hy
    simpa [inR] using this
  · have := h6 k c hc
    simp only [copyAt, Bool.and_eq_true] at this
    exact Option.isSome_iff_exists.1 this.1.1

theorem bool_eq_of {a b : Bool} {p : Prop} (ha : a = true ↔ p) (hb : b = true ↔ p) : a = b := by
  rw [Bool.eq_iff_iff, ha, hb]

theorem svc_iff {x : Flt} (hs : AscN (svN x)) {s : Nat} {y : Svc} (hy : x.services[s]? = some y) (n : ByteArray) : lastOf (svN x) n x.services.length = some s ↔ n = y.name := by
  constructor
  · intro e
    have := (lastOf_get e).2
    rw [map_get hy] at this
    cases this
    rfl
  · rintro rfl
    exact hs.last (map_get hy) (lt_of_some hy)

theorem wait_eq {x : Flt} (hs : AscN (svN x)) {s : Nat} {y : Svc} (hy : x.services[s]? = some y) (n : Nat) : cntTo (waitF x s) n = cntTo (waitS x y.name) n := by
  refine cntTo_congr n fun i _ => ?_
  unfold waitF waitS
  cases x.copies[i]? with
  | none => rfl
  | some c =>
    simp only [svc_iff hs hy]
    exact Bool.and_comm _ _

theorem go_eq {x : Flt} (hs : AscN (svN x)) (hc : AscN (cpN x)) {gone : List ByteArray} {pl : List Nat} (hp : PlOk (cpN x) gone gone.length pl) {s : Nat} {y : Svc} (hy : x.services[s]? = some y) : cntTo (goF x pl s) pl.length = cntTo (goS x gone y.name) gone.length := by
  rw [hp.1]
  refine cntTo_congr _ fun i hi => ?_
  obtain ⟨p, hpi, hl⟩ := hp.2 i _ hi (List.getElem?_eq_getElem hi)
  rw [List.length_map] at hl
  obtain ⟨hx, c, hcp, _⟩ := idxC_some hc hl
  unfold goF goS
  rw [hpi, List.getElem?_eq_getElem hi]
  simp only [hx, Int.toNat_natCast, hcp, svcAt, svc_iff hs hy]

theorem leave_iff {x : Flt} (hv : validI x = true) {gone : List ByteArray} {pl : List Nat} (hp : PlOk (cpN x) gone gone.length pl) : (LeaveA x pl pl.length ∧ LeaveC x pl) ↔ (MayA x gone gone.length ∧ MayC x gone x.services.length) := by
  obtain ⟨_, _, hs, hc, _, _⟩ := valid_parts hv
  have key : ∀ j g, j < gone.length → gone[j]? = some g → ∃ p c, pl[j]? = some p ∧ idxC x.copies g = p ∧ x.copies[p]? = some c ∧ c.name = g := by
    intro j g hj hg
    obtain ⟨p, h1, h2⟩ := hp.2 j g hj hg
    rw [List.length_map] at h2
    obtain ⟨h3, c, h4, h5⟩ := idxC_some hc h2
    exact ⟨p, c, h1, h3, h4, h5⟩
  have hA : LeaveA x pl pl.length ↔ MayA x gone gone.length := by
    unfold LeaveA MayA
    rw [hp.1]
    constructor
    · rintro ⟨h1, h2⟩
      refine ⟨fun j g hj hg => ?_, fun j s t hj hs' ht => ?_⟩
      · obtain ⟨p, c, e1, e2, e3, _⟩ := key j g hj hg
        refine ⟨by omega, ?_⟩
        rw [e2, Int.toNat_natCast]
        exact h1 j p hj e1
      · obtain ⟨p, c, e1, _, e3, e4⟩ := key j s (by omega) hs'
        obtain ⟨q, d, f1, _, f3, f4⟩ := key (j + 1) t hj ht
        have := (hc.less_iff (map_get (f := (·.name)) e3) (map_get (f := (·.name)) f3)).1 (h2 j p q hj e1 f1)
        rwa [e4, f4] at this
    · rintro ⟨h1, h2⟩
      refine ⟨fun j p hj hpj => ?_, fun j q p hj hq hpj => ?_⟩
      · obtain ⟨p', c, e1, e2, e3, _⟩ := key j _ hj (List.getElem?_eq_getElem hj)
        rw [hpj] at e1
        cases e1
        obtain ⟨_, h3⟩ := h1 j _ hj (List.getElem?_eq_getElem hj)
        rw [e2, Int.toNat_natCast] at h3
        exact h3
      · have hj0 : j < gone.length := by omega
        obtain ⟨p', c, e1, _, e3, e4⟩ := key j _ hj0 (List.getElem?_eq_getElem hj0)
        obtain ⟨q', d, f1, _, f3, f4⟩ := key (j + 1) _ hj (List.getElem?_eq_getElem hj)
        rw [hq] at e1
        rw [hpj] at f1
        cases e1
        cases f1
        refine (hc.less_iff (map_get (f := (·.name)) e3) (map_get (f := (·.name)) f3)).2 ?_
        rw [e4, f4]
        exact h2 j _ _ hj (List.getElem?_eq_getElem hj0) (List.getElem?_eq_getElem hj)
  have hC : LeaveC x pl ↔ MayC x gone x.services.length := by
    unfold LeaveC MayC spareI
    constructor
    · intro h s y hsl hy h0
      have h1 := h s hsl
      rw [go_eq hs hc hp hy, wait_eq hs hy] at h1
      simp only [spareOf, hy] at h1
      exact h1 h0
    · intro h s hsl h0
      have hy : x.services[s]? = some x.services[s] := List.getElem?_eq_getElem hsl
      rw [go_eq hs hc hp hy] at h0 ⊢
      rw [wait_eq hs hy]
      simp only [spareOf, hy]
      exact h s _ hsl hy h0
  rw [hA, hC]

theorem no_place {x : Flt} {gone : List ByteArray} {j : Nat} {g : ByteArray} (hg : gone[j]? = some g) (hl : lastOf (cpN x) g (cpN x).length = none) : ¬ MayA x gone gone.length := by
  intro h
  have := (h.1 j g (lt_of_some hg) hg).1
  rw [List.length_map] at hl
  rw [idxC_no hl] at this
  omega

end Go.Proofs.YtggbhggnemlpnaaGreat
