/-
 Several texts in one: Eqv, Idc, Ins, Mg1.
-/
import Derived.Test.YtmclbfkcbadnpaaGreatJ18
import Derived.Test.YtmclbfkcbadnpaaGreatJ28
import Derived.Test.YtmclbfkcbadnpaaGreatUsd
import Derived.Test.YtmclbfkcbadnpaaGreatShp
import Derived.Test.YtmclbfkcbadnpaaGreatPlc
namespace Go.Proofs.YtmclbfkcbadnpaaGreat
open Go.RowKit

theorem ascTo_iff {ns : List ByteArray} : ∀ n, ascTo ns n = true ↔ ∀ k, k < n → ascAt ns k = true
 | 0 => by simp [ascTo]
 | n + 1 => by
  simp only [ascTo, Bool.and_eq_true, ascTo_iff n]
  constructor
  ·rintro ⟨h1, h2⟩ k hk
   by_cases e : k = n
   ·subst e; exact h2
   ·exact h1 k (by omega)
  ·intro h
   exact ⟨fun k hk => h k (by omega), h n (by omega)⟩

theorem allTo_iff {f : Nat → Bool} : ∀ n, allTo f n = true ↔ ∀ k, k < n → f k = true
 | 0 => by simp [allTo]
 | n + 1 => by
  simp only [allTo, Bool.and_eq_true, allTo_iff n]
  constructor
  ·rintro ⟨h1, h2⟩ k hk
   by_cases e : k = n
   ·subst e; exact h2
   ·exact h1 k (by omega)
  ·intro h
   exact ⟨fun k hk => h k (by omega), h n (by omega)⟩

theorem ascAt_iff {ns : List ByteArray} {k : Nat} {s : ByteArray} (hk : ns[k]? = some s) : ascAt ns k = true ↔ P.nameOk s = true ∧ ltAt ns k = true := by
 cases k with
 | zero => simp only [ascAt, hk, ltAt, and_true]
 | succ j =>
  have hlt : j + 1 < ns.length := (List.getElem?_eq_some_iff.mp hk).1
  have ht : ns[j]? = some ns[j] := List.getElem?_eq_getElem (by omega)
  simp only [ascAt, hk, ht, ltAt, Bool.and_eq_true]

theorem asc_iff {α : Type} (f : α → ByteArray) (xs : List α) : ascTo (xs.map f) xs.length = true ↔ ∀ (k : Nat) (y : α), xs[k]? = some y → P.nameOk (f y) = true ∧ ltAt (xs.map f) k = true := by
 rw [ascTo_iff]
 constructor
 ·intro h k y hy
  exact (ascAt_iff (by rw [List.getElem?_map, hy]; rfl)).1 (h k (List.getElem?_eq_some_iff.mp hy).1)
 ·intro h k hk
  have hy : xs[k]? = some xs[k] := List.getElem?_eq_getElem hk
  exact (ascAt_iff (by rw [List.getElem?_map, hy]; rfl)).2 (h k _ hy)

theorem all_iff {α : Type} (f : α → Bool) (xs : List α) : xs.all f = true ↔ ∀ (k : Nat) (y : α), xs[k]? = some y → f y = true := by
 rw [List.all_eq_true]
 constructor
 ·intro h k y hy
  exact h y (List.mem_of_getElem? hy)
 ·intro h y hy
  obtain ⟨j, hj, e⟩ := List.mem_iff_getElem.mp hy
  exact h j y (by rw [List.getElem?_eq_getElem hj, e])

theorem inB_inR (n a b : Int) : inB n a b = inR n a b := by
 unfold inB inR
 rw [Bool.eq_iff_iff]
 simp

theorem sLike_eq : sLike = likeOk := by
 funext l
 unfold sLike likeOk
 rw [inB_inR]

theorem sCopy_iff (y : Cpy) : sCopy y = true ↔ P.nameOk y.name = true ∧ P.nameOk y.service = true ∧ copyOk y = true := by
 unfold sCopy sCopy3 copyOk likesOk
 simp only [inB_inR, sLike_eq, Bool.and_eq_true]
 constructor
 ·rintro ⟨h1, h2, h3, h4, h5, h6, ⟨h7, h8, h9, h10, h11⟩, h12⟩
  exact ⟨h1, h2, ⟨⟨⟨⟨⟨⟨⟨h3, h4⟩, h5⟩, h6⟩, h7⟩, h8, h12⟩, h9⟩, h10⟩, h11⟩
 ·rintro ⟨h1, h2, ⟨⟨⟨⟨⟨⟨⟨h3, h4⟩, h5⟩, h6⟩, h7⟩, h8, h12⟩, h9⟩, h10⟩, h11⟩
  exact ⟨h1, h2, h3, h4, h5, h6, ⟨h7, h8, h9, h10, h11⟩, h12⟩

theorem sBerth_iff (y : Brt) : sBerth y = true ↔ P.nameOk y.name = true ∧ berthAt y = true := by
 unfold sBerth berthAt
 simp only [inB_inR, ← mk_eq_sm, Bool.and_eq_true]
 constructor
 ·rintro ⟨h1, h2, h3, h4, h5⟩
  exact ⟨h1, ⟨⟨h2, h4⟩, h5⟩, h3⟩
 ·rintro ⟨h1, ⟨⟨h2, h4⟩, h5⟩, h3⟩
  exact ⟨h1, h2, h3, h4, h5⟩

theorem idxV_lt (bs : List Svc) (s : ByteArray) : idxV bs s < 0 ↔ lastOf (bs.map (·.name)) s bs.length = none := by
 rw [lastOf_none]
 unfold idxV
 cases h : bs.findIdx? (fun b => decide (b.name = s)) with
 | none =>
  rw [List.findIdx?_eq_none_iff] at h
  constructor
  ·intro _ j hj e
   rw [List.getElem?_map, List.getElem?_eq_getElem hj] at e
   simp at e
   have := h bs[j] (List.getElem_mem hj)
   simp at this
   exact this e
  ·intro _; decide
 | some k =>
  rw [List.findIdx?_eq_some_iff_getElem] at h
  obtain ⟨hk, h1, _⟩ := h
  constructor
  ·intro e
   simp at e
   omega
  ·intro e
   refine absurd ?_ (e k hk)
   rw [List.getElem?_map, List.getElem?_eq_getElem hk]
   simpa using h1

theorem some_not {α : Type} {o : Option α} : o.isSome = true ↔ ¬ o = none := by cases o <;> simp

/-- who is found has a name -/
theorem last_name {bs : List ByteArray} {s : ByteArray} {n : Nat} (h : ¬ lastOf bs s n = none) : ∃ j, j < n ∧ bs[j]? = some s := by
 rw [lastOf_none] at h
 exact Classical.byContradiction fun hc => h fun j hj e => hc ⟨j, hj, e⟩

theorem use_std (cs : List Cpy) (s : ByteArray) : ∀ k, k ≤ 1048576 → (useTo cs s (-1) k).1 = (stdTo cs s k : Nat)
 | 0, _ => rfl
 | k + 1, hk => by
  have ih := use_std cs s k (by omega)
  have hle := stdTo_le cs s k
  unfold useTo stdTo
  cases h : cs[k]? with
  | none => exact ih
  | some c =>
   by_cases e : c.at_ = s
   ·simp only [e, if_true, true_and]
    rw [if_pos (by omega), ih]
    show wrap64 _ = _
    rw [show wrap64 (((stdTo cs s k : Nat) : Int) + 1) = ((stdTo cs s k : Nat) : Int) + 1 from by unfold wrap64; omega]
    omega
   ·simp only [e, if_false, false_and]
    exact ih

theorem size_zero {s : ByteArray} : s.size = 0 ↔ s = ⟨#[]⟩ :=
 ⟨fun e => ByteArray.ext (Array.eq_empty_of_size_eq_zero e), fun e => by subst e; rfl⟩

theorem name_ne {s : ByteArray} (h : P.nameOk s = true) : ¬ s = ⟨#[]⟩ := by
 intro e
 subst e
 revert h
 decide

theorem idxB_in {bs : List Brt} {k : Nat} {y : Brt} (h : bs[k]? = some y) : ¬ idxB bs y.name < 0 := by
 rw [idxB_lt, lastOf_none]
 intro hc
 exact hc k (List.getElem?_eq_some_iff.mp h).1 (by rw [List.getElem?_map, h]; rfl)

theorem used_in {x : Flt} {k : Nat} {y : Brt} (h : x.berths[k]? = some y) (hn : P.nameOk y.name = true) : usedR x y.name = (useTo x.copies y.name (-1) x.copies.length).2 := by
 unfold usedR sumTo
 rw [if_neg (idxB_in h), if_neg (name_ne hn)]

theorem valid_eq (x : Flt) (l3 : x.copies.length ≤ 1048576) : validI x = validS x := by
 unfold validI validS
 congr 1
 rw [Bool.eq_iff_iff]
 simp only [Bool.and_eq_true, ordOk, asc_iff, berthsOk, svcsOk, copiesOk, standOk, all_iff, allTo_iff]
 constructor
 ·rintro ⟨⟨⟨ob, os⟩, oc⟩, hb, hs, hc, hst⟩
  refine ⟨fun k hk => ?_, fun k hk => ?_, fun k hk => ?_⟩
  ·have hy : x.services[k]? = some x.services[k] := List.getElem?_eq_getElem hk
   simp only [sSvcAt, hy, Bool.and_eq_true, inB_inR]
   exact ⟨(os k _ hy).1, (os k _ hy).2, hs k _ hy⟩
  ·have hy : x.copies[k]? = some x.copies[k] := List.getElem?_eq_getElem hk
   have h1 := hc k _ hy
   simp only [copyAt, Bool.and_eq_true, Bool.or_eq_true, decide_eq_true_eq, some_not] at h1
   obtain ⟨⟨h2, h3⟩, h4⟩ := h1
   simp only [sCpyAt, hy, Bool.and_eq_true, Bool.or_eq_true, decide_eq_true_eq, Bool.not_eq_true', decide_eq_false_iff_not, sCopy_iff]
   obtain ⟨j, hj, e⟩ := last_name h2
   have hjs : x.services[j]? = some x.services[j] := List.getElem?_eq_getElem hj
   have hsn : x.services[j].name = x.copies[k].service := by
    rw [List.getElem?_map, hjs] at e
    simpa using e
   refine ⟨⟨(oc k _ hy).1, by rw [← hsn]; exact (os j _ hjs).1, h4⟩, (oc k _ hy).2, by rw [idxV_lt]; exact h2, ?_⟩
   rcases h3 with h3 | h3
   ·exact Or.inr (by rw [idxB_lt]; exact h3)
   ·exact Or.inl (size_zero.1 h3)
  ·have hy : x.berths[k]? = some x.berths[k] := List.getElem?_eq_getElem hk
   have h1 := hst k _ hy
   simp only [standAt, Bool.and_eq_true, decide_eq_true_eq] at h1
   obtain ⟨⟨h2, h3⟩, h4⟩ := h1
   simp only [sBrtAt, hy, Bool.and_eq_true, Bool.not_eq_true', decide_eq_false_iff_not, sBerth_iff]
   rw [used_in hy (ob k _ hy).1]
   rw [use_std _ _ _ l3] at h2
   exact ⟨⟨(ob k _ hy).1, hb k _ hy⟩, (ob k _ hy).2, by omega, by omega, by omega⟩
 ·rintro ⟨hs, hc, hb⟩
  have hs' : ∀ (k : Nat) (y : Svc), x.services[k]? = some y → P.nameOk y.name = true ∧ ltAt (x.services.map (·.name)) k = true ∧ inR y.spare 0 60 = true := by
   intro k y hy
   have := hs k (List.getElem?_eq_some_iff.mp hy).1
   simpa only [sSvcAt, hy, Bool.and_eq_true, inB_inR] using this
  have hc' : ∀ (k : Nat) (y : Cpy), x.copies[k]? = some y → (P.nameOk y.name = true ∧ P.nameOk y.service = true ∧ copyOk y = true) ∧ ltAt (x.copies.map (·.name)) k = true ∧ ¬ idxV x.services y.service < 0 ∧ (y.at_ = ⟨#[]⟩ ∨ ¬ idxB x.berths y.at_ < 0) := by
   intro k y hy
   have := hc k (List.getElem?_eq_some_iff.mp hy).1
   simpa only [sCpyAt, hy, Bool.and_eq_true, Bool.or_eq_true, decide_eq_true_eq, Bool.not_eq_true', decide_eq_false_iff_not, sCopy_iff] using this
  have hb' : ∀ (k : Nat) (y : Brt), x.berths[k]? = some y → (P.nameOk y.name = true ∧ berthAt y = true) ∧ ltAt (x.berths.map (·.name)) k = true ∧ ¬ y.room < (usedR x y.name).1 ∧ ¬ y.hold < (usedR x y.name).2 ∧ ¬ 10 < stdTo x.copies y.name x.copies.length := by
   intro k y hy
   have := hb k (List.getElem?_eq_some_iff.mp hy).1
   simpa only [sBrtAt, hy, Bool.and_eq_true, Bool.not_eq_true', decide_eq_false_iff_not, sBerth_iff] using this
  refine ⟨⟨⟨fun k y hy => ⟨(hb' k y hy).1.1, (hb' k y hy).2.1⟩, fun k y hy => ⟨(hs' k y hy).1, (hs' k y hy).2.1⟩⟩, fun k y hy => ⟨(hc' k y hy).1.1, (hc' k y hy).2.1⟩⟩, fun k y hy => (hb' k y hy).1.2, fun k y hy => (hs' k y hy).2.2, fun k y hy => ?_, fun k y hy => ?_⟩
  ·obtain ⟨⟨_, _, h4⟩, _, h2, h3⟩ := hc' k y hy
   simp only [copyAt, Bool.and_eq_true, Bool.or_eq_true, decide_eq_true_eq, some_not]
   rw [idxV_lt] at h2
   refine ⟨⟨h2, ?_⟩, h4⟩
   rcases h3 with h3 | h3
   ·exact Or.inr (size_zero.2 h3)
   ·exact Or.inl (by rw [idxB_lt] at h3; exact h3)
  ·obtain ⟨⟨hn, _⟩, _, h1, h2, h3⟩ := hb' k y hy
   rw [used_in hy hn] at h1 h2
   simp only [standAt, Bool.and_eq_true, decide_eq_true_eq]
   rw [use_std _ _ _ l3]
   exact ⟨⟨by omega, by omega⟩, by omega⟩

end Go.Proofs.YtmclbfkcbadnpaaGreat

namespace Go.Proofs.YtmclbfkcbadnpaaGreat
open Go.RowKit

/-- the place of the first copy with a name -/
def idxC (bs : List Cpy) (s : ByteArray) : Int := match bs.findIdx? (fun b => decide (b.name = s)) with
 | some k => k
 | none => -1

theorem idxC_at {bs : List Cpy} {s : ByteArray} {k : Nat} {b : Cpy} (hk : bs[k]? = some b) (h : b.name = s) (ho : ∀ j b, j < k → bs[j]? = some b → b.name ≠ s) : idxC bs s = k := by
 have : bs.findIdx? (fun b => decide (b.name = s)) = some k := by
  rw [List.findIdx?_eq_some_iff_getElem]
  have hlt := lt_of_some hk
  rw [List.getElem?_eq_getElem hlt] at hk
  injection hk with hk
  refine ⟨hlt, by simp [hk, h], fun j hj => ?_⟩
  have := ho j bs[j] hj (List.getElem?_eq_getElem (by omega))
  simpa using this
 simp [idxC, this]

theorem idxC_none {bs : List Cpy} {s : ByteArray} (ho : ∀ j b, j < bs.length → bs[j]? = some b → b.name ≠ s) : idxC bs s = -1 := by
 have : bs.findIdx? (fun b => decide (b.name = s)) = none := by
  rw [List.findIdx?_eq_none_iff]
  intro b hb
  obtain ⟨j, hj⟩ := List.getElem?_of_mem hb
  simpa using ho j b (lt_of_some hj) hj
 simp [idxC, this]

set_option maxHeartbeats 1000000 in
set_option maxRecDepth 100000 in
theorem l2Copy_any (x : Flt) (a1 : Option Addr) (c1 : Nat) (a2 : Option Addr) (c2 : Nat) (a3 : Option Addr) (c3 : Nat) (lo : Nat) (s : ByteArray) (w : World) (n3 : SliceC CpyC 12 lo w a3 x.copies) (hl : x.copies.length ≤ 1048576) :
  Calls Tryz.prog 22 #[.agg #[.bool x.pack, .slice a1 x.berths.length c1, .slice a2 x.services.length c2, .slice a3 x.copies.length c3], .string s] w fun e w' => e = .returned (.int .i64 (idxC x.copies s)) ∧ Below w.heap.size w w' := by
 have HI : Hid (SliceC CpyC 12 lo w a3 x.copies) := n3
 clear n3
 generalize hbs : x.copies = bs at *
 clear hbs
 go_enter Tryz.func22, Tryz.ntmps22
 go_wp2_with fail
 go_loopw [5] (fun i wr => ∃ k : Nat, k ≤ bs.length ∧ i = .int .i64 k ∧ wr.cell? ⟨w.heap.size, 3, none⟩ = some (.slice a3 bs.length c3) ∧ Hid (∀ j b, j < k → bs[j]? = some b → b.name ≠ s) ∧ Below w.heap.size w wr) (fun i _ => bs.length - (intOf i).toNat)
 case atStart => exact ⟨0, Nat.zero_le _, rfl, by simp, fun j b h => by omega, by go_grown⟩
 case round =>
  obtain ⟨k, hk, rfl, hcell, ho, hbel⟩ := hrel
  by_cases hlt : k < bs.length
  ·obtain ⟨x, hx⟩ : ∃ x, bs[k]? = some x := ⟨bs[k], List.getElem?_eq_getElem hlt⟩
   obtain ⟨b, o, rfl, _, _, hc⟩ := (HI.out.below CpyC.holds hbel (Nat.le_refl _)).at hx
   obtain ⟨a9, c9, q0, q1, q2, q3, q4, q5, q6, q7, q8, q9, q10, q11, z0, z1, z2, z3, z4, z5, n9⟩ := hc
   simp only [Nat.add_zero] at q0
   have HX : Hid (bs[k]? = some x) := hx
   clear hx q1 q2 q3 q4 q5 q6 q7 q8 q9 q10 q11 z0 z1 z2 z3 z4 z5 n9
   by_cases h : x.name = s
   ·have HZ : Hid (idxC bs s = k) := idxC_at HX.out h ho.out
    have ht := bts_eq h
    clear h
    go_wp2_with fail
    go_ret
    exact ⟨ret_int HZ.out.symm, hbel⟩
   ·have ht := bts_ne h
    go_wp2_with fail
    go_roundw
    case rel =>
     refine ⟨k + 1, by omega, by go_num, hcell, ?_, hbel⟩
     intro j y hj hy
     by_cases e : j = k
     ·subst e
      rw [HX.out] at hy
      cases hy
      exact h
     ·exact ho.out j y (by omega) hy
    case measure => simp [intOf]; omega
  ·have hke : k = bs.length := by omega
   have HZ : Hid (idxC bs s = -1) := idxC_none (hke ▸ ho.out)
   go_wp2_with fail
   go_ret
   exact ⟨ret_int HZ.out.symm, hbel⟩

end Go.Proofs.YtmclbfkcbadnpaaGreat

namespace Go.Proofs.YtmclbfkcbadnpaaGreat
open Go.RowKit

/-- a number -/
def IntC : Make Int := fun _ _ f x => f 0 = some (.int .i64 x)

theorem IntC.holds : Holds IntC 1 := fun _ _ _ _ f g x h _ _ c => (h 0 (by omega)).trans c


end Go.Proofs.YtmclbfkcbadnpaaGreat

namespace Go.Proofs.YtmclbfkcbadnpaaGreat
open Go.RowKit

theorem lastOf_get {ns : List ByteArray} {s : ByteArray} : ∀ {n k : Nat}, lastOf ns s n = some k → k < n ∧ ns[k]? = some s
 | 0, k, h => by simp [lastOf] at h
 | n + 1, k, h => by
  unfold lastOf at h
  by_cases e : ns[n]? = some s
  ·rw [if_pos e] at h
   cases h
   exact ⟨by omega, e⟩
  ·rw [if_neg e] at h
   have := lastOf_get h
   exact ⟨by omega, this.2⟩

theorem map_get {α : Type} {f : α → ByteArray} {xs : List α} {k : Nat} {y : α} (h : xs[k]? = some y) : (xs.map f)[k]? = some (f y) := by
 rw [List.getElem?_map, h]
 rfl

theorem get_map {α : Type} {f : α → ByteArray} {xs : List α} {k : Nat} {s : ByteArray} (h : (xs.map f)[k]? = some s) : ∃ y, xs[k]? = some y ∧ f y = s := by
 rw [List.getElem?_map] at h
 cases e : xs[k]? with
 | none => rw [e] at h; cases h
 | some y => rw [e] at h; cases h; exact ⟨y, rfl, rfl⟩

def cntTo (f : Nat → Bool) : Nat → Nat
 | 0 => 0
 | k + 1 => cntTo f k + (if f k then 1 else 0)

theorem cntTo_congr {f g : Nat → Bool} : ∀ n, (∀ k, k < n → f k = g k) → cntTo f n = cntTo g n
 | 0, _ => rfl
 | n + 1, h => by
  unfold cntTo
  rw [cntTo_congr n (fun k hk => h k (by omega)), h n (by omega)]

theorem cntTo_le (f : Nat → Bool) : ∀ n, cntTo f n ≤ n
 | 0 => Nat.le_refl _
 | n + 1 => by
  have := cntTo_le f n
  unfold cntTo
  split <;> omega

theorem cntTo_mono (f : Nat → Bool) : ∀ n k, k ≤ n → cntTo f k ≤ cntTo f n
 | 0, k, h => by rw [show k = 0 by omega]; exact Nat.le_refl _
 | n + 1, k, h => by
  by_cases e : k = n + 1
  ·rw [e]; exact Nat.le_refl _
  ·have := cntTo_mono f n k (by omega)
   rw [show cntTo f (n + 1) = cntTo f n + (if f n then 1 else 0) from rfl]
   omega

theorem cntTo_yes {f : Nat → Bool} {k : Nat} (h : f k = true) : cntTo f (k + 1) = cntTo f k + 1 := by
 unfold cntTo
 rw [if_pos h]
 cases k <;> rfl

theorem cntTo_no {f : Nat → Bool} {k : Nat} (h : f k = false) : cntTo f (k + 1) = cntTo f k := by
 unfold cntTo
 rw [if_neg (by rw [h]; decide)]
 cases k <;> rfl

/-- the names of the services and of the copies -/
abbrev svN (x : Flt) : List ByteArray := x.services.map (·.name)
abbrev cpN (x : Flt) : List ByteArray := x.copies.map (·.name)

/-- the place of the service of the copy at a place -/
def svcAt (x : Flt) (p : Nat) : Option Nat := match x.copies[p]? with
 | some c => lastOf (svN x) c.service x.services.length
 | none => none

/-- a copy that waits, of the service at a place -/
def waitF (x : Flt) (s i : Nat) : Bool := match x.copies[i]? with
 | some c => decide (c.at_ = ⟨#[]⟩) && decide (lastOf (svN x) c.service x.services.length = some s)
 | none => false

def spareOf (x : Flt) (s : Nat) : Int := match x.services[s]? with
 | some y => y.spare
 | none => 0

/-- what is left of the service at a place, behind the first k copies -/
def spareI (x : Flt) (s k : Nat) : Int := spareOf x s - (cntTo (waitF x s) k : Nat)

def goF (x : Flt) (pl : List Nat) (s i : Nat) : Bool := match pl[i]? with
 | some p => decide (svcAt x p = some s)
 | none => false

/-- the places of the first k names -/
def PlOk (ns gone : List ByteArray) (k : Nat) (pl : List Nat) : Prop := pl.length = k ∧ ∀ j g, j < k → gone[j]? = some g → ∃ p, pl[j]? = some p ∧ lastOf ns g ns.length = some p

def LeaveA (x : Flt) (pl : List Nat) (k : Nat) : Prop := (∀ j p, j < k → pl[j]? = some p → ∃ c, x.copies[p]? = some c ∧ ¬ c.at_ = ⟨#[]⟩) ∧ ∀ j q p, j + 1 < k → pl[j]? = some q → pl[j + 1]? = some p → q < p

def LeaveC (x : Flt) (pl : List Nat) : Prop := ∀ s, s < x.services.length → 0 < cntTo (goF x pl s) pl.length → ((cntTo (goF x pl s) pl.length : Nat) : Int) ≤ spareI x s x.copies.length

def goS (x : Flt) (gone : List ByteArray) (nm : ByteArray) (i : Nat) : Bool := match gone[i]? with
 | some g => match x.copies[(idxC x.copies g).toNat]? with
  | some c => decide (c.service = nm)
  | none => false
 | none => false

def waitS (x : Flt) (nm : ByteArray) (i : Nat) : Bool := match x.copies[i]? with
 | some c => decide (c.service = nm) && decide (c.at_ = ⟨#[]⟩)
 | none => false

def MayA (x : Flt) (gone : List ByteArray) (k : Nat) : Prop := (∀ j g, j < k → gone[j]? = some g → 0 ≤ idxC x.copies g ∧ ∃ c, x.copies[(idxC x.copies g).toNat]? = some c ∧ ¬ c.at_ = ⟨#[]⟩) ∧ ∀ j s t, j + 1 < k → gone[j]? = some s → gone[j + 1]? = some t → Op.bytesLess s.toList t.toList = true

def MayC (x : Flt) (gone : List ByteArray) (k : Nat) : Prop := ∀ s y, s < k → x.services[s]? = some y → 0 < cntTo (goS x gone y.name) gone.length → ((cntTo (goS x gone y.name) gone.length : Nat) : Int) ≤ y.spare - (cntTo (waitS x y.name) x.copies.length : Nat)

end Go.Proofs.YtmclbfkcbadnpaaGreat
