import Derived.Test.YtihnjndnkgnmaaaGreatJ23
import Derived.Test.YtihnjndnkgnmaaaGreatJ28
import Derived.Test.YtihnjndnkgnmaaaGreatTk0
import Derived.Test.YtihnjndnkgnmaaaGreatJ20
import Derived.Test.YtihnjndnkgnmaaaGreatShp
import Derived.Test.YtihnjndnkgnmaaaGreatPlc
namespace Go.Proofs.YtihnjndnkgnmaaaGreat
open Go.RowKit

theorem ascTo_iff {ns : List ByteArray} : ∀ n, ascTo ns n = true ↔ ∀ k, k < n → ascAt ns k = true
 | 0 => by simp [ascTo]
 | n + 1 => by
  simp only [ascTo, Bool.and_eq_true, ascTo_iff n]
  constructor
  ·rintro ⟨h1, h2⟩ k hk
   by_cases e : k = n
   ·subst e; exact h2
   ·exact h1 k (by omega)
  ·intro h
   exact ⟨fun k hk => h k (by omega), h n (by omega)⟩

theorem allTo_iff {f : Nat → Bool} : ∀ n, allTo f n = true ↔ ∀ k, k < n → f k = true
 | 0 => by simp [allTo]
 | n + 1 => by
  simp only [allTo, Bool.and_eq_true, allTo_iff n]
  constructor
  ·rintro ⟨h1, h2⟩ k hk
   by_cases e : k = n
   ·subst e; exact h2
   ·exact h1 k (by omega)
  ·intro h
   exact ⟨fun k hk => h k (by omega), h n (by omega)⟩

theorem ascAt_iff {ns : List ByteArray} {k : Nat} {s : ByteArray} (hk : ns[k]? = some s) : ascAt ns k = true ↔ P.nameOk s = true ∧ ltAt ns k = true := by
 cases k with
 | zero => simp only [ascAt, hk, ltAt, and_true]
 | succ j =>
  have hlt : j + 1 < ns.length := (List.getElem?_eq_some_iff.mp hk).1
  have ht : ns[j]? = some ns[j] := List.getElem?_eq_getElem (by omega)
  simp only [ascAt, hk, ht, ltAt, Bool.and_eq_true]

theorem asc_iff {α : Type} (f : α → ByteArray) (xs : List α) : ascTo (xs.map f) xs.length = true ↔ ∀ (k : Nat) (y : α), xs[k]? = some y → P.nameOk (f y) = true ∧ ltAt (xs.map f) k = true := by
 rw [ascTo_iff]
 constructor
 ·intro h k y hy
  exact (ascAt_iff (by rw [List.getElem?_map, hy]; rfl)).1 (h k (List.getElem?_eq_some_iff.mp hy).1)
 ·intro h k hk
  have hy : xs[k]? = some xs[k] := List.getElem?_eq_getElem hk
  exact (ascAt_iff (by rw [List.getElem?_map, hy]; rfl)).2 (h k _ hy)

theorem all_iff {α : Type} (f : α → Bool) (xs : List α) : xs.all f = true ↔ ∀ (k : Nat) (y : α), xs[k]? = some y → f y = true := by
 rw [List.all_eq_true]
 constructor
 ·intro h k y hy
  exact h y (List.mem_of_getElem? hy)
 ·intro h y hy
  obtain ⟨j, hj, e⟩ := List.mem_iff_getElem.mp hy
  exact h j y (by rw [List.getElem?_eq_getElem hj, e])

theorem inB_inR (n a b : Int) : inB n a b = inR n a b := by
 unfold inB inR
 rw [Bool.eq_iff_iff]
 simp

theorem sLike_eq : sLike = likeOk := by
 funext l
 unfold sLike likeOk
 rw [inB_inR]

theorem sCopy_iff (y : Cpy) : sCopy y = true ↔ P.nameOk y.name = true ∧ P.nameOk y.service = true ∧ copyOk y = true := by
 unfold sCopy sCopy3 copyOk likesOk
 simp only [inB_inR, sLike_eq, Bool.and_eq_true]
 constructor
 ·rintro ⟨h1, h2, h3, h4, h5, h6, ⟨h7, h8, h9, h10, h11⟩, h12⟩
  exact ⟨h1, h2, ⟨⟨⟨⟨⟨⟨⟨h3, h4⟩, h5⟩, h6⟩, h7⟩, h8, h12⟩, h9⟩, h10⟩, h11⟩
 ·rintro ⟨h1, h2, ⟨⟨⟨⟨⟨⟨⟨h3, h4⟩, h5⟩, h6⟩, h7⟩, h8, h12⟩, h9⟩, h10⟩, h11⟩
  exact ⟨h1, h2, h3, h4, h5, h6, ⟨h7, h8, h9, h10, h11⟩, h12⟩

theorem sBerth_iff (y : Brt) : sBerth y = true ↔ P.nameOk y.name = true ∧ berthAt y = true := by
 unfold sBerth berthAt
 simp only [inB_inR, ← mk_eq_sm, Bool.and_eq_true]
 constructor
 ·rintro ⟨h1, h2, h3, h4, h5⟩
  exact ⟨h1, ⟨⟨h2, h4⟩, h5⟩, h3⟩
 ·rintro ⟨h1, ⟨⟨h2, h4⟩, h5⟩, h3⟩
  exact ⟨h1, h2, h3, h4, h5⟩

theorem idxV_lt (bs : List Svc) (s : ByteArray) : idxV bs s < 0 ↔ lastOf (bs.map (·.name)) s bs.length = none := by
 rw [lastOf_none]
 unfold idxV
 cases h : bs.findIdx? (fun b => decide (b.name = s)) with
 | none =>
  rw [List.findIdx?_eq_none_iff] at h
  constructor
  ·intro _ j hj e
   rw [List.getElem?_map, List.getElem?_eq_getElem hj] at e
   simp at e
   have := h bs[j] (List.getElem_mem hj)
   simp at this
   exact this e
  ·intro _; decide
 | some k =>
  rw [List.findIdx?_eq_some_iff_getElem] at h
  obtain ⟨hk, h1, _⟩ := h
  constructor
  ·intro e
   simp at e
   omega
  ·intro e
   refine absurd ?_ (e k hk)
   rw [List.getElem?_map, List.getElem?_eq_getElem hk]
   simpa using h1

theorem some_not {α : Type} {o : Option α} : o.isSome = true ↔ ¬ o = none := by cases o <;> simp

theorem last_name {bs : List ByteArray} {s : ByteArray} {n : Nat} (h : ¬ lastOf bs s n = none) : ∃ j, j < n ∧ bs[j]? = some s := by
 rw [lastOf_none] at h
 exact Classical.byContradiction fun hc => h fun j hj e => hc ⟨j, hj, e⟩

theorem use_std (cs : List Cpy) (s : ByteArray) : ∀ k, k ≤ 1048576 → (useTo cs s (-1) k).1 = (stdTo cs s k : Nat)
 | 0, _ => rfl
 | k + 1, hk => by
  have ih := use_std cs s k (by omega)
  have hle := stdTo_le cs s k
  unfold useTo stdTo
  cases h : cs[k]? with
  | none => exact ih
  | some c =>
   by_cases e : c.at_ = s
   ·simp only [e, if_true, true_and]
    rw [if_pos (by omega), ih]
    show wrap64 _ = _
    rw [show wrap64 (((stdTo cs s k : Nat) : Int) + 1) = ((stdTo cs s k : Nat) : Int) + 1 from by unfold wrap64; omega]
    omega
   ·simp only [e, if_false, false_and]
    exact ih

theorem size_zero {s : ByteArray} : s.size = 0 ↔ s = ⟨#[]⟩ :=
 ⟨fun e => ByteArray.ext (Array.eq_empty_of_size_eq_zero e), fun e => by subst e; rfl⟩

theorem name_ne {s : ByteArray} (h : P.nameOk s = true) : ¬ s = ⟨#[]⟩ := by
 intro e
 subst e
 revert h
 decide

theorem idxB_in {bs : List Brt} {k : Nat} {y : Brt} (h : bs[k]? = some y) : ¬ idxB bs y.name < 0 := by
 rw [idxB_lt, lastOf_none]
 intro hc
 exact hc k (List.getElem?_eq_some_iff.mp h).1 (by rw [List.getElem?_map, h]; rfl)

theorem used_in {x : Flt} {k : Nat} {y : Brt} (h : x.berths[k]? = some y) (hn : P.nameOk y.name = true) : usedR x y.name = (useTo x.copies y.name (-1) x.copies.length).2 := by
 unfold usedR sumTo
 rw [if_neg (idxB_in h), if_neg (name_ne hn)]

theorem valid_eq (x : Flt) (l3 : x.copies.length ≤ 1048576) : validI x = validS x := by
 unfold validI validS
 congr 1
 rw [Bool.eq_iff_iff]
 simp only [Bool.and_eq_true, ordOk, asc_iff, berthsOk, svcsOk, copiesOk, standOk, all_iff, allTo_iff]
 constructor
 ·rintro ⟨⟨⟨ob, os⟩, oc⟩, hb, hs, hc, hst⟩
  refine ⟨fun k hk => ?_, fun k hk => ?_, fun k hk => ?_⟩
  ·have hy : x.services[k]? = some x.services[k] := List.getElem?_eq_getElem hk
   simp only [sSvcAt, hy, Bool.and_eq_true, inB_inR]
   exact ⟨(os k _ hy).1, (os k _ hy).2, hs k _ hy⟩
  ·have hy : x.copies[k]? = some x.copies[k] := List.getElem?_eq_getElem hk
   have h1 := hc k _ hy
   simp only [copyAt, Bool.and_eq_true, Bool.or_eq_true, decide_eq_true_eq, some_not] at h1
   obtain ⟨⟨h2, h3⟩, h4⟩ := h1
   simp only [sCpyAt, hy, Bool.and_eq_true, Bool.or_eq_true, decide_eq_true_eq, Bool.not_eq_true', decide_eq_false_iff_not, sCopy_iff]
   obtain ⟨j, hj, e⟩ := last_name h2
   have hjs : x.services[j]? = some x.services[j] := List.getElem?_eq_getElem hj
   have hsn : x.services[j].name = x.copies[k].service := by
    rw [List.getElem?_map, hjs] at e
    simpa using e
   refine ⟨⟨(oc k _ hy).1, by rw [← hsn]; exact (os j _ hjs).1, h4⟩, (oc k _ hy).2, by rw [idxV_lt]; exact h2, ?_⟩
   rcases h3 with h3 | h3
   ·exact Or.inr (by rw [idxB_lt]; exact h3)
   ·exact Or.inl (size_zero.1 h3)
  ·have hy : x.berths[k]? = some x.berths[k] := List.getElem?_eq_getElem hk
   have h1 := hst k _ hy
   simp only [standAt, Bool.and_eq_true, decide_eq_true_eq] at h1
   obtain ⟨⟨h2, h3⟩, h4⟩ := h1
   simp only [sBrtAt, hy, Bool.and_eq_true, Bool.not_eq_true', decide_eq_false_iff_not, sBerth_iff]
   rw [used_in hy (ob k _ hy).1]
   rw [use_std _ _ _ l3] at h2
   exact ⟨⟨(ob k _ hy).1, hb k _ hy⟩, (ob k _ hy).2, by omega, by omega, by omega⟩
 ·rintro ⟨hs, hc, hb⟩
  have hs' : ∀ (k : Nat) (y : Svc), x.services[k]? = some y → P.nameOk y.name = true ∧ ltAt (x.services.map (·.name)) k = true ∧ inR y.spare 0 60 = true := by
   intro k y hy
   have := hs k (List.getElem?_eq_some_iff.mp hy).1
   simpa only [sSvcAt, hy, Bool.and_eq_true, inB_inR] using this
  have hc' : ∀ (k : Nat) (y : Cpy), x.copies[k]? = some y → (P.nameOk y.name = true ∧ P.nameOk y.service = true ∧ copyOk y = true) ∧ ltAt (x.copies.map (·.name)) k = true ∧ ¬ idxV x.services y.service < 0 ∧ (y.at_ = ⟨#[]⟩ ∨ ¬ idxB x.berths y.at_ < 0) := by
   intro k y hy
   have := hc k (List.getElem?_eq_some_iff.mp hy).1
   simpa only [sCpyAt, hy, Bool.and_eq_true, Bool.or_eq_true, decide_eq_true_eq, Bool.not_eq_true', decide_eq_false_iff_not, sCopy_iff] using this
  have hb' : ∀ (k : Nat) (y : Brt), x.berths[k]? = some y → (P.nameOk y.name = true ∧ berthAt y = true) ∧ ltAt (x.berths.map (·.name)) k = true ∧ ¬ y.room < (usedR x y.name).1 ∧ ¬ y.hold < (usedR x y.name).2 ∧ ¬ 10 < stdTo x.copies y.name x.copies.length := by
   intro k y hy
   have := hb k (List.getElem?_eq_some_iff.mp hy).1
   simpa only [sBrtAt, hy, Bool.and_eq_true, Bool.not_eq_true', decide_eq_false_iff_not, sBerth_iff] using this
  refine ⟨⟨⟨fun k y hy => ⟨(hb' k y hy).1.1, (hb' k y hy).2.1⟩, fun k y hy => ⟨(hs' k y hy).1, (hs' k y hy).2.1⟩⟩, fun k y hy => ⟨(hc' k y hy).1.1, (hc' k y hy).2.1⟩⟩, fun k y hy => (hb' k y hy).1.2, fun k y hy => (hs' k y hy).2.2, fun k y hy => ?_, fun k y hy => ?_⟩
  ·obtain ⟨⟨_, _, h4⟩, _, h2, h3⟩ := hc' k y hy
   simp only [copyAt, Bool.and_eq_true, Bool.or_eq_true, decide_eq_true_eq, some_not]
   rw [idxV_lt] at h2
   refine ⟨⟨h2, ?_⟩, h4⟩
   rcases h3 with h3 | h3
   ·exact Or.inr (size_zero.2 h3)
   ·exact Or.inl (by rw [idxB_lt] at h3; exact h3)
  ·obtain ⟨⟨hn, _⟩, _, h1, h2, h3⟩ := hb' k y hy
   rw [used_in hy hn] at h1 h2
   simp only [standAt, Bool.and_eq_true, decide_eq_true_eq]
   rw [use_std _ _ _ l3]
   exact ⟨⟨by omega, by omega⟩, by omega⟩

end Go.Proofs.YtihnjndnkgnmaaaGreat

namespace Go.Proofs.YtihnjndnkgnmaaaGreat
open Go.RowKit

def idxC (bs : List Cpy) (s : ByteArray) : Int := match bs.findIdx? (fun b => decide (b.name = s)) with
 | some k => k
 | none => -1

theorem idxC_at {bs : List Cpy} {s : ByteArray} {k : Nat} {b : Cpy} (hk : bs[k]? = some b) (h : b.name = s) (ho : ∀ j b, j < k → bs[j]? = some b → b.name ≠ s) : idxC bs s = k := by
 have : bs.findIdx? (fun b => decide (b.name = s)) = some k := by
  rw [List.findIdx?_eq_some_iff_getElem]
  have hlt := lt_of_some hk
  rw [List.getElem?_eq_getElem hlt] at hk
  injection hk with hk
  refine ⟨hlt, by simp [hk, h], fun j hj => ?_⟩
  have := ho j bs[j] hj (List.getElem?_eq_getElem (by omega))
  simpa using this
 simp [idxC, this]

theorem idxC_none {bs : List Cpy} {s : ByteArray} (ho : ∀ j b, j < bs.length → bs[j]? = some b → b.name ≠ s) : idxC bs s = -1 := by
 have : bs.findIdx? (fun b => decide (b.name = s)) = none := by
  rw [List.findIdx?_eq_none_iff]
  intro b hb
  obtain ⟨j, hj⟩ := List.getElem?_of_mem hb
  simpa using ho j b (lt_of_some hj) hj
 simp [idxC, this]

set_option maxHeartbeats 1000000 in
set_option maxRecDepth 100000 in
theorem l2Copy_any (x : Flt) (a1 : Option Addr) (c1 : Nat) (a2 : Option Addr) (c2 : Nat) (a3 : Option Addr) (c3 : Nat) (lo : Nat) (s : ByteArray) (w : World) (n3 : SliceC CpyC 12 lo w a3 x.copies) (hl : x.copies.length ≤ 1048576) :
  Calls Tryz.prog 57 #[.agg #[.bool x.pack, .slice a1 x.berths.length c1, .slice a2 x.services.length c2, .slice a3 x.copies.length c3], .string s] w fun e w' => e = .returned (.int .i64 (idxC x.copies s)) ∧ Below w.heap.size w w' := by
 have HI : Hid (SliceC CpyC 12 lo w a3 x.copies) := n3
 clear n3
 generalize hbs : x.copies = bs at *
 clear hbs
 go_enter Tryz.func57, Tryz.ntmps57
 go_wp2_with fail
 go_loopw [5] (fun i wr => ∃ k : Nat, k ≤ bs.length ∧ i = .int .i64 k ∧ wr.cell? ⟨w.heap.size, 3, none⟩ = some (.slice a3 bs.length c3) ∧ Hid (∀ j b, j < k → bs[j]? = some b → b.name ≠ s) ∧ Below w.heap.size w wr) (fun i _ => bs.length - (intOf i).toNat)
 case atStart => exact ⟨0, Nat.zero_le _, rfl, by simp, fun j b h => by omega, by go_grown⟩
 case round =>
  obtain ⟨k, hk, rfl, hcell, ho, hbel⟩ := hrel
  by_cases hlt : k < bs.length
  ·obtain ⟨x, hx⟩ : ∃ x, bs[k]? = some x := ⟨bs[k], List.getElem?_eq_getElem hlt⟩
   obtain ⟨b, o, rfl, _, _, hc⟩ := (HI.out.below CpyC.holds hbel nL).at hx
   obtain ⟨a9, c9, q0, q1, q2, q3, q4, q5, q6, q7, q8, q9, q10, q11, z0, z1, z2, z3, z4, z5, n9⟩ := hc
   simp only [Nat.add_zero] at q0
   have HX : Hid (bs[k]? = some x) := hx
   clear hx q1 q2 q3 q4 q5 q6 q7 q8 q9 q10 q11 z0 z1 z2 z3 z4 z5 n9
   by_cases h : x.name = s
   ·have HZ : Hid (idxC bs s = k) := idxC_at HX.out h ho.out
    have ht := bts_eq h
    clear h
    go_wp2_with fail
    go_ret
    exact ⟨ret_int HZ.out.symm, hbel⟩
   ·have ht := bts_ne h
    go_wp2_with fail
    go_roundw
    case rel =>
     refine ⟨k + 1, by omega, by go_num, hcell, ?_, hbel⟩
     intro j y hj hy
     by_cases e : j = k
     ·subst e
      rw [HX.out] at hy
      cases hy
      exact h
     ·exact ho.out j y (by omega) hy
    case measure => simp [intOf]; omega
  ·have hke : k = bs.length := by omega
   have HZ : Hid (idxC bs s = -1) := idxC_none (hke ▸ ho.out)
   go_wp2_with fail
   go_ret
   exact ⟨ret_int HZ.out.symm, hbel⟩

end Go.Proofs.YtihnjndnkgnmaaaGreat

namespace Go.Proofs.YtihnjndnkgnmaaaGreat
open Go.RowKit

def IntC : Make Int := fun _ _ f x => f 0 = some (.int .i64 x)

theorem IntC.holds : Holds IntC 1 := fun _ _ _ _ f g x h _ _ c => (h 0 (by omega)).trans c

end Go.Proofs.YtihnjndnkgnmaaaGreat

namespace Go.Proofs.YtihnjndnkgnmaaaGreat
open Go.RowKit

theorem lastOf_get {ns : List ByteArray} {s : ByteArray} : ∀ {n k : Nat}, lastOf ns s n = some k → k < n ∧ ns[k]? = some s
 | 0, k, h => by simp [lastOf] at h
 | n + 1, k, h => by
  unfold lastOf at h
  by_cases e : ns[n]? = some s
  ·rw [if_pos e] at h
   cases h
   exact ⟨by omega, e⟩
  ·rw [if_neg e] at h
   have := lastOf_get h
   exact ⟨by omega, this.2⟩

theorem map_get {α : Type} {f : α → ByteArray} {xs : List α} {k : Nat} {y : α} (h : xs[k]? = some y) : (xs.map f)[k]? = some (f y) := by
 rw [List.getElem?_map, h]
 rfl

theorem get_map {α : Type} {f : α → ByteArray} {xs : List α} {k : Nat} {s : ByteArray} (h : (xs.map f)[k]? = some s) : ∃ y, xs[k]? = some y ∧ f y = s := by
 rw [List.getElem?_map] at h
 cases e : xs[k]? with
 | none => rw [e] at h; cases h
 | some y => rw [e] at h; cases h; exact ⟨y, rfl, rfl⟩

abbrev svN (x : Flt) : List ByteArray := x.services.map (·.name)
abbrev cpN (x : Flt) : List ByteArray := x.copies.map (·.name)

end Go.Proofs.YtihnjndnkgnmaaaGreat

namespace Go.Proofs.YtihnjndnkgnmaaaGreat
open Go.RowKit

theorem bl_irr : ∀ x, Op.bytesLess x x = false
 | [] => rfl
 | a :: x => by simp [Op.bytesLess, bl_irr x]

theorem bl_tr : ∀ x y z, Op.bytesLess x y = true → Op.bytesLess y z = true → Op.bytesLess x z = true
 | _, _, [], _, h => by simp [Op.bytesLess] at h
 | [], _, _ :: _, _, _ => rfl
 | a :: x, [], c :: z, h, _ => by simp [Op.bytesLess] at h
 | a :: x, b :: y, c :: z, h1, h2 => by
  simp only [Op.bytesLess, Bool.or_eq_true, Bool.and_eq_true, decide_eq_true_eq, beq_iff_eq] at h1 h2 ⊢
  rcases h1 with h1 | ⟨rfl, h1⟩
  ·rcases h2 with h2 | ⟨rfl, h2⟩
   ·exact Or.inl (UInt8.lt_trans h1 h2)
   ·exact Or.inl h1
  ·rcases h2 with h2 | ⟨rfl, h2⟩
   ·exact Or.inl h2
   ·exact Or.inr ⟨rfl, bl_tr x y z h1 h2⟩

def AscN (ns : List ByteArray) : Prop := ∀ k s t, ns[k]? = some s → ns[k + 1]? = some t → Op.bytesLess s.toList t.toList = true

theorem asc_of {α : Type} (f : α → ByteArray) (xs : List α) (h : ascTo (xs.map f) xs.length = true) : AscN (xs.map f) := by
 intro k s t hs ht
 have hlt := lt_of_some ht
 rw [List.length_map] at hlt
 have h1 := ((asc_iff f xs).1 h (k + 1) _ (List.getElem?_eq_getElem hlt)).2
 simp only [ltAt, hs, ht] at h1
 exact h1

theorem AscN.lt {ns : List ByteArray} (h : AscN ns) : ∀ d i s t, ns[i]? = some s → ns[i + d + 1]? = some t → Op.bytesLess s.toList t.toList = true
 | 0, i, s, t, hs, ht => h i s t hs ht
 | d + 1, i, s, t, hs, ht => by
  have hlt := lt_of_some ht
  have hu : ns[i + d + 1]? = some ns[i + d + 1] := List.getElem?_eq_getElem (by omega)
  exact bl_tr _ _ _ (AscN.lt h d i s _ hs hu) (h (i + d + 1) _ t hu ht)

theorem AscN.less {ns : List ByteArray} (h : AscN ns) {i j : Nat} {s t : ByteArray} (hi : ns[i]? = some s) (hj : ns[j]? = some t) (hl : i < j) : Op.bytesLess s.toList t.toList = true :=
 h.lt (j - i - 1) i s t hi (by rw [show i + (j - i - 1) + 1 = j by omega]; exact hj)

theorem AscN.inj {ns : List ByteArray} (h : AscN ns) {i j : Nat} {s : ByteArray} (hi : ns[i]? = some s) (hj : ns[j]? = some s) : i = j := by
 rcases Nat.lt_trichotomy i j with hl | hl | hl
 ·have := h.less hi hj hl
  rw [bl_irr] at this
  cases this
 ·exact hl
 ·have := h.less hj hi hl
  rw [bl_irr] at this
  cases this

theorem AscN.last {ns : List ByteArray} (h : AscN ns) {s : ByteArray} {n k : Nat} (hk : ns[k]? = some s) (hn : k < n) : lastOf ns s n = some k := by
 cases e : lastOf ns s n with
 | none => exact absurd hk ((lastOf_none ns s n).1 e k hn)
 | some j => rw [h.inj (lastOf_get e).2 hk]

theorem idxC_some {cs : List Cpy} (h : AscN (cs.map (·.name))) {s : ByteArray} {k : Nat} (e : lastOf (cs.map (·.name)) s cs.length = some k) : idxC cs s = k ∧ ∃ c, cs[k]? = some c ∧ c.name = s := by
 obtain ⟨hk, hs⟩ := lastOf_get e
 obtain ⟨c, hc, hn⟩ := get_map hs
 refine ⟨idxC_at hc hn fun j b hj hb he => ?_, c, hc, hn⟩
 have := h.inj (map_get (f := (·.name)) hb) (show _ = some b.name by rw [he]; exact hs)
 omega

theorem idxC_no {cs : List Cpy} {s : ByteArray} (e : lastOf (cs.map (·.name)) s cs.length = none) : idxC cs s = -1 :=
 idxC_none fun j b hj hb he => (lastOf_none _ s _).1 e j hj (by rw [map_get hb, he])

theorem valid_parts {x : Flt} (h : validI x = true) : x.services.length ≤ 30 ∧ x.copies.length ≤ 60 ∧ AscN (svN x) ∧ AscN (cpN x) ∧ (∀ (k : Nat) (y : Svc), x.services[k]? = some y → 0 ≤ y.spare ∧ y.spare ≤ 60) ∧ ∀ (k : Nat) (c : Cpy), x.copies[k]? = some c → ∃ s, lastOf (svN x) c.service x.services.length = some s := by
 unfold validI at h
 simp only [Bool.and_eq_true, fewOk, ordOk, svcsOk, copiesOk, all_iff, decide_eq_true_eq] at h
 obtain ⟨⟨⟨_, h1⟩, h2⟩, ⟨⟨_, h3⟩, h4⟩, _, h5, h6, _⟩ := h
 refine ⟨h1, h2, asc_of _ _ h3, asc_of _ _ h4, fun k y hy => ?_, fun k c hc => ?_⟩
 ·have := h5 k y hy
  simpa [inR] using this
 ·have := h6 k c hc
  simp only [copyAt, Bool.and_eq_true] at this
  exact Option.isSome_iff_exists.1 this.1.1

end Go.Proofs.YtihnjndnkgnmaaaGreat

namespace Go.Proofs.YtihnjndnkgnmaaaGreat
open Go.RowKit

end Go.Proofs.YtihnjndnkgnmaaaGreat

namespace Go.Proofs.YtihnjndnkgnmaaaGreat
open Go.RowKit

abbrev brN (x : Flt) : List ByteArray := x.berths.map (·.name)

theorem valid_more {x : Flt} (h : validI x = true) : x.berths.length ≤ 12 ∧ AscN (brN x) ∧ (∀ (k : Nat) (b : Brt), x.berths[k]? = some b → P.nameOk b.name = true ∧ P.nameOk b.zone = true ∧ (0 ≤ b.room ∧ b.room ≤ 1000) ∧ mkOk b.marks = true) ∧ ∀ (k : Nat) (c : Cpy), x.copies[k]? = some c → (0 ≤ c.room ∧ c.room ≤ 1000) ∧ likesOk c.likes = true ∧ (c.at_ = ⟨#[]⟩ ∨ ∃ s, lastOf (brN x) c.at_ x.berths.length = some s) := by
 unfold validI at h
 simp only [Bool.and_eq_true, fewOk, ordOk, berthsOk, copiesOk, all_iff, decide_eq_true_eq] at h
 obtain ⟨⟨⟨h0, _⟩, _⟩, ⟨⟨h1, _⟩, _⟩, h2, _, h3, _⟩ := h
 refine ⟨h0, asc_of _ _ h1, fun k b hb => ?_, fun k c hc => ?_⟩
 ·have h4 := h2 k b hb
  simp only [berthAt, Bool.and_eq_true, inR, decide_eq_true_eq] at h4
  exact ⟨((asc_iff _ _).1 h1 k b hb).1, h4.1.1.1, h4.1.1.2, h4.2⟩
 ·have h4 := h3 k c hc
  simp only [copyAt, copyOk, Bool.and_eq_true, Bool.or_eq_true, inR, decide_eq_true_eq] at h4
  obtain ⟨⟨_, h5⟩, h6⟩ := h4
  refine ⟨h6.1.1.1.1.1.1.2, h6.1.1.1.2, ?_⟩
  rcases h5 with h5 | h5
  ·exact Or.inr (Option.isSome_iff_exists.1 h5)
  ·exact Or.inl (size_zero.1 h5)

theorem idxB_some {bs : List Brt} (h : AscN (bs.map (·.name))) {s : ByteArray} {k : Nat} (e : lastOf (bs.map (·.name)) s bs.length = some k) : idxB bs s = k ∧ ∃ c, bs[k]? = some c ∧ c.name = s := by
 obtain ⟨hk, hs⟩ := lastOf_get e
 obtain ⟨c, hc, hn⟩ := get_map hs
 refine ⟨idxB_at hc hn fun j b hj hb he => ?_, c, hc, hn⟩
 have := h.inj (map_get (f := (·.name)) hb) (show _ = some b.name by rw [he]; exact hs)
 omega

theorem idxB_no {bs : List Brt} {s : ByteArray} (e : lastOf (bs.map (·.name)) s bs.length = none) : idxB bs s = -1 :=
 idxB_none fun j b hj hb he => (lastOf_none _ s _).1 e j hj (by rw [map_get hb, he])

theorem name_short {s : ByteArray} (h : P.nameOk s = true) : s.size ≤ 1000 := by
 unfold P.nameOk at h
 simp only [Bool.and_eq_true, decide_eq_true_eq] at h
 omega

end Go.Proofs.YtihnjndnkgnmaaaGreat
