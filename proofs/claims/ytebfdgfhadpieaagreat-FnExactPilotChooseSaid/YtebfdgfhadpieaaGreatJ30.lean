import Derived.Test.YtebfdgfhadpieaaGreatJ29
namespace Go.Proofs.YtebfdgfhadpieaaGreat
set_option maxRecDepth 100000
open Go.RowKit
def idxC (bs : List Cpy) (s : ByteArray) : Int := match bs.findIdx? (fun b => decide (b.name = s)) with
 | some k => k
 | none => -1
theorem idxC_at {bs : List Cpy} {s : ByteArray} {k : Nat} {b : Cpy} (hk : bs[k]? = some b) (h : b.name = s) (ho : ∀ j b, j < k → bs[j]? = some b → b.name ≠ s) : idxC bs s = k := by
 have : bs.findIdx? (fun b => decide (b.name = s)) = some k := by
  rw [List.findIdx?_eq_some_iff_getElem]
  have hlt := lt_of_some hk
  rw [List.getElem?_eq_getElem hlt] at hk
  injection hk with hk
  refine ⟨hlt, by simp [hk, h], fun j hj => ?_⟩
  have := ho j bs[j] hj (List.getElem?_eq_getElem (by omega))
  simpa using this
 simp [idxC, this]
theorem idxC_none {bs : List Cpy} {s : ByteArray} (ho : ∀ j b, j < bs.length → bs[j]? = some b → b.name ≠ s) : idxC bs s = -1 := by
 have : bs.findIdx? (fun b => decide (b.name = s)) = none := by
  rw [List.findIdx?_eq_none_iff]
  intro b hb
  obtain ⟨j, hj⟩ := List.getElem?_of_mem hb
  simpa using ho j b (lt_of_some hj) hj
 simp [idxC, this]
set_option maxHeartbeats 1000000 in
theorem l2Copy_any (x : Flt) (a1 : Option Addr) (c1 : Nat) (a2 : Option Addr) (c2 : Nat) (a3 : Option Addr) (c3 : Nat) (lo : Nat) (s : ByteArray) (w : World) (n3 : SliceC CpyC 12 lo w a3 x.copies) (hl : x.copies.length ≤ 1048576) :
  Calls Tryz.prog 12 #[.agg #[.bool x.pack, .slice a1 x.berths.length c1, .slice a2 x.services.length c2, .slice a3 x.copies.length c3], .string s] w fun e w' => e = .returned (.int .i64 (idxC x.copies s)) ∧ Below w.heap.size w w' := by
 have HI : Hid (SliceC CpyC 12 lo w a3 x.copies) := n3
 clear n3
 generalize hbs : x.copies = bs at *
 clear hbs
 go_enter Tryz.func12, Tryz.ntmps12
 go_wp2_with fail
 go_loopw [5] (fun i wr => ∃ k : Nat, k ≤ bs.length ∧ i = .int .i64 k ∧ wr.cell? ⟨w.heap.size, 3, none⟩ = some (.slice a3 bs.length c3) ∧ Hid (∀ j b, j < k → bs[j]? = some b → b.name ≠ s) ∧ Below w.heap.size w wr) (fun i _ => bs.length - (intOf i).toNat)
 case atStart => exact ⟨0, Nat.zero_le _, rfl, by simp, fun j b h => by omega, by go_grown⟩
 case round =>
  obtain ⟨k, hk, rfl, hcell, ho, hbel⟩ := hrel
  by_cases hlt : k < bs.length
  ·obtain ⟨x, hx⟩ : ∃ x, bs[k]? = some x := ⟨bs[k], List.getElem?_eq_getElem hlt⟩
   obtain ⟨b, o, rfl, _, _, hc⟩ := (HI.out.below CpyC.holds hbel nL).at hx
   obtain ⟨a9, c9, q0, q1, q2, q3, q4, q5, q6, q7, q8, q9, q10, q11, z0, z1, z2, z3, z4, z5, n9⟩ := hc
   simp only [Nat.add_zero] at q0
   have HX : Hid (bs[k]? = some x) := hx
   clear hx q1 q2 q3 q4 q5 q6 q7 q8 q9 q10 q11 z0 z1 z2 z3 z4 z5 n9
   by_cases h : x.name = s
   ·have HZ : Hid (idxC bs s = k) := idxC_at HX.out h ho.out
    have ht := bts_eq h
    clear h
    go_wp2_with fail
    go_ret
    exact ⟨ret_int HZ.out.symm, hbel⟩
   ·have ht := bts_ne h
    go_wp2_with fail
    go_roundw
    case rel =>
     refine ⟨k + 1, by omega, by go_num, hcell, ?_, hbel⟩
     intro j y hj hy
     by_cases e : j = k
     ·subst e
      rw [HX.out] at hy
      cases hy
      exact h
     ·exact ho.out j y (by omega) hy
    case measure => simp [intOf]; omega
  ·have hke : k = bs.length := by omega
   have HZ : Hid (idxC bs s = -1) := idxC_none (hke ▸ ho.out)
   go_wp2_with fail
   go_ret
   exact ⟨ret_int HZ.out.symm, hbel⟩
def IntC : Make Int := fun _ _ f x => f 0 = some (.int .i64 x)
theorem IntC.holds : Holds IntC 1 := fun _ _ _ _ f g x h _ _ c => (h 0 (by omega)).trans c
theorem lastOf_get {ns : List ByteArray} {s : ByteArray} : ∀ {n k : Nat}, lastOf ns s n = some k → k < n ∧ ns[k]? = some s
 | 0, k, h => by simp [lastOf] at h
 | n + 1, k, h => by
  unfold lastOf at h
  by_cases e : ns[n]? = some s
  ·rw [if_pos e] at h
   cases h
   exact ⟨by omega, e⟩
  ·rw [if_neg e] at h
   have := lastOf_get h
   exact ⟨by omega, this.2⟩
theorem map_get {α : Type} {f : α → ByteArray} {xs : List α} {k : Nat} {y : α} (h : xs[k]? = some y) : (xs.map f)[k]? = some (f y) := by
 rw [List.getElem?_map, h]
 rfl
theorem get_map {α : Type} {f : α → ByteArray} {xs : List α} {k : Nat} {s : ByteArray} (h : (xs.map f)[k]? = some s) : ∃ y, xs[k]? = some y ∧ f y = s := by
 rw [List.getElem?_map] at h
 cases e : xs[k]? with
 | none => rw [e] at h; cases h
 | some y => rw [e] at h; cases h; exact ⟨y, rfl, rfl⟩
def cntTo (f : Nat → Bool) : Nat → Nat
 | 0 => 0
 | k + 1 => cntTo f k + (if f k then 1 else 0)
theorem cntTo_le (f : Nat → Bool) : ∀ n, cntTo f n ≤ n
 | 0 => Nat.le_refl _
 | n + 1 => by
  have := cntTo_le f n
  unfold cntTo
  split <;> omega
theorem cntTo_yes {f : Nat → Bool} {k : Nat} (h : f k = true) : cntTo f (k + 1) = cntTo f k + 1 := by
 unfold cntTo
 rw [if_pos h]
 cases k <;> rfl
theorem cntTo_no {f : Nat → Bool} {k : Nat} (h : f k = false) : cntTo f (k + 1) = cntTo f k := by
 unfold cntTo
 rw [if_neg (by rw [h]; decide)]
 cases k <;> rfl
abbrev svN (x : Flt) : List ByteArray := x.services.map (·.name)
abbrev cpN (x : Flt) : List ByteArray := x.copies.map (·.name)
theorem bl_irr : ∀ x, Op.bytesLess x x = false
 | [] => rfl
 | a :: x => by simp [Op.bytesLess, bl_irr x]
theorem bl_tr : ∀ x y z, Op.bytesLess x y = true → Op.bytesLess y z = true → Op.bytesLess x z = true
 | _, _, [], _, h => by simp [Op.bytesLess] at h
 | [], _, _ :: _, _, _ => rfl
 | a :: x, [], c :: z, h, _ => by simp [Op.bytesLess] at h
 | a :: x, b :: y, c :: z, h1, h2 => by
  simp only [Op.bytesLess, Bool.or_eq_true, Bool.and_eq_true, decide_eq_true_eq, beq_iff_eq] at h1 h2 ⊢
  rcases h1 with h1 | ⟨rfl, h1⟩
  ·rcases h2 with h2 | ⟨rfl, h2⟩
   ·exact Or.inl (UInt8.lt_trans h1 h2)
   ·exact Or.inl h1
  ·rcases h2 with h2 | ⟨rfl, h2⟩
   ·exact Or.inl h2
   ·exact Or.inr ⟨rfl, bl_tr x y z h1 h2⟩
def AscN (ns : List ByteArray) : Prop := ∀ k s t, ns[k]? = some s → ns[k + 1]? = some t → Op.bytesLess s.toList t.toList = true
theorem asc_of {α : Type} (f : α → ByteArray) (xs : List α) (h : ascTo (xs.map f) xs.length = true) : AscN (xs.map f) := by
 intro k s t hs ht
 have hlt := lt_of_some ht
 rw [List.length_map] at hlt
 have h1 := ((asc_iff f xs).1 h (k + 1) _ (List.getElem?_eq_getElem hlt)).2
 simp only [ltAt, hs, ht] at h1
 exact h1
theorem AscN.lt {ns : List ByteArray} (h : AscN ns) : ∀ d i s t, ns[i]? = some s → ns[i + d + 1]? = some t → Op.bytesLess s.toList t.toList = true
 | 0, i, s, t, hs, ht => h i s t hs ht
 | d + 1, i, s, t, hs, ht => by
  have hlt := lt_of_some ht
  have hu : ns[i + d + 1]? = some ns[i + d + 1] := List.getElem?_eq_getElem (by omega)
  exact bl_tr _ _ _ (AscN.lt h d i s _ hs hu) (h (i + d + 1) _ t hu ht)
theorem AscN.less {ns : List ByteArray} (h : AscN ns) {i j : Nat} {s t : ByteArray} (hi : ns[i]? = some s) (hj : ns[j]? = some t) (hl : i < j) : Op.bytesLess s.toList t.toList = true :=
 h.lt (j - i - 1) i s t hi (by rw [show i + (j - i - 1) + 1 = j by omega]; exact hj)
theorem AscN.inj {ns : List ByteArray} (h : AscN ns) {i j : Nat} {s : ByteArray} (hi : ns[i]? = some s) (hj : ns[j]? = some s) : i = j := by
 rcases Nat.lt_trichotomy i j with hl | hl | hl
 ·have := h.less hi hj hl
  rw [bl_irr] at this
  cases this
 ·exact hl
 ·have := h.less hj hi hl
  rw [bl_irr] at this
  cases this
theorem AscN.last {ns : List ByteArray} (h : AscN ns) {s : ByteArray} {n k : Nat} (hk : ns[k]? = some s) (hn : k < n) : lastOf ns s n = some k := by
 cases e : lastOf ns s n with
 | none => exact absurd hk ((lastOf_none ns s n).1 e k hn)
 | some j => rw [h.inj (lastOf_get e).2 hk]
theorem idxC_some {cs : List Cpy} (h : AscN (cs.map (·.name))) {s : ByteArray} {k : Nat} (e : lastOf (cs.map (·.name)) s cs.length = some k) : idxC cs s = k ∧ ∃ c, cs[k]? = some c ∧ c.name = s := by
 obtain ⟨hk, hs⟩ := lastOf_get e
 obtain ⟨c, hc, hn⟩ := get_map hs
 refine ⟨idxC_at hc hn fun j b hj hb he => ?_, c, hc, hn⟩
 have := h.inj (map_get (f := (·.name)) hb) (show _ = some b.name by rw [he]; exact hs)
 omega
theorem idxC_no {cs : List Cpy} {s : ByteArray} (e : lastOf (cs.map (·.name)) s cs.length = none) : idxC cs s = -1 :=
 idxC_none fun j b hj hb he => (lastOf_none _ s _).1 e j hj (by rw [map_get hb, he])
theorem valid_parts {x : Flt} (h : validI x = true) : x.services.length ≤ 30 ∧ x.copies.length ≤ 60 ∧ AscN (svN x) ∧ AscN (cpN x) ∧ (∀ (k : Nat) (y : Svc), x.services[k]? = some y → 0 ≤ y.spare ∧ y.spare ≤ 60) ∧ ∀ (k : Nat) (c : Cpy), x.copies[k]? = some c → ∃ s, lastOf (svN x) c.service x.services.length = some s := by
 unfold validI at h
 simp only [Bool.and_eq_true, fewOk, ordOk, svcsOk, copiesOk, all_iff, decide_eq_true_eq] at h
 obtain ⟨⟨⟨_, h1⟩, h2⟩, ⟨⟨_, h3⟩, h4⟩, _, h5, h6, _⟩ := h
 refine ⟨h1, h2, asc_of _ _ h3, asc_of _ _ h4, fun k y hy => ?_, fun k c hc => ?_⟩
 ·have := h5 k y hy
  simpa [inR] using this
 ·have := h6 k c hc
  simp only [copyAt, Bool.and_eq_true] at this
  exact Option.isSome_iff_exists.1 this.1.1
def zoneOf (bs : List Brt) (s : ByteArray) : ByteArray := if idxB bs s < 0 then ⟨#[]⟩ else ((bs[(idxB bs s).toNat]?).map (·.zone)).getD ⟨#[]⟩
theorem ret_strZ {a b : ByteArray} (h : a = b) : Ending.returned (.string a) = .returned (.string b) := by rw [h]
theorem idxB_bound (bs : List Brt) (s : ByteArray) : -1 ≤ idxB bs s ∧ idxB bs s < bs.length := by
 unfold idxB
 split
 ·rename_i i h
  have := (List.findIdx?_eq_some_iff_findIdx_eq.1 h).1
  omega
 ·omega
set_option maxHeartbeats 1000000 in
theorem zoneOf_any (x : Flt) (a1 : Option Addr) (c1 : Nat) (a2 : Option Addr) (c2 : Nat) (a3 : Option Addr) (c3 : Nat) (lo : Nat) (s : ByteArray) (w : World) (n1 : SliceC BrtC 6 lo w a1 x.berths) (hl : x.berths.length ≤ 1048576) :
  Calls Tryz.prog 59 #[.agg #[.bool x.pack, .slice a1 x.berths.length c1, .slice a2 x.services.length c2, .slice a3 x.copies.length c3], .string s] w fun e w' => e = .returned (.string (zoneOf x.berths s)) ∧ Below w.heap.size w w' := by
 have HI : Hid (SliceC BrtC 6 lo w a1 x.berths) := n1
 clear n1
 go_enter Tryz.func59, Tryz.ntmps59
 go_wp2_with fail
 have hal : Below w.heap.size w (w.alloc (Obj.cells #[.bool x.pack, .slice a1 x.berths.length c1, .slice a2 x.services.length c2, .slice a3 x.copies.length c3] 33)) := (Below.refl _ _).alloc nL _
 refine (l2Berth_any x a1 c1 a2 c2 a3 c3 lo s _ (HI.out.below BrtC.holds hal nL) hl).mono ?_
 rintro e w1 ⟨rfl, hb1⟩
 have e1 : w1.cell? ⟨w.heap.size, 1, none⟩ = some (.slice a1 x.berths.length c1) := (hb1.cell (p := ⟨w.heap.size, 1, none⟩) (by simp)).trans (by simp)
 have HB1 : Hid (Below w.heap.size w w1) := hal.trans (hb1.mono hal.size)
 have HZ : Hid (zoneOf x.berths s = if idxB x.berths s < 0 then ⟨#[]⟩ else ((x.berths[(idxB x.berths s).toNat]?).map (·.zone)).getD ⟨#[]⟩) := rfl
 have hbd := idxB_bound x.berths s
 clear hb1 hal
 generalize idxB x.berths s = I at *
 by_cases h0 : I < 0
 ·rw [if_pos h0] at HZ
  go_wp2_with fail
  go_ret
  exact ⟨ret_strZ HZ.out.symm, HB1.out⟩
 ·rw [if_neg h0] at HZ
  obtain ⟨k, rfl⟩ : ∃ k : Nat, I = k := ⟨I.toNat, by omega⟩
  have hk : k < x.berths.length := by omega
  obtain ⟨b, hb⟩ : ∃ b, x.berths[k]? = some b := ⟨x.berths[k], List.getElem?_eq_getElem hk⟩
  obtain ⟨bb, o, rfl, _, _, hc⟩ := (HI.out.below BrtC.holds HB1.out nL).at hb
  obtain ⟨a9, c9, q0, q1, _, _, _, _, _, _, _⟩ := hc
  have HV : Hid (zoneOf x.berths s = b.zone) := by show _ = _; rw [HZ.out, Int.toNat_natCast, hb]; rfl
  clear hb q0 HZ
  go_wp2_with fail
  go_ret
  exact ⟨ret_strZ HV.out.symm, HB1.out⟩
abbrev brN (x : Flt) : List ByteArray := x.berths.map (·.name)
theorem valid_more {x : Flt} (h : validI x = true) : x.berths.length ≤ 12 ∧ AscN (brN x) ∧ (∀ (k : Nat) (b : Brt), x.berths[k]? = some b → P.nameOk b.name = true ∧ P.nameOk b.zone = true ∧ (0 ≤ b.room ∧ b.room ≤ 1000) ∧ mkOk b.marks = true) ∧ ∀ (k : Nat) (c : Cpy), x.copies[k]? = some c → (0 ≤ c.room ∧ c.room ≤ 1000) ∧ likesOk c.likes = true ∧ (c.at_ = ⟨#[]⟩ ∨ ∃ s, lastOf (brN x) c.at_ x.berths.length = some s) := by
 unfold validI at h
 simp only [Bool.and_eq_true, fewOk, ordOk, berthsOk, copiesOk, all_iff, decide_eq_true_eq] at h
 obtain ⟨⟨⟨h0, _⟩, _⟩, ⟨⟨h1, _⟩, _⟩, h2, _, h3, _⟩ := h
 refine ⟨h0, asc_of _ _ h1, fun k b hb => ?_, fun k c hc => ?_⟩
 ·have h4 := h2 k b hb
  simp only [berthAt, Bool.and_eq_true, inR, decide_eq_true_eq] at h4
  exact ⟨((asc_iff _ _).1 h1 k b hb).1, h4.1.1.1, h4.1.1.2, h4.2⟩
 ·have h4 := h3 k c hc
  simp only [copyAt, copyOk, Bool.and_eq_true, Bool.or_eq_true, inR, decide_eq_true_eq] at h4
  obtain ⟨⟨_, h5⟩, h6⟩ := h4
  refine ⟨h6.1.1.1.1.1.1.2, h6.1.1.1.2, ?_⟩
  rcases h5 with h5 | h5
  ·exact Or.inr (Option.isSome_iff_exists.1 h5)
  ·exact Or.inl (size_zero.1 h5)
theorem nowhere {x : Flt} (hb : ∀ (k : Nat) (b : Brt), x.berths[k]? = some b → P.nameOk b.name = true ∧ P.nameOk b.zone = true ∧ (0 ≤ b.room ∧ b.room ≤ 1000) ∧ mkOk b.marks = true) : lastOf (brN x) ⟨#[]⟩ x.berths.length = none := by
 rw [lastOf_none]
 intro j hj e
 obtain ⟨b, h1, h2⟩ := get_map e
 exact name_ne (hb j b h1).1 h2
theorem zone_at {x : Flt} (ha : AscN (brN x)) {s : ByteArray} {k : Nat} (h : lastOf (brN x) s x.berths.length = some k) : ∃ b, x.berths[k]? = some b ∧ b.name = s ∧ zoneOf x.berths s = b.zone := by
 obtain ⟨hk, hs⟩ := lastOf_get h
 obtain ⟨b, h1, h2⟩ := get_map hs
 have hi : idxB x.berths s = k := idxB_at h1 h2 fun j b' hj hb' he => by
  have := ha.inj (map_get (f := (·.name)) hb') (show _ = some b'.name by rw [he]; exact hs)
  omega
 refine ⟨b, h1, h2, ?_⟩
 unfold zoneOf
 rw [hi, if_neg (by omega), Int.toNat_natCast, h1]
 rfl
def bthF (x : Flt) (ci : Nat) (sv nm : ByteArray) (i : Nat) : Bool := match x.copies[i]? with
 | some c => decide (i ≠ ci) && decide (c.service = sv) && decide (c.at_ = nm)
 | none => false
def znF (x : Flt) (ci : Nat) (sv z : ByteArray) (i : Nat) : Bool := match x.copies[i]? with
 | some c => decide (i ≠ ci) && decide (c.service = sv) && decide (¬ c.at_ = ⟨#[]⟩) && decide (zoneOf x.berths c.at_ = z)
 | none => false
def roomTo (x : Flt) (ci : Nat) (nm : ByteArray) : Nat → Int
 | 0 => 0
 | k + 1 => roomTo x ci nm k + (match x.copies[k]? with
  | some c => if c.at_ = nm ∧ k ≠ ci then c.room else 0
  | none => 0)
theorem roomTo_in {x : Flt} {ci k : Nat} {nm : ByteArray} {c : Cpy} (hk : x.copies[k]? = some c) (h1 : c.at_ = nm) (h2 : k ≠ ci) : roomTo x ci nm (k + 1) = roomTo x ci nm k + c.room := by
 simp only [roomTo, hk]
 rw [if_pos ⟨h1, h2⟩]
theorem roomTo_out {x : Flt} {ci k : Nat} {nm : ByteArray} {c : Cpy} (hk : x.copies[k]? = some c) (h : ¬ (c.at_ = nm ∧ k ≠ ci)) : roomTo x ci nm (k + 1) = roomTo x ci nm k := by
 simp only [roomTo, hk]
 rw [if_neg h]
 omega
theorem roomTo_bd {x : Flt} (ci : Nat) (nm : ByteArray) (hc : ∀ (k : Nat) (c : Cpy), x.copies[k]? = some c → 0 ≤ c.room ∧ c.room ≤ 1000) : ∀ k, 0 ≤ roomTo x ci nm k ∧ roomTo x ci nm k ≤ 1000 * k
 | 0 => by simp [roomTo]
 | k + 1 => by
  have ih := roomTo_bd ci nm hc k
  simp only [roomTo]
  cases h : x.copies[k]? with
  | none => simp only; omega
  | some c =>
   have h1 := hc k c h
   simp only
   split <;> omega
theorem use_room {x : Flt} (ci : Nat) (nm : ByteArray) (hc : ∀ (k : Nat) (c : Cpy), x.copies[k]? = some c → 0 ≤ c.room ∧ c.room ≤ 1000) : ∀ k, k ≤ 60 → (useTo x.copies nm ci k).2.1 = roomTo x ci nm k
 | 0, _ => rfl
 | k + 1, hk => by
  have ih := use_room ci nm hc k (by omega)
  have hb := roomTo_bd ci nm hc k
  unfold useTo roomTo
  cases h : x.copies[k]? with
  | none => simp only; omega
  | some c =>
   have h1 := hc k c h
   simp only
   by_cases e : c.at_ = nm ∧ k ≠ ci
   ·rw [if_pos e, if_pos ⟨e.1, by omega⟩]
    simp only
    rw [ih]
    unfold wrap64
    omega
   ·rw [if_neg e, if_neg (fun h => e ⟨h.1, by omega⟩)]
    omega
def likeTo (f : ByteArray → Bool) (ls : List Lik) : Nat → Int
 | 0 => 0
 | k + 1 => likeTo f ls k + (match ls[k]? with
  | some l => if f l.select then l.weight else 0
  | none => 0)
theorem likeTo_yes {f : ByteArray → Bool} {ls : List Lik} {k : Nat} {l : Lik} (hk : ls[k]? = some l) (h : f l.select = true) : likeTo f ls (k + 1) = likeTo f ls k + l.weight := by
 simp only [likeTo, hk]
 rw [if_pos h]
theorem likeTo_no {f : ByteArray → Bool} {ls : List Lik} {k : Nat} {l : Lik} (hk : ls[k]? = some l) (h : f l.select = false) : likeTo f ls (k + 1) = likeTo f ls k := by
 simp only [likeTo, hk]
 rw [if_neg (by rw [h]; decide)]
 omega
theorem likes_parts {ls : List Lik} (h : likesOk ls = true) : ls.length ≤ 5 ∧ ∀ (k : Nat) (l : Lik), ls[k]? = some l → -9 ≤ l.weight ∧ l.weight ≤ 9 := by
 simp only [likesOk, Bool.and_eq_true, all_iff, decide_eq_true_eq] at h
 refine ⟨h.1, fun k l hl => ?_⟩
 have := h.2 k l hl
 simp only [likeOk, Bool.and_eq_true, inR, decide_eq_true_eq] at this
 exact this.2
theorem likeTo_bd {f : ByteArray → Bool} {ls : List Lik} (h : ∀ (k : Nat) (l : Lik), ls[k]? = some l → -9 ≤ l.weight ∧ l.weight ≤ 9) : ∀ k : Nat, -9 * (k : Int) ≤ likeTo f ls k ∧ likeTo f ls k ≤ 9 * (k : Int)
 | 0 => by simp [likeTo]
 | k + 1 => by
  have ih := likeTo_bd (f := f) h k
  simp only [likeTo]
  cases e : ls[k]? with
  | none => simp only; omega
  | some l =>
   have h1 := h k l e
   simp only
   split <;> omega
theorem zn_no {x : Flt} {ci k : Nat} {sv z : ByteArray} {c : Cpy} (hk : x.copies[k]? = some c) (h : ¬ (k ≠ ci ∧ c.service = sv ∧ (¬ c.at_ = ⟨#[]⟩) ∧ zoneOf x.berths c.at_ = z)) : znF x ci sv z k = false := by
 unfold znF
 rw [hk]
 simp only [Bool.and_eq_false_iff, decide_eq_false_iff_not]
 by_cases h1 : k ≠ ci
 ·by_cases h2 : c.service = sv
  ·by_cases h3 : ¬ c.at_ = ⟨#[]⟩
   ·exact Or.inr (fun h4 => h ⟨h1, h2, h3, h4⟩)
   ·exact Or.inl (Or.inr h3)
  ·exact Or.inl (Or.inl (Or.inr h2))
 ·exact Or.inl (Or.inl (Or.inl h1))
theorem zn_yes {x : Flt} {ci k : Nat} {sv z : ByteArray} {c : Cpy} (hk : x.copies[k]? = some c) (h1 : k ≠ ci) (h2 : c.service = sv) (h3 : ¬ c.at_ = ⟨#[]⟩) (h4 : zoneOf x.berths c.at_ = z) : znF x ci sv z k = true := by
 unfold znF
 rw [hk]
 simp only [Bool.and_eq_true, decide_eq_true_eq]
 exact ⟨⟨⟨h1, h2⟩, h3⟩, h4⟩
theorem bth_no {x : Flt} {ci k : Nat} {sv nm : ByteArray} {c : Cpy} (hk : x.copies[k]? = some c) (h : ¬ (k ≠ ci ∧ c.service = sv ∧ c.at_ = nm)) : bthF x ci sv nm k = false := by
 unfold bthF
 rw [hk]
 simp only [Bool.and_eq_false_iff, decide_eq_false_iff_not]
 by_cases h1 : k ≠ ci
 ·by_cases h2 : c.service = sv
  ·exact Or.inr (fun h4 => h ⟨h1, h2, h4⟩)
  ·exact Or.inl (Or.inr h2)
 ·exact Or.inl (Or.inl h1)
theorem bth_yes {x : Flt} {ci k : Nat} {sv nm : ByteArray} {c : Cpy} (hk : x.copies[k]? = some c) (h1 : k ≠ ci) (h2 : c.service = sv) (h4 : c.at_ = nm) : bthF x ci sv nm k = true := by
 unfold bthF
 rw [hk]
 simp only [Bool.and_eq_true, decide_eq_true_eq]
 exact ⟨⟨h1, h2⟩, h4⟩
theorem name_short {s : ByteArray} (h : P.nameOk s = true) : s.size ≤ 1000 := by
 unfold P.nameOk at h
 simp only [Bool.and_eq_true, decide_eq_true_eq] at h
 omega
theorem marks_few {ms : List ByteArray} (h : mkOk ms = true) : ms.length ≤ 1000 := by
 unfold mkOk at h
 simp only [Bool.and_eq_true, decide_eq_true_eq] at h
 omega
end Go.Proofs.YtebfdgfhadpieaaGreat
