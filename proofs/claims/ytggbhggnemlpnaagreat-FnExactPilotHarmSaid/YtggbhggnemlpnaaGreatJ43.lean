/-
  Several texts in one: Mg1, Mgp.
-/
import Derived.Test.YtggbhggnemlpnaaGreatJ9
import Derived.Test.YtggbhggnemlpnaaGreatPlc
import Derived.Test.YtggbhggnemlpnaaGreatJ11
import Derived.Test.YtggbhggnemlpnaaGreatEqv
namespace Go.Proofs.YtggbhggnemlpnaaGreat
open Go.RowKit

theorem lastOf_get {ns : List ByteArray} {s : ByteArray} : ∀ {n k : Nat}, lastOf ns s n = some k → k < n ∧ ns[k]? = some s
  | 0, k, h => by simp [lastOf] at h
  | n + 1, k, h => by
    unfold lastOf at h
    by_cases e : ns[n]? = some s
    · rw [if_pos e] at h
      cases h
      exact ⟨by omega, e⟩
    · rw [if_neg e] at h
      have := lastOf_get h
      exact ⟨by omega, this.2⟩

theorem map_get {α : Type} {f : α → ByteArray} {xs : List α} {k : Nat} {y : α} (h : xs[k]? = some y) : (xs.map f)[k]? = some (f y) := by
  rw [List.getElem?_map, h]
  rfl

theorem get_map {α : Type} {f : α → ByteArray} {xs : List α} {k : Nat} {s : ByteArray} (h : (xs.map f)[k]? = some s) : ∃ y, xs[k]? = some y ∧ f y = s := by
  rw [List.getElem?_map] at h
  cases e : xs[k]? with
  | none => rw [e] at h; cases h
  | some y => rw [e] at h; cases h; exact ⟨y, rfl, rfl⟩

def cntTo (f : Nat → Bool) : Nat → Nat
  | 0 => 0
  | k + 1 => cntTo f k + (if f k then 1 else 0)

theorem cntTo_congr {f g : Nat → Bool} : ∀ n, (∀ k, k < n → f k = g k) → cntTo f n = cntTo g n
  | 0, _ => rfl
  | n + 1, h => by
    unfold cntTo
    rw [cntTo_congr n (fun k hk => h k (by omega)), h n (by omega)]

theorem cntTo_le (f : Nat → Bool) : ∀ n, cntTo f n ≤ n
  | 0 => Nat.le_refl _
  | n + 1 => by
    have := cntTo_le f n
    unfold cntTo
    split <;> omega

theorem cntTo_mono (f : Nat → Bool) : ∀ n k, k ≤ n → cntTo f k ≤ cntTo f n
  | 0, k, h => by rw [show k = 0 by omega]; exact Nat.le_refl _
  | n + 1, k, h => by
    by_cases e : k = n + 1
    · rw [e]; exact Nat.le_refl _
    · have := cntTo_mono f n k (by omega)
      rw [show cntTo f (n + 1) = cntTo f n + (if f n then 1 else 0) from rfl]
      omega

theorem cntTo_yes {f : Nat → Bool} {k : Nat} (h : f k = true) : cntTo f (k + 1) = cntTo f k + 1 := by
  unfold cntTo
  rw [if_pos h]
  cases k <;> rfl

theorem cntTo_no {f : Nat → Bool} {k : Nat} (h : f k = false) : cntTo f (k + 1) = cntTo f k := by
  unfold cntTo
  rw [if_neg (by rw [h]; decide)]
  cases k <;> rfl

/-- the names of the services and of the copies -/
abbrev svN (x : Flt) : List ByteArray := x.services.map (·.name)
abbrev cpN (x : Flt) : List ByteArray := x.copies.map (·.name)

/-- the place of the service of the copy at a place -/
def svcAt (x : Flt) (p : Nat) : Option Nat := match x.copies[p]? with
  | some c => lastOf (svN x) c.service x.services.length
  | none => none

/-- a copy that waits, of the service at a place -/
def waitF (x : Flt) (s i : Nat) : Bool := match x.copies[i]? with
  | some c => decide (c.at_ = ⟨#[]⟩) && decide (lastOf (svN x) c.service x.services.length = some s)
  | none => false

def spareOf (x : Flt) (s : Nat) : Int := match x.services[s]? with
  | some y => y.spare
  | none => 0

/-- what is left of the service at a place, behind the first k copies -/
def spareI (x : Flt) (s k : Nat) : Int := spareOf x s - (cntTo (waitF x s) k : Nat)

def goF (x : Flt) (pl : List Nat) (s i : Nat) : Bool := match pl[i]? with
  | some p => decide (svcAt x p = some s)
  | none => false

/-- the places of the first k names -/
def PlOk (ns gone : List ByteArray) (k : Nat) (pl : List Nat) : Prop := pl.length = k ∧ ∀ j g, j < k → gone[j]? = some g → ∃ p, pl[j]? = some p ∧ lastOf ns g ns.length = some p

def LeaveA (x : Flt) (pl : List Nat) (k : Nat) : Prop := (∀ j p, j < k → pl[j]? = some p → ∃ c, x.copies[p]? = some c ∧ ¬ c.at_ = ⟨#[]⟩) ∧ ∀ j q p, j + 1 < k → pl[j]? = some q → pl[j + 1]? = some p → q < p

def LeaveC (x : Flt) (pl : List Nat) : Prop := ∀ s, s < x.services.length → 0 < cntTo (goF x pl s) pl.length → ((cntTo (goF x pl s) pl.length : Nat) : Int) ≤ spareI x s x.copies.length

def goS (x : Flt) (gone : List ByteArray) (nm : ByteArray) (i : Nat) : Bool := match gone[i]? with
  | some g => match x.copies[(idxC x.copies g).toNat]? with
    | some c => decide (c.service = nm)
    | none => false
  | none => false

def waitS (x : Flt) (nm : ByteArray) (i : Nat) : Bool := match x.copies[i]? with
  | some c => decide (c.service = nm) && decide (c.at_ = ⟨#[]⟩)
  | none => false

def MayA (x : Flt) (gone : List ByteArray) (k : Nat) : Prop := (∀ j g, j < k → gone[j]? = some g → 0 ≤ idxC x.copies g ∧ ∃ c, x.copies[(idxC x.copies g).toNat]? = some c ∧ ¬ c.at_ = ⟨#[]⟩) ∧ ∀ j s t, j + 1 < k → gone[j]? = some s → gone[j + 1]? = some t → Op.bytesLess s.toList t.toList = true

def MayC (x : Flt) (gone : List ByteArray) (k : Nat) : Prop := ∀ s y, s < k → x.services[s]? = some y → 0 < cntTo (goS x gone y.name) gone.length → ((cntTo (goS x gone y.name) gone.length : Nat) : Int) ≤ y.spare - (cntTo (waitS x y.name) x.copies.length : Nat)

end Go.Proofs.YtggbhggnemlpnaaGreat

namespace Go.Proofs.YtggbhggnemlpnaaGreat
open Go.RowKit

theorem bl_irr : ∀ x, Op.bytesLess x x = false
  | [] => rfl
  | a :: x => by simp [Op.bytesLess, bl_irr x]

theorem bl_tr : ∀ x y z, Op.bytesLess x y = true → Op.bytesLess y z = true → Op.bytesLess x z = true
  | _, _, [], _, h => by simp [Op.bytesLess] at h
  | [], _, _ :: _, _, _ => rfl
  | a :: x, [], c :: z, h, _ => by simp [Op.bytesLess] at h
  | a :: x, b :: y, c :: z, h1, h2 => by
    simp only [Op.bytesLess, Bool.or_eq_true, Bool.and_eq_true, decide_eq_true_eq, beq_iff_eq] at h1 h2 ⊢
    rcases h1 with h1 | ⟨rfl, h1⟩
    · rcases h2 with h2 | ⟨rfl, h2⟩
      · exact Or.inl (UInt8.lt_trans h1 h2)
      · exact Or.inl h1
    · rcases h2 with h2 | ⟨rfl, h2⟩
      · exact Or.inl h2
      · exact Or.inr ⟨rfl, bl_tr x y z h1 h2⟩

/-- names that ascend -/
def AscN (ns : List ByteArray) : Prop := ∀ k s t, ns[k]? = some s → ns[k + 1]? = some t → Op.bytesLess s.toList t.toList = true

theorem asc_of {α : Type} (f : α → ByteArray) (xs : List α) (h : ascTo (xs.map f) xs.length = true) : AscN (xs.map f) := by
  intro k s t hs ht
  have hlt := lt_of_some ht
  rw [List.length_map] at hlt
  have h1 := ((asc_iff f xs).1 h (k + 1) _ (List.getElem?_eq_getElem hlt)).2
  simp only [ltAt, hs, ht] at h1
  exact h1

theorem AscN.lt {ns : List ByteArray} (h : AscN ns) : ∀ d i s t, ns[i]? = some s → ns[i + d + 1]? = some t → Op.bytesLess s.toList t.toList = true
  | 0, i, s, t, hs, ht => h i s t hs ht
  | d + 1, i, s, t, hs, ht => by
    have hlt := lt_of_some ht
    have hu : ns[i + d + 1]? = some ns[i + d + 1] := List.getElem?_eq_getElem (by omega)
    exact bl_tr _ _ _ (AscN.lt h d i s _ hs hu) (h (i + d + 1) _ t hu ht)

theorem AscN.less {ns : List ByteArray} (h : AscN ns) {i j : Nat} {s t : ByteArray} (hi : ns[i]? = some s) (hj : ns[j]? = some t) (hl : i < j) : Op.bytesLess s.toList t.toList = true :=
  h.lt (j - i - 1) i s t hi (by rw [show i + (j - i - 1) + 1 = j by omega]; exact hj)

theorem AscN.inj {ns : List ByteArray} (h : AscN ns) {i j : Nat} {s : ByteArray} (hi : ns[i]? = some s) (hj : ns[j]? = some s) : i = j := by
  rcases Nat.lt_trichotomy i j with hl | hl | hl
  · have := h.less hi hj hl
    rw [bl_irr] at this
    cases this
  · exact hl
  · have := h.less hj hi hl
    rw [bl_irr] at this
    cases this

theorem AscN.less_iff {ns : List ByteArray} (h : AscN ns) {i j : Nat} {s t : ByteArray} (hi : ns[i]? = some s) (hj : ns[j]? = some t) : i < j ↔ Op.bytesLess s.toList t.toList = true := by
  constructor
  · exact h.less hi hj
  · intro hb
    rcases Nat.lt_trichotomy i j with hl | hl | hl
    · exact hl
    · subst hl
      rw [hi] at hj
      cases hj
      rw [bl_irr] at hb
      cases hb
    · have := bl_tr _ _ _ hb (h.less hj hi hl)
      rw [bl_irr] at this
      cases this

theorem AscN.last {ns : List ByteArray} (h : AscN ns) {s : ByteArray} {n k : Nat} (hk : ns[k]? = some s) (hn : k < n) : lastOf ns s n = some k := by
  cases e : lastOf ns s n with
  | none => exact absurd hk ((lastOf_none ns s n).1 e k hn)
  | some j => rw [h.inj (lastOf_get e).2 hk]

theorem idxC_some {cs : List Cpy} (h : AscN (cs.map (·.name))) {s : ByteArray} {k : Nat} (e : lastOf (cs.map (·.name)) s cs.length = some k) : idxC cs s = k ∧ ∃ c, cs[k]? = some c ∧ c.name = s := by
  obtain ⟨hk, hs⟩ := lastOf_get e
  obtain ⟨c, hc, hn⟩ := get_map hs
  refine ⟨idxC_at hc hn fun j b hj hb he => ?_, c, hc, hn⟩
  have := h.inj (map_get (f := (·.name)) hb) (show _ = some b.name by rw [he]; exact hs)
  omega

theorem idxC_no {cs : List Cpy} {s : ByteArray} (e : lastOf (cs.map (·.name)) s cs.length = none) : idxC cs s = -1 :=
  idxC_none fun j b hj hb he => (lastOf_none _ s _).1 e j hj (by rw [map_get hb, he])

theorem valid_parts {x : Flt} (h : validI x = true) : x.services.length ≤ 30 ∧ x.copies.length ≤ 60 ∧ AscN (svN x) ∧ AscN (cpN x) ∧ (∀ (k : Nat) (y : Svc), x.services[k]? = some y → 0 ≤ y.spare ∧ y.spare ≤ 60) ∧ ∀ (k : Nat) (c : Cpy), x.copies[k]? = some c → ∃ s, lastOf (svN x) c.service x.services.length = some s := by
  unfold validI at h
  simp only [Bool.and_eq_true, fewOk, ordOk, svcsOk, copiesOk, all_iff, decide_eq_true_eq] at h
  obtain ⟨⟨⟨_, h1⟩, h2⟩, ⟨⟨_, h3⟩, h4⟩, _, h5, h6, _⟩ := h
  refine ⟨h1, h2, asc_of _ _ h3, asc_of _ _ h4, fun k y hy => ?_, fun k c hc => ?_⟩
  · have := h5 k y hy
    simpa [inR] using this
  · have := h6 k c hc
    simp only [copyAt, Bool.and_eq_true] at this
    exact Option.isSome_iff_exists.1 this.1.1

theorem bool_eq_of {a b : Bool} {p : Prop} (ha : a = true ↔ p) (hb : b = true ↔ p) : a = b := by
  rw [Bool.eq_iff_iff, ha, hb]

theorem svc_iff {x : Flt} (hs : AscN (svN x)) {s : Nat} {y : Svc} (hy : x.services[s]? = some y) (n : ByteArray) : lastOf (svN x) n x.services.length = some s ↔ n = y.name := by
  constructor
  · intro e
    have := (lastOf_get e).2
    rw [map_get hy] at this
    cases this
    rfl
  · rintro rfl
    exact hs.last (map_get hy) (lt_of_some hy)

theorem wait_eq {x : Flt} (hs : AscN (svN x)) {s : Nat} {y : Svc} (hy : x.services[s]? = some y) (n : Nat) : cntTo (waitF x s) n = cntTo (waitS x y.name) n := by
  refine cntTo_congr n fun i _ => ?_
  unfold waitF waitS
  cases x.copies[i]? with
  | none => rfl
  | some c =>
    simp only [svc_iff hs hy]
    exact Bool.and_comm _ _

theorem go_eq {x : Flt} (hs : AscN (svN x)) (hc : AscN (cpN x)) {gone : List ByteArray} {pl : List Nat} (hp : PlOk (cpN x) gone gone.length pl) {s : Nat} {y : Svc} (hy : x.services[s]? = some y) : cntTo (goF x pl s) pl.length = cntTo (goS x gone y.name) gone.length := by
  rw [hp.1]
  refine cntTo_congr _ fun i hi => ?_
  obtain ⟨p, hpi, hl⟩ := hp.2 i _ hi (List.getElem?_eq_getElem hi)
  rw [List.length_map] at hl
  obtain ⟨hx, c, hcp, _⟩ := idxC_some hc hl
  unfold goF goS
  rw [hpi, List.getElem?_eq_getElem hi]
  simp only [hx, Int.toNat_natCast, hcp, svcAt, svc_iff hs hy]

theorem leave_iff {x : Flt} (hv : validI x = true) {gone : List ByteArray} {pl : List Nat} (hp : PlOk (cpN x) gone gone.length pl) : (LeaveA x pl pl.length ∧ LeaveC x pl) ↔ (MayA x gone gone.length ∧ MayC x gone x.services.length) := by
  obtain ⟨_, _, hs, hc, _, _⟩ := valid_parts hv
  have key : ∀ j g, j < gone.length → gone[j]? = some g → ∃ p c, pl[j]? = some p ∧ idxC x.copies g = p ∧ x.copies[p]? = some c ∧ c.name = g := by
    intro j g hj hg
    obtain ⟨p, h1, h2⟩ := hp.2 j g hj hg
    rw [List.length_map] at h2
    obtain ⟨h3, c, h4, h5⟩ := idxC_some hc h2
    exact ⟨p, c, h1, h3, h4, h5⟩
  have hA : LeaveA x pl pl.length ↔ MayA x gone gone.length := by
    unfold LeaveA MayA
    rw [hp.1]
    constructor
    · rintro ⟨h1, h2⟩
      refine ⟨fun j g hj hg => ?_, fun j s t hj hs' ht => ?_⟩
      · obtain ⟨p, c, e1, e2, e3, _⟩ := key j g hj hg
        refine ⟨by omega, ?_⟩
        rw [e2, Int.toNat_natCast]
        exact h1 j p hj e1
      · obtain ⟨p, c, e1, _, e3, e4⟩ := key j s (by omega) hs'
        obtain ⟨q, d, f1, _, f3, f4⟩ := key (j + 1) t hj ht
        have := (hc.less_iff (map_get (f := (·.name)) e3) (map_get (f := (·.name)) f3)).1 (h2 j p q hj e1 f1)
        rwa [e4, f4] at this
    · rintro ⟨h1, h2⟩
      refine ⟨fun j p hj hpj => ?_, fun j q p hj hq hpj => ?_⟩
      · obtain ⟨p', c, e1, e2, e3, _⟩ := key j _ hj (List.getElem?_eq_getElem hj)
        rw [hpj] at e1
        cases e1
        obtain ⟨_, h3⟩ := h1 j _ hj (List.getElem?_eq_getElem hj)
        rw [e2, Int.toNat_natCast] at h3
        exact h3
      · have hj0 : j < gone.length := by omega
        obtain ⟨p', c, e1, _, e3, e4⟩ := key j _ hj0 (List.getElem?_eq_getElem hj0)
        obtain ⟨q', d, f1, _, f3, f4⟩ := key (j + 1) _ hj (List.getElem?_eq_getElem hj)
        rw [hq] at e1
        rw [hpj] at f1
        cases e1
        cases f1
        refine (hc.less_iff (map_get (f := (·.name)) e3) (map_get (f := (·.name)) f3)).2 ?_
        rw [e4, f4]
        exact h2 j _ _ hj (List.getElem?_eq_getElem hj0) (List.getElem?_eq_getElem hj)
  have hC : LeaveC x pl ↔ MayC x gone x.services.length := by
    unfold LeaveC MayC spareI
    constructor
    · intro h s y hsl hy h0
      have h1 := h s hsl
      rw [go_eq hs hc hp hy, wait_eq hs hy] at h1
      simp only [spareOf, hy] at h1
      exact h1 h0
    · intro h s hsl h0
      have hy : x.services[s]? = some x.services[s] := List.getElem?_eq_getElem hsl
      rw [go_eq hs hc hp hy] at h0 ⊢
      rw [wait_eq hs hy]
      simp only [spareOf, hy]
      exact h s _ hsl hy h0
  rw [hA, hC]

theorem no_place {x : Flt} {gone : List ByteArray} {j : Nat} {g : ByteArray} (hg : gone[j]? = some g) (hl : lastOf (cpN x) g (cpN x).length = none) : ¬ MayA x gone gone.length := by
  intro h
  have := (h.1 j g (lt_of_some hg) hg).1
  rw [List.length_map] at hl
  rw [idxC_no hl] at this
  omega

end Go.Proofs.YtggbhggnemlpnaaGreat
