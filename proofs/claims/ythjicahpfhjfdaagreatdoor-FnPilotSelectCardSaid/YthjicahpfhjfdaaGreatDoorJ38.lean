/-
  Several texts in one: Sel, Va2, Va3, Va4, Mk3, Sm2.
-/
import Derived.Test.YthjicahpfhjfdaaGreatDoorJ37
import Derived.Test.YthjicahpfhjfdaaGreatDoorJ31
import Derived.Test.YthjicahpfhjfdaaGreatDoorJ32
import Derived.Deep.RegionHeld3
import Derived.Laws.Cover1
import Derived.Test.YthjicahpfhjfdaaGreatDoorJ35
namespace Go.Proofs.YthjicahpfhjfdaaGreatDoor
open Go.RowKit Go.WideMaps Go.Maps

/-- whether a berth is as a text asks, by the specification -/
def selS (t : ByteArray) (ms : List ByteArray) (z : ByteArray) : Bool := decide (codeOf t = 0) && meetsS (zMarks ms z) (treeOf t)

theorem sel_nodes {t : ByteArray} (h : codeOf t = 0) : 0 < (nodesOf t).length ∧ Small (nodesOf t) ∧ ∀ ms, meetsNs (nodesOf t) ms = meetsS ms (treeOf t) := by
  obtain ⟨hw, hn, h20, hc⟩ := tree_facts h
  rw [nodesOf_yes h rfl]
  rcases hn with e | hn
  · rw [e]
    refine ⟨by decide, ⟨by decide, ?_⟩, fun ms => rfl⟩
    intro n hn
    simp [post, P.nonT] at hn
    subst hn
    exact ⟨Nat.zero_le _, Nat.zero_le _⟩
  · have hv := valid_post hw hn (by omega)
    have ht := treeI_post hw hn
    rw [decide_eq_true h20] at hv
    rw [if_pos h20] at ht
    refine ⟨?_, ⟨?_, ?_⟩, fun ms => ?_⟩
    · rw [post_len _ hw]
      rcases P.wf_cases hw with e | ⟨n, e⟩ | ⟨n, v, e⟩ | ⟨k, _, e⟩ | ⟨a, b, _, _, e⟩ | ⟨a, b, _, _, e⟩
      · rw [e]; decide
      · rw [e]; exact Nat.one_pos
      · rw [e]; exact Nat.one_pos
      · rw [e, P.count_nt]; omega
      · rw [e, P.count_an]; omega
      · rw [e, P.count_or]; omega
    · rw [post_len _ hw]; omega
    · intro n hm
      have := post_small _ hw hn n hm
      omega
    · rw [meetsNs, hv, ht]
      rfl

/-- the cells of a berth, and of a select -/
def SevC (p q : Nat) (c0 c1 c2 c3 c4 c5 c6 : Value) (w : World) : Prop := w.cell? ⟨p, 0, none⟩ = some c0 ∧ w.cell? ⟨p, 1, none⟩ = some c1 ∧ w.cell? ⟨p, 2, none⟩ = some c2 ∧ w.cell? ⟨p, 3, none⟩ = some c3 ∧ w.cell? ⟨p, 4, none⟩ = some c4 ∧ w.cell? ⟨p, 5, none⟩ = some c5 ∧ w.cell? ⟨q, 0, none⟩ = some c6

theorem SevC.below {p q : Nat} {c0 c1 c2 c3 c4 c5 c6 : Value} {w w' : World} (h : SevC p q c0 c1 c2 c3 c4 c5 c6 w) (hb : Below w.heap.size w w') : SevC p q c0 c1 c2 c3 c4 c5 c6 w' := by
  obtain ⟨h0, h1, h2, h3, h4, h5, h6⟩ := h
  exact ⟨(hb.cell (p := ⟨p, 0, none⟩) (block_lt_of_cell h0)).trans h0, (hb.cell (p := ⟨p, 1, none⟩) (block_lt_of_cell h1)).trans h1, (hb.cell (p := ⟨p, 2, none⟩) (block_lt_of_cell h2)).trans h2, (hb.cell (p := ⟨p, 3, none⟩) (block_lt_of_cell h3)).trans h3, (hb.cell (p := ⟨p, 4, none⟩) (block_lt_of_cell h4)).trans h4, (hb.cell (p := ⟨p, 5, none⟩) (block_lt_of_cell h5)).trans h5, (hb.cell (p := ⟨q, 0, none⟩) (block_lt_of_cell h6)).trans h6⟩

end Go.Proofs.YthjicahpfhjfdaaGreatDoor

namespace Go.Proofs.YthjicahpfhjfdaaGreatDoor
open Go.RowKit

/-- what can be asked of a copy alone -/
def copyOk (x : Cpy) : Bool :=
  inR x.rank 0 100 && inR x.born 0 1000000 && inR x.room 0 1000 && inR x.hold 0 1000 && decide (codeOf x.select = 0) && likesOk x.likes && inR x.apart 0 2 && nameOrNone x.near && nameOrNone x.fixed

theorem range_belowV {w w' : World} {g o B : Nat} {l : List Value} (h : w.rangeAt g o l) (hb : Below B w w') (hB : g < B) : w'.rangeAt g o l := by
  intro j v hj
  rw [hb.cell (p := ⟨g, _, none⟩) hB]
  exact h j v hj

end Go.Proofs.YthjicahpfhjfdaaGreatDoor

namespace Go.Proofs.YthjicahpfhjfdaaGreatDoor
open Go.RowKit

/-- the name at a place is one, and stands behind the name ahead of it -/
def ascAt (ns : List ByteArray) : Nat → Bool
  | 0 => match ns[0]? with
    | none => true
    | some s => P.nameOk s
  | m + 1 => match ns[m + 1]?, ns[m]? with
    | some s, some t => P.nameOk s && Op.bytesLess t.toList s.toList
    | _, _ => true

def ascTo (ns : List ByteArray) : Nat → Bool
  | 0 => true
  | k + 1 => ascTo ns k && ascAt ns k

theorem ascTo_false {ns : List ByteArray} {k : Nat} (h : ascAt ns k = false) : ∀ n, k < n → ascTo ns n = false
  | 0, hn => absurd hn (Nat.not_lt_zero _)
  | n + 1, hn => by
    by_cases e : k = n
    · subst e; simp only [ascTo, h, Bool.and_false]
    · simp only [ascTo, ascTo_false h n (by omega), Bool.false_and]

theorem ascAt_bad {ns : List ByteArray} {k : Nat} {s : ByteArray} (h : ns[k]? = some s) (hn : P.nameOk s = false) : ascAt ns k = false := by
  cases k with
  | zero => simp only [ascAt, h, hn]
  | succ m =>
    have hl : m + 1 < ns.length := (List.getElem?_eq_some_iff.mp h).1
    have : ns[m]? = some ns[m] := List.getElem?_eq_getElem (by omega)
    simp only [ascAt, h, this, hn, Bool.false_and]

theorem range_drew {w : World} {g o : Nat} {l : List Value} (h : w.rangeAt g o l) : w.drew.rangeAt g o l := by
  intro j v hj
  have := h j v hj
  simpa using this

end Go.Proofs.YthjicahpfhjfdaaGreatDoor

namespace Go.Proofs.YthjicahpfhjfdaaGreatDoor
open Go.RowKit

/-- a fleet that is found: its first four cells -/
def FndIn (p : Nat) (x : Flt) (a1 : Option Addr) (c1 : Nat) (a2 : Option Addr) (c2 : Nat) (a3 : Option Addr) (c3 : Nat) (w : World) : Prop :=
  w.cell? ⟨p, 1, none⟩ = some (.slice a1 x.berths.length c1) ∧ w.cell? ⟨p, 2, none⟩ = some (.slice a2 x.services.length c2) ∧ w.cell? ⟨p, 3, none⟩ = some (.slice a3 x.copies.length c3)

theorem FndIn.below {p : Nat} {x : Flt} {a1 : Option Addr} {c1 : Nat} {a2 : Option Addr} {c2 : Nat} {a3 : Option Addr} {c3 : Nat} {w w' : World} {B : Nat} (h : FndIn p x a1 c1 a2 c2 a3 c3 w) (hb : Below B w w') (hB : p < B) : FndIn p x a1 c1 a2 c2 a3 c3 w' :=
  ⟨(hb.cell (p := ⟨p, 1, none⟩) hB).trans h.1, (hb.cell (p := ⟨p, 2, none⟩) hB).trans h.2.1, (hb.cell (p := ⟨p, 3, none⟩) hB).trans h.2.2⟩

def fewOk (x : Flt) : Bool := decide (x.berths.length ≤ 12) && decide (x.services.length ≤ 30) && decide (x.copies.length ≤ 60)

def ordOk (x : Flt) : Bool := ascTo (x.berths.map (·.name)) x.berths.length && ascTo (x.services.map (·.name)) x.services.length && ascTo (x.copies.map (·.name)) x.copies.length

def svcsOk (xs : List Svc) : Bool := xs.all fun s => inR s.spare 0 60

end Go.Proofs.YthjicahpfhjfdaaGreatDoor

namespace Go.Proofs.YthjicahpfhjfdaaGreatDoor
open Go.RowKit Go.WideMaps Go.Maps

/-- the mark at a place is one, stands behind the one ahead of it, and has a name of its own -/
def mkAt (ms : List ByteArray) : Nat → Bool
  | 0 => match ms[0]? with
    | none => true
    | some m => isMk m && decide (cntOf (mName m) (keysR ms ms.length) ≤ 1)
  | j + 1 => match ms[j + 1]?, ms[j]? with
    | some m, some t => isMk m && Op.bytesLess t.toList m.toList && decide (cntOf (mName m) (keysR ms ms.length) ≤ 1)
    | _, _ => true

def mkTo (ms : List ByteArray) : Nat → Bool
  | 0 => true
  | k + 1 => mkTo ms k && mkAt ms k

def mkOk (ms : List ByteArray) : Bool := decide (ms.length ≤ 10) && mkTo ms ms.length

theorem mkTo_false {ms : List ByteArray} {k : Nat} (h : mkAt ms k = false) : ∀ n, k < n → mkTo ms n = false
  | 0, hn => absurd hn (Nat.not_lt_zero _)
  | n + 1, hn => by
    by_cases e : k = n
    · subst e; simp only [mkTo, h, Bool.and_false]
    · simp only [mkTo, mkTo_false h n (by omega), Bool.false_and]

theorem mkTo_step {ms : List ByteArray} {k : Nat} (h : mkTo ms k = true) (h' : mkAt ms k = true) : mkTo ms (k + 1) = true := by
  simp only [mkTo, h, h', Bool.and_self]

theorem mkOk_false {ms : List ByteArray} {k : Nat} (h : mkAt ms k = false) (hk : k < ms.length) : mkOk ms = false := by
  simp only [mkOk, mkTo_false h _ hk, Bool.and_false]

end Go.Proofs.YthjicahpfhjfdaaGreatDoor

namespace Go.Proofs.YthjicahpfhjfdaaGreatDoor
open Go.RowKit

/-- none of the first names is this one -/
def freshTo (ms : List ByteArray) (nm : ByteArray) : Nat → Bool
  | 0 => true
  | j + 1 => freshTo ms nm j && (match ms[j]? with
    | some t => !decide (mName t = nm)
    | none => true)

def smAt (ms : List ByteArray) : Nat → Bool
  | 0 => match ms[0]? with
    | none => true
    | some m => isMk m
  | j + 1 => match ms[j + 1]?, ms[j]? with
    | some m, some t => isMk m && Op.bytesLess t.toList m.toList && !decide (mName m = mName t) && freshTo ms (mName m) (j + 1)
    | _, _ => true

def smTo (ms : List ByteArray) : Nat → Bool
  | 0 => true
  | k + 1 => smTo ms k && smAt ms k

def smOk (ms : List ByteArray) : Bool := decide (ms.length ≤ 10) && smTo ms ms.length

theorem smTo_false {ms : List ByteArray} {k : Nat} (h : smAt ms k = false) : ∀ n, k < n → smTo ms n = false
  | 0, hn => absurd hn (Nat.not_lt_zero _)
  | n + 1, hn => by
    by_cases e : k = n
    · subst e; simp only [smTo, h, Bool.and_false]
    · simp only [smTo, smTo_false h n (by omega), Bool.false_and]

theorem smOk_false {ms : List ByteArray} {k : Nat} (h : smAt ms k = false) (hk : k < ms.length) : smOk ms = false := by
  simp only [smOk, smTo_false h _ hk, Bool.and_false]

theorem smTo_step {ms : List ByteArray} {k : Nat} (h : smTo ms k = true) (h' : smAt ms k = true) : smTo ms (k + 1) = true := by
  simp only [smTo, h, h', Bool.and_self]

theorem fresh_false {ms : List ByteArray} {nm : ByteArray} {q : Nat} {t : ByteArray} (h : ms[q]? = some t) (h' : mName t = nm) : ∀ n, q < n → freshTo ms nm n = false
  | 0, hn => absurd hn (Nat.not_lt_zero _)
  | n + 1, hn => by
    by_cases e : q = n
    · subst e; simp only [freshTo, h, h', decide_true, Bool.not_true, Bool.and_false]
    · simp only [freshTo, fresh_false h h' n (by omega), Bool.false_and]

theorem fresh_step {ms : List ByteArray} {nm : ByteArray} {q : Nat} {t : ByteArray} (h : freshTo ms nm q = true) (ht : ms[q]? = some t) (h' : ¬ mName t = nm) : freshTo ms nm (q + 1) = true := by
  simp only [freshTo, h, ht, h', decide_false, Bool.not_false, Bool.and_self]

/-- what the first test of a mark asks -/
def smBad (ms : List ByteArray) (k : Nat) (m L : ByteArray) : Bool :=
  !isMk m || (match k with
    | 0 => false
    | j + 1 => match ms[j]? with
      | some t => !Op.bytesLess t.toList m.toList || decide (mName m = L)
      | none => false)

theorem smBad_mk {ms : List ByteArray} {k : Nat} {m L : ByteArray} (h : isMk m = false) : smBad ms k m L = true := by simp [smBad, h]
theorem smBad_zero {ms : List ByteArray} {m L : ByteArray} (h : isMk m = true) : smBad ms 0 m L = false := by simp [smBad, h]
theorem smBad_succ {ms : List ByteArray} {j k : Nat} {m L t : ByteArray} (h : isMk m = true) (hk : k = j + 1) (ht : ms[j]? = some t) : smBad ms k m L = (!Op.bytesLess t.toList m.toList || decide (mName m = L)) := by
  subst hk
  simp only [smBad, h, ht, Bool.not_true, Bool.false_or]

theorem smBad_true_at {ms : List ByteArray} {k : Nat} {m L : ByteArray} (hx : ms[k]? = some m) (hl : ∀ j t, k = j + 1 → ms[j]? = some t → L = mName t) (hlt : k < ms.length) (h1 : smBad ms k m L = true) : smAt ms k = false := by
  cases k with
  | zero => cases hi : isMk m with
    | false => simp only [smAt, hx, hi]
    | true => rw [smBad_zero hi] at h1; cases h1
  | succ j =>
    obtain ⟨t, htt⟩ : ∃ t, ms[j]? = some t := ⟨ms[j], List.getElem?_eq_getElem (by omega)⟩
    have hlt' := hl j t rfl htt
    subst hlt'
    simp only [smAt, hx, htt]
    cases hi : isMk m with
    | false => simp
    | true =>
      rw [smBad_succ hi rfl htt] at h1
      cases hbl : Op.bytesLess t.toList m.toList with
      | false => simp
      | true =>
        rw [hbl] at h1
        simp at h1
        simp [h1]

theorem smBad_false_at {ms : List ByteArray} {k : Nat} {m L : ByteArray} (hx : ms[k]? = some m) (hl : ∀ j t, k = j + 1 → ms[j]? = some t → L = mName t) (hlt : k < ms.length) (h1 : smBad ms k m L = false) (hf : freshTo ms (mName m) k = true) : smAt ms k = true := by
  cases hi : isMk m with
  | false => rw [smBad_mk hi] at h1; cases h1
  | true =>
  cases k with
  | zero => simp only [smAt, hx, hi]
  | succ j =>
    obtain ⟨t, htt⟩ : ∃ t, ms[j]? = some t := ⟨ms[j], List.getElem?_eq_getElem (by omega)⟩
    have hlt' := hl j t rfl htt
    subst hlt'
    rw [smBad_succ hi rfl htt] at h1
    simp only [smAt, hx, htt, hi, hf]
    simp at h1
    simp [h1]

theorem fresh_false_at {ms : List ByteArray} {k : Nat} {m : ByteArray} (hx : ms[k]? = some m) (hlt : k < ms.length) (hf : freshTo ms (mName m) k = false) : smAt ms k = false := by
  cases k with
  | zero => simp [freshTo] at hf
  | succ j =>
    obtain ⟨t, htt⟩ : ∃ t, ms[j]? = some t := ⟨ms[j], List.getElem?_eq_getElem (by omega)⟩
    simp only [smAt, hx, htt, hf, Bool.and_false]

end Go.Proofs.YthjicahpfhjfdaaGreatDoor
