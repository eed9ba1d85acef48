/-
  Where a copy is in a stewards' book, by the specification. Made by mkst7.py.
-/
import Derived.Test.YtfbmljdlkgiliaaGreatSt6
namespace Go.Proofs.YtfbmljdlkgiliaaGreat
open Go.RowKit

def isC (s : ByteArray) (n : Int) (c : Scp) : Bool := decide (c.service = s) && decide (c.number = n)
def idxC (l : List Scp) (s : ByteArray) (n : Int) : Int := match l.findIdx? (isC s n) with
  | some k => (k : Int)
  | none => -1

theorem idxC_at {l : List Scp} {s : ByteArray} {n : Int} {k : Nat} {c : Scp} (hk : l[k]? = some c) (h : isC s n c = true) (ho : ∀ j c, j < k → l[j]? = some c → isC s n c = false) : idxC l s n = k := by
  have : l.findIdx? (isC s n) = some k := by
    rw [List.findIdx?_eq_some_iff_getElem]
    obtain ⟨hlt, e⟩ := List.getElem?_eq_some_iff.1 hk
    refine ⟨hlt, by rw [e]; exact h, fun j hj => ?_⟩
    have := ho j l[j] hj (List.getElem?_eq_getElem (by omega))
    simpa using this
  simp [idxC, this]

theorem idxC_none {l : List Scp} {s : ByteArray} {n : Int} (ho : ∀ j c, j < l.length → l[j]? = some c → isC s n c = false) : idxC l s n = -1 := by
  have : l.findIdx? (isC s n) = none := by
    rw [List.findIdx?_eq_none_iff]
    intro c hc
    obtain ⟨j, hj⟩ := List.getElem?_of_mem hc
    exact ho j c (lt_of_some hj) hj
  simp [idxC, this]

theorem idxC_cases (l : List Scp) (s : ByteArray) (n : Int) : (idxC l s n = -1 ∧ l.find? (isC s n) = none) ∨ ∃ (k : Nat) (c : Scp), idxC l s n = (k : Int) ∧ l[k]? = some c ∧ l.find? (isC s n) = some c := by
  cases h : l.findIdx? (isC s n) with
  | none =>
    refine .inl ⟨by unfold idxC; rw [h], ?_⟩
    rw [List.find?_eq_none]
    intro b hb
    have := List.findIdx?_eq_none_iff.1 h b hb
    simpa using this
  | some k =>
    obtain ⟨hk, h1, h2⟩ := List.findIdx?_eq_some_iff_getElem.1 h
    refine .inr ⟨k, l[k], by unfold idxC; rw [h], List.getElem?_eq_getElem hk, ?_⟩
    rw [List.find?_eq_some_iff_getElem]
    exact ⟨h1, k, hk, rfl, fun j hj => by have := h2 j hj; simpa using this⟩

end Go.Proofs.YtfbmljdlkgiliaaGreat
