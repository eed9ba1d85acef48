/-
  A block of cells, written whole.
-/
import Derived.Test.YtlegklkbmifdeaaBlk
import Derived.RangeFuncRecord
namespace Go.Proofs.Ytlegklkbmifdeaa
open Go.RowKit

def setRow (cs : Array Value) : Nat → List Value → Array Value
  | _, [] => cs
  | o, v :: r => setRow (cs.setIfInBounds o v) (o + 1) r

theorem take_set_succ (v : Value) : ∀ (l : List Value) (o : Nat), o < l.length → (l.set o v).take (o + 1) = l.take o ++ [v]
  | [], _, h => by simp at h
  | a :: l, 0, _ => by simp
  | a :: l, o + 1, h => by
    have ih := take_set_succ v l o (by simpa using h)
    simp [ih]

theorem setRow_list : ∀ (vs : List Value) (cs : Array Value) (o : Nat), o + vs.length = cs.size → (setRow cs o vs).toList = cs.toList.take o ++ vs
  | [], cs, o, h => by
    have : cs.toList.length ≤ o := by simp at h; simp; omega
    simp [setRow, List.take_of_length_le this]
  | v :: r, cs, o, h => by
    have h' : o + (r.length + 1) = cs.size := by simpa using h
    have ih := setRow_list r (cs.setIfInBounds o v) (o + 1) (by simp; omega)
    simp only [setRow]
    rw [ih, Array.toList_setIfInBounds, take_set_succ v _ _ (by simp; omega)]
    simp

theorem setRow_all (vs : List Value) (cs : Array Value) (h : vs.length = cs.size) : setRow cs 0 vs = vs.toArray := by
  have := setRow_list vs cs 0 (by omega)
  apply Array.toList_inj.1
  rw [this]
  simp

theorem Blk.setRow {g : Nat} {t : TypeId} : ∀ (vs : List Value) (o : Nat) (cs : Array Value) (w : World), Blk g cs t w → Blk g (setRow cs o vs) t (w.setCells g o vs)
  | [], _, _, _, h => h
  | v :: r, o, _, _, h => Blk.setRow r (o + 1) _ _ (h.set o v)

theorem Blk.setAll {g : Nat} {cs : Array Value} {t : TypeId} {w : World} (h : Blk g cs t w) (vs : Array Value) (hl : vs.size = cs.size) : Blk g vs t (w.setCells g 0 vs.toList) := by
  have := h.setRow vs.toList 0
  rw [setRow_all vs.toList cs (by simpa using hl)] at this
  simpa using this

theorem Blk.grown {g : Nat} {cs : Array Value} {t : TypeId} {w w' : World} {row : Option Nat} (h : Blk g cs t w) (hg : w.grownBy w' row) (hr : some g ≠ row) : Blk g cs t w' := (hg.block g h.lt hr).trans h

theorem blk_setCells_other {g b : Nat} {cs : Array Value} {t : TypeId} (hne : g ≠ b) : ∀ (vs : List Value) (o : Nat) (w : World), Blk g cs t w → Blk g cs t (w.setCells b o vs)
  | [], _, _, h => h
  | v :: r, o, _, h => blk_setCells_other hne r (o + 1) _ (h.other (a := ⟨b, o, none⟩) hne v)

end Go.Proofs.Ytlegklkbmifdeaa
