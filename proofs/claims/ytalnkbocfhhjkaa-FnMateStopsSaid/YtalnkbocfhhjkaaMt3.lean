/-
  Checks in a list, asked in turn; a want by the program. Made by mkmt3.py.
-/
import Derived.Test.YtalnkbocfhhjkaaMt2
import Derived.Deep.RegionHeld3
import Derived.Shelf.Abstract
namespace Go.Proofs.Ytalnkbocfhhjkaa
open Go.RowKit

theorem range_drew {w : World} {g o : Nat} {l : List Value} (h : w.rangeAt g o l) : w.drew.rangeAt g o l := by
  intro j v hj
  have := h j v hj
  simpa using this

theorem range_belowV {w w' : World} {g o B : Nat} {l : List Value} (h : w.rangeAt g o l) (hb : Below B w w') (hB : g < B) : w'.rangeAt g o l := by
  intro j v hj
  rw [hb.cell (p := ⟨g, _, none⟩) hB]
  exact h j v hj

/-- all hold; a check: its function, whether it holds -/
def allR (rs : List (Nat × Bool)) : Bool := rs.all (·.2)

theorem allR_no {rs : List (Nat × Bool)} {k : Nat} {r : Nat × Bool} (h : rs[k]? = some r) (hr : r.2 = false) : allR rs = false := by
  unfold allR
  rw [List.all_eq_false]
  exact ⟨r, List.mem_of_getElem? h, by simp [hr]⟩

theorem allR_yes {rs : List (Nat × Bool)} (h : ∀ (j : Nat) q, j < rs.length → rs[j]? = some q → q.2 = true) : allR rs = true := by
  unfold allR
  rw [List.all_eq_true]
  intro r hr
  obtain ⟨j, hj, e⟩ := List.getElem_of_mem hr
  exact h j r hj (by rw [List.getElem?_eq_getElem hj, e])

/-- the cells of a list of checks -/
def ChkIn (g : Nat) (rs : List (Nat × Bool)) (w : World) : Prop := ∀ (k : Nat) r, rs[k]? = some r → w.cell? ⟨g, k, none⟩ = some (.func (.func r.1) #[] #[])

end Go.Proofs.Ytalnkbocfhhjkaa
