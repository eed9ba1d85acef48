/-
  Rows of cells. Made by mkrw.py.
-/
import Derived.Test.YtlegklkbmifdeaaNw
import Derived.Lib.Walk
import Derived.Lib.SliceRun
namespace Go.Proofs.Ytlegklkbmifdeaa
open Go.RowKit

theorem setRun_app : ∀ (vs a b : List Value) (o : Nat), a.length ≤ o → setRun (a ++ b) o vs = a ++ setRun b (o - a.length) vs
  | [], _, _, _, _ => rfl
  | v :: vs, a, b, o, h => by
    simp only [setRun]
    rw [List.set_append_right _ _ h, setRun_app vs a _ (o + 1) (by omega), show o + 1 - a.length = o - a.length + 1 by omega]

theorem rowb {base g cap n : Nat} {w : World} {e : TypeId} {s : Nat} {cs : List Value} (h : w.ownsRow base e s (.slice (some ⟨g, 0, none⟩) n cap) n cs) : base ≤ g := by
  rcases h.2 with ⟨h1, _⟩ | ⟨g', cap', cur, h1, h2, _⟩
  · cases h1
  · cases h1; exact h2

theorem rowf {base n : Nat} {w : World} {e : TypeId} {s : Nat} {cs : List Value} {v : Value} (h : w.ownsRow base e s v n cs) (hn : v ≠ .slice none 0 0) : ∃ g cap, v = .slice (some ⟨g, 0, none⟩) n cap := by
  rcases h.2 with ⟨h1, _⟩ | ⟨g', cap', cur, h1, _⟩
  · exact absurd h1 hn
  · exact ⟨g', cap', h1⟩

end Go.Proofs.Ytlegklkbmifdeaa
