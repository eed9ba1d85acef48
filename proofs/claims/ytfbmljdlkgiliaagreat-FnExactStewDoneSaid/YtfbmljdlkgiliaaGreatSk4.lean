/-
  Some of a service's copies; what is desired, by the specification. Made by mksk4.py.
-/
import Derived.Test.YtfbmljdlkgiliaaGreatSk3
namespace Go.Proofs.YtfbmljdlkgiliaaGreat
open Go.RowKit

/-- copies that are old, failed, or on berths that are to be drained -/
def someB (x : Sbk) (v : Ssv) (k : Int) (c : Scp) : Bool := if k = 2 then c.image != v.image else if k = 6 then drB x c else c.state == 4
def someL (x : Sbk) (v : Ssv) (k : Int) : List Nat := (liveL x v.name).filter (fun i => someB x v k (cAt x i))

theorem pls_grown {lo gl : Nat} {w w' : World} {row : Option Nat} {l : List Nat} (h : Pls lo w (some ⟨gl, 0, none⟩) l) (hg : w.grownBy w' row) (hne : some gl ≠ row) : Pls lo w' (some ⟨gl, 0, none⟩) l := by
  obtain ⟨h1, h2⟩ := h
  rcases h2 with e | ⟨b, o, ea, ⟨hlo, hfz⟩, hbl, hc⟩
  · exact ⟨h1, .inl e⟩
  · cases ea
    refine ⟨h1, .inr ⟨gl, 0, rfl, ⟨hlo, fun hp p => (hg.frozen_far ⟨gl, p, none⟩ hbl hne).trans (hfz hp p)⟩, Nat.lt_of_lt_of_le hbl hg.size, fun j x hj => ?_⟩⟩
    exact (hg.cell_far ⟨gl, 0 + j * 1 + 0, none⟩ hbl hne).trans (hc j x hj)

end Go.Proofs.YtfbmljdlkgiliaaGreat
