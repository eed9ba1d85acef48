/-
  A mate that rises, both sides. Made by mkris.py.
-/
import Derived.Test.YtlegklkbmifdeaaAv5
import Derived.Test.YtlegklkbmifdeaaLcp
namespace Go.Proofs.Ytlegklkbmifdeaa
open Go.RowKit

def noMte : Mte := ⟨⟨#[]⟩, false, 0, false, 0, [], [], [], []⟩
def riU (x : Mte) : Bool := x.up || decide (x.clock < 1000000)
def rise (x : Mte) : Mte := if mvB x = true then { x with up := riU x } else noMte

theorem und_none {h : Nat} : Und none h := fun _ _ _ e => by cases e

theorem Keeps.lower {lo lo' : Nat} {w w' : World} (k : Keeps lo w w') (h : lo ≤ lo') : Keeps lo' w w' := ⟨k.1, fun b o h1 h2 => k.2 b o (Nat.le_trans h h1) h2⟩

theorem G4.keep {x : Mte} {lo hi : Nat} {b5 b6 b7 b8 : Option Addr} {w w' : World} (h : G4 x lo hi b5 b6 b7 b8 w) (k : Keeps lo w w') : G4 x lo hi b5 b6 b7 b8 w' := by
  obtain ⟨h5, h6, h7, l5, l6, l7, l8, l9, u5, u6, u7, u8, s5, s6, s7, s8⟩ := h
  exact ⟨h5, h6, h7, l5, l6, l7, l8, Nat.le_trans l9 k.1, u5, u6, u7, u8, s5.keep WntC.holds k (Nat.le_refl _), s6.keep RnC.holds (k.lower (by omega)) (Nat.le_refl _), s7.keep AksC.holds (k.lower (by omega)) (Nat.le_refl _), s8.keep AksC.holds (k.lower (by omega)) (Nat.le_refl _)⟩

theorem G4.widen {x : Mte} {lo lo' hi hi' : Nat} {b5 b6 b7 b8 : Option Addr} {w : World} (h : G4 x lo hi b5 b6 b7 b8 w) (hl : lo' ≤ lo) (hh : hi ≤ hi') (hw : hi' ≤ w.heap.size) : G4 x lo' hi' b5 b6 b7 b8 w := by
  obtain ⟨h5, h6, h7, l5, l6, l7, l8, l9, u5, u6, u7, u8, s5, s6, s7, s8⟩ := h
  exact ⟨h5, h6, h7, by omega, l6, l7, by omega, hw, u5, u6, u7, u8.mono hh, s5.keep WntC.holds (Keeps.refl _ _) hl, s6, s7, s8⟩

theorem MSv.below {x : Mte} {lo B : Nat} {a5 a6 a7 a8 : Option Addr} {w w' : World} (h : MSv x lo a5 a6 a7 a8 w) (hb : Below B w w') (hB : w.heap.size ≤ B) : MSv x lo a5 a6 a7 a8 w' :=
  ⟨h.s5.below WntC.holds hb hB, h.s6.below RnC.holds hb hB, h.s7.below AksC.holds hb hB, h.s8.below AksC.holds hb hB, h.p5, h.p6, h.p7, h.p8⟩

theorem MSv.upd {x : Mte} {u : Bool} {lo : Nat} {a5 a6 a7 a8 : Option Addr} {w : World} (h : MSv x lo a5 a6 a7 a8 w) : MSv { x with up := u } lo a5 a6 a7 a8 w := ⟨h.s5, h.s6, h.s7, h.s8, h.p5, h.p6, h.p7, h.p8⟩
theorem MSz.upd {x : Mte} {u : Bool} (h : MSz x) : MSz { x with up := u } := ⟨h.nm, h.z5, h.z6, h.z7, h.z8, h.l5, h.l6, h.l7, h.l8⟩

theorem ms_all {x : Mte} {lo : Nat} {a5 a6 a7 a8 : Option Addr} {w : World} (m : MSz x) (h : MSv x lo a5 a6 a7 a8 w) : MSl x lo a5 a6 a7 a8 w :=
  ⟨by have := m.nm; unfold maxLen; omega, h.s5, h.s6, h.s7, h.s8, m.l5, m.l6, m.l7, m.l8⟩

end Go.Proofs.Ytlegklkbmifdeaa
