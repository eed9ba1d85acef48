/-
  What came in, opened: grants, places, books. Made by mkopl.py.
-/
import Derived.Test.YtnhmhnlekagloaaLnd
import Derived.Test.YtnhmhnlekagloaaOpm
namespace Go.Proofs.Ytnhmhnlekagloaa
open Go.RowKit

section
variable {H : Type} {enc : TypeId × Value → H} {w : World} {base : Nat} {spare : Nat → Bool} {held : Bool}

theorem c1_sWnt : Try.prog.cellsOf 52 = 1 := by kernel_rfl
theorem c1_sGrt : Try.prog.cellsOf 22 = 1 := by kernel_rfl
theorem c1_sPlm : Try.prog.cellsOf 23 = 1 := by kernel_rfl
theorem cn_Grt : Try.prog.cellsOf 50 = 5 := by kernel_rfl
theorem cn_Plm : Try.prog.cellsOf 54 = 3 := by kernel_rfl
theorem cn_Lnd : Try.prog.cellsOf 25 = 3 := by kernel_rfl

theorem list3 {cs : List Value} (h : cs.length = 3) : ∃ c0 c1 c2, cs = [c0, c1, c2] := by
  match cs, h with
  | [c0, c1, c2], _ => exact ⟨_, _, _, rfl⟩

theorem list5 {cs : List Value} (h : cs.length = 5) : ∃ c0 c1 c2 c3 c4, cs = [c0, c1, c2, c3, c4] := by
  match cs, h with
  | [c0, c1, c2, c3, c4], _ => exact ⟨_, _, _, _, _, rfl⟩

theorem parts3 {P : Program} {t : TypeId} {f0 f1 f2 : Field} {fuel : Nat} {cs : List Value} {x : DataW H × List MemPlace} (ht : P.underlying t = some (.struct #[f0, f1, f2])) (h : DataW.trod enc P w base spare held fuel t cs = some x) :
    cs.length = P.cellsOf t ∧ ∃ n, (∃ y, DataW.trod enc P w base spare held n f0.type ((cs.drop f0.offset).take (P.cellsOf f0.type)) = some y) ∧ (∃ y, DataW.trod enc P w base spare held n f1.type ((cs.drop f1.offset).take (P.cellsOf f1.type)) = some y) ∧ (∃ y, DataW.trod enc P w base spare held n f2.type ((cs.drop f2.offset).take (P.cellsOf f2.type)) = some y) := by
  obtain ⟨xs, n, _, _, hl, hlen, hf⟩ := DataW.trod_struct ht h
  exact ⟨hl, n, field_of hlen hf 0 f0 rfl, field_of hlen hf 1 f1 rfl, field_of hlen hf 2 f2 rfl⟩

theorem open_Grt {fuel : Nat} {cs : List Value} {y : DataW H × List MemPlace} (h : DataW.trod enc Try.prog w base spare held fuel 50 cs = some y) : cs.length = 5 ∧ ∃ x : Grt, GrtC 0 w (fun j => cs[j]?) x := by
  obtain ⟨hl, n, HP⟩ := parts5 Try.underlying50 h
  rw [cn_Grt] at hl
  refine ⟨hl, ?_⟩
  obtain ⟨c0, c1, c2, c3, c4, rfl⟩ := list5 hl
  obtain ⟨⟨_, h0⟩, ⟨_, h1⟩, ⟨_, h2⟩, ⟨_, h3⟩, ⟨_, h4⟩⟩ := HP
  simp only [c1_int, c1_str] at h0 h1 h2 h3 h4
  obtain ⟨v0, e0, _, s0⟩ := DataW.trod_string Try.underlying9 h0
  obtain ⟨v1, e1, _, s1⟩ := DataW.trod_string Try.underlying9 h1
  obtain ⟨v2, e2, _, s2⟩ := DataW.trod_string Try.underlying9 h2
  obtain ⟨v3, e3, _, _⟩ := DataW.trod_int Try.underlying3 h3
  obtain ⟨v4, e4, _, _⟩ := DataW.trod_int Try.underlying3 h4
  simp at e0 e1 e2 e3 e4
  subst e0 e1 e2 e3 e4
  exact ⟨⟨v0, v1, v2, v3, v4⟩, rfl, rfl, rfl, rfl, rfl, s0, s1, s2⟩

theorem open_GrtS {fuel : Nat} {cs : List Value} {y : DataW H × List MemPlace} (h : DataW.trod enc Try.prog w base spare held fuel 22 cs = some y) : ∃ a xs cap, cs = [.slice a xs.length cap] ∧ SliceC GrtC 5 0 w a xs := by
  rcases Go.Deep.open_slice Try.underlying22 h with ⟨hc, _⟩ | ⟨a, len, cap, m, n', D, Pl, hc, _, hl, hcm, hm, _, hall⟩
  · exact ⟨none, [], 0, hc, SliceC.nil⟩
  · rw [cn_Grt] at hall
    have hlm : len ≤ m := by rw [hm]; split <;> omega
    obtain ⟨xs, hx, hs⟩ := open_rows (C := GrtC) (n := 5) (a := a) (len := len) GrtC.holds (by omega) (by omega) (fun i hi => by
      obtain ⟨cs', h1, h2⟩ := hall i (by omega)
      obtain ⟨_, hl', hcell⟩ := World.cells?_some h1
      obtain ⟨_, x, hx⟩ := open_Grt h2
      exact ⟨x, cs', hl', hcell, hx⟩)
    subst hx
    exact ⟨some a, xs, cap, hc, hs⟩

theorem open_Plm {fuel : Nat} {cs : List Value} {y : DataW H × List MemPlace} (h : DataW.trod enc Try.prog w base spare held fuel 54 cs = some y) : cs.length = 3 ∧ ∃ x : Plm, PlmC 0 w (fun j => cs[j]?) x := by
  obtain ⟨hl, n, HP⟩ := parts3 Try.underlying54 h
  rw [cn_Plm] at hl
  refine ⟨hl, ?_⟩
  obtain ⟨c0, c1, c2, rfl⟩ := list3 hl
  obtain ⟨⟨_, h0⟩, ⟨_, h1⟩, ⟨_, h2⟩⟩ := HP
  simp only [c1_int, c1_str, c1_sWnt] at h0 h1 h2
  obtain ⟨v0, e0, _, s0⟩ := DataW.trod_string Try.underlying9 h0
  obtain ⟨v1, e1, _, _⟩ := DataW.trod_int Try.underlying3 h1
  obtain ⟨a2, v2, p2, e2, s2⟩ := open_WntS h2
  simp at e0 e1 e2
  subst e0 e1 e2
  exact ⟨⟨v0, v1, v2⟩, a2, p2, rfl, rfl, rfl, s0, s2⟩

theorem open_PlmS {fuel : Nat} {cs : List Value} {y : DataW H × List MemPlace} (h : DataW.trod enc Try.prog w base spare held fuel 23 cs = some y) : ∃ a xs cap, cs = [.slice a xs.length cap] ∧ SliceC PlmC 3 0 w a xs := by
  rcases Go.Deep.open_slice Try.underlying23 h with ⟨hc, _⟩ | ⟨a, len, cap, m, n', D, Pl, hc, _, hl, hcm, hm, _, hall⟩
  · exact ⟨none, [], 0, hc, SliceC.nil⟩
  · rw [cn_Plm] at hall
    have hlm : len ≤ m := by rw [hm]; split <;> omega
    obtain ⟨xs, hx, hs⟩ := open_rows (C := PlmC) (n := 3) (a := a) (len := len) PlmC.holds (by omega) (by omega) (fun i hi => by
      obtain ⟨cs', h1, h2⟩ := hall i (by omega)
      obtain ⟨_, hl', hcell⟩ := World.cells?_some h1
      obtain ⟨_, x, hx⟩ := open_Plm h2
      exact ⟨x, cs', hl', hcell, hx⟩)
    subst hx
    exact ⟨some a, xs, cap, hc, hs⟩

theorem open_Lnd {fuel : Nat} {cs : List Value} {y : DataW H × List MemPlace} (h : DataW.trod enc Try.prog w base spare held fuel 25 cs = some y) : cs.length = 3 ∧ ∃ x : Lnd, LndC 0 w (fun j => cs[j]?) x := by
  obtain ⟨hl, n, HP⟩ := parts3 Try.underlying25 h
  rw [cn_Lnd] at hl
  refine ⟨hl, ?_⟩
  obtain ⟨c0, c1, c2, rfl⟩ := list3 hl
  obtain ⟨⟨_, h0⟩, ⟨_, h1⟩, ⟨_, h2⟩⟩ := HP
  simp only [c1_int, c1_sGrt, c1_sPlm] at h0 h1 h2
  obtain ⟨v0, e0, _, _⟩ := DataW.trod_int Try.underlying3 h0
  obtain ⟨a1, v1, p1, e1, s1⟩ := open_GrtS h1
  obtain ⟨a2, v2, p2, e2, s2⟩ := open_PlmS h2
  simp at e0 e1 e2
  subst e0 e1 e2
  exact ⟨⟨v0, v1, v2⟩, a1, p1, a2, p2, rfl, rfl, rfl, s1, s2⟩

theorem agg_Lnd {cs : Array Value} {x : Lnd} (hl : cs.toList.length = 3) (h : LndC 0 w (fun j => cs.toList[j]?) x) :
    ∃ (a1 : Option Addr) (c1 : Nat) (a2 : Option Addr) (c2 : Nat), cs = #[.int .i64 x.time, .slice a1 x.grants.length c1, .slice a2 x.places.length c2] ∧ SliceC GrtC 5 0 w a1 x.grants ∧ SliceC PlmC 3 0 w a2 x.places := by
  obtain ⟨a1, c1, a2, c2, q0, q1, q2, s1, s2⟩ := h
  refine ⟨a1, c1, a2, c2, ?_, s1, s2⟩
  obtain ⟨l⟩ := cs
  obtain ⟨d0, d1, d2, rfl⟩ := list3 hl
  simp at q0 q1 q2
  subst q0 q1 q2
  rfl

end

end Go.Proofs.Ytnhmhnlekagloaa
