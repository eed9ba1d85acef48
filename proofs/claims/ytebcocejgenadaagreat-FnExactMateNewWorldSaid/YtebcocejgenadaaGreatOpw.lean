/-
  What came in, opened: mates, books, worlds. Made by mkwo8.py.
-/
import Derived.Test.YtebcocejgenadaaGreatJ7
import Derived.Test.YtebcocejgenadaaGreatOpm
namespace Go.Proofs.YtebcocejgenadaaGreat
open Go.RowKit

section
variable {H : Type} {enc : TypeId × Value → H} {w : World} {base : Nat} {spare : Nat → Bool} {held : Bool}

theorem list4 {cs : List Value} (h : cs.length = 4) : ∃ c0 c1 c2 c3, cs = [c0, c1, c2, c3] := by
  match cs, h with
  | [c0, c1, c2, c3], _ => exact ⟨_, _, _, _, rfl⟩

theorem list9 {cs : List Value} (h : cs.length = 9) : ∃ c0 c1 c2 c3 c4 c5 c6 c7 c8, cs = [c0, c1, c2, c3, c4, c5, c6, c7, c8] := by
  match cs, h with
  | [c0, c1, c2, c3, c4, c5, c6, c7, c8], _ => exact ⟨_, _, _, _, _, _, _, _, _, rfl⟩

theorem parts4 {P : Program} {t : TypeId} {f0 f1 f2 f3 : Field} {fuel : Nat} {cs : List Value} {x : DataW H × List MemPlace} (ht : P.underlying t = some (.struct #[f0, f1, f2, f3])) (h : DataW.trod enc P w base spare held fuel t cs = some x) :
    cs.length = P.cellsOf t ∧ ∃ n, (∃ y, DataW.trod enc P w base spare held n f0.type ((cs.drop f0.offset).take (P.cellsOf f0.type)) = some y) ∧ (∃ y, DataW.trod enc P w base spare held n f1.type ((cs.drop f1.offset).take (P.cellsOf f1.type)) = some y) ∧ (∃ y, DataW.trod enc P w base spare held n f2.type ((cs.drop f2.offset).take (P.cellsOf f2.type)) = some y) ∧ (∃ y, DataW.trod enc P w base spare held n f3.type ((cs.drop f3.offset).take (P.cellsOf f3.type)) = some y) := by
  obtain ⟨xs, n, _, _, hl, hlen, hf⟩ := DataW.trod_struct ht h
  exact ⟨hl, n, field_of hlen hf 0 f0 rfl, field_of hlen hf 1 f1 rfl, field_of hlen hf 2 f2 rfl, field_of hlen hf 3 f3 rfl⟩

theorem parts9 {P : Program} {t : TypeId} {f0 f1 f2 f3 f4 f5 f6 f7 f8 : Field} {fuel : Nat} {cs : List Value} {x : DataW H × List MemPlace} (ht : P.underlying t = some (.struct #[f0, f1, f2, f3, f4, f5, f6, f7, f8])) (h : DataW.trod enc P w base spare held fuel t cs = some x) :
    cs.length = P.cellsOf t ∧ ∃ n, (∃ y, DataW.trod enc P w base spare held n f0.type ((cs.drop f0.offset).take (P.cellsOf f0.type)) = some y) ∧ (∃ y, DataW.trod enc P w base spare held n f1.type ((cs.drop f1.offset).take (P.cellsOf f1.type)) = some y) ∧ (∃ y, DataW.trod enc P w base spare held n f2.type ((cs.drop f2.offset).take (P.cellsOf f2.type)) = some y) ∧ (∃ y, DataW.trod enc P w base spare held n f3.type ((cs.drop f3.offset).take (P.cellsOf f3.type)) = some y) ∧ (∃ y, DataW.trod enc P w base spare held n f4.type ((cs.drop f4.offset).take (P.cellsOf f4.type)) = some y) ∧ (∃ y, DataW.trod enc P w base spare held n f5.type ((cs.drop f5.offset).take (P.cellsOf f5.type)) = some y) ∧ (∃ y, DataW.trod enc P w base spare held n f6.type ((cs.drop f6.offset).take (P.cellsOf f6.type)) = some y) ∧ (∃ y, DataW.trod enc P w base spare held n f7.type ((cs.drop f7.offset).take (P.cellsOf f7.type)) = some y) ∧ (∃ y, DataW.trod enc P w base spare held n f8.type ((cs.drop f8.offset).take (P.cellsOf f8.type)) = some y) := by
  obtain ⟨xs, n, _, _, hl, hlen, hf⟩ := DataW.trod_struct ht h
  exact ⟨hl, n, field_of hlen hf 0 f0 rfl, field_of hlen hf 1 f1 rfl, field_of hlen hf 2 f2 rfl, field_of hlen hf 3 f3 rfl, field_of hlen hf 4 f4 rfl, field_of hlen hf 5 f5 rfl, field_of hlen hf 6 f6 rfl, field_of hlen hf 7 f7 rfl, field_of hlen hf 8 f8 rfl⟩

theorem agg_Mte {cs : Array Value} {x : Mte} (hl : cs.toList.length = 9) (h : MteC 0 w (fun j => cs.toList[j]?) x) :
    ∃ (a5 : Option Addr) (c5 : Nat) (a6 : Option Addr) (c6 : Nat) (a7 : Option Addr) (c7 : Nat) (a8 : Option Addr) (c8 : Nat), cs = #[.string x.name, .bool x.up, .int .i64 x.clock, .bool x.known, .int .i64 x.seen, .slice a5 x.wants.length c5, .slice a6 x.runs.length c6, .slice a7 x.asks.length c7, .slice a8 x.gives.length c8] ∧ x.name.size ≤ maxLen ∧ SliceC WntC 7 0 w a5 x.wants ∧ SliceC RnC 11 0 w a6 x.runs ∧ SliceC AksC 4 0 w a7 x.asks ∧ SliceC AksC 4 0 w a8 x.gives := by
  obtain ⟨a5, c5, a6, c6, a7, c7, a8, c8, q0, q1, q2, q3, q4, q5, q6, q7, q8, s0, s5, s6, s7, s8⟩ := h
  refine ⟨a5, c5, a6, c6, a7, c7, a8, c8, ?_, s0, s5, s6, s7, s8⟩
  obtain ⟨l⟩ := cs
  obtain ⟨d0, d1, d2, d3, d4, d5, d6, d7, d8, rfl⟩ := list9 hl
  simp at q0 q1 q2 q3 q4 q5 q6 q7 q8
  subst q0 q1 q2 q3 q4 q5 q6 q7 q8
  rfl

theorem list3 {cs : List Value} (h : cs.length = 3) : ∃ c0 c1 c2, cs = [c0, c1, c2] := by
  match cs, h with
  | [c0, c1, c2], _ => exact ⟨_, _, _, rfl⟩

theorem list5 {cs : List Value} (h : cs.length = 5) : ∃ c0 c1 c2 c3 c4, cs = [c0, c1, c2, c3, c4] := by
  match cs, h with
  | [c0, c1, c2, c3, c4], _ => exact ⟨_, _, _, _, _, rfl⟩

theorem parts3 {P : Program} {t : TypeId} {f0 f1 f2 : Field} {fuel : Nat} {cs : List Value} {x : DataW H × List MemPlace} (ht : P.underlying t = some (.struct #[f0, f1, f2])) (h : DataW.trod enc P w base spare held fuel t cs = some x) :
    cs.length = P.cellsOf t ∧ ∃ n, (∃ y, DataW.trod enc P w base spare held n f0.type ((cs.drop f0.offset).take (P.cellsOf f0.type)) = some y) ∧ (∃ y, DataW.trod enc P w base spare held n f1.type ((cs.drop f1.offset).take (P.cellsOf f1.type)) = some y) ∧ (∃ y, DataW.trod enc P w base spare held n f2.type ((cs.drop f2.offset).take (P.cellsOf f2.type)) = some y) := by
  obtain ⟨xs, n, _, _, hl, hlen, hf⟩ := DataW.trod_struct ht h
  exact ⟨hl, n, field_of hlen hf 0 f0 rfl, field_of hlen hf 1 f1 rfl, field_of hlen hf 2 f2 rfl⟩

theorem agg_Lnd {cs : Array Value} {x : Lnd} (hl : cs.toList.length = 3) (h : LndC 0 w (fun j => cs.toList[j]?) x) :
    ∃ (a1 : Option Addr) (c1 : Nat) (a2 : Option Addr) (c2 : Nat), cs = #[.int .i64 x.time, .slice a1 x.grants.length c1, .slice a2 x.places.length c2] ∧ SliceC GrtC 5 0 w a1 x.grants ∧ SliceC PlmC 3 0 w a2 x.places := by
  obtain ⟨a1, c1, a2, c2, q0, q1, q2, s1, s2⟩ := h
  refine ⟨a1, c1, a2, c2, ?_, s1, s2⟩
  obtain ⟨l⟩ := cs
  obtain ⟨d0, d1, d2, rfl⟩ := list3 hl
  simp at q0 q1 q2
  subst q0 q1 q2
  rfl

theorem open_StrS {fuel : Nat} {cs : List Value} {y : DataW H × List MemPlace} (h : DataW.trod enc Tryz.prog w base spare held fuel 22 cs = some y) : ∃ a xs cap, cs = [.slice a xs.length cap] ∧ SliceC StrC 1 0 w a xs := by
  rcases Go.Deep.open_slice Tryz.underlying22 h with ⟨hc, _⟩ | ⟨a, len, cap, m, n', D, Pl, hc, _, hl, hcm, hm, _, hall⟩
  · exact ⟨none, [], 0, hc, SliceC.nil⟩
  · rw [c1_str] at hall
    have hlm : len ≤ m := by rw [hm]; split <;> omega
    obtain ⟨xs, hx, hs⟩ := open_rows (C := StrC) (n := 1) (a := a) (len := len) StrC.holds (by omega) (by omega) (fun i hi => by
      obtain ⟨cs', h1, h2⟩ := hall i (by omega)
      obtain ⟨_, hl', hcell⟩ := World.cells?_some h1
      obtain ⟨s, rfl, _, hs⟩ := DataW.trod_string Tryz.underlying9 h2
      exact ⟨s, [.string s], rfl, hcell, rfl, hs⟩)
    subst hx
    exact ⟨some a, xs, cap, hc, hs⟩

theorem agg_Wrl {cs : Array Value} {x : Wrl} (hl : cs.toList.length = 5) (h : WrlC 0 w (fun j => cs.toList[j]?) x) :
    ∃ (a1 : Option Addr) (c1 : Nat) (a2 : Option Addr) (c2 : Nat) (a3 : Option Addr) (c3 : Nat) (a4 : Option Addr) (c4 : Nat), cs = #[.int .i64 x.land.time, .slice a1 x.land.grants.length c1, .slice a2 x.land.places.length c2, .slice a3 x.mates.length c3, .slice a4 x.flight.length c4] ∧ SliceC GrtC 5 0 w a1 x.land.grants ∧ SliceC PlmC 3 0 w a2 x.land.places ∧ SliceC MteC 9 0 w a3 x.mates ∧ SliceC StrC 1 0 w a4 x.flight := by
  obtain ⟨a1, c1, a2, c2, a3, c3, a4, c4, q0, q1, q2, q3, q4, s1, s2, s3, s4⟩ := h
  refine ⟨a1, c1, a2, c2, a3, c3, a4, c4, ?_, s1, s2, s3, s4⟩
  obtain ⟨l⟩ := cs
  obtain ⟨d0, d1, d2, d3, d4, rfl⟩ := list5 hl
  simp at q0 q1 q2 q3 q4
  subst q0 q1 q2 q3 q4
  rfl

end

end Go.Proofs.YtebcocejgenadaaGreat
