/-
  What came in, opened: asks and mates. Made by mkopv.py.
-/
import Derived.Test.YtlegklkbmifdeaaMte
import Derived.Test.YtlegklkbmifdeaaOpm
namespace Go.Proofs.Ytlegklkbmifdeaa
open Go.RowKit

section
variable {H : Type} {enc : TypeId × Value → H} {w : World} {base : Nat} {spare : Nat → Bool} {held : Bool}

theorem c1_bool : Try.prog.cellsOf 4 = 1 := by kernel_rfl
theorem c1_sWnt : Try.prog.cellsOf 22 = 1 := by kernel_rfl
theorem c1_sRn : Try.prog.cellsOf 23 = 1 := by kernel_rfl
theorem c1_sAks : Try.prog.cellsOf 24 = 1 := by kernel_rfl
theorem cn_Aks : Try.prog.cellsOf 72 = 4 := by kernel_rfl
theorem cn_Mte : Try.prog.cellsOf 26 = 9 := by kernel_rfl

theorem list4 {cs : List Value} (h : cs.length = 4) : ∃ c0 c1 c2 c3, cs = [c0, c1, c2, c3] := by
  match cs, h with
  | [c0, c1, c2, c3], _ => exact ⟨_, _, _, _, rfl⟩

theorem list9 {cs : List Value} (h : cs.length = 9) : ∃ c0 c1 c2 c3 c4 c5 c6 c7 c8, cs = [c0, c1, c2, c3, c4, c5, c6, c7, c8] := by
  match cs, h with
  | [c0, c1, c2, c3, c4, c5, c6, c7, c8], _ => exact ⟨_, _, _, _, _, _, _, _, _, rfl⟩

theorem parts4 {P : Program} {t : TypeId} {f0 f1 f2 f3 : Field} {fuel : Nat} {cs : List Value} {x : DataW H × List MemPlace} (ht : P.underlying t = some (.struct #[f0, f1, f2, f3])) (h : DataW.trod enc P w base spare held fuel t cs = some x) :
    cs.length = P.cellsOf t ∧ ∃ n, (∃ y, DataW.trod enc P w base spare held n f0.type ((cs.drop f0.offset).take (P.cellsOf f0.type)) = some y) ∧ (∃ y, DataW.trod enc P w base spare held n f1.type ((cs.drop f1.offset).take (P.cellsOf f1.type)) = some y) ∧ (∃ y, DataW.trod enc P w base spare held n f2.type ((cs.drop f2.offset).take (P.cellsOf f2.type)) = some y) ∧ (∃ y, DataW.trod enc P w base spare held n f3.type ((cs.drop f3.offset).take (P.cellsOf f3.type)) = some y) := by
  obtain ⟨xs, n, _, _, hl, hlen, hf⟩ := DataW.trod_struct ht h
  exact ⟨hl, n, field_of hlen hf 0 f0 rfl, field_of hlen hf 1 f1 rfl, field_of hlen hf 2 f2 rfl, field_of hlen hf 3 f3 rfl⟩

theorem parts9 {P : Program} {t : TypeId} {f0 f1 f2 f3 f4 f5 f6 f7 f8 : Field} {fuel : Nat} {cs : List Value} {x : DataW H × List MemPlace} (ht : P.underlying t = some (.struct #[f0, f1, f2, f3, f4, f5, f6, f7, f8])) (h : DataW.trod enc P w base spare held fuel t cs = some x) :
    cs.length = P.cellsOf t ∧ ∃ n, (∃ y, DataW.trod enc P w base spare held n f0.type ((cs.drop f0.offset).take (P.cellsOf f0.type)) = some y) ∧ (∃ y, DataW.trod enc P w base spare held n f1.type ((cs.drop f1.offset).take (P.cellsOf f1.type)) = some y) ∧ (∃ y, DataW.trod enc P w base spare held n f2.type ((cs.drop f2.offset).take (P.cellsOf f2.type)) = some y) ∧ (∃ y, DataW.trod enc P w base spare held n f3.type ((cs.drop f3.offset).take (P.cellsOf f3.type)) = some y) ∧ (∃ y, DataW.trod enc P w base spare held n f4.type ((cs.drop f4.offset).take (P.cellsOf f4.type)) = some y) ∧ (∃ y, DataW.trod enc P w base spare held n f5.type ((cs.drop f5.offset).take (P.cellsOf f5.type)) = some y) ∧ (∃ y, DataW.trod enc P w base spare held n f6.type ((cs.drop f6.offset).take (P.cellsOf f6.type)) = some y) ∧ (∃ y, DataW.trod enc P w base spare held n f7.type ((cs.drop f7.offset).take (P.cellsOf f7.type)) = some y) ∧ (∃ y, DataW.trod enc P w base spare held n f8.type ((cs.drop f8.offset).take (P.cellsOf f8.type)) = some y) := by
  obtain ⟨xs, n, _, _, hl, hlen, hf⟩ := DataW.trod_struct ht h
  exact ⟨hl, n, field_of hlen hf 0 f0 rfl, field_of hlen hf 1 f1 rfl, field_of hlen hf 2 f2 rfl, field_of hlen hf 3 f3 rfl, field_of hlen hf 4 f4 rfl, field_of hlen hf 5 f5 rfl, field_of hlen hf 6 f6 rfl, field_of hlen hf 7 f7 rfl, field_of hlen hf 8 f8 rfl⟩

theorem open_Aks {fuel : Nat} {cs : List Value} {y : DataW H × List MemPlace} (h : DataW.trod enc Try.prog w base spare held fuel 72 cs = some y) : cs.length = 4 ∧ ∃ x : Aks, AksC 0 w (fun j => cs[j]?) x := by
  obtain ⟨hl, n, HP⟩ := parts4 Try.underlying72 h
  rw [cn_Aks] at hl
  refine ⟨hl, ?_⟩
  obtain ⟨c0, c1, c2, c3, rfl⟩ := list4 hl
  obtain ⟨⟨_, h0⟩, ⟨_, h1⟩, ⟨_, h2⟩, ⟨_, h3⟩⟩ := HP
  simp only [c1_int, c1_str] at h0 h1 h2 h3
  obtain ⟨v0, e0, _, s0⟩ := DataW.trod_string Try.underlying9 h0
  obtain ⟨v1, e1, _, s1⟩ := DataW.trod_string Try.underlying9 h1
  obtain ⟨v2, e2, _, _⟩ := DataW.trod_int Try.underlying3 h2
  obtain ⟨v3, e3, _, _⟩ := DataW.trod_int Try.underlying3 h3
  simp at e0 e1 e2 e3
  subst e0 e1 e2 e3
  exact ⟨⟨v0, v1, v2, v3⟩, rfl, rfl, rfl, rfl, s0, s1⟩

theorem open_AksS {fuel : Nat} {cs : List Value} {y : DataW H × List MemPlace} (h : DataW.trod enc Try.prog w base spare held fuel 24 cs = some y) : ∃ a xs cap, cs = [.slice a xs.length cap] ∧ SliceC AksC 4 0 w a xs := by
  rcases Go.Deep.open_slice Try.underlying24 h with ⟨hc, _⟩ | ⟨a, len, cap, m, n', D, Pl, hc, _, hl, hcm, hm, _, hall⟩
  · exact ⟨none, [], 0, hc, SliceC.nil⟩
  · rw [cn_Aks] at hall
    have hlm : len ≤ m := by rw [hm]; split <;> omega
    obtain ⟨xs, hx, hs⟩ := open_rows (C := AksC) (n := 4) (a := a) (len := len) AksC.holds (by omega) (by omega) (fun i hi => by
      obtain ⟨cs', h1, h2⟩ := hall i (by omega)
      obtain ⟨_, hl', hcell⟩ := World.cells?_some h1
      obtain ⟨_, x, hx⟩ := open_Aks h2
      exact ⟨x, cs', hl', hcell, hx⟩)
    subst hx
    exact ⟨some a, xs, cap, hc, hs⟩

theorem open_Mte {fuel : Nat} {cs : List Value} {y : DataW H × List MemPlace} (h : DataW.trod enc Try.prog w base spare held fuel 26 cs = some y) : cs.length = 9 ∧ ∃ x : Mte, MteC 0 w (fun j => cs[j]?) x := by
  obtain ⟨hl, n, HP⟩ := parts9 Try.underlying26 h
  rw [cn_Mte] at hl
  refine ⟨hl, ?_⟩
  obtain ⟨c0, c1, c2, c3, c4, c5, c6, c7, c8, rfl⟩ := list9 hl
  obtain ⟨⟨_, h0⟩, ⟨_, h1⟩, ⟨_, h2⟩, ⟨_, h3⟩, ⟨_, h4⟩, ⟨_, h5⟩, ⟨_, h6⟩, ⟨_, h7⟩, ⟨_, h8⟩⟩ := HP
  simp only [c1_bool, c1_int, c1_str, c1_sWnt, c1_sRn, c1_sAks] at h0 h1 h2 h3 h4 h5 h6 h7 h8
  obtain ⟨v0, e0, _, s0⟩ := DataW.trod_string Try.underlying9 h0
  obtain ⟨v1, e1, _⟩ := DataW.trod_bool Try.underlying4 h1
  obtain ⟨v2, e2, _, _⟩ := DataW.trod_int Try.underlying3 h2
  obtain ⟨v3, e3, _⟩ := DataW.trod_bool Try.underlying4 h3
  obtain ⟨v4, e4, _, _⟩ := DataW.trod_int Try.underlying3 h4
  obtain ⟨a5, v5, p5, e5, s5⟩ := open_WntS h5
  obtain ⟨a6, v6, p6, e6, s6⟩ := open_RnS h6
  obtain ⟨a7, v7, p7, e7, s7⟩ := open_AksS h7
  obtain ⟨a8, v8, p8, e8, s8⟩ := open_AksS h8
  simp at e0 e1 e2 e3 e4 e5 e6 e7 e8
  subst e0 e1 e2 e3 e4 e5 e6 e7 e8
  exact ⟨⟨v0, v1, v2, v3, v4, v5, v6, v7, v8⟩, a5, p5, a6, p6, a7, p7, a8, p8, rfl, rfl, rfl, rfl, rfl, rfl, rfl, rfl, rfl, s0, s5, s6, s7, s8⟩

theorem agg_Mte {cs : Array Value} {x : Mte} (hl : cs.toList.length = 9) (h : MteC 0 w (fun j => cs.toList[j]?) x) :
    ∃ (a5 : Option Addr) (c5 : Nat) (a6 : Option Addr) (c6 : Nat) (a7 : Option Addr) (c7 : Nat) (a8 : Option Addr) (c8 : Nat), cs = #[.string x.name, .bool x.up, .int .i64 x.clock, .bool x.known, .int .i64 x.seen, .slice a5 x.wants.length c5, .slice a6 x.runs.length c6, .slice a7 x.asks.length c7, .slice a8 x.gives.length c8] ∧ x.name.size ≤ maxLen ∧ SliceC WntC 7 0 w a5 x.wants ∧ SliceC RnC 11 0 w a6 x.runs ∧ SliceC AksC 4 0 w a7 x.asks ∧ SliceC AksC 4 0 w a8 x.gives := by
  obtain ⟨a5, c5, a6, c6, a7, c7, a8, c8, q0, q1, q2, q3, q4, q5, q6, q7, q8, s0, s5, s6, s7, s8⟩ := h
  refine ⟨a5, c5, a6, c6, a7, c7, a8, c8, ?_, s0, s5, s6, s7, s8⟩
  obtain ⟨l⟩ := cs
  obtain ⟨d0, d1, d2, d3, d4, d5, d6, d7, d8, rfl⟩ := list9 hl
  simp at q0 q1 q2 q3 q4 q5 q6 q7 q8
  subst q0 q1 q2 q3 q4 q5 q6 q7 q8
  rfl
end

end Go.Proofs.Ytlegklkbmifdeaa
