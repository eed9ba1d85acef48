/-
  What came in, opened: wants and runs. Made by mkopm.py.
-/
import Derived.Test.YtlegklkbmifdeaaRn
import Derived.WalkKit
import Derived.ProofKit
import Derived.OpenShut
import Derived.Deep.Slices
namespace Go.Proofs.Ytlegklkbmifdeaa
open Go.RowKit

theorem list_of {α : Type} {p : Nat → α → Prop} : ∀ (len : Nat), (∀ i, i < len → ∃ x, p i x) → ∃ l : List α, l.length = len ∧ ∀ i x, l[i]? = some x → p i x
  | 0, _ => ⟨[], rfl, fun i x h => by simp at h⟩
  | n + 1, h => by
    obtain ⟨l, hl, hp⟩ := list_of n (fun i hi => h i (by omega))
    obtain ⟨x, hx⟩ := h n (by omega)
    refine ⟨l ++ [x], by simp [hl], fun i y hy => ?_⟩
    by_cases hi : i < l.length
    · rw [List.getElem?_append_left hi] at hy
      exact hp i y hy
    · have hie : i = l.length := by have := lt_of_some hy; simp at this; omega
      subst hie
      simp at hy
      subst hy
      rw [hl]
      exact hx

section
variable {H : Type} {enc : TypeId × Value → H} {w : World} {base : Nat} {spare : Nat → Bool} {held : Bool}

theorem open_rows {α : Type} {C : Make α} {n : Nat} {a : Addr} {len : Nat} (hC : Holds C n) (hn : 0 < n) (hl : len ≤ maxLen)
    (h : ∀ i, i < len → ∃ x, ∃ cs : List Value, cs.length = n ∧ (∀ j, j < n → w.cell? ((a.add (i * n)).add j) = cs[j]?) ∧ C 0 w (fun j => cs[j]?) x) : ∃ xs, xs.length = len ∧ SliceC C n 0 w (some a) xs := by
  obtain ⟨xs, hx, hp⟩ := list_of len h
  refine ⟨xs, hx, by omega, ?_⟩
  by_cases h0 : len = 0
  · left
    exact List.length_eq_zero_iff.1 (by omega)
  · right
    obtain ⟨b, o, spot⟩ := a
    obtain ⟨x0, hx0⟩ : ∃ x, xs[0]? = some x := ⟨xs[0], List.getElem?_eq_getElem (by omega)⟩
    obtain ⟨cs, hcl, hcell, _⟩ := hp 0 x0 hx0
    have hc0 := hcell 0 hn
    rw [List.getElem?_eq_getElem (by omega)] at hc0
    have hspot : spot = none := by simpa [Addr.add] using World.cell?_spot hc0
    subst hspot
    have key : ∀ x y, ((⟨b, o, none⟩ : Addr).add x).add y = ⟨b, o + x + y, none⟩ := fun x y => by cases x <;> cases y <;> simp [Addr.add]
    refine ⟨b, o, rfl, ⟨Nat.zero_le _, fun h => absurd h (Nat.lt_irrefl 0)⟩, ?_, fun j x hj => ?_⟩
    · rw [key] at hc0
      exact block_lt_of_cell hc0
    · obtain ⟨cs', _, hcell', hC'⟩ := hp j x hj
      exact hC 0 0 w w _ _ x (fun i hi => by rw [← hcell' i hi, key]) (Keeps.refl _ _) (Nat.le_refl _) hC'

theorem field_of {P : Program} {n : Nat} {cs : List Value} {fs : Array Field} {xs : List (DataW H × List MemPlace)} (hlen : xs.length = fs.size)
    (hf : ∀ (i : Nat) (f : Field), fs[i]? = some f → DataW.trod enc P w base spare held n f.type ((cs.drop f.offset).take (P.cellsOf f.type)) = xs[i]?) (i : Nat) (f : Field) (hi : fs[i]? = some f) :
    ∃ y, DataW.trod enc P w base spare held n f.type ((cs.drop f.offset).take (P.cellsOf f.type)) = some y := by
  have hlt : i < xs.length := by
    rcases Nat.lt_or_ge i fs.size with h | h
    · omega
    · rw [Array.getElem?_eq_none h] at hi; cases hi
  exact ⟨xs[i], (hf i f hi).trans (List.getElem?_eq_getElem hlt)⟩

theorem c1_int : Try.prog.cellsOf 3 = 1 := by kernel_rfl

theorem c1_str : Try.prog.cellsOf 9 = 1 := by kernel_rfl

theorem cn_Wnt : Try.prog.cellsOf 66 = 7 := by kernel_rfl

theorem cn_Rn : Try.prog.cellsOf 69 = 11 := by kernel_rfl

theorem list7 {cs : List Value} (h : cs.length = 7) : ∃ c0 c1 c2 c3 c4 c5 c6, cs = [c0, c1, c2, c3, c4, c5, c6] := by
  match cs, h with
  | [c0, c1, c2, c3, c4, c5, c6], _ => exact ⟨_, _, _, _, _, _, _, rfl⟩

theorem list11 {cs : List Value} (h : cs.length = 11) : ∃ c0 c1 c2 c3 c4 c5 c6 c7 c8 c9 c10, cs = [c0, c1, c2, c3, c4, c5, c6, c7, c8, c9, c10] := by
  match cs, h with
  | [c0, c1, c2, c3, c4, c5, c6, c7, c8, c9, c10], _ => exact ⟨_, _, _, _, _, _, _, _, _, _, _, rfl⟩

theorem parts5 {P : Program} {t : TypeId} {f0 f1 f2 f3 f4 : Field} {fuel : Nat} {cs : List Value} {x : DataW H × List MemPlace} (ht : P.underlying t = some (.struct #[f0, f1, f2, f3, f4])) (h : DataW.trod enc P w base spare held fuel t cs = some x) :
    cs.length = P.cellsOf t ∧ ∃ n, (∃ y, DataW.trod enc P w base spare held n f0.type ((cs.drop f0.offset).take (P.cellsOf f0.type)) = some y) ∧ (∃ y, DataW.trod enc P w base spare held n f1.type ((cs.drop f1.offset).take (P.cellsOf f1.type)) = some y) ∧ (∃ y, DataW.trod enc P w base spare held n f2.type ((cs.drop f2.offset).take (P.cellsOf f2.type)) = some y) ∧ (∃ y, DataW.trod enc P w base spare held n f3.type ((cs.drop f3.offset).take (P.cellsOf f3.type)) = some y) ∧ (∃ y, DataW.trod enc P w base spare held n f4.type ((cs.drop f4.offset).take (P.cellsOf f4.type)) = some y) := by
  obtain ⟨xs, n, _, _, hl, hlen, hf⟩ := DataW.trod_struct ht h
  exact ⟨hl, n, field_of hlen hf 0 f0 rfl, field_of hlen hf 1 f1 rfl, field_of hlen hf 2 f2 rfl, field_of hlen hf 3 f3 rfl, field_of hlen hf 4 f4 rfl⟩

theorem parts7 {P : Program} {t : TypeId} {f0 f1 f2 f3 f4 f5 f6 : Field} {fuel : Nat} {cs : List Value} {x : DataW H × List MemPlace} (ht : P.underlying t = some (.struct #[f0, f1, f2, f3, f4, f5, f6])) (h : DataW.trod enc P w base spare held fuel t cs = some x) :
    cs.length = P.cellsOf t ∧ ∃ n, (∃ y, DataW.trod enc P w base spare held n f0.type ((cs.drop f0.offset).take (P.cellsOf f0.type)) = some y) ∧ (∃ y, DataW.trod enc P w base spare held n f1.type ((cs.drop f1.offset).take (P.cellsOf f1.type)) = some y) ∧ (∃ y, DataW.trod enc P w base spare held n f2.type ((cs.drop f2.offset).take (P.cellsOf f2.type)) = some y) ∧ (∃ y, DataW.trod enc P w base spare held n f3.type ((cs.drop f3.offset).take (P.cellsOf f3.type)) = some y) ∧ (∃ y, DataW.trod enc P w base spare held n f4.type ((cs.drop f4.offset).take (P.cellsOf f4.type)) = some y) ∧ (∃ y, DataW.trod enc P w base spare held n f5.type ((cs.drop f5.offset).take (P.cellsOf f5.type)) = some y) ∧ (∃ y, DataW.trod enc P w base spare held n f6.type ((cs.drop f6.offset).take (P.cellsOf f6.type)) = some y) := by
  obtain ⟨xs, n, _, _, hl, hlen, hf⟩ := DataW.trod_struct ht h
  exact ⟨hl, n, field_of hlen hf 0 f0 rfl, field_of hlen hf 1 f1 rfl, field_of hlen hf 2 f2 rfl, field_of hlen hf 3 f3 rfl, field_of hlen hf 4 f4 rfl, field_of hlen hf 5 f5 rfl, field_of hlen hf 6 f6 rfl⟩

theorem open_Wnt {fuel : Nat} {cs : List Value} {y : DataW H × List MemPlace} (h : DataW.trod enc Try.prog w base spare held fuel 66 cs = some y) : cs.length = 7 ∧ ∃ x : Wnt, WntC 0 w (fun j => cs[j]?) x := by
  obtain ⟨hl, n, HP⟩ := parts7 Try.underlying66 h
  rw [cn_Wnt] at hl
  refine ⟨hl, ?_⟩
  obtain ⟨c0, c1, c2, c3, c4, c5, c6, rfl⟩ := list7 hl
  obtain ⟨⟨_, h0⟩, ⟨_, h1⟩, ⟨_, h2⟩, ⟨_, h3⟩, ⟨_, h4⟩, ⟨_, h5⟩, ⟨_, h6⟩⟩ := HP
  simp only [c1_int, c1_str] at h0 h1 h2 h3 h4 h5 h6
  obtain ⟨v0, e0, _, s0⟩ := DataW.trod_string Try.underlying9 h0
  obtain ⟨v1, e1, _, _⟩ := DataW.trod_int Try.underlying3 h1
  obtain ⟨v2, e2, _, s2⟩ := DataW.trod_string Try.underlying9 h2
  obtain ⟨v3, e3, _, _⟩ := DataW.trod_int Try.underlying3 h3
  obtain ⟨v4, e4, _, _⟩ := DataW.trod_int Try.underlying3 h4
  obtain ⟨v5, e5, _, _⟩ := DataW.trod_int Try.underlying3 h5
  obtain ⟨v6, e6, _, _⟩ := DataW.trod_int Try.underlying3 h6
  simp at e0 e1 e2 e3 e4 e5 e6
  subst e0 e1 e2 e3 e4 e5 e6
  exact ⟨⟨v0, v1, v2, v3, v4, v5, v6⟩, rfl, rfl, rfl, rfl, rfl, rfl, rfl, s0, s2⟩

theorem open_Rn {fuel : Nat} {cs : List Value} {y : DataW H × List MemPlace} (h : DataW.trod enc Try.prog w base spare held fuel 69 cs = some y) : cs.length = 11 ∧ ∃ x : Rn, RnC 0 w (fun j => cs[j]?) x := by
  obtain ⟨hl, n, HP⟩ := parts5 Try.underlying69 h
  rw [cn_Rn] at hl
  refine ⟨hl, ?_⟩
  obtain ⟨c0, c1, c2, c3, c4, c5, c6, c7, c8, c9, c10, rfl⟩ := list11 hl
  obtain ⟨⟨_, h0⟩, ⟨_, h1⟩, ⟨_, h2⟩, ⟨_, h3⟩, ⟨_, h4⟩⟩ := HP
  simp only [c1_int, cn_Wnt] at h0 h1 h2 h3 h4
  obtain ⟨_, x, q0, q1, q2, q3, q4, q5, q6, s0, s2⟩ := open_Wnt h0
  obtain ⟨v1, e1, _, _⟩ := DataW.trod_int Try.underlying3 h1
  obtain ⟨v2, e2, _, _⟩ := DataW.trod_int Try.underlying3 h2
  obtain ⟨v3, e3, _, _⟩ := DataW.trod_int Try.underlying3 h3
  obtain ⟨v4, e4, _, _⟩ := DataW.trod_int Try.underlying3 h4
  simp at e1 e2 e3 e4 q0 q1 q2 q3 q4 q5 q6
  subst e1 e2 e3 e4 q0 q1 q2 q3 q4 q5 q6
  exact ⟨⟨x, v1, v2, v3, v4⟩, rfl, rfl, rfl, rfl, rfl, rfl, rfl, rfl, rfl, rfl, rfl, s0, s2⟩

theorem agg_Wnt {cs : Array Value} {x : Wnt} (hl : cs.toList.length = 7) (h : WntC 0 w (fun j => cs.toList[j]?) x) :
    cs = #[.string x.copy, .int .i64 x.version, .string x.hold, .int .i64 x.pull, .int .i64 x.start, .int .i64 x.dies, .int .i64 x.grace] ∧ x.copy.size ≤ maxLen ∧ x.hold.size ≤ maxLen := by
  obtain ⟨q0, q1, q2, q3, q4, q5, q6, s0, s2⟩ := h
  refine ⟨?_, s0, s2⟩
  obtain ⟨l⟩ := cs
  obtain ⟨c0, c1, c2, c3, c4, c5, c6, rfl⟩ := list7 hl
  simp at q0 q1 q2 q3 q4 q5 q6
  simp [q0, q1, q2, q3, q4, q5, q6]

theorem agg_Rn {cs : Array Value} {x : Rn} (hl : cs.toList.length = 11) (h : RnC 0 w (fun j => cs.toList[j]?) x) :
    cs = #[.string x.want.copy, .int .i64 x.want.version, .string x.want.hold, .int .i64 x.want.pull, .int .i64 x.want.start, .int .i64 x.want.dies, .int .i64 x.want.grace, .int .i64 x.state, .int .i64 x.left, .int .i64 x.falls, .int .i64 x.until_] ∧ x.want.copy.size ≤ maxLen ∧ x.want.hold.size ≤ maxLen := by
  obtain ⟨q0, q1, q2, q3, q4, q5, q6, q7, q8, q9, q10, s0, s2⟩ := h
  refine ⟨?_, s0, s2⟩
  obtain ⟨l⟩ := cs
  obtain ⟨c0, c1, c2, c3, c4, c5, c6, c7, c8, c9, c10, rfl⟩ := list11 hl
  simp at q0 q1 q2 q3 q4 q5 q6 q7 q8 q9 q10
  simp [q0, q1, q2, q3, q4, q5, q6, q7, q8, q9, q10]

theorem open_WntS {fuel : Nat} {cs : List Value} {y : DataW H × List MemPlace} (h : DataW.trod enc Try.prog w base spare held fuel 22 cs = some y) : ∃ a xs cap, cs = [.slice a xs.length cap] ∧ SliceC WntC 7 0 w a xs := by
  rcases Go.Deep.open_slice Try.underlying22 h with ⟨hc, _⟩ | ⟨a, len, cap, m, n', D, Pl, hc, _, hl, hcm, hm, _, hall⟩
  · exact ⟨none, [], 0, hc, SliceC.nil⟩
  · rw [cn_Wnt] at hall
    have hlm : len ≤ m := by rw [hm]; split <;> omega
    obtain ⟨xs, hx, hs⟩ := open_rows (C := WntC) (n := 7) (a := a) (len := len) WntC.holds (by omega) (by omega) (fun i hi => by
      obtain ⟨cs', h1, h2⟩ := hall i (by omega)
      obtain ⟨_, hl', hcell⟩ := World.cells?_some h1
      obtain ⟨_, x, hx⟩ := open_Wnt h2
      exact ⟨x, cs', hl', hcell, hx⟩)
    subst hx
    exact ⟨some a, xs, cap, hc, hs⟩

theorem open_RnS {fuel : Nat} {cs : List Value} {y : DataW H × List MemPlace} (h : DataW.trod enc Try.prog w base spare held fuel 23 cs = some y) : ∃ a xs cap, cs = [.slice a xs.length cap] ∧ SliceC RnC 11 0 w a xs := by
  rcases Go.Deep.open_slice Try.underlying23 h with ⟨hc, _⟩ | ⟨a, len, cap, m, n', D, Pl, hc, _, hl, hcm, hm, _, hall⟩
  · exact ⟨none, [], 0, hc, SliceC.nil⟩
  · rw [cn_Rn] at hall
    have hlm : len ≤ m := by rw [hm]; split <;> omega
    obtain ⟨xs, hx, hs⟩ := open_rows (C := RnC) (n := 11) (a := a) (len := len) RnC.holds (by omega) (by omega) (fun i hi => by
      obtain ⟨cs', h1, h2⟩ := hall i (by omega)
      obtain ⟨_, hl', hcell⟩ := World.cells?_some h1
      obtain ⟨_, x, hx⟩ := open_Rn h2
      exact ⟨x, cs', hl', hcell, hx⟩)
    subst hx
    exact ⟨some a, xs, cap, hc, hs⟩

end

end Go.Proofs.Ytlegklkbmifdeaa
