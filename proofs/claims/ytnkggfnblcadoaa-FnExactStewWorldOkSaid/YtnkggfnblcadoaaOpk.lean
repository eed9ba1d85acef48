/-
  What came in, opened: a world of the stewards. Made by mklsw.py.
-/
import Derived.Test.YtnkggfnblcadoaaOsv
import Derived.Test.YtnkggfnblcadoaaSwd
namespace Go.Proofs.Ytnkggfnblcadoaa
open Go.RowKit

section
variable {H : Type} {enc : TypeId × Value → H} {w : World} {base : Nat} {spare : Nat → Bool} {held : Bool}

/-- a book whose copies' numbers are numbers -/
def SbkW : Make Sbk := fun lo w f x => SbkC lo w f x ∧ ∀ c ∈ x.copies, (Lit.int .i64 c.number).wf = true
theorem SbkW.holds : Holds SbkW 4 := fun lo lo' w w' f g x h1 h2 h3 h => ⟨SbkC.holds lo lo' w w' f g x h1 h2 h3 h.1, h.2⟩
theorem sliceWk {lo : Nat} {w : World} {a : Option Addr} {xs : List Sbk} (h : SliceC SbkW 4 lo w a xs) : SliceC SbkC 4 lo w a xs ∧ ∀ b ∈ xs, ∀ c ∈ b.copies, (Lit.int .i64 c.number).wf = true := by
  obtain ⟨h1, h2⟩ := h
  rcases h2 with rfl | ⟨b, o, e, h3, h4, h5⟩
  · exact ⟨⟨h1, .inl rfl⟩, fun c hc => by cases hc⟩
  · refine ⟨⟨h1, .inr ⟨b, o, e, h3, h4, fun j x hj => (h5 j x hj).1⟩⟩, fun c hc => ?_⟩
    obtain ⟨j, hj⟩ := List.getElem?_of_mem hc
    exact (h5 j c hj).2

theorem c1_sSbk : Try.prog.cellsOf 22 = 1 := by kernel_rfl
theorem cn_Swd : Try.prog.cellsOf 29 = 5 := by kernel_rfl

theorem lst5 {cs : List Value} (h : cs.length = 5) : ∃ c0 c1 c2 c3 c4, cs = [c0, c1, c2, c3, c4] := by
  match cs, h with
  | [c0, c1, c2, c3, c4], _ => exact ⟨_, _, _, _, _, rfl⟩

theorem open_SbkS {fuel : Nat} {cs : List Value} {y : DataW H × List MemPlace} (h : DataW.trod enc Try.prog w base spare held fuel 22 cs = some y) : ∃ a xs cap, cs = [.slice a xs.length cap] ∧ SliceC SbkW 4 0 w a xs := by
  rcases Go.Deep.open_slice Try.underlying22 h with ⟨hc, _⟩ | ⟨a, len, cap, m, n', D, Pl, hc, _, hl, hcm, hm, _, hall⟩
  · exact ⟨none, [], 0, hc, SliceC.nil⟩
  · rw [cn_Sbk] at hall
    have hlm : len ≤ m := by rw [hm]; split <;> omega
    obtain ⟨xs, hx, hs⟩ := open_rows (C := SbkW) (n := 4) (a := a) (len := len) SbkW.holds (by omega) (by omega) (fun i hi => by
      obtain ⟨cs', h1, h2⟩ := hall i (by omega)
      obtain ⟨_, hl', hcell⟩ := World.cells?_some h1
      obtain ⟨_, x, hx⟩ := open_Sbk h2
      exact ⟨x, cs', hl', hcell, hx⟩)
    subst hx
    exact ⟨some a, xs, cap, hc, hs⟩

theorem open_Swd {fuel : Nat} {cs : List Value} {y : DataW H × List MemPlace} (h : DataW.trod enc Try.prog w base spare held fuel 29 cs = some y) : cs.length = 5 ∧ ∃ x : Swd, SwdC 0 w (fun j => cs[j]?) x ∧ (∀ c ∈ x.book.copies, (Lit.int .i64 c.number).wf = true) ∧ ∀ b ∈ x.past, ∀ c ∈ b.copies, (Lit.int .i64 c.number).wf = true := by
  obtain ⟨hl, n, HP⟩ := pts2 Try.underlying29 h
  rw [cn_Swd] at hl
  refine ⟨hl, ?_⟩
  obtain ⟨c0, c1, c2, c3, c4, rfl⟩ := lst5 hl
  obtain ⟨⟨_, h0⟩, ⟨_, h1⟩⟩ := HP
  simp only [c1_sSbk, cn_Sbk] at h0 h1
  obtain ⟨a0, v0, p0, e0, s0⟩ := open_SbkS h0
  obtain ⟨_, b, ⟨a1, p1, a2, p2, a3, p3, q0, q1, q2, q3, s1, s2, s3⟩, hb⟩ := open_Sbk h1
  simp at e0 q0 q1 q2 q3
  subst e0 q0 q1 q2 q3
  exact ⟨⟨v0, b⟩, ⟨a0, p0, a1, p1, a2, p2, a3, p3, rfl, rfl, rfl, rfl, rfl, (sliceWk s0).1, s1, s2, s3⟩, hb, (sliceWk s0).2⟩

theorem agg_Swd {cs : Array Value} {x : Swd} (hl : cs.toList.length = 5) (h : SwdC 0 w (fun j => cs.toList[j]?) x) :
    ∃ (a0 : Option Addr) (c0 : Nat) (a1 : Option Addr) (c1 : Nat) (a2 : Option Addr) (c2 : Nat) (a3 : Option Addr) (c3 : Nat), cs = #[.slice a0 x.past.length c0, .int .i64 x.book.now, .slice a1 x.book.services.length c1, .slice a2 x.book.copies.length c2, .slice a3 x.book.berths.length c3] ∧ SliceC SbkC 4 0 w a0 x.past ∧ SliceC SsvC 13 0 w a1 x.book.services ∧ SliceC ScpC 7 0 w a2 x.book.copies ∧ SliceC SbtC 2 0 w a3 x.book.berths := by
  obtain ⟨a0, c0, a1, c1, a2, c2, a3, c3, q0, q1, q2, q3, q4, s0, s1, s2, s3⟩ := h
  refine ⟨a0, c0, a1, c1, a2, c2, a3, c3, ?_, s0, s1, s2, s3⟩
  obtain ⟨l⟩ := cs
  obtain ⟨d0, d1, d2, d3, d4, rfl⟩ := lst5 hl
  simp at q0 q1 q2 q3 q4
  subst q0 q1 q2 q3 q4
  rfl

end

end Go.Proofs.Ytnkggfnblcadoaa
