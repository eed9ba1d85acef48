/-
  A list of bytes that came in, opened.
-/
import Derived.Test.YthjicahpfhjfdaaGreatDoorJ0
import Derived.WalkKit
import Derived.ProofKit
import Derived.OpenShut
import Derived.Deep.Slices
namespace Go.Proofs.YthjicahpfhjfdaaGreatDoor
open Go.RowKit

theorem list_of {α : Type} {p : Nat → α → Prop} : ∀ (len : Nat), (∀ i, i < len → ∃ x, p i x) → ∃ l : List α, l.length = len ∧ ∀ i x, l[i]? = some x → p i x
  | 0, _ => ⟨[], rfl, fun i x h => by simp at h⟩
  | n + 1, h => by
    obtain ⟨l, hl, hp⟩ := list_of n (fun i hi => h i (by omega))
    obtain ⟨x, hx⟩ := h n (by omega)
    refine ⟨l ++ [x], by simp [hl], fun i y hy => ?_⟩
    by_cases hi : i < l.length
    · rw [List.getElem?_append_left hi] at hy
      exact hp i y hy
    · have hie : i = l.length := by have := lt_of_some hy; simp at this; omega
      subst hie
      simp at hy
      subst hy
      rw [hl]
      exact hx

section
variable {H : Type} {enc : TypeId × Value → H} {w : World} {base : Nat} {spare : Nat → Bool} {held : Bool}

theorem open_rows {α : Type} {C : Make α} {n : Nat} {a : Addr} {len : Nat} (hC : Holds C n) (hn : 0 < n) (hl : len ≤ maxLen)
    (h : ∀ i, i < len → ∃ x, ∃ cs : List Value, cs.length = n ∧ (∀ j, j < n → w.cell? ((a.add (i * n)).add j) = cs[j]?) ∧ C 0 w (fun j => cs[j]?) x) : ∃ xs, xs.length = len ∧ SliceC C n 0 w (some a) xs := by
  obtain ⟨xs, hx, hp⟩ := list_of len h
  refine ⟨xs, hx, by omega, ?_⟩
  by_cases h0 : len = 0
  · left
    exact List.length_eq_zero_iff.1 (by omega)
  · right
    obtain ⟨b, o, spot⟩ := a
    obtain ⟨x0, hx0⟩ : ∃ x, xs[0]? = some x := ⟨xs[0], List.getElem?_eq_getElem (by omega)⟩
    obtain ⟨cs, hcl, hcell, _⟩ := hp 0 x0 hx0
    have hc0 := hcell 0 hn
    rw [List.getElem?_eq_getElem (by omega)] at hc0
    have hspot : spot = none := by simpa [Addr.add] using World.cell?_spot hc0
    subst hspot
    have key : ∀ x y, ((⟨b, o, none⟩ : Addr).add x).add y = ⟨b, o + x + y, none⟩ := fun x y => by cases x <;> cases y <;> simp [Addr.add]
    refine ⟨b, o, rfl, ⟨Nat.zero_le _, fun h => absurd h (Nat.lt_irrefl 0)⟩, ?_, fun j x hj => ?_⟩
    · rw [key] at hc0
      exact block_lt_of_cell hc0
    · obtain ⟨cs', _, hcell', hC'⟩ := hp j x hj
      exact hC 0 0 w w _ _ x (fun i hi => by rw [← hcell' i hi, key]) (Keeps.refl _ _) (Nat.le_refl _) hC'

theorem field_of {P : Program} {n : Nat} {cs : List Value} {fs : Array Field} {xs : List (DataW H × List MemPlace)} (hlen : xs.length = fs.size)
    (hf : ∀ (i : Nat) (f : Field), fs[i]? = some f → DataW.trod enc P w base spare held n f.type ((cs.drop f.offset).take (P.cellsOf f.type)) = xs[i]?) (i : Nat) (f : Field) (hi : fs[i]? = some f) :
    ∃ y, DataW.trod enc P w base spare held n f.type ((cs.drop f.offset).take (P.cellsOf f.type)) = some y := by
  have hlt : i < xs.length := by
    rcases Nat.lt_or_ge i fs.size with h | h
    · omega
    · rw [Array.getElem?_eq_none h] at hi; cases hi
  exact ⟨xs[i], (hf i f hi).trans (List.getElem?_eq_getElem hlt)⟩

theorem c1_byt : Tryz.prog.cellsOf 5 = 1 := by kernel_rfl

/-- a byte's cell -/
def BytC : Make Nat := fun _ _ f x => f 0 = some (.int .u8 (x : Int)) ∧ x < 256

theorem BytC.holds : Holds BytC 1 := by
  rintro lo lo' w w' f g x h _ _ ⟨q0, q1⟩
  exact ⟨(h 0 (by omega)).trans q0, q1⟩

theorem open_BytS {fuel : Nat} {cs : List Value} {y : DataW H × List MemPlace} (h : DataW.trod enc Tryz.prog w base spare held fuel 22 cs = some y) : ∃ a xs cap, cs = [.slice a xs.length cap] ∧ xs.length ≤ cap ∧ SliceC BytC 1 0 w a xs := by
  rcases Go.Deep.open_slice Tryz.underlying22 h with ⟨hc, _⟩ | ⟨a, len, cap, m, n', D, Pl, hc, _, hl, hcm, hm, _, hall⟩
  · exact ⟨none, [], 0, hc, Nat.le_refl _, SliceC.nil⟩
  · rw [c1_byt] at hall
    have hlm : len ≤ m := by rw [hm]; split <;> omega
    obtain ⟨xs, hx, hs⟩ := open_rows (C := BytC) (n := 1) (a := a) (len := len) BytC.holds (by omega) (by omega) (fun i hi => by
      obtain ⟨cs', h1, h2⟩ := hall i (by omega)
      obtain ⟨_, hl', hcell⟩ := World.cells?_some h1
      obtain ⟨v, rfl, _, hv⟩ := DataW.trod_int Tryz.underlying5 h2
      have hb := bounds_u8 hv
      exact ⟨v.toNat, [.int .u8 v], rfl, hcell, by show some _ = some _; rw [Int.toNat_of_nonneg hb.1], by omega⟩)
    subst hx
    exact ⟨some a, xs, cap, hc, hl, hs⟩

end

theorem bytes_in {w : World} {a : Option Addr} {xs : List Nat} (h : SliceC BytC 1 0 w a xs) : ∀ (k x : Nat), xs[k]? = some x → ∃ b o, a = some ⟨b, o, none⟩ ∧ w.cell? ⟨b, o + k, none⟩ = some (.int .u8 (x : Int)) ∧ x < 256 ∧ b < w.heap.size := fun k x hk => by
  obtain ⟨b, o, rfl, _, hbl, hc⟩ := h.at hk
  exact ⟨b, o, rfl, by simpa using hc.1, hc.2, hbl⟩

end Go.Proofs.YthjicahpfhjfdaaGreatDoor
