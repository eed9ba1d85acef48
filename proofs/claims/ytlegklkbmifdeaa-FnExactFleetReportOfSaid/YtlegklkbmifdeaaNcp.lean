/-
  A mate in memory of its own, by the program. Made by mkncp.py.
-/
import Derived.Test.YtlegklkbmifdeaaMte
import Derived.Test.YtlegklkbmifdeaaRwWnt
import Derived.Test.YtlegklkbmifdeaaRwRn
import Derived.Test.YtlegklkbmifdeaaRwAks
namespace Go.Proofs.Ytlegklkbmifdeaa
open Go.RowKit

/-- a list's block lies ahead of h -/
def Und (a : Option Addr) (h : Nat) : Prop := ∀ b o s, a = some ⟨b, o, s⟩ → b < h

theorem Und.mono {a : Option Addr} {h h' : Nat} (u : Und a h) (l : h ≤ h') : Und a h' := fun b o s e => Nat.lt_of_lt_of_le (u b o s e) l

/-- four lists that share no memory -/
def G4 (x : Mte) (lo hi : Nat) (b5 b6 b7 b8 : Option Addr) (w : World) : Prop := ∃ h5 h6 h7, lo ≤ h5 ∧ h5 ≤ h6 ∧ h6 ≤ h7 ∧ h7 ≤ hi ∧ hi ≤ w.heap.size ∧ Und b5 h5 ∧ Und b6 h6 ∧ Und b7 h7 ∧ Und b8 hi ∧ SliceC WntC 7 lo w b5 x.wants ∧ SliceC RnC 11 h5 w b6 x.runs ∧ SliceC AksC 4 h6 w b7 x.asks ∧ SliceC AksC 4 h7 w b8 x.gives

/-- sizes of a mate's texts and lists -/
structure MSz (x : Mte) : Prop where
  nm : x.name.size ≤ 1048576
  z5 : SzWnt x.wants 1048576
  z6 : SzRn x.runs 1048576
  z7 : SzAks x.asks 1048576
  z8 : SzAks x.gives 1048576
  l5 : x.wants.length ≤ 1048576
  l6 : x.runs.length ≤ 1048576
  l7 : x.asks.length ≤ 1048576
  l8 : x.gives.length ≤ 1048576

theorem mem_sum {α : Type} (f : α → Nat) : ∀ (xs : List α) (x : α), x ∈ xs → f x ≤ (xs.map f).sum
  | [], _, h => by cases h
  | y :: r, x, h => by
    simp only [List.map_cons, List.sum_cons]
    rcases List.mem_cons.1 h with rfl | h
    · omega
    · have := mem_sum f r x h
      omega

theorem mem_wS {α : Type} {f : α → Nat} {xs : List α} {x : α} (h : x ∈ xs) : f x ≤ wS f xs := by
  have := mem_sum f xs x h
  unfold wS
  omega

theorem MSz.of {x : Mte} (h : wMte x ≤ 1048576) : MSz x where
  nm := by unfold wMte at h; omega
  z5 := fun y hy => by
    have h2 : wWnt y ≤ wS wWnt x.wants := mem_wS hy
    have h3 : y.copy.size + y.hold.size ≤ wWnt y := Nat.le_refl _
    unfold wMte at h
    omega
  z6 := fun y hy => by
    have h2 : wRn y ≤ wS wRn x.runs := mem_wS hy
    have h3 : y.want.copy.size + y.want.hold.size ≤ wRn y := Nat.le_refl _
    unfold wMte at h
    omega
  z7 := fun y hy => by
    have h2 : wAks y ≤ wS wAks x.asks := mem_wS hy
    have h3 : y.hold.size + y.copy.size ≤ wAks y := Nat.le_refl _
    unfold wMte at h
    omega
  z8 := fun y hy => by
    have h2 : wAks y ≤ wS wAks x.gives := mem_wS hy
    have h3 : y.hold.size + y.copy.size ≤ wAks y := Nat.le_refl _
    unfold wMte at h
    omega
  l5 := by have := wS_len (f := wWnt) (xs := x.wants); unfold wMte at h; omega
  l6 := by have := wS_len (f := wRn) (xs := x.runs); unfold wMte at h; omega
  l7 := by have := wS_len (f := wAks) (xs := x.asks); unfold wMte at h; omega
  l8 := by have := wS_len (f := wAks) (xs := x.gives); unfold wMte at h; omega

/-- the lists of a mate, and where they may lie -/
structure MSv (x : Mte) (lo : Nat) (a5 a6 a7 a8 : Option Addr) (w : World) : Prop where
  s5 : SliceC WntC 7 lo w a5 x.wants
  s6 : SliceC RnC 11 lo w a6 x.runs
  s7 : SliceC AksC 4 lo w a7 x.asks
  s8 : SliceC AksC 4 lo w a8 x.gives
  p5 : ∀ b o s, a5 = some ⟨b, o, s⟩ → s = none
  p6 : ∀ b o s, a6 = some ⟨b, o, s⟩ → s = none
  p7 : ∀ b o s, a7 = some ⟨b, o, s⟩ → s = none
  p8 : ∀ b o s, a8 = some ⟨b, o, s⟩ → s = none

theorem row_und {base n cap : Nat} {a : Option Addr} {w : World} {e : TypeId} {s : Nat} {cs : List Value} (h : w.ownsRow base e s (.slice a n cap) n cs) : Und a w.heap.size := by
  intro b o sp ea
  rcases h.2 with ⟨h1, _⟩ | ⟨g', cap', cur, h1, _⟩
  · rw [ea] at h1
    cases h1
  · have e2 : a = some ⟨g', 0, none⟩ := by injection h1
    rw [e2] at ea
    cases ea
    have h' : w.ownsRow base e s (.slice (some ⟨b, 0, none⟩) n cap) n cs := e2 ▸ h
    exact (h'.lt b rfl).2

end Go.Proofs.Ytlegklkbmifdeaa
