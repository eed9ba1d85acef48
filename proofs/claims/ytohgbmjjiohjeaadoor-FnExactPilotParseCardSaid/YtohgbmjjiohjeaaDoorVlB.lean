/-
  Nodes in memory, for the specification's look at a select.
-/
import Derived.Test.YtohgbmjjiohjeaaDoorPure2
import Derived.Test.YtohgbmjjiohjeaaDoorParA
import Derived.Lib.QuietBelow
import Derived.OwnWalk
import Derived.BigQuiet
namespace Go.Proofs.YtohgbmjjiohjeaaDoor
open Go.RowKit

/-- what a list of nodes holds is small -/
def Small (ns : List P.Nd) : Prop := ns.length ≤ 1048576 ∧ ∀ n ∈ ns, n.name.size ≤ 1048576 ∧ n.value.size ≤ 1048576

/-- the nodes lie in a block from its head on -/
def Nodes0 (w : World) (g : Nat) (ns : List P.Nd) : Prop :=
  g < w.heap.size ∧ ∀ (j : Nat) (n : P.Nd), ns[j]? = some n → w.cell? ⟨g, j * 4, none⟩ = some (.int .i64 n.kind) ∧ w.cell? ⟨g, j * 4 + 1, none⟩ = some (.string n.name) ∧ w.cell? ⟨g, j * 4 + 2, none⟩ = some (.string n.value) ∧ w.cell? ⟨g, j * 4 + 3, none⟩ = some (.int .i64 n.kids)

theorem Nodes0.below {w wr : World} {g : Nat} {ns : List P.Nd} {B : Nat} (h : Nodes0 w g ns) (hb : Below B w wr) (hB : g < B) : Nodes0 wr g ns := by
  refine ⟨Nat.lt_of_lt_of_le h.1 hb.size, ?_⟩
  intro j n hj
  obtain ⟨q0, q1, q2, q3⟩ := h.2 j n hj
  exact ⟨(hb.cell (p := ⟨g, _, none⟩) hB).trans q0, (hb.cell (p := ⟨g, _, none⟩) hB).trans q1, (hb.cell (p := ⟨g, _, none⟩) hB).trans q2, (hb.cell (p := ⟨g, _, none⟩) hB).trans q3⟩

theorem Nodes0.grown {w wr : World} {g : Nat} {ns : List P.Nd} (h : Nodes0 w g ns) (hb : Below w.heap.size w wr) : Nodes0 wr g ns := h.below hb h.1

theorem Nodes0.setCell {w : World} {g : Nat} {ns : List P.Nd} (h : Nodes0 w g ns) {a : Addr} (ha : g ≠ a.block) (v : Value) : Nodes0 (w.setCell a v) g ns := by
  have hb : (w.setCell a v).heap[g]? = w.heap[g]? := Below.heap_setCell w a v g ha
  have key : ∀ o, (w.setCell a v).cell? ⟨g, o, none⟩ = w.cell? ⟨g, o, none⟩ := fun o => World.cell?_of_block (w := w) (a := ⟨g, o, none⟩) hb
  refine ⟨by simpa [World.setCell] using h.1, ?_⟩
  intro j n hj
  obtain ⟨q0, q1, q2, q3⟩ := h.2 j n hj
  exact ⟨(key _).trans q0, (key _).trans q1, (key _).trans q2, (key _).trans q3⟩

theorem ownsRow_belowV {w w' : World} {base : Nat} {e : TypeId} {size : Nat} {v : Value} {n : Nat} {xs : List Value} (h : w.ownsRow base e size v n xs) (hb : Below w.heap.size w w') : w'.ownsRow base e size v n xs := by
  refine ⟨h.1, ?_⟩
  rcases h.2 with h' | ⟨g, cap, cur, h1, h2, h3, h4⟩
  · exact .inl h'
  · refine .inr ⟨g, cap, cur, h1, h2, ?_, h4⟩
    rw [hb.block g (by
      rcases Nat.lt_or_ge g w.heap.size with h | h
      · exact h
      · rw [Array.getElem?_eq_none h] at h3; cases h3)]
    exact h3

theorem bcellV {W w1 : World} (hb : Below W.heap.size W w1) : (∀ b o, b < W.heap.size → w1.cell? ⟨b, o, none⟩ = W.cell? ⟨b, o, none⟩) ∧ (∀ b o, b < W.heap.size → w1.frozen? ⟨b, o, none⟩ = W.frozen? ⟨b, o, none⟩) :=
  ⟨fun b o h => hb.cell (p := ⟨b, o, none⟩) h, fun b o h => hb.frozen (p := ⟨b, o, none⟩) h⟩

theorem news_oneV (w : World) (x : Value) (T : TypeId) : ∀ j u, [x][j]? = some u → (w.alloc (.cells #[x] T)).cell? ((⟨w.heap.size, 0, none⟩ : Addr).add j) = some u := by
  intro j u hj
  match j, hj with
  | 0, hj => simp at hj; subst hj; simp [Addr.add]

theorem ownsRow_cut {w : World} {base : Nat} {e : TypeId} {g n cap : Nat} {xs : List Value} (h : w.ownsRow base e 1 (.slice (some ⟨g, 0, none⟩) n cap) n xs) (r : Nat) (hr : r ≤ n) :
    w.ownsRow base e 1 (.slice (some ⟨g, 0, none⟩) r cap) r (xs.take r) := by
  have hl := h.1
  refine ⟨by rw [List.length_take]; omega, ?_⟩
  rcases h.2 with ⟨h', _⟩ | ⟨g', cap', cur, h1, h2, h3, h4, h5, h6, h7⟩
  · simp at h'
  · simp only [Value.slice.injEq, Option.some.injEq, Addr.mk.injEq, and_true, true_and] at h1
    obtain ⟨rfl, rfl⟩ := h1
    refine .inr ⟨g, cap, cur, rfl, h2, h3, by omega, h5, h6, ?_⟩
    rw [← h7, List.take_take]
    congr 1
    omega

/-- the shape of the buffer -/
theorem buf_shape {w : World} {B n : Nat} {e : TypeId} {v : Value} {xs : List Value} (h : w.ownsRow B e 1 v n xs) : ∃ a cap, v = .slice a n cap := by
  rcases h.2 with ⟨rfl, rfl⟩ | ⟨g, cap, cur, rfl, _⟩
  · exact ⟨_, _, rfl⟩
  · exact ⟨_, _, rfl⟩

end Go.Proofs.YtohgbmjjiohjeaaDoor
