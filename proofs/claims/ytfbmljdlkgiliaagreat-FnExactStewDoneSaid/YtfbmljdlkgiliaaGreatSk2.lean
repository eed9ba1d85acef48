/-
  Ends of copies, those that may end, by the specification. Made by mksk2.py.
-/
import Derived.Test.YtfbmljdlkgiliaaGreatSk1
import Derived.Test.YtfbmljdlkgiliaaGreatSac
namespace Go.Proofs.YtfbmljdlkgiliaaGreat
open Go.RowKit

def EnRes (l : List Sen) (w : World) (e : Ending) (w' : World) : Prop := ∃ g q : Nat, e = .returned (.slice (some ⟨g, 0, none⟩) l.length q) ∧ SliceC SenC 2 w.heap.size w' (some ⟨g, 0, none⟩) l ∧ Below w.heap.size w w'

/-- the end of a copy -/
def enC (c : Scp) : Sen := ⟨c.number, c.version⟩

theorem pls_at {lo : Nat} {w : World} {a : Option Addr} {l : List Nat} {k i : Nat} (h : Pls lo w a l) (hk : l[k]? = some i) : ∃ b o, a = some ⟨b, o, none⟩ ∧ b < w.heap.size ∧ w.cell? ⟨b, o + k, none⟩ = some (.int .i64 i) := by
  have hk2 : (toI l)[k]? = some (i : Int) := by simp [toI, hk]
  obtain ⟨b, o, ea, _, hbl, hc⟩ := h.at hk2
  refine ⟨b, o, ea, hbl, ?_⟩
  have hc2 : w.cell? ⟨b, o + k * 1 + 0, none⟩ = some (.int .i64 (i : Int)) := hc
  simpa using hc2

theorem two_at {w : World} {g : Nat} {u v : Value} {t : TypeId} (h : Blk g #[u, v] t w) : ∀ j x, [u, v][j]? = some x → w.cell? ((⟨g, 0, none⟩ : Addr).add j) = some x := by
  intro j x hj
  rw [Addr.add_mid]
  exact h.rangeA j x hj

theorem filt_step {p : Nat → Bool} {l : List Nat} {k i : Nat} (h : l[k]? = some i) : (l.take (k + 1)).filter p = (l.take k).filter p ++ (if p i = true then [i] else []) := by
  rw [List.take_add_one, h, List.filter_append]
  cases hp : p i <;> simp [hp]
theorem filt_len (p : Nat → Bool) (l : List Nat) (k : Nat) : ((l.take k).filter p).length ≤ l.length := by
  have h1 := List.length_filter_le p (l.take k)
  have h2 : (l.take k).length ≤ l.length := by rw [List.length_take]; omega
  omega

end Go.Proofs.YtfbmljdlkgiliaaGreat
