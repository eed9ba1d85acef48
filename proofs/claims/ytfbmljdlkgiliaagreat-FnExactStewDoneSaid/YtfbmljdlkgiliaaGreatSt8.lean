/-
  What may be taken away, by the specification. Made by mkst8.py.
-/
import Derived.Test.YtfbmljdlkgiliaaGreatSt7
namespace Go.Proofs.YtfbmljdlkgiliaaGreat
open Go.RowKit

/-- whether a copy may be taken away -/
def mayB (x : Sbk) (s : ByteArray) (n : Int) : Bool :=
  match x.copies.find? (isC s n), x.services.find? (fun b => decide (b.name = s)) with
  | some c, some v => !c.ending && (!(c.state == 3) || v.gone || decide (v.want - v.down ≤ (cntL x.copies s v.image).ready - 1))
  | _, _ => false

theorem sv_small {v : Ssv} {now : Int} (h : svB v now = true) : 0 ≤ v.want ∧ v.want ≤ 10 ∧ 0 ≤ v.down ∧ v.down ≤ 10 := by
  unfold svB at h
  simp [inR] at h
  exact ⟨by omega, by omega, by omega, by omega⟩

/-- what of a valid book stays so while copies are ended -/
structure SWk (x : Sbk) : Prop where
  l1 : x.services.length ≤ 8
  l2 : x.copies.length ≤ 200
  s1 : ∀ (j : Nat) y, x.services[j]? = some y → 0 ≤ y.want ∧ y.want ≤ 10 ∧ 0 ≤ y.down ∧ y.down ≤ 10
  c1 : ∀ (j : Nat) y, x.copies[j]? = some y → x.services.find? (fun b => decide (b.name = y.service)) ≠ none

theorem SWk.of {x : Sbk} (h : SVal x) : SWk x := ⟨h.l1, h.l2, fun j y hy => sv_small (h.s1 j y hy), fun j y hy => by
  have h1 := h.c1 j y hy
  unfold cpB at h1
  intro hn
  rw [hn] at h1
  cases h1⟩

theorem copy_service {x : Sbk} (hv : SWk x) {s : ByteArray} {n : Int} {k : Nat} {c : Scp} (hk : x.copies[k]? = some c) (hf : x.copies.find? (isC s n) = some c) : ∃ (v : Ssv) (ks : Nat), x.services[ks]? = some v ∧ idxV x.services s = (ks : Int) ∧ x.services.find? (fun b => decide (b.name = s)) = some v := by
  have h1 := hv.c1 k c hk
  have h2 : isC s n c = true := by simpa using List.find?_some hf
  have hs : c.service = s := by unfold isC at h2; simp at h2; exact h2.1
  rcases idxV_cases x.services s with ⟨_, hn⟩ | ⟨ks, v, hi, hks, hfv⟩
  · rw [hs] at h1
    exact absurd hn h1
  · exact ⟨v, ks, hks, hi, hfv⟩

theorem cntL_bnd (s : ByteArray) (im : Int) : ∀ (l : List Scp) (t : Sct), 0 ≤ t.ready → 0 ≤ (l.foldl (fun t c => stp t c s im) t).ready ∧ (l.foldl (fun t c => stp t c s im) t).ready ≤ t.ready + (l.length : Int)
  | [], t, h => ⟨h, by simp⟩
  | c :: l, t, h => by
    have h1 : 0 ≤ (stp t c s im).ready ∧ (stp t c s im).ready ≤ t.ready + 1 := by
      unfold stp
      split
      · split
        · exact ⟨h, by show t.ready ≤ _; omega⟩
        · show 0 ≤ (if c.state = 3 then t.ready + 1 else t.ready) ∧ (if c.state = 3 then t.ready + 1 else t.ready) ≤ t.ready + 1
          split <;> omega
      · exact ⟨h, by omega⟩
    have h2 := cntL_bnd s im l (stp t c s im) h1.1
    simp only [List.foldl_cons, List.length_cons]
    exact ⟨h2.1, by have := h2.2; omega⟩

theorem cntL_ready (l : List Scp) (s : ByteArray) (im : Int) : 0 ≤ (cntL l s im).ready ∧ (cntL l s im).ready ≤ (l.length : Int) := by
  have h := cntL_bnd s im l ⟨0, 0, 0, 0, 0⟩ (by decide)
  exact ⟨h.1, by have := h.2; unfold cntL; simpa using this⟩

end Go.Proofs.YtfbmljdlkgiliaaGreat
