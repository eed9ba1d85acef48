/-
  Lists cloned, each thing made anew: MateAsk. Made by mkrw.py.
-/
import Derived.Test.YtlegklkbmifdeaaRwg
namespace Go.Proofs.Ytlegklkbmifdeaa
open Go.RowKit

/-- the cells of one, of a list -/
def rcAks (x : Aks) : List Value := [.string x.hold, .string x.copy, .int .i64 x.first, .int .i64 x.at_]
def rvAks : List Aks → List Value
  | [] => []
  | x :: r => rcAks x ++ rvAks r

theorem rcAks_len (x : Aks) : (rcAks x).length = 4 := rfl
theorem rvAks_len : ∀ xs : List Aks, (rvAks xs).length = xs.length * 4
  | [] => rfl
  | x :: r => by
    have := rvAks_len r
    simp only [rvAks, List.length_append, List.length_cons, rcAks_len]
    omega

theorem rvAks_at : ∀ (xs : List Aks) (k : Nat) (x : Aks) (j : Nat), xs[k]? = some x → j < 4 → (rvAks xs)[k * 4 + j]? = (rcAks x)[j]?
  | [], _, _, _, h, _ => by simp at h
  | y :: r, 0, x, j, h, hj => by
    simp at h
    subst h
    simp only [rvAks]
    rw [List.getElem?_append_left (by rw [rcAks_len]; omega)]
    simp
  | y :: r, k + 1, x, j, h, hj => by
    simp at h
    simp only [rvAks]
    rw [List.getElem?_append_right (by rw [rcAks_len]; omega), rcAks_len, show (k + 1) * 4 + j - 4 = k * 4 + j by omega]
    exact rvAks_at r k x j h hj

theorem rvAks_same : ∀ (xs : List Aks) (k : Nat) (x : Aks), xs[k]? = some x → setRun (rvAks xs) (k * 4) (rcAks x) = rvAks xs
  | [], _, _, h => by simp at h
  | z :: r, 0, x, h => by
    simp at h
    subst h
    rfl
  | z :: r, k + 1, x, h => by
    simp at h
    simp only [rvAks]
    rw [setRun_app _ _ _ _ (by rw [rcAks_len]; omega), rcAks_len, show (k + 1) * 4 - 4 = k * 4 by omega, rvAks_same r k x h]

theorem rvAks_one : ∀ (xs : List Aks), ∀ u ∈ rvAks xs, u.oneCell' = true
  | [], u, h => by cases h
  | x :: r, u, h => by
    simp only [rvAks, List.mem_append] at h
    rcases h with h | h
    · have : ∀ v ∈ rcAks x, v.oneCell' = true := by
        intro v hv
        simp only [rcAks, List.mem_cons, List.not_mem_nil, or_false] at hv
        rcases hv with rfl | rfl | rfl | rfl <;> rfl
      exact this u h
    · exact rvAks_one r u h

theorem cells_rcAks {lo : Nat} {w : World} {f : Nat → Option Value} {x : Aks} (h : AksC lo w f x) (j : Nat) (v : Value) (hv : (rcAks x)[j]? = some v) : f j = some v := by
  obtain ⟨q0, q1, q2, q3, _, _⟩ := h
  have hj : j < 4 := lt_of_some hv
  have hc : j = 0 ∨ j = 1 ∨ j = 2 ∨ j = 3 := by omega
  rcases hc with rfl | rfl | rfl | rfl <;> (cases hv; assumption)

theorem rcAks_cells {lo : Nat} {w : World} {f : Nat → Option Value} {x : Aks} (h : ∀ j v, (rcAks x)[j]? = some v → f j = some v) (z0 : x.hold.size ≤ maxLen) (z2 : x.copy.size ≤ maxLen) : AksC lo w f x :=
  ⟨h 0 _ rfl, h 1 _ rfl, h 2 _ rfl, h 3 _ rfl, z0, z2⟩

theorem newsAks {lo : Nat} {w : World} {b o : Nat} {xs : List Aks} (h : SliceC AksC 4 lo w (some ⟨b, o, none⟩) xs) (j : Nat) (u : Value) (hu : (rvAks xs)[j]? = some u) : w.cell? ((⟨b, o, none⟩ : Addr).add j) = some u := by
  have hl : j < xs.length * 4 := by have := lt_of_some hu; rwa [rvAks_len] at this
  obtain ⟨x, hx⟩ : ∃ x, xs[j / 4]? = some x := ⟨xs[j / 4]'(by omega), List.getElem?_eq_getElem (by omega)⟩
  obtain ⟨b', o', e, _, _, hc⟩ := h.at hx
  cases e
  rw [show j = j / 4 * 4 + j % 4 by omega, rvAks_at xs (j / 4) x (j % 4) hx (by omega)] at hu
  have := cells_rcAks hc (j % 4) u hu
  rw [Addr.add_mid, show o + j = o + j / 4 * 4 + j % 4 by omega]
  exact this

/-- the texts in a list are no longer than they may be -/
def SzAks (xs : List Aks) (m : Nat) : Prop := ∀ x ∈ xs, x.hold.size ≤ m ∧ x.copy.size ≤ m

theorem rowslAks {base cap : Nat} {a : Option Addr} {w : World} {xs : List Aks} (h : w.ownsRow base 79 4 (.slice a xs.length cap) xs.length (rvAks xs)) (hm : xs.length ≤ 1048576) (hz : SzAks xs 1048576) : SliceC AksC 4 base w a xs := by
  rcases h.2 with ⟨h1, _⟩ | ⟨g', cap', cur, h1, _⟩
  · have : xs.length = 0 := by injection h1
    rw [List.length_eq_zero_iff.1 this]
    exact SliceC.nil
  · have e : a = some ⟨g', 0, none⟩ := by injection h1
    subst e
    refine ⟨by unfold maxLen; omega, .inr ⟨g', 0, rfl, ⟨rowb h, fun _ p => h.frozenAt p⟩, (h.lt g' rfl).2, fun k x hk => ?_⟩⟩
    have hlt := lt_of_some hk
    have hzz := hz x (List.mem_of_getElem? hk)
    refine rcAks_cells (fun j v hv => ?_) (by unfold maxLen; omega) (by unfold maxLen; omega)
    have hj : j < 4 := lt_of_some hv
    show w.cell? ⟨g', 0 + k * 4 + j, none⟩ = some v
    have := h.cellAt (k * 4 + j) (by omega)
    rw [Nat.zero_add]
    rw [this, rvAks_at xs k x j hk hj]
    exact hv

end Go.Proofs.Ytlegklkbmifdeaa
