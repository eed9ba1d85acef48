/-
  Lists cloned, each thing made anew: MateWant. Made by mkrw.py.
-/
import Derived.Test.YtlegklkbmifdeaaRwg
namespace Go.Proofs.Ytlegklkbmifdeaa
open Go.RowKit

/-- the cells of one, of a list -/
def rcWnt (x : Wnt) : List Value := [.string x.copy, .int .i64 x.version, .string x.hold, .int .i64 x.pull, .int .i64 x.start, .int .i64 x.dies, .int .i64 x.grace]
def rvWnt : List Wnt → List Value
  | [] => []
  | x :: r => rcWnt x ++ rvWnt r

theorem rcWnt_len (x : Wnt) : (rcWnt x).length = 7 := rfl
theorem rvWnt_len : ∀ xs : List Wnt, (rvWnt xs).length = xs.length * 7
  | [] => rfl
  | x :: r => by
    have := rvWnt_len r
    simp only [rvWnt, List.length_append, List.length_cons, rcWnt_len]
    omega

theorem rvWnt_at : ∀ (xs : List Wnt) (k : Nat) (x : Wnt) (j : Nat), xs[k]? = some x → j < 7 → (rvWnt xs)[k * 7 + j]? = (rcWnt x)[j]?
  | [], _, _, _, h, _ => by simp at h
  | y :: r, 0, x, j, h, hj => by
    simp at h
    subst h
    simp only [rvWnt]
    rw [List.getElem?_append_left (by rw [rcWnt_len]; omega)]
    simp
  | y :: r, k + 1, x, j, h, hj => by
    simp at h
    simp only [rvWnt]
    rw [List.getElem?_append_right (by rw [rcWnt_len]; omega), rcWnt_len, show (k + 1) * 7 + j - 7 = k * 7 + j by omega]
    exact rvWnt_at r k x j h hj

theorem rvWnt_same : ∀ (xs : List Wnt) (k : Nat) (x : Wnt), xs[k]? = some x → setRun (rvWnt xs) (k * 7) (rcWnt x) = rvWnt xs
  | [], _, _, h => by simp at h
  | z :: r, 0, x, h => by
    simp at h
    subst h
    rfl
  | z :: r, k + 1, x, h => by
    simp at h
    simp only [rvWnt]
    rw [setRun_app _ _ _ _ (by rw [rcWnt_len]; omega), rcWnt_len, show (k + 1) * 7 - 7 = k * 7 by omega, rvWnt_same r k x h]

theorem rvWnt_one : ∀ (xs : List Wnt), ∀ u ∈ rvWnt xs, u.oneCell' = true
  | [], u, h => by cases h
  | x :: r, u, h => by
    simp only [rvWnt, List.mem_append] at h
    rcases h with h | h
    · have : ∀ v ∈ rcWnt x, v.oneCell' = true := by
        intro v hv
        simp only [rcWnt, List.mem_cons, List.not_mem_nil, or_false] at hv
        rcases hv with rfl | rfl | rfl | rfl | rfl | rfl | rfl <;> rfl
      exact this u h
    · exact rvWnt_one r u h

theorem cells_rcWnt {lo : Nat} {w : World} {f : Nat → Option Value} {x : Wnt} (h : WntC lo w f x) (j : Nat) (v : Value) (hv : (rcWnt x)[j]? = some v) : f j = some v := by
  obtain ⟨q0, q1, q2, q3, q4, q5, q6, _, _⟩ := h
  have hj : j < 7 := lt_of_some hv
  have hc : j = 0 ∨ j = 1 ∨ j = 2 ∨ j = 3 ∨ j = 4 ∨ j = 5 ∨ j = 6 := by omega
  rcases hc with rfl | rfl | rfl | rfl | rfl | rfl | rfl <;> (cases hv; assumption)

theorem rcWnt_cells {lo : Nat} {w : World} {f : Nat → Option Value} {x : Wnt} (h : ∀ j v, (rcWnt x)[j]? = some v → f j = some v) (z0 : x.copy.size ≤ maxLen) (z2 : x.hold.size ≤ maxLen) : WntC lo w f x :=
  ⟨h 0 _ rfl, h 1 _ rfl, h 2 _ rfl, h 3 _ rfl, h 4 _ rfl, h 5 _ rfl, h 6 _ rfl, z0, z2⟩

theorem newsWnt {lo : Nat} {w : World} {b o : Nat} {xs : List Wnt} (h : SliceC WntC 7 lo w (some ⟨b, o, none⟩) xs) (j : Nat) (u : Value) (hu : (rvWnt xs)[j]? = some u) : w.cell? ((⟨b, o, none⟩ : Addr).add j) = some u := by
  have hl : j < xs.length * 7 := by have := lt_of_some hu; rwa [rvWnt_len] at this
  obtain ⟨x, hx⟩ : ∃ x, xs[j / 7]? = some x := ⟨xs[j / 7]'(by omega), List.getElem?_eq_getElem (by omega)⟩
  obtain ⟨b', o', e, _, _, hc⟩ := h.at hx
  cases e
  rw [show j = j / 7 * 7 + j % 7 by omega, rvWnt_at xs (j / 7) x (j % 7) hx (by omega)] at hu
  have := cells_rcWnt hc (j % 7) u hu
  rw [Addr.add_mid, show o + j = o + j / 7 * 7 + j % 7 by omega]
  exact this

/-- the texts in a list are no longer than they may be -/
def SzWnt (xs : List Wnt) (m : Nat) : Prop := ∀ x ∈ xs, x.copy.size ≤ m ∧ x.hold.size ≤ m

theorem rowslWnt {base cap : Nat} {a : Option Addr} {w : World} {xs : List Wnt} (h : w.ownsRow base 48 7 (.slice a xs.length cap) xs.length (rvWnt xs)) (hm : xs.length ≤ 1048576) (hz : SzWnt xs 1048576) : SliceC WntC 7 base w a xs := by
  rcases h.2 with ⟨h1, _⟩ | ⟨g', cap', cur, h1, _⟩
  · have : xs.length = 0 := by injection h1
    rw [List.length_eq_zero_iff.1 this]
    exact SliceC.nil
  · have e : a = some ⟨g', 0, none⟩ := by injection h1
    subst e
    refine ⟨by unfold maxLen; omega, .inr ⟨g', 0, rfl, ⟨rowb h, fun _ p => h.frozenAt p⟩, (h.lt g' rfl).2, fun k x hk => ?_⟩⟩
    have hlt := lt_of_some hk
    have hzz := hz x (List.mem_of_getElem? hk)
    refine rcWnt_cells (fun j v hv => ?_) (by unfold maxLen; omega) (by unfold maxLen; omega)
    have hj : j < 7 := lt_of_some hv
    show w.cell? ⟨g', 0 + k * 7 + j, none⟩ = some v
    have := h.cellAt (k * 7 + j) (by omega)
    rw [Nat.zero_add]
    rw [this, rvWnt_at xs k x j hk hj]
    exact hv

end Go.Proofs.Ytlegklkbmifdeaa
