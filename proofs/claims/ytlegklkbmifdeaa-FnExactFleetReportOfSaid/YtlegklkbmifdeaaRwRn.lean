/-
  Lists cloned, each thing made anew: MateRun. Made by mkrw.py.
-/
import Derived.Test.YtlegklkbmifdeaaRwg
namespace Go.Proofs.Ytlegklkbmifdeaa
open Go.RowKit

/-- the cells of one, of a list -/
def rcRn (x : Rn) : List Value := [.string x.want.copy, .int .i64 x.want.version, .string x.want.hold, .int .i64 x.want.pull, .int .i64 x.want.start, .int .i64 x.want.dies, .int .i64 x.want.grace, .int .i64 x.state, .int .i64 x.left, .int .i64 x.falls, .int .i64 x.until_]
def rvRn : List Rn → List Value
  | [] => []
  | x :: r => rcRn x ++ rvRn r

theorem rcRn_len (x : Rn) : (rcRn x).length = 11 := rfl
theorem rvRn_len : ∀ xs : List Rn, (rvRn xs).length = xs.length * 11
  | [] => rfl
  | x :: r => by
    have := rvRn_len r
    simp only [rvRn, List.length_append, List.length_cons, rcRn_len]
    omega

theorem rvRn_at : ∀ (xs : List Rn) (k : Nat) (x : Rn) (j : Nat), xs[k]? = some x → j < 11 → (rvRn xs)[k * 11 + j]? = (rcRn x)[j]?
  | [], _, _, _, h, _ => by simp at h
  | y :: r, 0, x, j, h, hj => by
    simp at h
    subst h
    simp only [rvRn]
    rw [List.getElem?_append_left (by rw [rcRn_len]; omega)]
    simp
  | y :: r, k + 1, x, j, h, hj => by
    simp at h
    simp only [rvRn]
    rw [List.getElem?_append_right (by rw [rcRn_len]; omega), rcRn_len, show (k + 1) * 11 + j - 11 = k * 11 + j by omega]
    exact rvRn_at r k x j h hj

theorem rvRn_same : ∀ (xs : List Rn) (k : Nat) (x : Rn), xs[k]? = some x → setRun (rvRn xs) (k * 11) (rcRn x) = rvRn xs
  | [], _, _, h => by simp at h
  | z :: r, 0, x, h => by
    simp at h
    subst h
    rfl
  | z :: r, k + 1, x, h => by
    simp at h
    simp only [rvRn]
    rw [setRun_app _ _ _ _ (by rw [rcRn_len]; omega), rcRn_len, show (k + 1) * 11 - 11 = k * 11 by omega, rvRn_same r k x h]

theorem rvRn_one : ∀ (xs : List Rn), ∀ u ∈ rvRn xs, u.oneCell' = true
  | [], u, h => by cases h
  | x :: r, u, h => by
    simp only [rvRn, List.mem_append] at h
    rcases h with h | h
    · have : ∀ v ∈ rcRn x, v.oneCell' = true := by
        intro v hv
        simp only [rcRn, List.mem_cons, List.not_mem_nil, or_false] at hv
        rcases hv with rfl | rfl | rfl | rfl | rfl | rfl | rfl | rfl | rfl | rfl | rfl <;> rfl
      exact this u h
    · exact rvRn_one r u h

theorem cells_rcRn {lo : Nat} {w : World} {f : Nat → Option Value} {x : Rn} (h : RnC lo w f x) (j : Nat) (v : Value) (hv : (rcRn x)[j]? = some v) : f j = some v := by
  obtain ⟨q0, q1, q2, q3, q4, q5, q6, q7, q8, q9, q10, _, _⟩ := h
  have hj : j < 11 := lt_of_some hv
  have hc : j = 0 ∨ j = 1 ∨ j = 2 ∨ j = 3 ∨ j = 4 ∨ j = 5 ∨ j = 6 ∨ j = 7 ∨ j = 8 ∨ j = 9 ∨ j = 10 := by omega
  rcases hc with rfl | rfl | rfl | rfl | rfl | rfl | rfl | rfl | rfl | rfl | rfl <;> (cases hv; assumption)

theorem rcRn_cells {lo : Nat} {w : World} {f : Nat → Option Value} {x : Rn} (h : ∀ j v, (rcRn x)[j]? = some v → f j = some v) (z0 : x.want.copy.size ≤ maxLen) (z2 : x.want.hold.size ≤ maxLen) : RnC lo w f x :=
  ⟨h 0 _ rfl, h 1 _ rfl, h 2 _ rfl, h 3 _ rfl, h 4 _ rfl, h 5 _ rfl, h 6 _ rfl, h 7 _ rfl, h 8 _ rfl, h 9 _ rfl, h 10 _ rfl, z0, z2⟩

theorem newsRn {lo : Nat} {w : World} {b o : Nat} {xs : List Rn} (h : SliceC RnC 11 lo w (some ⟨b, o, none⟩) xs) (j : Nat) (u : Value) (hu : (rvRn xs)[j]? = some u) : w.cell? ((⟨b, o, none⟩ : Addr).add j) = some u := by
  have hl : j < xs.length * 11 := by have := lt_of_some hu; rwa [rvRn_len] at this
  obtain ⟨x, hx⟩ : ∃ x, xs[j / 11]? = some x := ⟨xs[j / 11]'(by omega), List.getElem?_eq_getElem (by omega)⟩
  obtain ⟨b', o', e, _, _, hc⟩ := h.at hx
  cases e
  rw [show j = j / 11 * 11 + j % 11 by omega, rvRn_at xs (j / 11) x (j % 11) hx (by omega)] at hu
  have := cells_rcRn hc (j % 11) u hu
  rw [Addr.add_mid, show o + j = o + j / 11 * 11 + j % 11 by omega]
  exact this

/-- the texts in a list are no longer than they may be -/
def SzRn (xs : List Rn) (m : Nat) : Prop := ∀ x ∈ xs, x.want.copy.size ≤ m ∧ x.want.hold.size ≤ m

theorem rowslRn {base cap : Nat} {a : Option Addr} {w : World} {xs : List Rn} (h : w.ownsRow base 50 11 (.slice a xs.length cap) xs.length (rvRn xs)) (hm : xs.length ≤ 1048576) (hz : SzRn xs 1048576) : SliceC RnC 11 base w a xs := by
  rcases h.2 with ⟨h1, _⟩ | ⟨g', cap', cur, h1, _⟩
  · have : xs.length = 0 := by injection h1
    rw [List.length_eq_zero_iff.1 this]
    exact SliceC.nil
  · have e : a = some ⟨g', 0, none⟩ := by injection h1
    subst e
    refine ⟨by unfold maxLen; omega, .inr ⟨g', 0, rfl, ⟨rowb h, fun _ p => h.frozenAt p⟩, (h.lt g' rfl).2, fun k x hk => ?_⟩⟩
    have hlt := lt_of_some hk
    have hzz := hz x (List.mem_of_getElem? hk)
    refine rcRn_cells (fun j v hv => ?_) (by unfold maxLen; omega) (by unfold maxLen; omega)
    have hj : j < 11 := lt_of_some hv
    show w.cell? ⟨g', 0 + k * 11 + j, none⟩ = some v
    have := h.cellAt (k * 11 + j) (by omega)
    rw [Nat.zero_add]
    rw [this, rvRn_at xs k x j hk hj]
    exact hv

end Go.Proofs.Ytlegklkbmifdeaa
