/-
  Rows of cells of services, copies and berths. Made by mksrw.py.
-/
import Derived.Test.YtfbmljdlkgiliaaGreatSbk
import Derived.Lib.Walk
import Derived.Lib.SliceRun
namespace Go.Proofs.YtfbmljdlkgiliaaGreat
open Go.RowKit

theorem setRun_app : ∀ (vs a b : List Value) (o : Nat), a.length ≤ o → setRun (a ++ b) o vs = a ++ setRun b (o - a.length) vs
  | [], _, _, _, _ => rfl
  | v :: vs, a, b, o, h => by
    simp only [setRun]
    rw [List.set_append_right _ _ h, setRun_app vs a _ (o + 1) (by omega), show o + 1 - a.length = o - a.length + 1 by omega]

theorem rowb {base g cap n : Nat} {w : World} {e : TypeId} {s : Nat} {cs : List Value} (h : w.ownsRow base e s (.slice (some ⟨g, 0, none⟩) n cap) n cs) : base ≤ g := by
  rcases h.2 with ⟨h1, _⟩ | ⟨g', cap', cur, h1, h2, _⟩
  · cases h1
  · cases h1; exact h2

theorem rowf {base n : Nat} {w : World} {e : TypeId} {s : Nat} {cs : List Value} {v : Value} (h : w.ownsRow base e s v n cs) (hn : v ≠ .slice none 0 0) : ∃ g cap, v = .slice (some ⟨g, 0, none⟩) n cap := by
  rcases h.2 with ⟨h1, _⟩ | ⟨g', cap', cur, h1, _⟩
  · exact absurd h1 hn
  · exact ⟨g', cap', h1⟩

/-- the cells of one, of a list -/
def rcSsv (x : Ssv) : List Value := [.string x.name, .int .i64 x.version, .bool x.gone, .int .i64 x.image, .int .i64 x.want, .int .i64 x.down, .int .i64 x.over, .int .i64 x.next, .int .i64 x.per, .int .i64 x.least, .int .i64 x.most, .int .i64 x.load, .int .i64 x.cool]
def rvSsv : List Ssv → List Value
  | [] => []
  | x :: r => rcSsv x ++ rvSsv r

theorem rcSsv_len (x : Ssv) : (rcSsv x).length = 13 := rfl
theorem rvSsv_len : ∀ xs : List Ssv, (rvSsv xs).length = xs.length * 13
  | [] => rfl
  | x :: r => by
    have := rvSsv_len r
    simp only [rvSsv, List.length_append, List.length_cons, rcSsv_len]
    omega

theorem rvSsv_at : ∀ (xs : List Ssv) (k : Nat) (x : Ssv) (j : Nat), xs[k]? = some x → j < 13 → (rvSsv xs)[k * 13 + j]? = (rcSsv x)[j]?
  | [], _, _, _, h, _ => by simp at h
  | y :: r, 0, x, j, h, hj => by
    simp at h
    subst h
    simp only [rvSsv]
    rw [List.getElem?_append_left (by rw [rcSsv_len]; omega)]
    simp
  | y :: r, k + 1, x, j, h, hj => by
    simp at h
    simp only [rvSsv]
    rw [List.getElem?_append_right (by rw [rcSsv_len]; omega), rcSsv_len, show (k + 1) * 13 + j - 13 = k * 13 + j by omega]
    exact rvSsv_at r k x j h hj

theorem rvSsv_same : ∀ (xs : List Ssv) (k : Nat) (x : Ssv), xs[k]? = some x → setRun (rvSsv xs) (k * 13) (rcSsv x) = rvSsv xs
  | [], _, _, h => by simp at h
  | z :: r, 0, x, h => by
    simp at h
    subst h
    rfl
  | z :: r, k + 1, x, h => by
    simp at h
    simp only [rvSsv]
    rw [setRun_app _ _ _ _ (by rw [rcSsv_len]; omega), rcSsv_len, show (k + 1) * 13 - 13 = k * 13 by omega, rvSsv_same r k x h]

theorem rvSsv_one : ∀ (xs : List Ssv), ∀ u ∈ rvSsv xs, u.oneCell' = true
  | [], u, h => by cases h
  | x :: r, u, h => by
    simp only [rvSsv, List.mem_append] at h
    rcases h with h | h
    · have : ∀ v ∈ rcSsv x, v.oneCell' = true := by
        intro v hv
        simp only [rcSsv, List.mem_cons, List.not_mem_nil, or_false] at hv
        rcases hv with rfl | rfl | rfl | rfl | rfl | rfl | rfl | rfl | rfl | rfl | rfl | rfl | rfl <;> rfl
      exact this u h
    · exact rvSsv_one r u h

theorem cells_rcSsv {lo : Nat} {w : World} {f : Nat → Option Value} {x : Ssv} (h : SsvC lo w f x) (j : Nat) (v : Value) (hv : (rcSsv x)[j]? = some v) : f j = some v := by
  obtain ⟨q0, q1, q2, q3, q4, q5, q6, q7, q8, q9, q10, q11, q12, _⟩ := h
  have hj : j < 13 := lt_of_some hv
  have hc : j = 0 ∨ j = 1 ∨ j = 2 ∨ j = 3 ∨ j = 4 ∨ j = 5 ∨ j = 6 ∨ j = 7 ∨ j = 8 ∨ j = 9 ∨ j = 10 ∨ j = 11 ∨ j = 12 := by omega
  rcases hc with rfl | rfl | rfl | rfl | rfl | rfl | rfl | rfl | rfl | rfl | rfl | rfl | rfl <;> (cases hv; assumption)

theorem rcSsv_cells {lo : Nat} {w : World} {f : Nat → Option Value} {x : Ssv} (h : ∀ j v, (rcSsv x)[j]? = some v → f j = some v) (z0 : x.name.size ≤ maxLen) : SsvC lo w f x :=
  ⟨h 0 _ rfl, h 1 _ rfl, h 2 _ rfl, h 3 _ rfl, h 4 _ rfl, h 5 _ rfl, h 6 _ rfl, h 7 _ rfl, h 8 _ rfl, h 9 _ rfl, h 10 _ rfl, h 11 _ rfl, h 12 _ rfl, z0⟩

theorem newsSsv {lo : Nat} {w : World} {b o : Nat} {xs : List Ssv} (h : SliceC SsvC 13 lo w (some ⟨b, o, none⟩) xs) (j : Nat) (u : Value) (hu : (rvSsv xs)[j]? = some u) : w.cell? ((⟨b, o, none⟩ : Addr).add j) = some u := by
  have hl : j < xs.length * 13 := by have := lt_of_some hu; rwa [rvSsv_len] at this
  obtain ⟨x, hx⟩ : ∃ x, xs[j / 13]? = some x := ⟨xs[j / 13]'(by omega), List.getElem?_eq_getElem (by omega)⟩
  obtain ⟨b', o', e, _, _, hc⟩ := h.at hx
  cases e
  rw [show j = j / 13 * 13 + j % 13 by omega, rvSsv_at xs (j / 13) x (j % 13) hx (by omega)] at hu
  have := cells_rcSsv hc (j % 13) u hu
  rw [Addr.add_mid, show o + j = o + j / 13 * 13 + j % 13 by omega]
  exact this

/-- the texts in a list are no longer than they may be -/
def SzSsv (xs : List Ssv) (m : Nat) : Prop := ∀ x ∈ xs, x.name.size ≤ m

theorem rowslSsv {base cap : Nat} {a : Option Addr} {w : World} {xs : List Ssv} (h : w.ownsRow base 46 13 (.slice a xs.length cap) xs.length (rvSsv xs)) (hm : xs.length ≤ 1048576) (hz : SzSsv xs maxLen) : SliceC SsvC 13 base w a xs := by
  rcases h.2 with ⟨h1, _⟩ | ⟨g', cap', cur, h1, _⟩
  · have : xs.length = 0 := by injection h1
    rw [List.length_eq_zero_iff.1 this]
    exact SliceC.nil
  · have e : a = some ⟨g', 0, none⟩ := by injection h1
    subst e
    refine ⟨by unfold maxLen; omega, .inr ⟨g', 0, rfl, ⟨rowb h, fun _ p => h.frozenAt p⟩, (h.lt g' rfl).2, fun k x hk => ?_⟩⟩
    have hlt := lt_of_some hk
    have hzz := hz x (List.mem_of_getElem? hk)
    refine rcSsv_cells (fun j v hv => ?_) hzz
    have hj : j < 13 := lt_of_some hv
    show w.cell? ⟨g', 0 + k * 13 + j, none⟩ = some v
    have := h.cellAt (k * 13 + j) (by omega)
    rw [Nat.zero_add]
    rw [this, rvSsv_at xs k x j hk hj]
    exact hv

theorem size_of_Ssv {lo : Nat} {w : World} {a : Option Addr} {xs : List Ssv} (h : SliceC SsvC 13 lo w a xs) : SzSsv xs maxLen := by
  intro x hx
  obtain ⟨j, hj⟩ := List.getElem?_of_mem hx
  obtain ⟨_, _, _, _, _, hc⟩ := h.at hj
  obtain ⟨_, _, _, _, _, _, _, _, _, _, _, _, _, z0⟩ := hc
  exact z0

/-- the cells of one, of a list -/
def rcScp (x : Scp) : List Value := [.string x.service, .int .i64 x.number, .int .i64 x.version, .int .i64 x.image, .int .i64 x.state, .bool x.ending, .string x.berth]
def rvScp : List Scp → List Value
  | [] => []
  | x :: r => rcScp x ++ rvScp r

theorem rcScp_len (x : Scp) : (rcScp x).length = 7 := rfl
theorem rvScp_len : ∀ xs : List Scp, (rvScp xs).length = xs.length * 7
  | [] => rfl
  | x :: r => by
    have := rvScp_len r
    simp only [rvScp, List.length_append, List.length_cons, rcScp_len]
    omega

theorem rvScp_at : ∀ (xs : List Scp) (k : Nat) (x : Scp) (j : Nat), xs[k]? = some x → j < 7 → (rvScp xs)[k * 7 + j]? = (rcScp x)[j]?
  | [], _, _, _, h, _ => by simp at h
  | y :: r, 0, x, j, h, hj => by
    simp at h
    subst h
    simp only [rvScp]
    rw [List.getElem?_append_left (by rw [rcScp_len]; omega)]
    simp
  | y :: r, k + 1, x, j, h, hj => by
    simp at h
    simp only [rvScp]
    rw [List.getElem?_append_right (by rw [rcScp_len]; omega), rcScp_len, show (k + 1) * 7 + j - 7 = k * 7 + j by omega]
    exact rvScp_at r k x j h hj

theorem rvScp_same : ∀ (xs : List Scp) (k : Nat) (x : Scp), xs[k]? = some x → setRun (rvScp xs) (k * 7) (rcScp x) = rvScp xs
  | [], _, _, h => by simp at h
  | z :: r, 0, x, h => by
    simp at h
    subst h
    rfl
  | z :: r, k + 1, x, h => by
    simp at h
    simp only [rvScp]
    rw [setRun_app _ _ _ _ (by rw [rcScp_len]; omega), rcScp_len, show (k + 1) * 7 - 7 = k * 7 by omega, rvScp_same r k x h]

theorem rvScp_one : ∀ (xs : List Scp), ∀ u ∈ rvScp xs, u.oneCell' = true
  | [], u, h => by cases h
  | x :: r, u, h => by
    simp only [rvScp, List.mem_append] at h
    rcases h with h | h
    · have : ∀ v ∈ rcScp x, v.oneCell' = true := by
        intro v hv
        simp only [rcScp, List.mem_cons, List.not_mem_nil, or_false] at hv
        rcases hv with rfl | rfl | rfl | rfl | rfl | rfl | rfl <;> rfl
      exact this u h
    · exact rvScp_one r u h

theorem cells_rcScp {lo : Nat} {w : World} {f : Nat → Option Value} {x : Scp} (h : ScpC lo w f x) (j : Nat) (v : Value) (hv : (rcScp x)[j]? = some v) : f j = some v := by
  obtain ⟨q0, q1, q2, q3, q4, q5, q6, _, _⟩ := h
  have hj : j < 7 := lt_of_some hv
  have hc : j = 0 ∨ j = 1 ∨ j = 2 ∨ j = 3 ∨ j = 4 ∨ j = 5 ∨ j = 6 := by omega
  rcases hc with rfl | rfl | rfl | rfl | rfl | rfl | rfl <;> (cases hv; assumption)

theorem rcScp_cells {lo : Nat} {w : World} {f : Nat → Option Value} {x : Scp} (h : ∀ j v, (rcScp x)[j]? = some v → f j = some v) (z0 : x.service.size ≤ maxLen) (z1 : x.berth.size ≤ maxLen) : ScpC lo w f x :=
  ⟨h 0 _ rfl, h 1 _ rfl, h 2 _ rfl, h 3 _ rfl, h 4 _ rfl, h 5 _ rfl, h 6 _ rfl, z0, z1⟩

theorem newsScp {lo : Nat} {w : World} {b o : Nat} {xs : List Scp} (h : SliceC ScpC 7 lo w (some ⟨b, o, none⟩) xs) (j : Nat) (u : Value) (hu : (rvScp xs)[j]? = some u) : w.cell? ((⟨b, o, none⟩ : Addr).add j) = some u := by
  have hl : j < xs.length * 7 := by have := lt_of_some hu; rwa [rvScp_len] at this
  obtain ⟨x, hx⟩ : ∃ x, xs[j / 7]? = some x := ⟨xs[j / 7]'(by omega), List.getElem?_eq_getElem (by omega)⟩
  obtain ⟨b', o', e, _, _, hc⟩ := h.at hx
  cases e
  rw [show j = j / 7 * 7 + j % 7 by omega, rvScp_at xs (j / 7) x (j % 7) hx (by omega)] at hu
  have := cells_rcScp hc (j % 7) u hu
  rw [Addr.add_mid, show o + j = o + j / 7 * 7 + j % 7 by omega]
  exact this

/-- the texts in a list are no longer than they may be -/
def SzScp (xs : List Scp) (m : Nat) : Prop := ∀ x ∈ xs, x.service.size ≤ m ∧ x.berth.size ≤ m

theorem rowslScp {base cap : Nat} {a : Option Addr} {w : World} {xs : List Scp} (h : w.ownsRow base 70 7 (.slice a xs.length cap) xs.length (rvScp xs)) (hm : xs.length ≤ 1048576) (hz : SzScp xs maxLen) : SliceC ScpC 7 base w a xs := by
  rcases h.2 with ⟨h1, _⟩ | ⟨g', cap', cur, h1, _⟩
  · have : xs.length = 0 := by injection h1
    rw [List.length_eq_zero_iff.1 this]
    exact SliceC.nil
  · have e : a = some ⟨g', 0, none⟩ := by injection h1
    subst e
    refine ⟨by unfold maxLen; omega, .inr ⟨g', 0, rfl, ⟨rowb h, fun _ p => h.frozenAt p⟩, (h.lt g' rfl).2, fun k x hk => ?_⟩⟩
    have hlt := lt_of_some hk
    have hzz := hz x (List.mem_of_getElem? hk)
    refine rcScp_cells (fun j v hv => ?_) hzz.1 hzz.2
    have hj : j < 7 := lt_of_some hv
    show w.cell? ⟨g', 0 + k * 7 + j, none⟩ = some v
    have := h.cellAt (k * 7 + j) (by omega)
    rw [Nat.zero_add]
    rw [this, rvScp_at xs k x j hk hj]
    exact hv

theorem size_of_Scp {lo : Nat} {w : World} {a : Option Addr} {xs : List Scp} (h : SliceC ScpC 7 lo w a xs) : SzScp xs maxLen := by
  intro x hx
  obtain ⟨j, hj⟩ := List.getElem?_of_mem hx
  obtain ⟨_, _, _, _, _, hc⟩ := h.at hj
  obtain ⟨_, _, _, _, _, _, _, z0, z1⟩ := hc
  exact ⟨z0, z1⟩

/-- the cells of one, of a list -/
def rcSbt (x : Sbt) : List Value := [.string x.name, .bool x.drain]
def rvSbt : List Sbt → List Value
  | [] => []
  | x :: r => rcSbt x ++ rvSbt r

theorem rcSbt_len (x : Sbt) : (rcSbt x).length = 2 := rfl
theorem rvSbt_len : ∀ xs : List Sbt, (rvSbt xs).length = xs.length * 2
  | [] => rfl
  | x :: r => by
    have := rvSbt_len r
    simp only [rvSbt, List.length_append, List.length_cons, rcSbt_len]
    omega

theorem rvSbt_at : ∀ (xs : List Sbt) (k : Nat) (x : Sbt) (j : Nat), xs[k]? = some x → j < 2 → (rvSbt xs)[k * 2 + j]? = (rcSbt x)[j]?
  | [], _, _, _, h, _ => by simp at h
  | y :: r, 0, x, j, h, hj => by
    simp at h
    subst h
    simp only [rvSbt]
    rw [List.getElem?_append_left (by rw [rcSbt_len]; omega)]
    simp
  | y :: r, k + 1, x, j, h, hj => by
    simp at h
    simp only [rvSbt]
    rw [List.getElem?_append_right (by rw [rcSbt_len]; omega), rcSbt_len, show (k + 1) * 2 + j - 2 = k * 2 + j by omega]
    exact rvSbt_at r k x j h hj

theorem rvSbt_same : ∀ (xs : List Sbt) (k : Nat) (x : Sbt), xs[k]? = some x → setRun (rvSbt xs) (k * 2) (rcSbt x) = rvSbt xs
  | [], _, _, h => by simp at h
  | z :: r, 0, x, h => by
    simp at h
    subst h
    rfl
  | z :: r, k + 1, x, h => by
    simp at h
    simp only [rvSbt]
    rw [setRun_app _ _ _ _ (by rw [rcSbt_len]; omega), rcSbt_len, show (k + 1) * 2 - 2 = k * 2 by omega, rvSbt_same r k x h]

theorem rvSbt_one : ∀ (xs : List Sbt), ∀ u ∈ rvSbt xs, u.oneCell' = true
  | [], u, h => by cases h
  | x :: r, u, h => by
    simp only [rvSbt, List.mem_append] at h
    rcases h with h | h
    · have : ∀ v ∈ rcSbt x, v.oneCell' = true := by
        intro v hv
        simp only [rcSbt, List.mem_cons, List.not_mem_nil, or_false] at hv
        rcases hv with rfl | rfl <;> rfl
      exact this u h
    · exact rvSbt_one r u h

theorem cells_rcSbt {lo : Nat} {w : World} {f : Nat → Option Value} {x : Sbt} (h : SbtC lo w f x) (j : Nat) (v : Value) (hv : (rcSbt x)[j]? = some v) : f j = some v := by
  obtain ⟨q0, q1, _⟩ := h
  have hj : j < 2 := lt_of_some hv
  have hc : j = 0 ∨ j = 1 := by omega
  rcases hc with rfl | rfl <;> (cases hv; assumption)

theorem rcSbt_cells {lo : Nat} {w : World} {f : Nat → Option Value} {x : Sbt} (h : ∀ j v, (rcSbt x)[j]? = some v → f j = some v) (z0 : x.name.size ≤ maxLen) : SbtC lo w f x :=
  ⟨h 0 _ rfl, h 1 _ rfl, z0⟩

theorem newsSbt {lo : Nat} {w : World} {b o : Nat} {xs : List Sbt} (h : SliceC SbtC 2 lo w (some ⟨b, o, none⟩) xs) (j : Nat) (u : Value) (hu : (rvSbt xs)[j]? = some u) : w.cell? ((⟨b, o, none⟩ : Addr).add j) = some u := by
  have hl : j < xs.length * 2 := by have := lt_of_some hu; rwa [rvSbt_len] at this
  obtain ⟨x, hx⟩ : ∃ x, xs[j / 2]? = some x := ⟨xs[j / 2]'(by omega), List.getElem?_eq_getElem (by omega)⟩
  obtain ⟨b', o', e, _, _, hc⟩ := h.at hx
  cases e
  rw [show j = j / 2 * 2 + j % 2 by omega, rvSbt_at xs (j / 2) x (j % 2) hx (by omega)] at hu
  have := cells_rcSbt hc (j % 2) u hu
  rw [Addr.add_mid, show o + j = o + j / 2 * 2 + j % 2 by omega]
  exact this

/-- the texts in a list are no longer than they may be -/
def SzSbt (xs : List Sbt) (m : Nat) : Prop := ∀ x ∈ xs, x.name.size ≤ m

theorem rowslSbt {base cap : Nat} {a : Option Addr} {w : World} {xs : List Sbt} (h : w.ownsRow base 85 2 (.slice a xs.length cap) xs.length (rvSbt xs)) (hm : xs.length ≤ 1048576) (hz : SzSbt xs maxLen) : SliceC SbtC 2 base w a xs := by
  rcases h.2 with ⟨h1, _⟩ | ⟨g', cap', cur, h1, _⟩
  · have : xs.length = 0 := by injection h1
    rw [List.length_eq_zero_iff.1 this]
    exact SliceC.nil
  · have e : a = some ⟨g', 0, none⟩ := by injection h1
    subst e
    refine ⟨by unfold maxLen; omega, .inr ⟨g', 0, rfl, ⟨rowb h, fun _ p => h.frozenAt p⟩, (h.lt g' rfl).2, fun k x hk => ?_⟩⟩
    have hlt := lt_of_some hk
    have hzz := hz x (List.mem_of_getElem? hk)
    refine rcSbt_cells (fun j v hv => ?_) hzz
    have hj : j < 2 := lt_of_some hv
    show w.cell? ⟨g', 0 + k * 2 + j, none⟩ = some v
    have := h.cellAt (k * 2 + j) (by omega)
    rw [Nat.zero_add]
    rw [this, rvSbt_at xs k x j hk hj]
    exact hv

theorem size_of_Sbt {lo : Nat} {w : World} {a : Option Addr} {xs : List Sbt} (h : SliceC SbtC 2 lo w a xs) : SzSbt xs maxLen := by
  intro x hx
  obtain ⟨j, hj⟩ := List.getElem?_of_mem hx
  obtain ⟨_, _, _, _, _, hc⟩ := h.at hj
  obtain ⟨_, _, z0⟩ := hc
  exact z0

end Go.Proofs.YtfbmljdlkgiliaaGreat
