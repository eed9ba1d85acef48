/-
  Walks: the specification's nest and write of a node.
-/
import Derived.Test.YtlcjdmgjekkghaaPure2
import Derived.Test.YtlcjdmgjekkghaaWalkD
namespace Go.Proofs.Ytlcjdmgjekkghaa
open Go.RowKit

/-- the kids' numbers lie in memory, a slice a node -/
def KidsIn (w : World) (go : Nat) (out : List (List Nat)) : Prop :=
  go < w.heap.size ∧ ∀ (j : Nat) (ks : List Nat), out[j]? = some ks → ∃ a c, w.cell? ⟨go, j, none⟩ = some (.slice a ks.length c) ∧
    (ks = [] ∨ ∃ g, a = some ⟨g, 0, none⟩ ∧ g < w.heap.size ∧ ∀ i v, ks[i]? = some v → w.cell? ⟨g, i, none⟩ = some (.int .i64 ((v : Nat) : Int)))

theorem KidsIn.grown {w w' : World} {go : Nat} {out : List (List Nat)} (h : KidsIn w go out) (hb : Below w.heap.size w w') : KidsIn w' go out := by
  refine ⟨Nat.lt_of_lt_of_le h.1 hb.size, ?_⟩
  intro j ks hj
  obtain ⟨a, c, h1, h2⟩ := h.2 j ks hj
  refine ⟨a, c, (hb.cell (p := ⟨go, j, none⟩) h.1).trans h1, ?_⟩
  rcases h2 with h2 | ⟨g, e, hg, h2⟩
  · exact .inl h2
  · exact .inr ⟨g, e, Nat.lt_of_lt_of_le hg hb.size, fun i v hi => (hb.cell (p := ⟨g, i, none⟩) hg).trans (h2 i v hi)⟩

theorem kids_nil {w : World} {go k : Nat} {out : List (List Nat)} (h : KidsIn w go out) (hk : out[k]? = some []) : ∃ a c, w.cell? ⟨go, k, none⟩ = some (.slice a 0 c) := by
  obtain ⟨a, c, h1, _⟩ := h.2 k [] hk
  exact ⟨a, c, h1⟩

theorem kids_one {w : World} {go k a : Nat} {out : List (List Nat)} (h : KidsIn w go out) (hk : out[k]? = some [a]) : ∃ g c, w.cell? ⟨go, k, none⟩ = some (.slice (some ⟨g, 0, none⟩) 1 c) ∧ w.cell? ⟨g, 0, none⟩ = some (.int .i64 (a : Int)) := by
  obtain ⟨x, c, h1, h2⟩ := h.2 k [a] hk
  rcases h2 with h2 | ⟨g, rfl, _, h2⟩
  · cases h2
  · exact ⟨g, c, h1, h2 0 a rfl⟩

theorem kids_two {w : World} {go k a b : Nat} {out : List (List Nat)} (h : KidsIn w go out) (hk : out[k]? = some [a, b]) : ∃ g c, w.cell? ⟨go, k, none⟩ = some (.slice (some ⟨g, 0, none⟩) 2 c) ∧ w.cell? ⟨g, 0, none⟩ = some (.int .i64 (a : Int)) ∧ w.cell? ⟨g, 1, none⟩ = some (.int .i64 (b : Int)) := by
  obtain ⟨x, c, h1, h2⟩ := h.2 k [a, b] hk
  rcases h2 with h2 | ⟨g, rfl, _, h2⟩
  · cases h2
  · exact ⟨g, c, h1, h2 0 a rfl, h2 1 b rfl⟩

theorem out_lt {out : List (List Nat)} {k n : Nat} {l : List Nat} (hl : out.length = n) (h : out[k]? = some l) : k < n := by
  have := P.getElem?_lt h; omega

set_option maxHeartbeats 2000000 in
theorem nest_any (ns : List P.Nd) (out : List (List Nat)) (n co go : Nat) (hol : out.length = n) : ∀ (t : P.Tr) (k : Nat), P.IsT ns out k t → P.count t ≤ 400 → ∀ (w : World), KidsIn w go out →
    Calls Try.prog 19 #[.slice (some ⟨go, 0, none⟩) n co, .int .i64 (k : Int)] w fun e w' => e = .returned (.int .i64 (P.tall t : Int)) ∧ w' = w := by
  intro t0 k0 h0
  refine P.isT_ind (ns := ns) (out := out) (p := fun k t => P.count t ≤ 400 → ∀ (w : World), KidsIn w go out → Calls Try.prog 19 #[.slice (some ⟨go, 0, none⟩) n co, .int .i64 (k : Int)] w fun e w' => e = .returned (.int .i64 (P.tall t : Int)) ∧ w' = w) ?_ ?_ ?_ ?_ ?_ ?_ t0 k0 h0
  · intro k nd hnd hk hout hct w hK
    obtain ⟨a, c, c0⟩ := kids_nil hK hout
    have hkl := out_lt hol hout
    clear hK hout
    go_enter Try.func19, Try.ntmps19
    go_wp2_with fail
    refine wp_loop_rounds 1 ?_
    rw [rounds_succ]
    go_wp2_with fail
    go_ret
    exact ⟨rfl, rfl⟩
  · intro k nd hnd hk hout hct w hK
    obtain ⟨a, c, c0⟩ := kids_nil hK hout
    have hkl := out_lt hol hout
    clear hK hout
    go_enter Try.func19, Try.ntmps19
    go_wp2_with fail
    refine wp_loop_rounds 1 ?_
    rw [rounds_succ]
    go_wp2_with fail
    go_ret
    exact ⟨rfl, rfl⟩
  · intro k nd hnd hk hout hct w hK
    obtain ⟨a, c, c0⟩ := kids_nil hK hout
    have hkl := out_lt hol hout
    clear hK hout
    go_enter Try.func19, Try.ntmps19
    go_wp2_with fail
    refine wp_loop_rounds 1 ?_
    rw [rounds_succ]
    go_wp2_with fail
    go_ret
    exact ⟨rfl, rfl⟩
  · intro k nd a t hnd hk hout hak hT ih hct w hK
    rw [P.count_nt] at hct
    obtain ⟨g, c, c0, c1⟩ := kids_one hK hout
    have hkl := out_lt hol hout
    have htl : P.tall t ≤ 400 := Nat.le_trans (P.tall_le_count t) (by omega)
    have IH : Hid (∀ (w : World), KidsIn w go out → Calls Try.prog 19 #[.slice (some ⟨go, 0, none⟩) n co, .int .i64 (a : Int)] w fun e w' => e = .returned (.int .i64 (P.tall t : Int)) ∧ w' = w) := ih (by omega)
    have HK : Hid (KidsIn w go out) := hK
    rw [P.tall_nt]
    clear ih hK hout hnd hk
    go_enter Try.func19, Try.ntmps19
    go_wp2_with fail
    refine wp_loop_rounds 2 ?_
    rw [rounds_succ]
    go_wp2_with fail
    refine (IH.out _ HK.out).mono ?_
    rintro e w' ⟨rfl, rfl⟩
    go_wp2_with fail
    rw [rounds_succ]
    go_wp2_with fail
    go_ret
    exact ⟨ret_int (by omega), rfl⟩
  · intro k nd a b t u hnd hk hout hak hbk hT hU iht ihu hct w hK
    rw [P.count_an] at hct
    obtain ⟨g, c, c0, c1, c2⟩ := kids_two hK hout
    have hkl := out_lt hol hout
    have htl : P.tall t ≤ 400 := Nat.le_trans (P.tall_le_count t) (by omega)
    have hul : P.tall u ≤ 400 := Nat.le_trans (P.tall_le_count u) (by omega)
    have IH : Hid (∀ (w : World), KidsIn w go out → Calls Try.prog 19 #[.slice (some ⟨go, 0, none⟩) n co, .int .i64 (a : Int)] w fun e w' => e = .returned (.int .i64 (P.tall t : Int)) ∧ w' = w) := iht (by omega)
    have IH2 : Hid (∀ (w : World), KidsIn w go out → Calls Try.prog 19 #[.slice (some ⟨go, 0, none⟩) n co, .int .i64 (b : Int)] w fun e w' => e = .returned (.int .i64 (P.tall u : Int)) ∧ w' = w) := ihu (by omega)
    have HK : Hid (KidsIn w go out) := hK
    rw [P.tall_an]
    clear iht ihu hK hout hnd hk
    by_cases hlt : P.tall t < P.tall u
    all_goals
      go_enter Try.func19, Try.ntmps19
      go_wp2_with fail
      refine wp_loop_rounds 3 ?_
      rw [rounds_succ]
      go_wp2_with fail
      refine (IH.out _ HK.out).mono ?_
      rintro e w' ⟨rfl, rfl⟩
      go_wp2_with fail
      rw [rounds_succ]
      go_wp2_with fail
      refine (IH2.out _ HK.out).mono ?_
      rintro e w' ⟨rfl, rfl⟩
      go_wp2_with fail
      rw [rounds_succ]
      go_wp2_with fail
      go_ret
      exact ⟨ret_int (by simp only [Nat.max_def]; split <;> omega), rfl⟩
  · intro k nd a b t u hnd hk hout hak hbk hT hU iht ihu hct w hK
    rw [P.count_or] at hct
    obtain ⟨g, c, c0, c1, c2⟩ := kids_two hK hout
    have hkl := out_lt hol hout
    have htl : P.tall t ≤ 400 := Nat.le_trans (P.tall_le_count t) (by omega)
    have hul : P.tall u ≤ 400 := Nat.le_trans (P.tall_le_count u) (by omega)
    have IH : Hid (∀ (w : World), KidsIn w go out → Calls Try.prog 19 #[.slice (some ⟨go, 0, none⟩) n co, .int .i64 (a : Int)] w fun e w' => e = .returned (.int .i64 (P.tall t : Int)) ∧ w' = w) := iht (by omega)
    have IH2 : Hid (∀ (w : World), KidsIn w go out → Calls Try.prog 19 #[.slice (some ⟨go, 0, none⟩) n co, .int .i64 (b : Int)] w fun e w' => e = .returned (.int .i64 (P.tall u : Int)) ∧ w' = w) := ihu (by omega)
    have HK : Hid (KidsIn w go out) := hK
    rw [P.tall_or]
    clear iht ihu hK hout hnd hk
    by_cases hlt : P.tall t < P.tall u
    all_goals
      go_enter Try.func19, Try.ntmps19
      go_wp2_with fail
      refine wp_loop_rounds 3 ?_
      rw [rounds_succ]
      go_wp2_with fail
      refine (IH.out _ HK.out).mono ?_
      rintro e w' ⟨rfl, rfl⟩
      go_wp2_with fail
      rw [rounds_succ]
      go_wp2_with fail
      refine (IH2.out _ HK.out).mono ?_
      rintro e w' ⟨rfl, rfl⟩
      go_wp2_with fail
      rw [rounds_succ]
      go_wp2_with fail
      go_ret
      exact ⟨ret_int (by simp only [Nat.max_def]; split <;> omega), rfl⟩

end Go.Proofs.Ytlcjdmgjekkghaa
