/-
  Several texts in one: VlP, VlO.
-/
import Derived.Test.YthjicahpfhjfdaaGreatDoorJ14
import Derived.Maps.AppendAt
namespace Go.Proofs.YthjicahpfhjfdaaGreatDoor
open Go.RowKit

/-- the kids' numbers lie in memory, a slice a node -/
def KidsIn (w : World) (go : Nat) (out : List (List Nat)) : Prop :=
  go < w.heap.size ∧ ∀ (j : Nat) (ks : List Nat), out[j]? = some ks → ∃ a c, w.cell? ⟨go, j, none⟩ = some (.slice a ks.length c) ∧
    (ks = [] ∨ ∃ g, a = some ⟨g, 0, none⟩ ∧ g < w.heap.size ∧ ∀ i v, ks[i]? = some v → w.cell? ⟨g, i, none⟩ = some (.int .i64 ((v : Nat) : Int)))

theorem KidsIn.grown {w w' : World} {go : Nat} {out : List (List Nat)} (h : KidsIn w go out) (hb : Below w.heap.size w w') : KidsIn w' go out := by
  refine ⟨Nat.lt_of_lt_of_le h.1 hb.size, ?_⟩
  intro j ks hj
  obtain ⟨a, c, h1, h2⟩ := h.2 j ks hj
  refine ⟨a, c, (hb.cell (p := ⟨go, j, none⟩) h.1).trans h1, ?_⟩
  rcases h2 with h2 | ⟨g, e, hg, h2⟩
  · exact .inl h2
  · exact .inr ⟨g, e, Nat.lt_of_lt_of_le hg hb.size, fun i v hi => (hb.cell (p := ⟨g, i, none⟩) hg).trans (h2 i v hi)⟩

theorem kids_nil {w : World} {go k : Nat} {out : List (List Nat)} (h : KidsIn w go out) (hk : out[k]? = some []) : ∃ a c, w.cell? ⟨go, k, none⟩ = some (.slice a 0 c) := by
  obtain ⟨a, c, h1, _⟩ := h.2 k [] hk
  exact ⟨a, c, h1⟩

theorem kids_one {w : World} {go k a : Nat} {out : List (List Nat)} (h : KidsIn w go out) (hk : out[k]? = some [a]) : ∃ g c, w.cell? ⟨go, k, none⟩ = some (.slice (some ⟨g, 0, none⟩) 1 c) ∧ w.cell? ⟨g, 0, none⟩ = some (.int .i64 (a : Int)) := by
  obtain ⟨x, c, h1, h2⟩ := h.2 k [a] hk
  rcases h2 with h2 | ⟨g, rfl, _, h2⟩
  · cases h2
  · exact ⟨g, c, h1, h2 0 a rfl⟩

theorem kids_two {w : World} {go k a b : Nat} {out : List (List Nat)} (h : KidsIn w go out) (hk : out[k]? = some [a, b]) : ∃ g c, w.cell? ⟨go, k, none⟩ = some (.slice (some ⟨g, 0, none⟩) 2 c) ∧ w.cell? ⟨g, 0, none⟩ = some (.int .i64 (a : Int)) ∧ w.cell? ⟨g, 1, none⟩ = some (.int .i64 (b : Int)) := by
  obtain ⟨x, c, h1, h2⟩ := h.2 k [a, b] hk
  rcases h2 with h2 | ⟨g, rfl, _, h2⟩
  · cases h2
  · exact ⟨g, c, h1, h2 0 a rfl, h2 1 b rfl⟩

theorem out_lt {out : List (List Nat)} {k n : Nat} {l : List Nat} (hl : out.length = n) (h : out[k]? = some l) : k < n := by
  have := P.getElem?_lt h; omega

set_option maxHeartbeats 2000000 in
theorem nest_any (ns : List P.Nd) (out : List (List Nat)) (n co go : Nat) (hol : out.length = n) : ∀ (t : P.Tr) (k : Nat), P.IsT ns out k t → P.count t ≤ 400 → ∀ (w : World), KidsIn w go out →
    Calls Tryz.prog 34 #[.slice (some ⟨go, 0, none⟩) n co, .int .i64 (k : Int)] w fun e w' => e = .returned (.int .i64 (P.tall t : Int)) ∧ w' = w := by
  intro t0 k0 h0
  refine P.isT_ind (ns := ns) (out := out) (p := fun k t => P.count t ≤ 400 → ∀ (w : World), KidsIn w go out → Calls Tryz.prog 34 #[.slice (some ⟨go, 0, none⟩) n co, .int .i64 (k : Int)] w fun e w' => e = .returned (.int .i64 (P.tall t : Int)) ∧ w' = w) ?_ ?_ ?_ ?_ ?_ ?_ t0 k0 h0
  · intro k nd hnd hk hout hct w hK
    obtain ⟨a, c, c0⟩ := kids_nil hK hout
    have hkl := out_lt hol hout
    clear hK hout
    go_enter Tryz.func34, Tryz.ntmps34
    go_wp2_with fail
    refine wp_loop_rounds 1 ?_
    rw [rounds_succ]
    go_wp2_with fail
    go_ret
    exact ⟨rfl, rfl⟩
  · intro k nd hnd hk hout hct w hK
    obtain ⟨a, c, c0⟩ := kids_nil hK hout
    have hkl := out_lt hol hout
    clear hK hout
    go_enter Tryz.func34, Tryz.ntmps34
    go_wp2_with fail
    refine wp_loop_rounds 1 ?_
    rw [rounds_succ]
    go_wp2_with fail
    go_ret
    exact ⟨rfl, rfl⟩
  · intro k nd hnd hk hout hct w hK
    obtain ⟨a, c, c0⟩ := kids_nil hK hout
    have hkl := out_lt hol hout
    clear hK hout
    go_enter Tryz.func34, Tryz.ntmps34
    go_wp2_with fail
    refine wp_loop_rounds 1 ?_
    rw [rounds_succ]
    go_wp2_with fail
    go_ret
    exact ⟨rfl, rfl⟩
  · intro k nd a t hnd hk hout hak hT ih hct w hK
    rw [P.count_nt] at hct
    obtain ⟨g, c, c0, c1⟩ := kids_one hK hout
    have hkl := out_lt hol hout
    have htl : P.tall t ≤ 400 := Nat.le_trans (P.tall_le_count t) (by omega)
    have IH : Hid (∀ (w : World), KidsIn w go out → Calls Tryz.prog 34 #[.slice (some ⟨go, 0, none⟩) n co, .int .i64 (a : Int)] w fun e w' => e = .returned (.int .i64 (P.tall t : Int)) ∧ w' = w) := ih (by omega)
    have HK : Hid (KidsIn w go out) := hK
    rw [P.tall_nt]
    clear ih hK hout hnd hk
    go_enter Tryz.func34, Tryz.ntmps34
    go_wp2_with fail
    refine wp_loop_rounds 2 ?_
    rw [rounds_succ]
    go_wp2_with fail
    refine (IH.out _ HK.out).mono ?_
    rintro e w' ⟨rfl, rfl⟩
    go_wp2_with fail
    rw [rounds_succ]
    go_wp2_with fail
    go_ret
    exact ⟨ret_int (by omega), rfl⟩
  · intro k nd a b t u hnd hk hout hak hbk hT hU iht ihu hct w hK
    rw [P.count_an] at hct
    obtain ⟨g, c, c0, c1, c2⟩ := kids_two hK hout
    have hkl := out_lt hol hout
    have htl : P.tall t ≤ 400 := Nat.le_trans (P.tall_le_count t) (by omega)
    have hul : P.tall u ≤ 400 := Nat.le_trans (P.tall_le_count u) (by omega)
    have IH : Hid (∀ (w : World), KidsIn w go out → Calls Tryz.prog 34 #[.slice (some ⟨go, 0, none⟩) n co, .int .i64 (a : Int)] w fun e w' => e = .returned (.int .i64 (P.tall t : Int)) ∧ w' = w) := iht (by omega)
    have IH2 : Hid (∀ (w : World), KidsIn w go out → Calls Tryz.prog 34 #[.slice (some ⟨go, 0, none⟩) n co, .int .i64 (b : Int)] w fun e w' => e = .returned (.int .i64 (P.tall u : Int)) ∧ w' = w) := ihu (by omega)
    have HK : Hid (KidsIn w go out) := hK
    rw [P.tall_an]
    clear iht ihu hK hout hnd hk
    by_cases hlt : P.tall t < P.tall u
    all_goals
      go_enter Tryz.func34, Tryz.ntmps34
      go_wp2_with fail
      refine wp_loop_rounds 3 ?_
      rw [rounds_succ]
      go_wp2_with fail
      refine (IH.out _ HK.out).mono ?_
      rintro e w' ⟨rfl, rfl⟩
      go_wp2_with fail
      rw [rounds_succ]
      go_wp2_with fail
      refine (IH2.out _ HK.out).mono ?_
      rintro e w' ⟨rfl, rfl⟩
      go_wp2_with fail
      rw [rounds_succ]
      go_wp2_with fail
      go_ret
      exact ⟨ret_int (by simp only [Nat.max_def]; split <;> omega), rfl⟩
  · intro k nd a b t u hnd hk hout hak hbk hT hU iht ihu hct w hK
    rw [P.count_or] at hct
    obtain ⟨g, c, c0, c1, c2⟩ := kids_two hK hout
    have hkl := out_lt hol hout
    have htl : P.tall t ≤ 400 := Nat.le_trans (P.tall_le_count t) (by omega)
    have hul : P.tall u ≤ 400 := Nat.le_trans (P.tall_le_count u) (by omega)
    have IH : Hid (∀ (w : World), KidsIn w go out → Calls Tryz.prog 34 #[.slice (some ⟨go, 0, none⟩) n co, .int .i64 (a : Int)] w fun e w' => e = .returned (.int .i64 (P.tall t : Int)) ∧ w' = w) := iht (by omega)
    have IH2 : Hid (∀ (w : World), KidsIn w go out → Calls Tryz.prog 34 #[.slice (some ⟨go, 0, none⟩) n co, .int .i64 (b : Int)] w fun e w' => e = .returned (.int .i64 (P.tall u : Int)) ∧ w' = w) := ihu (by omega)
    have HK : Hid (KidsIn w go out) := hK
    rw [P.tall_or]
    clear iht ihu hK hout hnd hk
    by_cases hlt : P.tall t < P.tall u
    all_goals
      go_enter Tryz.func34, Tryz.ntmps34
      go_wp2_with fail
      refine wp_loop_rounds 3 ?_
      rw [rounds_succ]
      go_wp2_with fail
      refine (IH.out _ HK.out).mono ?_
      rintro e w' ⟨rfl, rfl⟩
      go_wp2_with fail
      rw [rounds_succ]
      go_wp2_with fail
      refine (IH2.out _ HK.out).mono ?_
      rintro e w' ⟨rfl, rfl⟩
      go_wp2_with fail
      rw [rounds_succ]
      go_wp2_with fail
      go_ret
      exact ⟨ret_int (by simp only [Nat.max_def]; split <;> omega), rfl⟩

end Go.Proofs.YthjicahpfhjfdaaGreatDoor

namespace Go.Proofs.YthjicahpfhjfdaaGreatDoor
open Go.RowKit

theorem info_int : (Tryz.prog.info? 3).map (fun i => (i.zero, i.size, i.bytes)) = some (some (.int .i64 0), 1, 8) := by kernel_rfl
theorem info_ints : (Tryz.prog.info? 95).map (fun i => (i.zero, i.size, i.bytes)) = some (some (.slice none 0 0), 1, 24) := by kernel_rfl

def ints (l : List Nat) : List Value := l.map fun (a : Nat) => Value.int .i64 (a : Int)

/-- a list of numbers in a row of its own, another one than block gs -/
def KidRow (w : World) (gs : Nat) (a : Option Addr) (ks : List Nat) : Prop :=
  ks = [] ∨ ∃ gk cur, a = some ⟨gk, 0, none⟩ ∧ w.heap[gk]? = some (.cells cur 3 (0, 0)) ∧ gk ≠ gs ∧ ∀ (i v : Nat), ks[i]? = some v → cur[i]? = some (Value.int .i64 (v : Int))

def KidsFam (w : World) (gs : Nat) (xs : List Value) (out : List (List Nat)) : Prop :=
  xs.length = out.length ∧ ∀ (j : Nat) (ks : List Nat), out[j]? = some ks → ∃ a c, xs[j]? = some (.slice a ks.length c) ∧ KidRow w gs a ks

theorem lt_of_heap {w : World} {b : Nat} {o : Obj} (h : w.heap[b]? = some o) : b < w.heap.size := (Array.getElem?_eq_some_iff.1 h).1

theorem kids_step {wr w1 w2 w3 : World} {E o2 o3 : Obj} {B gs gs' go c : Nat} {v1 : Value} {xs : List Value} {out : List (List Nat)} {news : List Nat} {cgo : Array Value} {fz : Nat × Nat}
    (hfam : KidsFam wr gs xs out) (hg1 : (wr.alloc E).grownBy w1 (some wr.heap.size)) (hown1 : w1.ownsRow B 3 1 v1 c (ints news)) (hc : news.length = c)
    (hat1 : v1.ownBlock = some wr.heap.size ∨ v1.ownBlock = some (wr.alloc E).heap.size) (hg2 : (w1.alloc o2).grownBy w2 (some go)) (hgo : wr.heap[go]? = some (.cells cgo 95 fz))
    (hg3 : (w2.alloc o3).grownBy w3 (some gs)) (hgs : gs < wr.heap.size) (hat3 : gs' = gs ∨ gs' = (w2.alloc o3).heap.size) : KidsFam w3 gs' (xs ++ [v1]) (out ++ [news]) := by
  have z0 : (wr.alloc E).heap.size = wr.heap.size + 1 := by simp
  have z1 := hg1.size
  have z2 := hg2.size
  have z3 := hg3.size
  have y1 : (w1.alloc o2).heap.size = w1.heap.size + 1 := by simp
  have y2 : (w2.alloc o3).heap.size = w2.heap.size + 1 := by simp
  have hgol := lt_of_heap hgo
  have old : ∀ gk x, wr.heap[gk]? = some x → gk ≠ go → gk ≠ gs → w3.heap[gk]? = some x := by
    intro gk x hx n1 n2
    have hl := lt_of_heap hx
    have e1 : w1.heap[gk]? = some x := by
      rw [hg1.block gk (by omega) (fun e => by have := Option.some.inj e; omega), Below.heap_alloc wr E gk hl]; exact hx
    have e2 : w2.heap[gk]? = some x := by
      rw [hg2.block gk (by omega) (fun e => n1 (Option.some.inj e)), Below.heap_alloc w1 o2 gk (by omega)]; exact e1
    rw [hg3.block gk (by omega) (fun e => n2 (Option.some.inj e)), Below.heap_alloc w2 o3 gk (by omega)]; exact e2
  refine ⟨by simp [hfam.1], ?_⟩
  intro j ks hj
  by_cases hjl : j < out.length
  · rw [List.getElem?_append_left hjl] at hj
    obtain ⟨a, c', h1, h2⟩ := hfam.2 j ks hj
    refine ⟨a, c', by rw [List.getElem?_append_left (by rw [hfam.1]; exact hjl)]; exact h1, ?_⟩
    rcases h2 with h2 | ⟨gk, cur, e, hh, hne, hv⟩
    · exact .inl h2
    · have hkl := lt_of_heap hh
      refine .inr ⟨gk, cur, e, old gk _ hh ?_ hne, ?_, hv⟩
      · intro e'
        rw [e'] at hh
        rw [hgo] at hh
        simp at hh
      · rcases hat3 with h | h <;> omega
  · have hje : j = out.length := by have := P.getElem?_lt hj; simp at this; omega
    subst hje
    rw [List.getElem?_append_right (Nat.le_refl _)] at hj
    simp at hj
    subst hj
    obtain ⟨a1, c1, hv1⟩ : ∃ a c', v1 = .slice a news.length c' := by
      rcases hown1.2 with ⟨h, hz⟩ | ⟨gg, cap, cur, h, _⟩
      · exact ⟨none, 0, by rw [h]; rw [hc, hz]⟩
      · exact ⟨_, _, by rw [h, hc]⟩
    refine ⟨a1, c1, ?_, ?_⟩
    · rw [← hfam.1, List.getElem?_append_right (Nat.le_refl _)]; simp [hv1]
    · rcases hown1.2 with ⟨h, hz⟩ | ⟨gg, cap, cur, h, hB, hh, _, _, _, htake⟩
      · exact .inl (List.eq_nil_of_length_eq_zero (by omega))
      · rw [hv1] at h
        simp only [Value.slice.injEq] at h
        obtain ⟨rfl, _, rfl⟩ := h
        have hgg : gg = wr.heap.size ∨ gg = wr.heap.size + 1 := by
          rw [hv1] at hat1
          simp only [Value.ownBlock, Option.some.injEq, z0] at hat1
          exact hat1
        have hl1 := lt_of_heap hh
        have e2 : w2.heap[gg]? = some (.cells cur 3 (0, 0)) := by
          rw [hg2.block gg (by omega) (fun e => by have := Option.some.inj e; omega), Below.heap_alloc w1 o2 gg hl1]; exact hh
        have e3 : w3.heap[gg]? = some (.cells cur 3 (0, 0)) := by
          rw [hg3.block gg (by omega) (fun e => by have := Option.some.inj e; omega), Below.heap_alloc w2 o3 gg (by omega)]; exact e2
        refine .inr ⟨gg, cur, rfl, e3, by omega, ?_⟩
        intro i v hi
        have hil := P.getElem?_lt hi
        have := congrArg (fun l => l[i]?) htake
        simp only [ints, List.getElem?_map, hi, Option.map_some] at this
        rw [List.getElem?_take_of_lt (by omega)] at this
        simpa using this

theorem kidsIn_of {w : World} {gs go B n co : Nat} {xs : List Value} {out : List (List Nat)} (hfam : KidsFam w gs xs out) (hown : w.ownsRow B 95 1 (.slice (some ⟨go, 0, none⟩) n co) n xs) : KidsIn w go out := by
  refine ⟨(hown.lt go rfl).2, ?_⟩
  intro j ks hj
  obtain ⟨a, c, h1, h2⟩ := hfam.2 j ks hj
  have hjl := P.getElem?_lt h1
  have hxl : xs.length = n * 1 := hown.1
  refine ⟨a, c, (hown.cellAt j (by omega)).trans h1, ?_⟩
  rcases h2 with h2 | ⟨gk, cur, e, hh, _, hv⟩
  · exact .inl h2
  · refine .inr ⟨gk, e, lt_of_heap hh, ?_⟩
    intro i v hi
    rw [cell_of_row w gk i cur _ _ hh]
    exact hv i v hi

end Go.Proofs.YthjicahpfhjfdaaGreatDoor
