/-
  Walks: the specification's write of a node.
-/
import Derived.Test.YthjicahpfhjfdaaGreatDoorPrH
import Derived.Test.YthjicahpfhjfdaaGreatDoorJ15
namespace Go.Proofs.YthjicahpfhjfdaaGreatDoor
open Go.RowKit

/-- what l1Write promises of a tree -/
def WriteOk (ns : List P.Nd) (out : List (List Nat)) (n cn co go g : Nat) (k : Nat) (t : P.Tr) : Prop :=
  ∀ (bd : Nat) (w : World), Nodes0 w g ns → KidsIn w go out →
    Calls Tryz.prog 21 #[.agg #[.slice (some ⟨g, 0, none⟩) ns.length cn], .slice (some ⟨go, 0, none⟩) n co, .int .i64 (k : Int), .int .i64 (bd : Int)] w fun e w' => e = .returned (.string (P.wr bd (P.bindT t) (P.pr t))) ∧ Below w.heap.size w w'

theorem wr_in {bd b : Nat} {s : ByteArray} (h : b < bd) : P.wr bd b s = ⟨#[40]⟩ ++ s ++ ⟨#[41]⟩ := by unfold P.wr; rw [if_pos h]
theorem wr_out {bd b : Nat} {s : ByteArray} (h : ¬ b < bd) : P.wr bd b s = s := by unfold P.wr; rw [if_neg h]

set_option maxHeartbeats 2000000 in
theorem writeNon_any (ns : List P.Nd) (out : List (List Nat)) (n cn co go g k : Nat) (nd : P.Nd) (hnd : ns[k]? = some nd) (hk : nd.kind = 0) : WriteOk ns out n cn co go g k P.nonT := by
  intro bd w hN hK
  have hkl := P.getElem?_lt hnd
  have hlt := hN.1
  have hNN : Hid (Nodes0 w g ns) := hN
  have h0 : Hid (KidsIn w go out) := hK
  have q0 : ∀ o1, (w.alloc o1).cell? ⟨g, k * 4, none⟩ = some (.int .i64 0) := fun o1 => ((bcellV ((Below.refl w.heap.size w).alloc (Nat.le_refl _) o1)).1 _ _ hlt).trans (by rw [← hk]; exact (hN.2 k nd hnd).1)
  have q1 : ∀ o1, (w.alloc o1).cell? ⟨g, k * 4 + 1, none⟩ = some (.string nd.name) := fun o1 => ((bcellV ((Below.refl w.heap.size w).alloc (Nat.le_refl _) o1)).1 _ _ hlt).trans (hN.2 k nd hnd).2.1
  have q2 : ∀ o1, (w.alloc o1).cell? ⟨g, k * 4 + 2, none⟩ = some (.string nd.value) := fun o1 => ((bcellV ((Below.refl w.heap.size w).alloc (Nat.le_refl _) o1)).1 _ _ hlt).trans (hN.2 k nd hnd).2.2.1
  have q3 : ∀ o1, (w.alloc o1).cell? ⟨g, k * 4 + 3, none⟩ = some (.int .i64 nd.kids) := fun o1 => ((bcellV ((Below.refl w.heap.size w).alloc (Nat.le_refl _) o1)).1 _ _ hlt).trans (hN.2 k nd hnd).2.2.2
  rw [P.bind_non, P.pr_non]
  clear hN hK hnd hk hNN h0
  by_cases hb : 3 < bd
  all_goals
    first | rw [wr_in hb] | rw [wr_out hb]
    go_enter Tryz.func21, Tryz.ntmps21
    go_wp2_with fail
    refine (bind_any _ _).mono ?_
    rintro e w1 ⟨rfl, rfl⟩
    rw [show bindK 0 = 3 from rfl]
    go_wp2_with fail
    go_ret
    exact ⟨ret_str rfl, by go_grown⟩

set_option maxHeartbeats 2000000 in
theorem writeNm_any (ns : List P.Nd) (out : List (List Nat)) (n cn co go g k : Nat) (nd : P.Nd) (hnd : ns[k]? = some nd) (hk : nd.kind = 1) (hs : nd.name.size ≤ 20) : WriteOk ns out n cn co go g k (P.nmT nd.name) := by
  intro bd w hN hK
  have hkl := P.getElem?_lt hnd
  have hlt := hN.1
  have hNN : Hid (Nodes0 w g ns) := hN
  have h1 : Hid (KidsIn w go out) := hK
  have q0 : ∀ o1, (w.alloc o1).cell? ⟨g, k * 4, none⟩ = some (.int .i64 1) := fun o1 => ((bcellV ((Below.refl w.heap.size w).alloc (Nat.le_refl _) o1)).1 _ _ hlt).trans (by rw [← hk]; exact (hN.2 k nd hnd).1)
  have q1 : ∀ o1, (w.alloc o1).cell? ⟨g, k * 4 + 1, none⟩ = some (.string nd.name) := fun o1 => ((bcellV ((Below.refl w.heap.size w).alloc (Nat.le_refl _) o1)).1 _ _ hlt).trans (hN.2 k nd hnd).2.1
  have q2 : ∀ o1, (w.alloc o1).cell? ⟨g, k * 4 + 2, none⟩ = some (.string nd.value) := fun o1 => ((bcellV ((Below.refl w.heap.size w).alloc (Nat.le_refl _) o1)).1 _ _ hlt).trans (hN.2 k nd hnd).2.2.1
  have q3 : ∀ o1, (w.alloc o1).cell? ⟨g, k * 4 + 3, none⟩ = some (.int .i64 nd.kids) := fun o1 => ((bcellV ((Below.refl w.heap.size w).alloc (Nat.le_refl _) o1)).1 _ _ hlt).trans (hN.2 k nd hnd).2.2.2
  rw [P.bind_nm, P.pr_nm]
  clear hN hK hnd hk hNN h1
  by_cases hb : 3 < bd
  all_goals
    first | rw [wr_in hb] | rw [wr_out hb]
    go_enter Tryz.func21, Tryz.ntmps21
    go_wp2_with fail
    refine (bind_any _ _).mono ?_
    rintro e w1 ⟨rfl, rfl⟩
    rw [show bindK 1 = 3 from rfl]
    go_wp2_with fail
    go_ret
    exact ⟨ret_str rfl, by go_grown⟩

set_option maxHeartbeats 2000000 in
theorem writeVl_any (ns : List P.Nd) (out : List (List Nat)) (n cn co go g k : Nat) (nd : P.Nd) (hnd : ns[k]? = some nd) (hk : nd.kind = 2) (hs : nd.name.size ≤ 20) (hs' : nd.value.size ≤ 20) : WriteOk ns out n cn co go g k (P.vlT nd.name nd.value) := by
  intro bd w hN hK
  have hkl := P.getElem?_lt hnd
  have hlt := hN.1
  have hNN : Hid (Nodes0 w g ns) := hN
  have h2 : Hid (KidsIn w go out) := hK
  have q0 : ∀ o1, (w.alloc o1).cell? ⟨g, k * 4, none⟩ = some (.int .i64 2) := fun o1 => ((bcellV ((Below.refl w.heap.size w).alloc (Nat.le_refl _) o1)).1 _ _ hlt).trans (by rw [← hk]; exact (hN.2 k nd hnd).1)
  have q1 : ∀ o1, (w.alloc o1).cell? ⟨g, k * 4 + 1, none⟩ = some (.string nd.name) := fun o1 => ((bcellV ((Below.refl w.heap.size w).alloc (Nat.le_refl _) o1)).1 _ _ hlt).trans (hN.2 k nd hnd).2.1
  have q2 : ∀ o1, (w.alloc o1).cell? ⟨g, k * 4 + 2, none⟩ = some (.string nd.value) := fun o1 => ((bcellV ((Below.refl w.heap.size w).alloc (Nat.le_refl _) o1)).1 _ _ hlt).trans (hN.2 k nd hnd).2.2.1
  have q3 : ∀ o1, (w.alloc o1).cell? ⟨g, k * 4 + 3, none⟩ = some (.int .i64 nd.kids) := fun o1 => ((bcellV ((Below.refl w.heap.size w).alloc (Nat.le_refl _) o1)).1 _ _ hlt).trans (hN.2 k nd hnd).2.2.2
  rw [P.bind_vl, P.pr_vl]
  clear hN hK hnd hk hNN h2
  by_cases hb : 3 < bd
  all_goals
    first | rw [wr_in hb] | rw [wr_out hb]
    go_enter Tryz.func21, Tryz.ntmps21
    go_wp2_with fail
    refine (bind_any _ _).mono ?_
    rintro e w1 ⟨rfl, rfl⟩
    rw [show bindK 2 = 3 from rfl]
    go_wp2_with fail
    go_ret
    exact ⟨ret_str rfl, by go_grown⟩

set_option maxHeartbeats 2000000 in
theorem writeNt_any (ns : List P.Nd) (out : List (List Nat)) (n cn co go g k a : Nat) (t : P.Tr) (nd : P.Nd) (hol : out.length = n) (hnd : ns[k]? = some nd) (hk : nd.kind = 3) (hout : out[k]? = some [a]) (hsz : (P.pr t).size + 2 ≤ 20000)
    (ih : WriteOk ns out n cn co go g a t) : WriteOk ns out n cn co go g k (P.ntT t) := by
  intro bd w hN hK
  have hkl := P.getElem?_lt hnd
  have hlt := hN.1
  have hNN : Hid (Nodes0 w g ns) := hN
  have hKK : Hid (KidsIn w go out) := hK
  have q0 : ∀ o1, (w.alloc o1).cell? ⟨g, k * 4, none⟩ = some (.int .i64 3) := fun o1 => ((bcellV ((Below.refl w.heap.size w).alloc (Nat.le_refl _) o1)).1 _ _ hlt).trans (by rw [← hk]; exact (hN.2 k nd hnd).1)
  have q1 : ∀ o1, (w.alloc o1).cell? ⟨g, k * 4 + 1, none⟩ = some (.string nd.name) := fun o1 => ((bcellV ((Below.refl w.heap.size w).alloc (Nat.le_refl _) o1)).1 _ _ hlt).trans (hN.2 k nd hnd).2.1
  have q2 : ∀ o1, (w.alloc o1).cell? ⟨g, k * 4 + 2, none⟩ = some (.string nd.value) := fun o1 => ((bcellV ((Below.refl w.heap.size w).alloc (Nat.le_refl _) o1)).1 _ _ hlt).trans (hN.2 k nd hnd).2.2.1
  have q3 : ∀ o1, (w.alloc o1).cell? ⟨g, k * 4 + 3, none⟩ = some (.int .i64 nd.kids) := fun o1 => ((bcellV ((Below.refl w.heap.size w).alloc (Nat.le_refl _) o1)).1 _ _ hlt).trans (hN.2 k nd hnd).2.2.2
  obtain ⟨gk, c, k0, k1⟩ := kids_one hK hout
  have hkn := out_lt hol hout
  have hgk := block_lt_of_cell k1
  simp only at hgk
  have B2 : ∀ o1 o2, Below w.heap.size w ((w.alloc o1).alloc o2) := fun o1 o2 => ((Below.refl w.heap.size w).alloc (Nat.le_refl _) o1).alloc (by simp) o2
  have m0 : ∀ o1 o2 d os, (Sort.grow (redrawn ((w.alloc o1).alloc o2) d) os).cell? ⟨go, k, none⟩ = some (.slice (some ⟨gk, 0, none⟩) 1 c) := fun o1 o2 d os => cell_regrown (((B2 o1 o2).cell (p := ⟨go, k, none⟩) hK.1).trans k0) d os
  have m1 : ∀ o1 o2 d os, (Sort.grow (redrawn ((w.alloc o1).alloc o2) d) os).cell? ⟨gk, 0, none⟩ = some (.int .i64 (a : Int)) := fun o1 o2 d os => cell_regrown (((B2 o1 o2).cell (p := ⟨gk, 0, none⟩) hgk).trans k1) d os
  have m2 : ∀ v T o2 d os, (Sort.grow (redrawn ((w.alloc (.cells #[v] T)).alloc o2) d) os).cell? ⟨w.heap.size, 0, none⟩ = some v := fun v T o2 d os => cell_regrown (by simp) d os
  have hX : (P.wr 3 (P.bindT t) (P.pr t)).size ≤ 20000 := Nat.le_trans (P.wr_le _ _ _) hsz
  have C : Hid (∀ o1 o2 d os, Calls Tryz.prog 21 #[.agg #[.slice (some ⟨g, 0, none⟩) ns.length cn], .slice (some ⟨go, 0, none⟩) n co, .int .i64 (a : Int), .int .i64 3] (Sort.grow (redrawn ((w.alloc o1).alloc o2) d) os) fun e w'' => e = .returned (.string (P.wr 3 (P.bindT t) (P.pr t))) ∧ ∃ p : Regrown, w'' = Sort.grow (redrawn ((w.alloc o1).alloc o2) p.d) p.os) :=
    fun o1 o2 d os => Calls.regrown_of (ih 3 _ ((hNN.out.grown (B2 o1 o2)).grown (below_regrown _ d os)) ((hKK.out.grown (B2 o1 o2)).grown (below_regrown _ d os)))
  rw [P.bind_nt, P.pr_nt]
  have BB : Hid (∀ o1 o2, Below w.heap.size w ((w.alloc o1).alloc o2)) := B2
  generalize P.wr 3 (P.bindT t) (P.pr t) = X at *
  have n1 : ¬ 9223372036854775807 < 1 + X.size := by omega
  clear hN hK hnd hk hNN hKK k0 k1 hout ih B2 hsz
  by_cases hb : 3 < bd
  all_goals
    first | rw [wr_in hb] | rw [wr_out hb]
    go_enter Tryz.func21, Tryz.ntmps21
    go_wp2_with fail
    refine wp_region_quiet_below (by kernel_rfl) (by kernel_rfl) ?_
    repeat (quiet_step (exact C.out _ _ _ _))
    refine wpQuiet_nil ?_
    intro w5 hw'
    obtain ⟨⟨dq, osq⟩, hw''⟩ := hw'
    have hB := (BB.out (.cells #[.slice (some ⟨g, 0, none⟩) ns.length cn] 25) (.cells #[.int .i64 3, .string nd.name, .string nd.value, .int .i64 nd.kids] 36)).trans ((below_regrown _ dq osq).mono (by simp; omega))
    have c9 : (Sort.grow (redrawn ((w.alloc (.cells #[.slice (some ⟨g, 0, none⟩) ns.length cn] 25)).alloc (.cells #[.int .i64 3, .string nd.name, .string nd.value, .int .i64 nd.kids] 36)) dq) osq).cell? ⟨w.heap.size + 1, 0, none⟩ = some (.int .i64 3) := cell_regrown (by simp) dq osq
    simp only [] at hw''
    rw [← hw''] at hB c9
    clear hw'' C m0 m1 m2
    go_wp2_with fail
    refine (bind_any _ _).mono ?_
    rintro e w1 ⟨rfl, rfl⟩
    rw [show bindK 3 = 3 from rfl]
    go_wp2_with fail
    go_ret
    exact ⟨ret_str rfl, hB⟩

set_option maxHeartbeats 4000000 in
theorem writeAn_any (ns : List P.Nd) (out : List (List Nat)) (n cn co go g k a b : Nat) (t u : P.Tr) (nd : P.Nd) (hol : out.length = n) (hnd : ns[k]? = some nd) (hk : nd.kind = 4) (hout : out[k]? = some [a, b]) (hsz : (P.pr t).size + 2 ≤ 20000) (hsz' : (P.pr u).size + 2 ≤ 20000)
    (ih : WriteOk ns out n cn co go g a t) (ih' : WriteOk ns out n cn co go g b u) : WriteOk ns out n cn co go g k (P.anT t u) := by
  intro bd w hN hK
  have hkl := P.getElem?_lt hnd
  have hlt := hN.1
  have hNN : Hid (Nodes0 w g ns) := hN
  have hKK : Hid (KidsIn w go out) := hK
  have q0 : ∀ o1, (w.alloc o1).cell? ⟨g, k * 4, none⟩ = some (.int .i64 4) := fun o1 => ((bcellV ((Below.refl w.heap.size w).alloc (Nat.le_refl _) o1)).1 _ _ hlt).trans (by rw [← hk]; exact (hN.2 k nd hnd).1)
  have q1 : ∀ o1, (w.alloc o1).cell? ⟨g, k * 4 + 1, none⟩ = some (.string nd.name) := fun o1 => ((bcellV ((Below.refl w.heap.size w).alloc (Nat.le_refl _) o1)).1 _ _ hlt).trans (hN.2 k nd hnd).2.1
  have q2 : ∀ o1, (w.alloc o1).cell? ⟨g, k * 4 + 2, none⟩ = some (.string nd.value) := fun o1 => ((bcellV ((Below.refl w.heap.size w).alloc (Nat.le_refl _) o1)).1 _ _ hlt).trans (hN.2 k nd hnd).2.2.1
  have q3 : ∀ o1, (w.alloc o1).cell? ⟨g, k * 4 + 3, none⟩ = some (.int .i64 nd.kids) := fun o1 => ((bcellV ((Below.refl w.heap.size w).alloc (Nat.le_refl _) o1)).1 _ _ hlt).trans (hN.2 k nd hnd).2.2.2
  obtain ⟨gk, c, k0, k1, k2⟩ := kids_two hK hout
  have hkn := out_lt hol hout
  have hgk := block_lt_of_cell k1
  simp only at hgk
  have B2 : ∀ o1 o2, Below w.heap.size w ((w.alloc o1).alloc o2) := fun o1 o2 => ((Below.refl w.heap.size w).alloc (Nat.le_refl _) o1).alloc (by simp) o2
  have m0 : ∀ o1 o2 d os, (Sort.grow (redrawn ((w.alloc o1).alloc o2) d) os).cell? ⟨go, k, none⟩ = some (.slice (some ⟨gk, 0, none⟩) 2 c) := fun o1 o2 d os => cell_regrown (((B2 o1 o2).cell (p := ⟨go, k, none⟩) hK.1).trans k0) d os
  have m1 : ∀ o1 o2 d os, (Sort.grow (redrawn ((w.alloc o1).alloc o2) d) os).cell? ⟨gk, 0, none⟩ = some (.int .i64 (a : Int)) := fun o1 o2 d os => cell_regrown (((B2 o1 o2).cell (p := ⟨gk, 0, none⟩) hgk).trans k1) d os
  have m3 : ∀ o1 o2 d os, (Sort.grow (redrawn ((w.alloc o1).alloc o2) d) os).cell? ⟨gk, 1, none⟩ = some (.int .i64 (b : Int)) := fun o1 o2 d os => cell_regrown (((B2 o1 o2).cell (p := ⟨gk, 1, none⟩) hgk).trans k2) d os
  have m2 : ∀ v T o2 d os, (Sort.grow (redrawn ((w.alloc (.cells #[v] T)).alloc o2) d) os).cell? ⟨w.heap.size, 0, none⟩ = some v := fun v T o2 d os => cell_regrown (by simp) d os
  have hX : (P.wr 2 (P.bindT t) (P.pr t)).size ≤ 20000 := Nat.le_trans (P.wr_le _ _ _) hsz
  have hY : (P.wr 3 (P.bindT u) (P.pr u)).size ≤ 20000 := Nat.le_trans (P.wr_le _ _ _) hsz'
  have C : Hid (∀ o1 o2 d os, Calls Tryz.prog 21 #[.agg #[.slice (some ⟨g, 0, none⟩) ns.length cn], .slice (some ⟨go, 0, none⟩) n co, .int .i64 (a : Int), .int .i64 2] (Sort.grow (redrawn ((w.alloc o1).alloc o2) d) os) fun e w'' => e = .returned (.string (P.wr 2 (P.bindT t) (P.pr t))) ∧ ∃ p : Regrown, w'' = Sort.grow (redrawn ((w.alloc o1).alloc o2) p.d) p.os) :=
    fun o1 o2 d os => Calls.regrown_of (ih 2 _ ((hNN.out.grown (B2 o1 o2)).grown (below_regrown _ d os)) ((hKK.out.grown (B2 o1 o2)).grown (below_regrown _ d os)))
  have C' : Hid (∀ o1 o2 d os, Calls Tryz.prog 21 #[.agg #[.slice (some ⟨g, 0, none⟩) ns.length cn], .slice (some ⟨go, 0, none⟩) n co, .int .i64 (b : Int), .int .i64 3] (Sort.grow (redrawn ((w.alloc o1).alloc o2) d) os) fun e w'' => e = .returned (.string (P.wr 3 (P.bindT u) (P.pr u))) ∧ ∃ p : Regrown, w'' = Sort.grow (redrawn ((w.alloc o1).alloc o2) p.d) p.os) :=
    fun o1 o2 d os => Calls.regrown_of (ih' 3 _ ((hNN.out.grown (B2 o1 o2)).grown (below_regrown _ d os)) ((hKK.out.grown (B2 o1 o2)).grown (below_regrown _ d os)))
  rw [P.bind_an, P.pr_an]
  have BB : Hid (∀ o1 o2, Below w.heap.size w ((w.alloc o1).alloc o2)) := B2
  generalize P.wr 2 (P.bindT t) (P.pr t) = X at *
  generalize P.wr 3 (P.bindT u) (P.pr u) = Y at *
  have n1 : ¬ 9223372036854775807 < X.size + 3 := by omega
  have n2 : ¬ 9223372036854775807 < X.size + 3 + Y.size := by omega
  clear hN hK hnd hk hNN hKK k0 k1 k2 hout ih ih' B2 hsz hsz'
  by_cases hb : 2 < bd
  all_goals
    first | rw [wr_in hb] | rw [wr_out hb]
    go_enter Tryz.func21, Tryz.ntmps21
    go_wp2_with fail
    refine wp_region_quiet_below (by kernel_rfl) (by kernel_rfl) ?_
    repeat (quiet_step (fail))
    quiet_step (exact C.out _ _ _ _)
    repeat (quiet_step (fail))
    quiet_step (exact C'.out _ _ _ _)
    repeat (quiet_step (fail))
    refine wpQuiet_nil ?_
    intro w5 hw'
    obtain ⟨⟨dq, osq⟩, hw''⟩ := hw'
    have hB := (BB.out (.cells #[.slice (some ⟨g, 0, none⟩) ns.length cn] 25) (.cells #[.int .i64 4, .string nd.name, .string nd.value, .int .i64 nd.kids] 36)).trans ((below_regrown _ dq osq).mono (by simp; omega))
    have c9 : (Sort.grow (redrawn ((w.alloc (.cells #[.slice (some ⟨g, 0, none⟩) ns.length cn] 25)).alloc (.cells #[.int .i64 4, .string nd.name, .string nd.value, .int .i64 nd.kids] 36)) dq) osq).cell? ⟨w.heap.size + 1, 0, none⟩ = some (.int .i64 4) := cell_regrown (by simp) dq osq
    simp only [] at hw''
    rw [← hw''] at hB c9
    clear hw'' C C' m0 m1 m2 m3
    go_wp2_with fail
    refine (bind_any _ _).mono ?_
    rintro e w1 ⟨rfl, rfl⟩
    rw [show bindK 4 = 2 from rfl]
    go_wp2_with fail
    go_ret
    exact ⟨ret_str rfl, hB⟩

set_option maxHeartbeats 4000000 in
theorem writeOr_any (ns : List P.Nd) (out : List (List Nat)) (n cn co go g k a b : Nat) (t u : P.Tr) (nd : P.Nd) (hol : out.length = n) (hnd : ns[k]? = some nd) (hk : nd.kind = 5) (hout : out[k]? = some [a, b]) (hsz : (P.pr t).size + 2 ≤ 20000) (hsz' : (P.pr u).size + 2 ≤ 20000)
    (ih : WriteOk ns out n cn co go g a t) (ih' : WriteOk ns out n cn co go g b u) : WriteOk ns out n cn co go g k (P.orT t u) := by
  intro bd w hN hK
  have hkl := P.getElem?_lt hnd
  have hlt := hN.1
  have hNN : Hid (Nodes0 w g ns) := hN
  have hKK : Hid (KidsIn w go out) := hK
  have q0 : ∀ o1, (w.alloc o1).cell? ⟨g, k * 4, none⟩ = some (.int .i64 5) := fun o1 => ((bcellV ((Below.refl w.heap.size w).alloc (Nat.le_refl _) o1)).1 _ _ hlt).trans (by rw [← hk]; exact (hN.2 k nd hnd).1)
  have q1 : ∀ o1, (w.alloc o1).cell? ⟨g, k * 4 + 1, none⟩ = some (.string nd.name) := fun o1 => ((bcellV ((Below.refl w.heap.size w).alloc (Nat.le_refl _) o1)).1 _ _ hlt).trans (hN.2 k nd hnd).2.1
  have q2 : ∀ o1, (w.alloc o1).cell? ⟨g, k * 4 + 2, none⟩ = some (.string nd.value) := fun o1 => ((bcellV ((Below.refl w.heap.size w).alloc (Nat.le_refl _) o1)).1 _ _ hlt).trans (hN.2 k nd hnd).2.2.1
  have q3 : ∀ o1, (w.alloc o1).cell? ⟨g, k * 4 + 3, none⟩ = some (.int .i64 nd.kids) := fun o1 => ((bcellV ((Below.refl w.heap.size w).alloc (Nat.le_refl _) o1)).1 _ _ hlt).trans (hN.2 k nd hnd).2.2.2
  obtain ⟨gk, c, k0, k1, k2⟩ := kids_two hK hout
  have hkn := out_lt hol hout
  have hgk := block_lt_of_cell k1
  simp only at hgk
  have B2 : ∀ o1 o2, Below w.heap.size w ((w.alloc o1).alloc o2) := fun o1 o2 => ((Below.refl w.heap.size w).alloc (Nat.le_refl _) o1).alloc (by simp) o2
  have m0 : ∀ o1 o2 d os, (Sort.grow (redrawn ((w.alloc o1).alloc o2) d) os).cell? ⟨go, k, none⟩ = some (.slice (some ⟨gk, 0, none⟩) 2 c) := fun o1 o2 d os => cell_regrown (((B2 o1 o2).cell (p := ⟨go, k, none⟩) hK.1).trans k0) d os
  have m1 : ∀ o1 o2 d os, (Sort.grow (redrawn ((w.alloc o1).alloc o2) d) os).cell? ⟨gk, 0, none⟩ = some (.int .i64 (a : Int)) := fun o1 o2 d os => cell_regrown (((B2 o1 o2).cell (p := ⟨gk, 0, none⟩) hgk).trans k1) d os
  have m3 : ∀ o1 o2 d os, (Sort.grow (redrawn ((w.alloc o1).alloc o2) d) os).cell? ⟨gk, 1, none⟩ = some (.int .i64 (b : Int)) := fun o1 o2 d os => cell_regrown (((B2 o1 o2).cell (p := ⟨gk, 1, none⟩) hgk).trans k2) d os
  have m2 : ∀ v T o2 d os, (Sort.grow (redrawn ((w.alloc (.cells #[v] T)).alloc o2) d) os).cell? ⟨w.heap.size, 0, none⟩ = some v := fun v T o2 d os => cell_regrown (by simp) d os
  have hX : (P.wr 1 (P.bindT t) (P.pr t)).size ≤ 20000 := Nat.le_trans (P.wr_le _ _ _) hsz
  have hY : (P.wr 2 (P.bindT u) (P.pr u)).size ≤ 20000 := Nat.le_trans (P.wr_le _ _ _) hsz'
  have C : Hid (∀ o1 o2 d os, Calls Tryz.prog 21 #[.agg #[.slice (some ⟨g, 0, none⟩) ns.length cn], .slice (some ⟨go, 0, none⟩) n co, .int .i64 (a : Int), .int .i64 1] (Sort.grow (redrawn ((w.alloc o1).alloc o2) d) os) fun e w'' => e = .returned (.string (P.wr 1 (P.bindT t) (P.pr t))) ∧ ∃ p : Regrown, w'' = Sort.grow (redrawn ((w.alloc o1).alloc o2) p.d) p.os) :=
    fun o1 o2 d os => Calls.regrown_of (ih 1 _ ((hNN.out.grown (B2 o1 o2)).grown (below_regrown _ d os)) ((hKK.out.grown (B2 o1 o2)).grown (below_regrown _ d os)))
  have C' : Hid (∀ o1 o2 d os, Calls Tryz.prog 21 #[.agg #[.slice (some ⟨g, 0, none⟩) ns.length cn], .slice (some ⟨go, 0, none⟩) n co, .int .i64 (b : Int), .int .i64 2] (Sort.grow (redrawn ((w.alloc o1).alloc o2) d) os) fun e w'' => e = .returned (.string (P.wr 2 (P.bindT u) (P.pr u))) ∧ ∃ p : Regrown, w'' = Sort.grow (redrawn ((w.alloc o1).alloc o2) p.d) p.os) :=
    fun o1 o2 d os => Calls.regrown_of (ih' 2 _ ((hNN.out.grown (B2 o1 o2)).grown (below_regrown _ d os)) ((hKK.out.grown (B2 o1 o2)).grown (below_regrown _ d os)))
  rw [P.bind_or, P.pr_or]
  have BB : Hid (∀ o1 o2, Below w.heap.size w ((w.alloc o1).alloc o2)) := B2
  generalize P.wr 1 (P.bindT t) (P.pr t) = X at *
  generalize P.wr 2 (P.bindT u) (P.pr u) = Y at *
  have n1 : ¬ 9223372036854775807 < X.size + 3 := by omega
  have n2 : ¬ 9223372036854775807 < X.size + 3 + Y.size := by omega
  clear hN hK hnd hk hNN hKK k0 k1 k2 hout ih ih' B2 hsz hsz'
  by_cases hb : 1 < bd
  all_goals
    first | rw [wr_in hb] | rw [wr_out hb]
    go_enter Tryz.func21, Tryz.ntmps21
    go_wp2_with fail
    refine wp_region_quiet_below (by kernel_rfl) (by kernel_rfl) ?_
    repeat (quiet_step (fail))
    quiet_step (exact C.out _ _ _ _)
    repeat (quiet_step (fail))
    quiet_step (exact C'.out _ _ _ _)
    repeat (quiet_step (fail))
    refine wpQuiet_nil ?_
    intro w5 hw'
    obtain ⟨⟨dq, osq⟩, hw''⟩ := hw'
    have hB := (BB.out (.cells #[.slice (some ⟨g, 0, none⟩) ns.length cn] 25) (.cells #[.int .i64 5, .string nd.name, .string nd.value, .int .i64 nd.kids] 36)).trans ((below_regrown _ dq osq).mono (by simp; omega))
    have c9 : (Sort.grow (redrawn ((w.alloc (.cells #[.slice (some ⟨g, 0, none⟩) ns.length cn] 25)).alloc (.cells #[.int .i64 5, .string nd.name, .string nd.value, .int .i64 nd.kids] 36)) dq) osq).cell? ⟨w.heap.size + 1, 0, none⟩ = some (.int .i64 5) := cell_regrown (by simp) dq osq
    simp only [] at hw''
    rw [← hw''] at hB c9
    clear hw'' C C' m0 m1 m2 m3
    go_wp2_with fail
    refine (bind_any _ _).mono ?_
    rintro e w1 ⟨rfl, rfl⟩
    rw [show bindK 5 = 1 from rfl]
    go_wp2_with fail
    go_ret
    exact ⟨ret_str rfl, hB⟩

end Go.Proofs.YthjicahpfhjfdaaGreatDoor
