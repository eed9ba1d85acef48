/-
  Walks: a node and its kids make a part.
-/
import Derived.Test.YthjicahpfhjfdaaGreatDoorJ16
import Derived.Test.YthjicahpfhjfdaaGreatDoorJ4
import Derived.BigQuiet
import Derived.WalkSmall
import Derived.Lib.QuietBelow
namespace Go.Proofs.YthjicahpfhjfdaaGreatDoor
open Go.RowKit

set_option maxHeartbeats 1000000 in
theorem growNm_any (n : P.Nd) (kv : Value) (w : World) (hn : n.name.size ≤ maxLen) (h1 : n.kind = 1) (h2 : n.kids = 0) (h3 : P.nameOk n.name = true) (h4 : n.value.size = 0) :
    Calls Tryz.prog 32 #[.agg #[.int .i64 n.kind, .string n.name, .string n.value, .int .i64 n.kids], kv] w fun e w' => e = .returned (.tuple #[val (P.nmT n.name), .bool true]) ∧ Below w.heap.size w w' := by
  rw [h1, h2, val_nm]
  have e4 := nil_of_size h4
  clear h1 h2 h4
  have H3 : Hid (P.nameOk n.name = true) := h3
  clear h3
  go_enter Tryz.func32, Tryz.ntmps32
  go_wp2_with fail
  go_quiet (fail)
  go_wp2_with (go_at_call 52; refine (isName_any _ _ hn).mono ?_; rintro e w' ⟨rfl, rfl⟩; rw [H3.out])
  go_ret2
  exact ⟨rfl, below_drewN (by go_grown) _⟩

set_option maxHeartbeats 1000000 in
theorem growVl_any (n : P.Nd) (kv : Value) (w : World) (hn : n.name.size ≤ maxLen) (hv : n.value.size ≤ maxLen) (h1 : n.kind = 2) (h2 : n.kids = 0) (h3 : P.nameOk n.name = true) (h4 : P.nameOk n.value = true) :
    Calls Tryz.prog 32 #[.agg #[.int .i64 n.kind, .string n.name, .string n.value, .int .i64 n.kids], kv] w fun e w' => e = .returned (.tuple #[val (P.vlT n.name n.value), .bool true]) ∧ Below w.heap.size w w' := by
  rw [h1, h2, val_vl]
  clear h1 h2
  have H3 : Hid (P.nameOk n.name = true) := h3
  have H4 : Hid (P.nameOk n.value = true) := h4
  clear h3 h4
  go_enter Tryz.func32, Tryz.ntmps32
  go_wp2_with fail
  go_quiet (fail)
  go_wp2_with fail
  refine (isName_any _ _ hn).mono ?_
  rintro e w' ⟨rfl, rfl⟩
  rw [H3.out]
  go_wp2_with fail
  refine (isName_any _ _ hv).mono ?_
  rintro e w' ⟨rfl, rfl⟩
  rw [H4.out]
  go_wp2_with fail
  go_ret2
  exact ⟨rfl, below_drewN (by go_grown) _⟩

set_option maxHeartbeats 2000000 in
theorem growNamed_any (n : P.Nd) (kv : Value) (w : World) (hn : n.name.size ≤ maxLen) (hv : n.value.size ≤ maxLen) (h1 : ¬ (n.kind = 1 ∧ n.kids = 0 ∧ P.nameOk n.name = true ∧ n.value.size = 0)) (h2 : ¬ (n.kind = 2 ∧ n.kids = 0 ∧ P.nameOk n.name = true ∧ P.nameOk n.value = true))
    (h3 : n.name.size ≠ 0 ∨ n.value.size ≠ 0) :
    Calls Tryz.prog 32 #[.agg #[.int .i64 n.kind, .string n.name, .string n.value, .int .i64 n.kids], kv] w fun e w' => e = .returned (.tuple #[.nilIface, .bool false]) ∧ Below w.heap.size w w' := by
  have H1 : Hid (¬ (n.kind = 1 ∧ n.kids = 0 ∧ P.nameOk n.name = true ∧ n.value.size = 0)) := h1
  have H2 : Hid (¬ (n.kind = 2 ∧ n.kids = 0 ∧ P.nameOk n.name = true ∧ P.nameOk n.value = true)) := h2
  clear h1 h2
  by_cases hne : n.name.size ≠ 0
  · have a1 := ne_nil_of_size hne
    have a2 := ne_empty_of_size hne
    clear h3 hne
    go_enter Tryz.func32, Tryz.ntmps32
    go_wp2_with fail
    go_quiet (fail)
    go_wp2_with (go_at_call 52; refine (isName_any _ _ (by assumption)).mono ?_; rintro e w' ⟨rfl, rfl⟩)
    all_goals first
      | (exfalso
         have q1 : n.kids = 0 := by assumption
         have q2 : P.nameOk n.name = true := by assumption
         have q3 : n.value.toList.isEmpty = true := by assumption
         have q4 : n.kind = 1 := by assumption
         exact H1.out ⟨q4, q1, q2, size_of_empty q3⟩)
      | (exfalso
         have q1 : n.kids = 0 := by assumption
         have q2 : P.nameOk n.name = true := by assumption
         have q3 : P.nameOk n.value = true := by assumption
         have q4 : n.kind = 2 := by assumption
         exact H2.out ⟨q4, q1, q2, q3⟩)
      | (go_ret2
         exact ⟨rfl, below_drewN (by go_grown) _⟩)
  · have b1 := nil_of_size (s := n.name) (by omega)
    have hve : n.value.size ≠ 0 := by omega
    have a1 := ne_nil_of_size hve
    have a2 := ne_empty_of_size hve
    have b2 : P.nameOk n.name = false := nameOk_size (by omega)
    clear h3 hne hve
    go_enter Tryz.func32, Tryz.ntmps32
    go_wp2_with fail
    go_quiet (fail)
    go_wp2_with (go_at_call 52; refine (isName_any _ _ (by assumption)).mono ?_; rintro e w' ⟨rfl, rfl⟩; rw [b2])
    all_goals
      go_ret2
      exact ⟨rfl, below_drewN (by go_grown) _⟩

set_option maxHeartbeats 2000000 in
theorem growKind_any (n : P.Nd) (kv : Value) (w : World) (hn : n.name.size ≤ maxLen) (h1 : n.name.size = 0) (h2 : n.value.size = 0)
    (h3 : ¬ (n.kind = 3 ∧ n.kids = 1)) (h4 : ¬ (n.kind = 4 ∧ n.kids = 2)) (h5 : ¬ (n.kind = 5 ∧ n.kids = 2)) :
    Calls Tryz.prog 32 #[.agg #[.int .i64 n.kind, .string n.name, .string n.value, .int .i64 n.kids], kv] w fun e w' => e = .returned (.tuple #[.nilIface, .bool false]) ∧ Below w.heap.size w w' := by
  have b1 := nil_of_size h1
  have b3 := nil_of_size h2
  have b2 : P.nameOk n.name = false := nameOk_size (by omega)
  clear h1 h2
  rcases (show n.kind = 1 ∨ n.kind = 2 ∨ (n.kind = 3 ∧ ¬ n.kids = 1) ∨ (n.kind = 4 ∧ ¬ n.kids = 2) ∨ (n.kind = 5 ∧ ¬ n.kids = 2) ∨ (¬ n.kind = 1 ∧ ¬ n.kind = 2 ∧ ¬ n.kind = 3 ∧ ¬ n.kind = 4 ∧ ¬ n.kind = 5) by omega) with c | c | ⟨c, d⟩ | ⟨c, d⟩ | ⟨c, d⟩ | ⟨c1, c2, c3, c4, c5⟩
  all_goals
    clear h3 h4 h5
    go_enter Tryz.func32, Tryz.ntmps32
    go_wp2_with fail
    go_quiet (fail)
    go_wp2_with (go_at_call 52; refine (isName_any _ _ (by assumption)).mono ?_; rintro e w' ⟨rfl, rfl⟩; rw [b2])
    all_goals
      go_ret2
      exact ⟨rfl, below_drewN (by go_grown) _⟩

set_option maxHeartbeats 1000000 in
theorem growNt_any (n : P.Nd) (t : P.Tr) (b o c : Nat) (w : World) (h1 : n.name.size = 0) (h2 : n.value.size = 0) (h3 : n.kind = 3) (h4 : n.kids = 1)
    (hw : P.wf t) (ht : P.tall t ≤ 20) (hc : w.cell? ⟨b, o, none⟩ = some (val t)) :
    Calls Tryz.prog 32 #[.agg #[.int .i64 n.kind, .string n.name, .string n.value, .int .i64 n.kids], .slice (some ⟨b, o, none⟩) 1 c] w fun e w' => e = .returned (.tuple #[val (P.ntT t), .bool true]) ∧ Below w.heap.size w w' := by
  rw [h3, h4]
  have b1 := nil_of_size h1
  have b3 := nil_of_size h2
  have hlt := block_lt_of_cell hc
  simp only at hlt
  clear h1 h2 h3 h4
  obtain ⟨ty, v, hv⟩ := val_iface hw
  have cc := fun w => negate_any t hw (by omega) w
  obtain ⟨ty2, v2, hv2⟩ := val_iface (P.wf_nt hw)
  rw [hv] at cc hc
  rw [hv2] at cc ⊢
  have C : Hid _ := cc
  clear cc
  have hc2 : ∀ o1, (w.alloc o1).cell? ⟨b, o, none⟩ = some (.iface ty v) := fun o1 => by
    rw [((Below.refl w.heap.size w).alloc (Nat.le_refl _) o1).cell (p := ⟨b, o, none⟩) hlt]; exact hc
  clear hc
  go_enter Tryz.func32, Tryz.ntmps32
  go_wp2_with fail
  go_quiet (fail)
  go_wp2_with fail
  refine (C.out _).mono ?_
  rintro e w1 ⟨rfl, hb⟩
  have hB : Below w.heap.size w w1 := (below_drewN ((Below.refl w.heap.size w).alloc (Nat.le_refl _) _) nq).trans (hb.mono (by simp))
  clear hb hc2 C
  go_wp2_with fail
  go_ret2
  exact ⟨rfl, hB⟩

set_option maxHeartbeats 1000000 in
theorem growAn_any (n : P.Nd) (s t : P.Tr) (b o c : Nat) (w : World) (h1 : n.name.size = 0) (h2 : n.value.size = 0) (h3 : n.kind = 4) (h4 : n.kids = 2)
    (hs : P.wf s) (hs' : P.tall s ≤ 20) (hw : P.wf t) (ht : P.tall t ≤ 20) (hc : w.cell? ⟨b, o, none⟩ = some (val s)) (hd : w.cell? ⟨b, o + 1, none⟩ = some (val t)) :
    Calls Tryz.prog 32 #[.agg #[.int .i64 n.kind, .string n.name, .string n.value, .int .i64 n.kids], .slice (some ⟨b, o, none⟩) 2 c] w fun e w' => e = .returned (.tuple #[val (P.anT s t), .bool true]) ∧ Below w.heap.size w w' := by
  rw [h3, h4]
  have b1 := nil_of_size h1
  have b3 := nil_of_size h2
  have hlt := block_lt_of_cell hc
  simp only at hlt
  clear h1 h2 h3 h4
  obtain ⟨ty, v, hv⟩ := val_iface hs
  obtain ⟨ty', v', hv'⟩ := val_iface hw
  have cc := fun w => joinBoth_any s t hs hw (by omega) (by omega) w
  rw [hv, hv'] at cc
  rw [hv] at hc
  rw [hv'] at hd
  have hc2 : ∀ o1 k d os, (Sort.grow (redrawn ((w.alloc o1).drewN k) d) os).cell? ⟨b, o, none⟩ = some (.iface ty v) := fun o1 k d os =>
    cell_regrown (((below_drewN ((Below.refl w.heap.size w).alloc (Nat.le_refl _) o1) k).cell (p := ⟨b, o, none⟩) hlt).trans hc) d os
  have hd2 : ∀ o1 k d os, (Sort.grow (redrawn ((w.alloc o1).drewN k) d) os).cell? ⟨b, o + 1, none⟩ = some (.iface ty' v') := fun o1 k d os =>
    cell_regrown (((below_drewN ((Below.refl w.heap.size w).alloc (Nat.le_refl _) o1) k).cell (p := ⟨b, o + 1, none⟩) hlt).trans hd) d os
  have C : Hid (∀ W d os, Calls Tryz.prog 54 #[.iface ty v, .iface ty' v'] (Sort.grow (redrawn W d) os) fun e w'' => e = .returned (val (P.anT s t)) ∧ ∃ p : Regrown, w'' = Sort.grow (redrawn W p.d) p.os) := fun W d os => Calls.regrown_of (cc _)
  clear cc hc hd
  obtain ⟨ty2, v2, hv2⟩ := val_iface (P.wf_an hs hw)
  rw [hv2] at C ⊢
  clear hv hv' hv2
  go_enter Tryz.func32, Tryz.ntmps32
  go_wp2_with fail
  go_quiet (fail)
  go_wp2_with fail
  refine wp_region_quiet_below (by kernel_rfl) (by kernel_rfl) ?_
  repeat (quiet_step (first | exact C.out _ _ _))
  refine wpQuiet_nil ?_
  intro _ hw'
  obtain ⟨⟨dq, osq⟩, hw''⟩ := hw'
  have hB := (below_drewN ((Below.refl w.heap.size w).alloc (Nat.le_refl _) (Obj.cells #[Value.int IntKind.i64 4, Value.string n.name, Value.string n.value, Value.int IntKind.i64 2] 36)) nq).trans ((below_regrown _ dq osq).mono (by simp))
  simp only [] at hw''
  rw [← hw''] at hB
  clear hw'' hc2 hd2 C
  go_wp2_with fail
  go_ret2
  exact ⟨rfl, hB⟩

set_option maxHeartbeats 1000000 in
theorem growOr_any (n : P.Nd) (s t : P.Tr) (b o c : Nat) (w : World) (h1 : n.name.size = 0) (h2 : n.value.size = 0) (h3 : n.kind = 5) (h4 : n.kids = 2)
    (hs : P.wf s) (hs' : P.tall s ≤ 20) (hw : P.wf t) (ht : P.tall t ≤ 20) (hc : w.cell? ⟨b, o, none⟩ = some (val s)) (hd : w.cell? ⟨b, o + 1, none⟩ = some (val t)) :
    Calls Tryz.prog 32 #[.agg #[.int .i64 n.kind, .string n.name, .string n.value, .int .i64 n.kids], .slice (some ⟨b, o, none⟩) 2 c] w fun e w' => e = .returned (.tuple #[val (P.orT s t), .bool true]) ∧ Below w.heap.size w w' := by
  rw [h3, h4]
  have b1 := nil_of_size h1
  have b3 := nil_of_size h2
  have hlt := block_lt_of_cell hc
  simp only at hlt
  clear h1 h2 h3 h4
  obtain ⟨ty, v, hv⟩ := val_iface hs
  obtain ⟨ty', v', hv'⟩ := val_iface hw
  have cc := fun w => joinEither_any s t hs hw (by omega) (by omega) w
  rw [hv, hv'] at cc
  rw [hv] at hc
  rw [hv'] at hd
  have hc2 : ∀ o1 k d os, (Sort.grow (redrawn ((w.alloc o1).drewN k) d) os).cell? ⟨b, o, none⟩ = some (.iface ty v) := fun o1 k d os =>
    cell_regrown (((below_drewN ((Below.refl w.heap.size w).alloc (Nat.le_refl _) o1) k).cell (p := ⟨b, o, none⟩) hlt).trans hc) d os
  have hd2 : ∀ o1 k d os, (Sort.grow (redrawn ((w.alloc o1).drewN k) d) os).cell? ⟨b, o + 1, none⟩ = some (.iface ty' v') := fun o1 k d os =>
    cell_regrown (((below_drewN ((Below.refl w.heap.size w).alloc (Nat.le_refl _) o1) k).cell (p := ⟨b, o + 1, none⟩) hlt).trans hd) d os
  have C : Hid (∀ W d os, Calls Tryz.prog 55 #[.iface ty v, .iface ty' v'] (Sort.grow (redrawn W d) os) fun e w'' => e = .returned (val (P.orT s t)) ∧ ∃ p : Regrown, w'' = Sort.grow (redrawn W p.d) p.os) := fun W d os => Calls.regrown_of (cc _)
  clear cc hc hd
  obtain ⟨ty2, v2, hv2⟩ := val_iface (P.wf_or hs hw)
  rw [hv2] at C ⊢
  clear hv hv' hv2
  go_enter Tryz.func32, Tryz.ntmps32
  go_wp2_with fail
  go_quiet (fail)
  go_wp2_with fail
  refine wp_region_quiet_below (by kernel_rfl) (by kernel_rfl) ?_
  repeat (quiet_step (first | exact C.out _ _ _))
  refine wpQuiet_nil ?_
  intro _ hw'
  obtain ⟨⟨dq, osq⟩, hw''⟩ := hw'
  have hB := (below_drewN ((Below.refl w.heap.size w).alloc (Nat.le_refl _) (Obj.cells #[Value.int IntKind.i64 5, Value.string n.name, Value.string n.value, Value.int IntKind.i64 2] 36)) nq).trans ((below_regrown _ dq osq).mono (by simp))
  simp only [] at hw''
  rw [← hw''] at hB
  clear hw'' hc2 hd2 C
  go_wp2_with fail
  go_ret2
  exact ⟨rfl, hB⟩

def growV : Option P.Tr → Value
  | some t => .tuple #[val t, .bool true]
  | none => .tuple #[.nilIface, .bool false]

/-- the kids lie where the slice says -/
def KidsAt (w : World) (ka : Option Addr) (ks : List P.Tr) : Prop :=
  ks = [] ∨ ∃ b o, ka = some ⟨b, o, none⟩ ∧ ∀ j t, ks[j]? = some t → w.cell? ⟨b, o + j, none⟩ = some (val t)

theorem grow_any (n : P.Nd) (ks : List P.Tr) (ka : Option Addr) (c : Nat) (w : World) (hn : n.name.size ≤ maxLen) (hv : n.value.size ≤ maxLen) (hl : (ks.length : Int) = n.kids)
    (hk : KidsAt w ka ks) (hw : ∀ t ∈ ks, P.wf t ∧ P.tall t ≤ 20) :
    Calls Tryz.prog 32 #[.agg #[.int .i64 n.kind, .string n.name, .string n.value, .int .i64 n.kids], .slice ka ks.length c] w fun e w' => e = .returned (growV (P.grow n ks)) ∧ Below w.heap.size w w' := by
  unfold P.grow
  by_cases c1 : n.kind = 1 ∧ n.kids = 0 ∧ P.nameOk n.name = true ∧ n.value.size = 0
  · rw [if_pos c1]
    exact growNm_any n _ w hn c1.1 c1.2.1 c1.2.2.1 c1.2.2.2
  rw [if_neg c1]
  by_cases c2 : n.kind = 2 ∧ n.kids = 0 ∧ P.nameOk n.name = true ∧ P.nameOk n.value = true
  · rw [if_pos c2]
    exact growVl_any n _ w hn hv c2.1 c2.2.1 c2.2.2.1 c2.2.2.2
  rw [if_neg c2]
  by_cases c3 : n.name.size ≠ 0 ∨ n.value.size ≠ 0
  · rw [if_pos c3]
    exact growNamed_any n _ w hn hv c1 c2 c3
  rw [if_neg c3]
  have e1 : n.name.size = 0 := by omega
  have e2 : n.value.size = 0 := by omega
  by_cases c4 : n.kind = 3 ∧ n.kids = 1
  · rw [if_pos c4]
    match ks, (show ks.length = 1 by omega) with
    | [t], _ =>
      rcases hk with hk | ⟨b, o, rfl, hk⟩
      · cases hk
      · exact growNt_any n t b o c w e1 e2 c4.1 c4.2 (hw t (by simp)).1 (hw t (by simp)).2 (hk 0 t rfl)
  rw [if_neg c4]
  by_cases c5 : n.kind = 4 ∧ n.kids = 2
  · rw [if_pos c5]
    match ks, (show ks.length = 2 by omega) with
    | [s, t], _ =>
      rcases hk with hk | ⟨b, o, rfl, hk⟩
      · cases hk
      · exact growAn_any n s t b o c w e1 e2 c5.1 c5.2 (hw s (by simp)).1 (hw s (by simp)).2 (hw t (by simp)).1 (hw t (by simp)).2 (hk 0 s rfl) (hk 1 t rfl)
  rw [if_neg c5]
  by_cases c6 : n.kind = 5 ∧ n.kids = 2
  · rw [if_pos c6]
    match ks, (show ks.length = 2 by omega) with
    | [s, t], _ =>
      rcases hk with hk | ⟨b, o, rfl, hk⟩
      · cases hk
      · exact growOr_any n s t b o c w e1 e2 c6.1 c6.2 (hw s (by simp)).1 (hw s (by simp)).2 (hw t (by simp)).1 (hw t (by simp)).2 (hk 0 s rfl) (hk 1 t rfl)
  rw [if_neg c6]
  exact growKind_any n _ w hn e1 e2 c4 c5 c6

end Go.Proofs.YthjicahpfhjfdaaGreatDoor
