/-
  Walks: a list of nodes copied; two lists held against each other.
-/
import Derived.Test.YtlcjdmgjekkghaaWalkC
import Derived.OwnWalk
import Derived.BigQuiet
namespace Go.Proofs.Ytlcjdmgjekkghaa
open Go.RowKit

theorem info_node : (Try.prog.info? 59).map (fun i => (i.zero, i.size, i.bytes)) = some (some (.agg #[.int .i64 0, .string ⟨#[]⟩, .string ⟨#[]⟩, .int .i64 0]), 4, 48) := by kernel_rfl

/-- the first k nodes lie in the row's cells -/
def Filled (xs : List Value) (ns : List P.Nd) (k : Nat) : Prop :=
  ∀ (j : Nat) (n : P.Nd), j < k → ns[j]? = some n → xs[j * 4]? = some (.int .i64 n.kind) ∧ xs[j * 4 + 1]? = some (.string n.name) ∧ xs[j * 4 + 2]? = some (.string n.value) ∧ xs[j * 4 + 3]? = some (.int .i64 n.kids)

theorem Filled.step {xs : List Value} {ns : List P.Nd} {k : Nat} {n : P.Nd} (h : Filled xs ns k) (hn : ns[k]? = some n) (hl : k * 4 + 3 < xs.length) :
    Filled ((((xs.set (k * 4) (.int .i64 n.kind)).set (k * 4 + 1) (.string n.name)).set (k * 4 + 2) (.string n.value)).set (k * 4 + 3) (.int .i64 n.kids)) ns (k + 1) := by
  intro j m hj hm
  by_cases e : j = k
  · subst e
    rw [hn] at hm
    cases hm
    have a1 : j * 4 < xs.length := by omega
    have a2 : j * 4 + 1 < xs.length := by omega
    have a3 : j * 4 + 2 < xs.length := by omega
    simp [a1, a2, a3, hl]
  · obtain ⟨q0, q1, q2, q3⟩ := h j m (by omega) hm
    have b0 : ∀ c d, c < 4 → d < 4 → k * 4 + c ≠ j * 4 + d := by intro c d _ _; omega
    have c0 := b0 0
    have c1 := b0 1
    have c2 := b0 2
    have c3 := b0 3
    simp only [Nat.add_zero] at c0
    have d0 : ∀ c, c < 4 → k * 4 + c ≠ j * 4 := by intro c _; omega
    refine ⟨?_, ?_, ?_, ?_⟩
    · rw [List.getElem?_set_ne (d0 3 (by omega)), List.getElem?_set_ne (d0 2 (by omega)), List.getElem?_set_ne (d0 1 (by omega)), List.getElem?_set_ne (by omega)]; exact q0
    · rw [List.getElem?_set_ne (by omega), List.getElem?_set_ne (by omega), List.getElem?_set_ne (by omega), List.getElem?_set_ne (by omega)]; exact q1
    · rw [List.getElem?_set_ne (by omega), List.getElem?_set_ne (by omega), List.getElem?_set_ne (by omega), List.getElem?_set_ne (by omega)]; exact q2
    · rw [List.getElem?_set_ne (by omega), List.getElem?_set_ne (by omega), List.getElem?_set_ne (by omega), List.getElem?_set_ne (by omega)]; exact q3

theorem ownsRow_below {w w' : World} {base : Nat} {e : TypeId} {size : Nat} {v : Value} {n : Nat} {xs : List Value} (h : w.ownsRow base e size v n xs) (hb : Below w.heap.size w w') : w'.ownsRow base e size v n xs := by
  refine ⟨h.1, ?_⟩
  rcases h.2 with h' | ⟨g, cap, cur, h1, h2, h3, h4⟩
  · exact .inl h'
  · refine .inr ⟨g, cap, cur, h1, h2, ?_, h4⟩
    rw [hb.block g (by
      rcases Nat.lt_or_ge g w.heap.size with h | h
      · exact h
      · rw [Array.getElem?_eq_none h] at h3; cases h3)]
    exact h3

set_option maxHeartbeats 1000000 in
theorem toNodeS_any (ns : List P.Nd) (b o cap : Nat) (w : World) (hin : NodesAt w b o ns) (hsm : ns.length ≤ 1048576) :
    Calls Try.prog 13 #[.slice (some ⟨b, o, none⟩) ns.length cap] w fun e w' => ∃ xs, e = .returned (.slice (some ⟨w.heap.size, 0, none⟩) ns.length ns.length) ∧
      w'.ownsRow w.heap.size 59 4 (.slice (some ⟨w.heap.size, 0, none⟩) ns.length ns.length) ns.length xs ∧ Filled xs ns ns.length ∧ Below w.heap.size w w' := by
  obtain ⟨i0, hi, hz0, hz1, hz2⟩ := info_parts info_node
  have HI : Hid (NodesAt w b o ns) := hin
  clear hin
  go_enter Try.func13, Try.ntmps13
  go_wp2_with (at_make; refine wpList_make_full _ rfl _ _ 27 rfl w.heap.size 59 i0 _ 4 Try.underlying27 hi hz0 hz1 .i64 .i64 _ _ ns.length rfl rfl rfl rfl (by rw [hz2]; omega) (by unfold maxLen; omega) (Nat.le_refl _) ?_; intro w1 hown hgrow)
  have hb1 : Below w.heap.size w w1 := (Below.refl _ _).grown hgrow (Nat.le_refl _) (fun k h => by cases h)
  generalize hX : (madeCells (Value.agg #[Value.int IntKind.i64 0, Value.string { data := #[] }, Value.string { data := #[] }, Value.int IntKind.i64 0]).cells (ns.length * 4)).toList = xs0 at hown
  clear hX hgrow hi hz0 hz1 hz2
  go_loopw [4] (fun i wr => ∃ (k : Nat) (xs : List Value), k ≤ ns.length ∧ i = .int .i64 k ∧ wr.ownsRow w.heap.size 59 4 (.slice (some ⟨w.heap.size, 0, none⟩) ns.length ns.length) ns.length xs ∧ Filled xs ns k ∧ Below w.heap.size w wr) (fun i _ => ns.length - (intOf i).toNat)
  case atStart => exact ⟨0, xs0, Nat.zero_le _, rfl, hown, fun j n h => by omega, hb1⟩
  case round =>
    clear hown hb1
    obtain ⟨k, xs, hk, rfl, hown, hfil, hbel⟩ := hrel
    by_cases hlt : k < ns.length
    · obtain ⟨n, hn⟩ : ∃ n, ns[k]? = some n := ⟨ns[k], List.getElem?_eq_getElem hlt⟩
      obtain ⟨r0, r1, r2, r3⟩ := (HI.out.below hbel (HI.out.lt hn)) k n hn
      have HN : Hid (ns[k]? = some n) := hn
      have HO : Hid (wr.ownsRow w.heap.size 59 4 (.slice (some ⟨w.heap.size, 0, none⟩) ns.length ns.length) ns.length xs) := hown
      have HF : Hid (Filled xs ns k) := hfil
      clear hn hown hfil
      go_wp2_with fail
      refine (toNode_any n _).mono ?_
      rintro e w2 ⟨rfl, hb2⟩
      clear r0 r1 r2 r3
      have ho2 := ownsRow_below HO.out hb2
      have hxl : xs.length = ns.length * 4 := ho2.1
      obtain ⟨v0, c0⟩ : ∃ v, w2.cell? ⟨w.heap.size, k * 4, none⟩ = some v := ⟨_, (ho2.cellAt (k * 4) (by omega)).trans (List.getElem?_eq_getElem (by omega))⟩
      obtain ⟨v1, c1⟩ : ∃ v, w2.cell? ⟨w.heap.size, k * 4 + 1, none⟩ = some v := ⟨_, (ho2.cellAt (k * 4 + 1) (by omega)).trans (List.getElem?_eq_getElem (by omega))⟩
      obtain ⟨v2, c2⟩ : ∃ v, w2.cell? ⟨w.heap.size, k * 4 + 2, none⟩ = some v := ⟨_, (ho2.cellAt (k * 4 + 2) (by omega)).trans (List.getElem?_eq_getElem (by omega))⟩
      obtain ⟨v3, c3⟩ : ∃ v, w2.cell? ⟨w.heap.size, k * 4 + 3, none⟩ = some v := ⟨_, (ho2.cellAt (k * 4 + 3) (by omega)).trans (List.getElem?_eq_getElem (by omega))⟩
      have f0 := ho2.frozenAt (k * 4)
      have f1 := ho2.frozenAt (k * 4 + 1)
      have f2 := ho2.frozenAt (k * 4 + 2)
      have f3 := ho2.frozenAt (k * 4 + 3)
      have HL : Hid (xs.length = ns.length * 4) := hxl
      have HO2 : Hid (w2.ownsRow w.heap.size 59 4 (.slice (some ⟨w.heap.size, 0, none⟩) ns.length ns.length) ns.length xs) := ho2
      clear hxl ho2 HO
      go_wp2_with fail
      go_roundw
      case rel =>
        have s0 := (HO2.out.stored (k * 4) (.int .i64 n.kind)).1
        have s1 := (s0.stored (k * 4 + 1) (.string n.name)).1
        have s2 := (s1.stored (k * 4 + 2) (.string n.value)).1
        have s3 := (s2.stored (k * 4 + 3) (.int .i64 n.kids)).1
        refine ⟨k + 1, _, by omega, by go_num, s3, HF.out.step HN.out (by have := HL.out; omega), ?_⟩
        exact ((((hbel.trans (hb2.mono hbel.size)).setCell (Nat.le_refl _) _).setCell (Nat.le_refl _) _).setCell (Nat.le_refl _) _).setCell (Nat.le_refl _) _
      case measure => simp [intOf]; omega
    · have HO : Hid (wr.ownsRow w.heap.size 59 4 (.slice (some ⟨w.heap.size, 0, none⟩) ns.length ns.length) ns.length xs) := hown
      have HF : Hid (Filled xs ns k) := hfil
      clear hown hfil
      go_wp2_with fail
      go_ret
      have hke : k = ns.length := by omega
      exact ⟨xs, rfl, HO.out, by rw [← hke]; exact HF.out, hbel⟩

/-- the nodes lie in a block from its head on -/
def Nodes0 (w : World) (g : Nat) (ns : List P.Nd) : Prop :=
  g < w.heap.size ∧ ∀ (j : Nat) (n : P.Nd), ns[j]? = some n → w.cell? ⟨g, j * 4, none⟩ = some (.int .i64 n.kind) ∧ w.cell? ⟨g, j * 4 + 1, none⟩ = some (.string n.name) ∧ w.cell? ⟨g, j * 4 + 2, none⟩ = some (.string n.value) ∧ w.cell? ⟨g, j * 4 + 3, none⟩ = some (.int .i64 n.kids)

theorem Nodes0.below {w wr : World} {g : Nat} {ns : List P.Nd} {B : Nat} (h : Nodes0 w g ns) (hb : Below B w wr) (hB : g < B) : Nodes0 wr g ns := by
  refine ⟨Nat.lt_of_lt_of_le h.1 hb.size, ?_⟩
  intro j n hj
  obtain ⟨q0, q1, q2, q3⟩ := h.2 j n hj
  exact ⟨(hb.cell (p := ⟨g, _, none⟩) hB).trans q0, (hb.cell (p := ⟨g, _, none⟩) hB).trans q1, (hb.cell (p := ⟨g, _, none⟩) hB).trans q2, (hb.cell (p := ⟨g, _, none⟩) hB).trans q3⟩

theorem Nodes0.grown {w wr : World} {g : Nat} {ns : List P.Nd} (h : Nodes0 w g ns) (hb : Below w.heap.size w wr) : Nodes0 wr g ns := h.below hb h.1

theorem Nodes0.setCell {w : World} {g : Nat} {ns : List P.Nd} (h : Nodes0 w g ns) {a : Addr} (ha : g ≠ a.block) (v : Value) : Nodes0 (w.setCell a v) g ns := by
  have hb : (w.setCell a v).heap[g]? = w.heap[g]? := Below.heap_setCell w a v g ha
  have key : ∀ o, (w.setCell a v).cell? ⟨g, o, none⟩ = w.cell? ⟨g, o, none⟩ := fun o => World.cell?_of_block (w := w) (a := ⟨g, o, none⟩) hb
  refine ⟨by simpa [World.setCell] using h.1, ?_⟩
  intro j n hj
  obtain ⟨q0, q1, q2, q3⟩ := h.2 j n hj
  exact ⟨(key _).trans q0, (key _).trans q1, (key _).trans q2, (key _).trans q3⟩

theorem nodes0_of {w : World} {B g : Nat} {ns : List P.Nd} {xs : List Value} (h : w.ownsRow B 59 4 (.slice (some ⟨g, 0, none⟩) ns.length ns.length) ns.length xs) (hf : Filled xs ns ns.length) : Nodes0 w g ns := by
  refine ⟨(h.lt g rfl).2, ?_⟩
  intro j n hj
  have hlt := P.getElem?_lt hj
  obtain ⟨q0, q1, q2, q3⟩ := hf j n hlt hj
  exact ⟨(h.cellAt _ (by omega)).trans q0, (h.cellAt _ (by omega)).trans q1, (h.cellAt _ (by omega)).trans q2, (h.cellAt _ (by omega)).trans q3⟩

set_option maxHeartbeats 400000 in
theorem toNodeS_nil (a : Option Addr) (cap : Nat) (w : World) :
    Calls Try.prog 13 #[.slice a 0 cap] w fun e w' => e = .returned (.slice (some ⟨w.heap.size, 0, none⟩) 0 0) ∧ w.heap.size < w'.heap.size ∧ Below w.heap.size w w' := by
  obtain ⟨i0, hi, hz0, hz1, hz2⟩ := info_parts info_node
  go_enter Try.func13, Try.ntmps13
  go_wp2_with (at_make; refine wpList_make_full _ rfl _ _ 27 rfl w.heap.size 59 i0 _ 4 Try.underlying27 hi hz0 hz1 .i64 .i64 _ _ 0 rfl rfl rfl rfl (by rw [hz2]; omega) (by unfold maxLen; omega) (Nat.le_refl _) ?_; intro w1 hown hgrow)
  have hlt := (hown.lt w.heap.size rfl).2
  have hb1 : Below w.heap.size w w1 := (Below.refl _ _).grown hgrow (Nat.le_refl _) (fun k h => by cases h)
  clear hown hgrow
  refine wp_loop_rounds 1 ?_
  rw [rounds_succ]
  go_wp2_with fail
  go_ret
  exact ⟨rfl, hlt, hb1⟩

theorem toNodeS_both (ns : List P.Nd) (a : Option Addr) (cap : Nat) (w : World) (hin : SliceAt w a ns) (hsm : ns.length ≤ 1048576) :
    Calls Try.prog 13 #[.slice a ns.length cap] w fun e w' => ∃ g, e = .returned (.slice (some ⟨g, 0, none⟩) ns.length ns.length) ∧ w.heap.size ≤ g ∧ Nodes0 w' g ns ∧ Below w.heap.size w w' := by
  rcases hin with rfl | ⟨b, o, rfl, h⟩
  · refine (toNodeS_nil a cap w).mono ?_
    rintro e w' ⟨rfl, h1, h2⟩
    exact ⟨_, rfl, Nat.le_refl _, ⟨h1, fun j n hj => by simp at hj⟩, h2⟩
  · refine (toNodeS_any ns b o cap w h hsm).mono ?_
    rintro e w' ⟨xs, rfl, h1, h2, h3⟩
    exact ⟨_, rfl, Nat.le_refl _, nodes0_of h1 h2, h3⟩

theorem bcell {W w1 : World} (hb : Below W.heap.size W w1) : (∀ b o, b < W.heap.size → w1.cell? ⟨b, o, none⟩ = W.cell? ⟨b, o, none⟩) ∧ (∀ b o, b < W.heap.size → w1.frozen? ⟨b, o, none⟩ = W.frozen? ⟨b, o, none⟩) :=
  ⟨fun b o h => hb.cell (p := ⟨b, o, none⟩) h, fun b o h => hb.frozen (p := ⟨b, o, none⟩) h⟩

set_option maxHeartbeats 400000 in
theorem toSelect_any (ns : List P.Nd) (a : Option Addr) (cap : Nat) (w : World) (hin : SliceAt w a ns) (hsm : ns.length ≤ 1048576) :
    Calls Try.prog 6 #[.agg #[.slice a ns.length cap]] w fun e w' => ∃ g, e = .returned (.agg #[.slice (some ⟨g, 0, none⟩) ns.length ns.length]) ∧ w.heap.size ≤ g ∧ Nodes0 w' g ns ∧ Below w.heap.size w w' := by
  have HI : Hid (SliceAt w a ns) := hin
  clear hin
  go_enter Try.func6, Try.ntmps6
  go_wp2_with fail
  refine (toNodeS_both ns a cap _ (HI.out.below (by go_grown)) hsm).mono ?_
  rintro e w1 ⟨g, rfl, hg, hn, hb⟩
  obtain ⟨hc, hf⟩ := bcell hb
  have hz : w.heap.size + 1 + 1 < w1.heap.size := by have := hb.size; simp at this; omega
  have hg' : w.heap.size + 3 ≤ g := by simp at hg; omega
  have HN : Hid (Nodes0 w1 g ns) := hn
  have HB : Hid (Below w.heap.size w w1) := ((((Below.refl _ w).alloc (Nat.le_refl _) _).alloc (by simp) _).alloc (by simp; omega) _).trans (hb.mono (by simp; omega))
  clear hn hb hg
  go_wp2_with fail
  refine bodyPost_ret (v := .agg #[.slice (some ⟨g, 0, none⟩) ns.length ns.length]) (by simp [results, Try.results6, go_sem, hc]) rfl ⟨g, rfl, by omega, ?_, ?_⟩
  · exact (HN.out.setCell (show g ≠ w.heap.size + 1 + 1 by omega) _).setCell (show g ≠ w.heap.size + 1 by omega) _
  · exact (HB.out.setCell (show w.heap.size ≤ w.heap.size + 1 + 1 by omega) _).setCell (show w.heap.size ≤ w.heap.size + 1 by omega) _

set_option maxHeartbeats 1000000 in
theorem eqNodeS_any (ns : List P.Nd) (g h : Nat) (w : World) (hg : Nodes0 w g ns) (hh : Nodes0 w h ns) (hsm : ns.length ≤ 1048576) :
    Calls Try.prog 16 #[.slice (some ⟨g, 0, none⟩) ns.length ns.length, .slice (some ⟨h, 0, none⟩) ns.length ns.length] w fun e w' => e = .returned (.bool true) ∧ Below w.heap.size w w' := by
  have HG : Hid (Nodes0 w g ns) := hg
  have HH : Hid (Nodes0 w h ns) := hh
  clear hg hh
  go_enter Try.func16, Try.ntmps16
  go_wp2_with fail
  go_loopw [5] (fun i wr => ∃ (k : Nat), k ≤ ns.length ∧ i = .int .i64 k ∧ Below w.heap.size w wr) (fun i _ => ns.length - (intOf i).toNat)
  case atStart => exact ⟨0, Nat.zero_le _, rfl, Below.refl _ _⟩
  case round =>
    obtain ⟨k, hk, rfl, hbel⟩ := hrel
    by_cases hlt : k < ns.length
    · obtain ⟨n, hn⟩ : ∃ n, ns[k]? = some n := ⟨ns[k], List.getElem?_eq_getElem hlt⟩
      obtain ⟨r0, r1, r2, r3⟩ := (HG.out.grown hbel).2 k n hn
      obtain ⟨t0, t1, t2, t3⟩ := (HH.out.grown hbel).2 k n hn
      have k0 := cell_regrown r0
      have k1 := cell_regrown r1
      have k2 := cell_regrown r2
      have k3 := cell_regrown r3
      have l0 := cell_regrown t0
      have l1 := cell_regrown t1
      have l2 := cell_regrown t2
      have l3 := cell_regrown t3
      have cE : ∀ d os, Calls Try.prog 23 #[.agg #[.int .i64 n.kind, .string n.name, .string n.value, .int .i64 n.kids], .agg #[.int .i64 n.kind, .string n.name, .string n.value, .int .i64 n.kids]] (Sort.grow (redrawn wr d) os) fun e w'' => e = .returned (.bool true) ∧ ∃ p : Regrown, w'' = Sort.grow (redrawn wr p.d) p.os := fun d os => Calls.regrown_of (eqNode_any n _)
      have i0 : (0 : Int) ≤ (k : Int) := by omega
      have i1 : (k : Int) < (ns.length : Int) := by omega
      clear hn r0 r1 r2 r3 t0 t1 t2 t3
      go_wp2_with fail
      refine wp_region_quiet_below (by kernel_rfl) (by kernel_rfl) ?_
      repeat (quiet_step (first | exact cE _ _))
      refine wpQuiet_nil ?_
      intro _ hw'
      obtain ⟨⟨dq, osq⟩, hw''⟩ := hw'
      have hB := hbel.trans ((below_regrown wr dq osq).mono hbel.size)
      simp only [] at hw''
      rw [← hw''] at hB
      clear hw'' cE k0 k1 k2 k3 l0 l1 l2 l3
      go_wp2_with fail
      go_roundw
      case rel => exact ⟨k + 1, by omega, by go_num, hB⟩
      case measure => simp [intOf]; omega
    · go_wp2_with fail
      go_ret
      exact ⟨rfl, hbel⟩

set_option maxHeartbeats 400000 in
theorem eqSelect_any (ns : List P.Nd) (g h : Nat) (w : World) (hg : Nodes0 w g ns) (hh : Nodes0 w h ns) (hsm : ns.length ≤ 1048576) :
    Calls Try.prog 8 #[.agg #[.slice (some ⟨g, 0, none⟩) ns.length ns.length], .agg #[.slice (some ⟨h, 0, none⟩) ns.length ns.length]] w fun e w' => e = .returned (.bool true) ∧ Below w.heap.size w w' := by
  have HG : Hid (Nodes0 w g ns) := hg
  have HH : Hid (Nodes0 w h ns) := hh
  clear hg hh
  go_enter Try.func8, Try.ntmps8
  go_wp2_with fail
  refine (eqNodeS_any ns g h _ (HG.out.grown (by go_grown)) (HH.out.grown (by go_grown)) hsm).mono ?_
  rintro e w1 ⟨rfl, hb⟩
  go_wp2_with fail
  go_ret
  exact ⟨rfl, (((Below.refl _ w).alloc (Nat.le_refl _) _).alloc (by simp) _).trans (hb.mono (by simp; omega))⟩

end Go.Proofs.Ytlcjdmgjekkghaa
