/-
  Walks: the print of each kind of part; so every part prints as it should.
-/
import Derived.Test.YthjicahpfhjfdaaGreatDoorJ43
namespace Go.Proofs.YthjicahpfhjfdaaGreatDoor
open Go.RowKit

theorem put_empty {B b : Nat} {st : Option ByteArray} {w : World} (h : TextAt B b st w) : put st ⟨#[]⟩ = st := by
  match st, h with
  | none, _ => rfl
  | some s, h =>
    have e : (⟨#[]⟩ : ByteArray).size = 0 := rfl
    have hs := h.2.2.1
    show (if 200 < s.size + (⟨#[]⟩ : ByteArray).size then none else some (s ++ ⟨#[]⟩)) = some s
    rw [if_neg (by rw [e]; omega)]
    congr 1
    exact ByteArray.append_empty

set_option maxHeartbeats 400000 in
theorem nothingPrint_any (B b : Nat) (st : Option ByteArray) (w : World) (h : TextAt B b st w) (hBw : B ≤ w.heap.size) :
    Calls Tryz.prog 107 #[.agg #[], .pointer (some ⟨b, 0, none⟩)] w fun e w' => e = .returned (.tuple #[]) ∧ Printed B b (put st (P.pr P.nonT)) w w' := by
  rw [P.pr_non, put_empty h]
  have HT : Hid (TextAt B b st w) := h
  clear h
  go_enter Tryz.func107, Tryz.ntmps107
  go_wp2_with fail
  go_returns
  exact ⟨rfl, textAt_alloc HT.out _, (Below.refl _ _).alloc hBw _, (Lib.OthersKept.refl _ _ _).alloc _⟩

set_option maxHeartbeats 400000 in
theorem namedPrint_any (n : ByteArray) (hn : n.size ≤ 20) (B b : Nat) (st : Option ByteArray) (w : World) (h : TextAt B b st w) (hBw : B ≤ w.heap.size) :
    Calls Tryz.prog 113 #[.agg #[.string n], .pointer (some ⟨b, 0, none⟩)] w fun e w' => e = .returned (.tuple #[]) ∧ Printed B b (put st (P.pr (P.nmT n))) w w' := by
  rw [P.pr_nm]
  have HT : Hid (TextAt B b st w) := h
  clear h
  go_enter Tryz.func113, Tryz.ntmps113
  go_wp2_with fail
  refine (add_any _ st B b _ (textAt_alloc HT.out _) (by unfold maxLen; omega) (by simp; omega)).mono ?_
  rintro e w1 ⟨rfl, hp1⟩
  have hp1 : Printed B b _ _ w1 := hp1
  have hfin := hp1.after _ hBw
  clear hp1
  go_wp2_with fail
  go_returns
  exact ⟨rfl, hfin⟩

set_option maxHeartbeats 400000 in
theorem valuedPrint_any (n v : ByteArray) (hn : n.size ≤ 20) (hv : v.size ≤ 20) (B b : Nat) (st : Option ByteArray) (w : World) (h : TextAt B b st w) (hBw : B ≤ w.heap.size) :
    Calls Tryz.prog 121 #[.agg #[.string n, .string v], .pointer (some ⟨b, 0, none⟩)] w fun e w' => e = .returned (.tuple #[]) ∧ Printed B b (put st (P.pr (P.vlT n v))) w w' := by
  rw [P.pr_vl]
  have HT : Hid (TextAt B b st w) := h
  clear h
  go_enter Tryz.func121, Tryz.ntmps121
  go_wp2_with fail
  refine (add_any _ st B b _ (textAt_alloc HT.out _) (by rw [ByteArray.size_append, ByteArray.size_append]; have e : (⟨#[61]⟩ : ByteArray).size = 1 := rfl; rw [e]; unfold maxLen; omega) (by simp; omega)).mono ?_
  rintro e w1 ⟨rfl, hp1⟩
  have hp1 : Printed B b _ _ w1 := hp1
  have hfin := hp1.after _ hBw
  clear hp1
  go_wp2_with fail
  go_returns
  exact ⟨rfl, hfin⟩

set_option maxHeartbeats 400000 in
theorem oppPrint_any (k : P.Tr) (hw : P.wf k) (hok : PrintOk k) (B b : Nat) (st : Option ByteArray) (w : World) (h : TextAt B b st w) (hBw : B ≤ w.heap.size) (hh : Int) :
    Calls Tryz.prog 136 #[.agg #[val k, .int .i64 hh], .pointer (some ⟨b, 0, none⟩)] w fun e w' => e = .returned (.tuple #[]) ∧ Printed B b (put st (P.pr (P.ntT k))) w w' := by
  rw [P.pr_nt, ← put_put]
  have HT : Hid (TextAt B b st w) := h
  have hbl : b < w.heap.size := h.2.1
  clear h
  obtain ⟨ty, vt, hvt⟩ := val_iface hw
  have C := fun st w h hBw => addKid_any k hw hok 2 (Nat.le_refl _) st B b w h hBw
  rw [hvt] at C ⊢
  have HC : Hid (∀ (st : Option ByteArray) (w : World), TextAt B b st w → B ≤ w.heap.size → Calls Tryz.prog 138 #[.pointer (some ⟨b, 0, none⟩), .iface ty vt, .int .i64 2] w fun e w' => e = .returned (.tuple #[]) ∧ Printed B b (put st (P.wr 3 (P.bindT k) (P.pr k))) w w') := C
  clear C hvt
  go_enter Tryz.func136, Tryz.ntmps136
  go_wp2_with fail
  refine (add_any _ st B b _ (textAt_alloc HT.out _) (by unfold maxLen; decide) (by simp; omega)).mono ?_
  rintro e w1 ⟨rfl, hp1⟩
  have hp1 : Printed B b _ _ w1 := hp1
  have hs1 : B ≤ w1.heap.size := by
    have := hp1.2.1.size
    simp at this
    omega
  have hbk := box_kept hp1.2.2 hbl (by decide)
  have c0 : w1.cell? ⟨w.heap.size, 0, none⟩ = some (.iface ty vt) := by simp [World.cell?, hbk]
  clear hbk
  go_wp2_with fail
  refine (HC.out _ _ hp1.1 hs1).mono ?_
  rintro e w2 ⟨rfl, hp2⟩
  have hfin := (hp1.after _ hBw).trans hp2
  clear hp1 hp2 hs1
  go_wp2_with fail
  go_returns
  exact ⟨rfl, hfin⟩

set_option maxHeartbeats 1000000 in
theorem printAs_any (x y : P.Tr) (hx : P.wf x) (hy : P.wf y) (okx : PrintOk x) (oky : PrintOk y) (sg : ByteArray) (hsg : sg.size ≤ 20) (l : Nat) (hl : l ≤ 1) (B b : Nat) (st : Option ByteArray) (w : World) (h : TextAt B b st w) (hBw : B ≤ w.heap.size) (hh : Int) :
    Calls Tryz.prog 145 #[.agg #[val x, val y, .int .i64 hh], .string sg, .int .i64 l, .pointer (some ⟨b, 0, none⟩)] w fun e w' => e = .returned (.tuple #[]) ∧
      Printed B b (put st (P.wr (l + 1) (P.bindT x) (P.pr x) ++ sg ++ P.wr (l + 2) (P.bindT y) (P.pr y))) w w' := by
  rw [← put_put, ← put_put]
  have HT : Hid (TextAt B b st w) := h
  have hbl : b < w.heap.size := h.2.1
  clear h
  obtain ⟨ty, vt, hvt⟩ := val_iface hx
  obtain ⟨ty', vt', hvt'⟩ := val_iface hy
  have C := fun st w h hBw => addKid_any x hx okx l (by omega) st B b w h hBw
  have C' := fun st w h hBw => addKid_any y hy oky (l + 1) (by omega) st B b w h hBw
  rw [hvt] at C ⊢
  rw [hvt'] at C' ⊢
  have HC : Hid (∀ (st : Option ByteArray) (w : World), TextAt B b st w → B ≤ w.heap.size → Calls Tryz.prog 138 #[.pointer (some ⟨b, 0, none⟩), .iface ty vt, .int .i64 l] w fun e w' => e = .returned (.tuple #[]) ∧ Printed B b (put st (P.wr (l + 1) (P.bindT x) (P.pr x))) w w') := C
  have HC' : Hid (∀ (st : Option ByteArray) (w : World), TextAt B b st w → B ≤ w.heap.size → Calls Tryz.prog 138 #[.pointer (some ⟨b, 0, none⟩), .iface ty' vt', .int .i64 ((l : Int) + 1)] w fun e w' => e = .returned (.tuple #[]) ∧ Printed B b (put st (P.wr (l + 2) (P.bindT y) (P.pr y))) w w') := C'
  clear C C' hvt hvt'
  go_enter Tryz.func145, Tryz.ntmps145
  go_wp2_with fail
  refine (HC.out st _ (textAt_alloc HT.out _) (by simp; omega)).mono ?_
  rintro e w1 ⟨rfl, hp1⟩
  have hs1 : B ≤ w1.heap.size := by
    have := hp1.2.1.size
    simp at this
    omega
  go_wp2_with fail
  refine (add_any _ _ B b _ hp1.1 (by unfold maxLen; omega) hs1).mono ?_
  rintro e w2 ⟨rfl, hp2⟩
  have hp2 : Printed B b _ _ w2 := hp2
  have hs2 : B ≤ w2.heap.size := Nat.le_trans hs1 hp2.2.1.size
  have hp12 := hp1.trans hp2
  have hbk := box_kept hp12.2.2 hbl (by decide)
  have c1 : w2.cell? ⟨w.heap.size, 1, none⟩ = some (.iface ty' vt') := by simp [World.cell?, hbk]
  clear hbk
  go_wp2_with fail
  refine (HC'.out _ _ hp2.1 hs2).mono ?_
  rintro e w3 ⟨rfl, hp3⟩
  have hfin := (hp12.after _ hBw).trans hp3
  clear hp1 hp2 hp3 hp12 hs1 hs2
  go_wp2_with fail
  go_returns
  exact ⟨rfl, hfin⟩

set_option maxHeartbeats 400000 in
theorem bothPrint_any (x y : P.Tr) (hx : P.wf x) (hy : P.wf y) (okx : PrintOk x) (oky : PrintOk y) (B b : Nat) (st : Option ByteArray) (w : World) (h : TextAt B b st w) (hBw : B ≤ w.heap.size) (hh : Int) :
    Calls Tryz.prog 143 #[.agg #[val x, val y, .int .i64 hh], .pointer (some ⟨b, 0, none⟩)] w fun e w' => e = .returned (.tuple #[]) ∧ Printed B b (put st (P.pr (P.anT x y))) w w' := by
  rw [P.pr_an]
  have HT : Hid (TextAt B b st w) := h
  clear h
  obtain ⟨ty, vt, hvt⟩ := val_iface hx
  obtain ⟨ty', vt', hvt'⟩ := val_iface hy
  have C := fun w h hBw => printAs_any x y hx hy okx oky ⟨#[32, 38, 32]⟩ (by decide) 1 (by omega) B b st w h hBw hh
  rw [hvt, hvt'] at C ⊢
  have HC : Hid (∀ (w : World), TextAt B b st w → B ≤ w.heap.size → Calls Tryz.prog 145 #[.agg #[.iface ty vt, .iface ty' vt', .int .i64 hh], .string ⟨#[32, 38, 32]⟩, .int .i64 1, .pointer (some ⟨b, 0, none⟩)] w fun e w' => e = .returned (.tuple #[]) ∧
      Printed B b (put st (P.wr (1 + 1) (P.bindT x) (P.pr x) ++ ⟨#[32, 38, 32]⟩ ++ P.wr (1 + 2) (P.bindT y) (P.pr y))) w w') := C
  clear C hvt hvt'
  go_enter Tryz.func143, Tryz.ntmps143
  go_wp2_with fail
  refine (HC.out _ (textAt_alloc HT.out _) (by simp; omega)).mono ?_
  rintro e w1 ⟨rfl, hp1⟩
  have hfin := hp1.after _ hBw
  clear hp1
  go_wp2_with fail
  go_returns
  exact ⟨rfl, hfin⟩

set_option maxHeartbeats 400000 in
theorem eitherPrint_any (x y : P.Tr) (hx : P.wf x) (hy : P.wf y) (okx : PrintOk x) (oky : PrintOk y) (B b : Nat) (st : Option ByteArray) (w : World) (h : TextAt B b st w) (hBw : B ≤ w.heap.size) (hh : Int) :
    Calls Tryz.prog 149 #[.agg #[val x, val y, .int .i64 hh], .pointer (some ⟨b, 0, none⟩)] w fun e w' => e = .returned (.tuple #[]) ∧ Printed B b (put st (P.pr (P.orT x y))) w w' := by
  rw [P.pr_or]
  have HT : Hid (TextAt B b st w) := h
  clear h
  obtain ⟨ty, vt, hvt⟩ := val_iface hx
  obtain ⟨ty', vt', hvt'⟩ := val_iface hy
  have C := fun w h hBw => printAs_any x y hx hy okx oky ⟨#[32, 124, 32]⟩ (by decide) 0 (by omega) B b st w h hBw hh
  rw [hvt, hvt'] at C ⊢
  have HC : Hid (∀ (w : World), TextAt B b st w → B ≤ w.heap.size → Calls Tryz.prog 145 #[.agg #[.iface ty vt, .iface ty' vt', .int .i64 hh], .string ⟨#[32, 124, 32]⟩, .int .i64 0, .pointer (some ⟨b, 0, none⟩)] w fun e w' => e = .returned (.tuple #[]) ∧
      Printed B b (put st (P.wr (0 + 1) (P.bindT x) (P.pr x) ++ ⟨#[32, 124, 32]⟩ ++ P.wr (0 + 2) (P.bindT y) (P.pr y))) w w') := C
  clear C hvt hvt'
  go_enter Tryz.func149, Tryz.ntmps149
  go_wp2_with fail
  refine (HC.out _ (textAt_alloc HT.out _) (by simp; omega)).mono ?_
  rintro e w1 ⟨rfl, hp1⟩
  have hfin := hp1.after _ hBw
  clear hp1
  go_wp2_with fail
  go_returns
  exact ⟨rfl, hfin⟩

theorem printOk_non : PrintOk P.nonT := by
  intro name H B b st w h hB
  exact ⟨_, _, H.c0 _ w, (nothingPrint_any B b st w h hB).mono fun e w' ⟨he, hp⟩ => ⟨_, he, rfl, hp⟩⟩

theorem printOk_fine (t : P.Tr) (hw : P.wf t) : P.good t → PrintOk t := by
  refine P.wf_ind (p := fun t => P.good t → PrintOk t) ?_ ?_ ?_ ?_ ?_ ?_ t hw
  · intro h; exact h.elim
  · intro n hg name H B b st w h hB
    exact ⟨_, _, H.c1 n _ w, (namedPrint_any n hg.2 B b st w h hB).mono fun e w' ⟨he, hp⟩ => ⟨_, he, rfl, hp⟩⟩
  · intro n v hg name H B b st w h hB
    exact ⟨_, _, H.c2 n v _ w, (valuedPrint_any n v hg.1.2 hg.2.2 B b st w h hB).mono fun e w' ⟨he, hp⟩ => ⟨_, he, rfl, hp⟩⟩
  · intro k hk ih hg name H B b st w h hB
    exact ⟨_, _, H.c3 _ _ _ w, (oppPrint_any k hk (ih hg) B b st w h hB _).mono fun e w' ⟨he, hp⟩ => ⟨_, he, rfl, hp⟩⟩
  · intro x y hx hy ihx ihy hg name H B b st w h hB
    exact ⟨_, _, H.c4 _ _ _ _ w, (bothPrint_any x y hx hy (ihx hg.1) (ihy hg.2) B b st w h hB _).mono fun e w' ⟨he, hp⟩ => ⟨_, he, rfl, hp⟩⟩
  · intro x y hx hy ihx ihy hg name H B b st w h hB
    exact ⟨_, _, H.c5 _ _ _ _ w, (eitherPrint_any x y hx hy (ihx hg.1) (ihy hg.2) B b st w h hB _).mono fun e w' ⟨he, hp⟩ => ⟨_, he, rfl, hp⟩⟩

end Go.Proofs.YthjicahpfhjfdaaGreatDoor
