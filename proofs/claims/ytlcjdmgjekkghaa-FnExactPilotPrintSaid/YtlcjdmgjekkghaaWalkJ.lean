/-
  Walks: every part prints as it should.
-/
import Derived.Test.YtlcjdmgjekkghaaWalkI
namespace Go.Proofs.Ytlcjdmgjekkghaa
open Go.RowKit

theorem Printed.trans {B b : Nat} {s t : Option ByteArray} {w w1 w2 : World} (h : Printed B b s w w1) (k : Printed B b t w1 w2) : Printed B b t w w2 :=
  ⟨k.1, h.2.1.trans k.2.1, h.2.2.trans k.2.2⟩

theorem Printed.after {B b : Nat} {t : Option ByteArray} {w w2 : World} (o : Obj) (hB : B ≤ w.heap.size) (k : Printed B b t (w.alloc o) w2) : Printed B b t w w2 :=
  ⟨k.1, ((Below.refl B w).alloc hB o).trans k.2.1, ((Lib.OthersKept.refl _ _ w).alloc o).trans k.2.2⟩

theorem addKid_over (x : Value) (l : Int) (B b : Nat) (w : World) (h : TextAt B b none w) :
    Calls Try.prog 70 #[.pointer (some ⟨b, 0, none⟩), x, .int .i64 l] w fun e w' => e = .returned (.tuple #[]) ∧ w' = w := by
  obtain ⟨hB, hb, p, v, hblk⟩ := h
  obtain ⟨_, _, c2, _, _, _⟩ := text_cells hblk
  clear hblk
  go_enter Try.func70, Try.ntmps70
  go_wp2_with fail
  go_returns
  exact ⟨rfl, rfl⟩

set_option maxHeartbeats 1000000 in
set_option maxRecDepth 100000 in
theorem addKid_some (t : P.Tr) (hw : P.wf t) (hok : PrintOk t) (l : Nat) (hl : l ≤ 2) (s : ByteArray) (B b : Nat) (w : World) (h : TextAt B b (some s) w) (hBw : B ≤ w.heap.size) :
    Calls Try.prog 70 #[.pointer (some ⟨b, 0, none⟩), val t, .int .i64 l] w fun e w' => e = .returned (.tuple #[]) ∧ Printed B b (put (some s) (P.wr (l + 1) (P.bindT t) (P.pr t))) w w' := by
  have HT : Hid (TextAt B b (some s) w) := h
  obtain ⟨hB, hb, hs, p, v, hblk, _⟩ := h
  obtain ⟨_, _, c2, _, _, _⟩ := text_cells hblk
  clear hblk
  have hlv := bindI_lvl hw l hl
  obtain ⟨ty, vt, hvt⟩ := val_iface hw
  have HV : Hid (val t = .iface ty vt) := hvt
  have HP : Hid (∀ (name : String), PrintName name → ∀ (B b : Nat) (st : Option ByteArray) (w : World), TextAt B b st w → B ≤ w.heap.size → Meth Try.prog (.iface ty vt) name #[.pointer (some ⟨b, 0, none⟩)] w fun u w' => u = .tuple #[] ∧ Printed B b (put st (P.pr t)) w w') := by
    have h := hok
    unfold PrintOk at h
    rw [hvt] at h
    exact h
  rw [hvt]
  clear hvt
  by_cases hge : (l : Int) ≤ bindI t
  · have hw1 : Hid (P.wr (l + 1) (P.bindT t) (P.pr t) = P.pr t) := by show _ = _; unfold P.wr; rw [if_neg (hlv.1 hge)]
    clear hlv
    rw [hw1.out]
    clear hw1
    go_enter Try.func70, Try.ntmps70
    go_wp2_with (first
      | (refine wpList_meth rfl (.tmp 10) _ #[] #[] rfl _ rfl #[] (map_none _) _ (binds_meth ⟨fun _ => by kernel_rfl, fun _ _ => by kernel_rfl, fun _ _ _ => by kernel_rfl, fun _ _ _ => by kernel_rfl, fun _ _ _ _ => by kernel_rfl, fun _ _ _ _ => by kernel_rfl⟩ hw HV _) ?_; rintro u w1 ⟨rfl, o, rfl⟩)
      | (refine wpList_meth rfl (.tmp 14) _ #[.tmp 15] _ rfl _ rfl _ (map_one _ _) _ (HP.out _ ⟨fun _ _ => by kernel_rfl, fun _ _ _ => by kernel_rfl, fun _ _ _ _ => by kernel_rfl, fun _ _ _ _ => by kernel_rfl, fun _ _ _ _ _ => by kernel_rfl, fun _ _ _ _ _ => by kernel_rfl⟩ B b _ _ (textAt_alloc HT.out _) (by simp; omega)) ?_; rintro u w2 ⟨rfl, hp2⟩))
    go_returns
    exact ⟨rfl, hp2.after _ hBw⟩
  · have hw1 : Hid (P.wr (l + 1) (P.bindT t) (P.pr t) = ⟨#[40]⟩ ++ P.pr t ++ ⟨#[41]⟩) := by
      show _ = _
      unfold P.wr
      rw [if_pos (Decidable.not_not.1 fun h => hge (hlv.2 h))]
    clear hlv
    rw [hw1.out, ← put_put, ← put_put]
    clear hw1
    go_enter Try.func70, Try.ntmps70
    go_wp2_with (refine wpList_meth rfl (.tmp 10) _ #[] #[] rfl _ rfl #[] (map_none _) _ (binds_meth ⟨fun _ => by kernel_rfl, fun _ _ => by kernel_rfl, fun _ _ _ => by kernel_rfl, fun _ _ _ => by kernel_rfl, fun _ _ _ _ => by kernel_rfl, fun _ _ _ _ => by kernel_rfl⟩ hw HV _) ?_; rintro u w1 ⟨rfl, o, rfl⟩)
    refine (add_any _ (some s) B b _ (textAt_alloc HT.out _) (by unfold maxLen; decide) (by simp; omega)).mono ?_
    rintro e w1 ⟨rfl, hp1⟩
    have hp1 : Printed B b _ _ w1 := hp1
    have hs1 : B ≤ w1.heap.size := by
      have := hp1.2.1.size
      simp at this
      omega
    go_wp2_with (refine wpList_meth rfl (.tmp 19) _ #[.tmp 20] _ rfl _ rfl _ (map_one _ _) _ (HP.out _ ⟨fun _ _ => by kernel_rfl, fun _ _ _ => by kernel_rfl, fun _ _ _ _ => by kernel_rfl, fun _ _ _ _ => by kernel_rfl, fun _ _ _ _ _ => by kernel_rfl, fun _ _ _ _ _ => by kernel_rfl⟩ B b _ _ hp1.1 hs1) ?_; rintro u w2 ⟨rfl, hp2⟩)
    have hs2 : B ≤ w2.heap.size := Nat.le_trans hs1 hp2.2.1.size
    refine (add_any _ _ B b _ hp2.1 (by unfold maxLen; decide) hs2).mono ?_
    rintro e w3 ⟨rfl, hp3⟩
    have hp3 : Printed B b _ _ w3 := hp3
    have hfin := (hp1.after _ hBw).trans (hp2.trans hp3)
    clear hp1 hp2 hp3 hs1 hs2
    go_wp2_with fail
    go_returns
    exact ⟨rfl, hfin⟩

theorem addKid_any (t : P.Tr) (hw : P.wf t) (hok : PrintOk t) (l : Nat) (hl : l ≤ 2) (st : Option ByteArray) (B b : Nat) (w : World) (h : TextAt B b st w) (hBw : B ≤ w.heap.size) :
    Calls Try.prog 70 #[.pointer (some ⟨b, 0, none⟩), val t, .int .i64 l] w fun e w' => e = .returned (.tuple #[]) ∧ Printed B b (put st (P.wr (l + 1) (P.bindT t) (P.pr t))) w w' := by
  match st, h with
  | none, h =>
    refine (addKid_over (val t) l B b w h).mono ?_
    rintro e w' ⟨rfl, rfl⟩
    exact ⟨rfl, h, Below.refl _ _, Lib.OthersKept.refl _ _ _⟩
  | some s, h => exact addKid_some t hw hok l hl s B b w h hBw

end Go.Proofs.Ytlcjdmgjekkghaa
