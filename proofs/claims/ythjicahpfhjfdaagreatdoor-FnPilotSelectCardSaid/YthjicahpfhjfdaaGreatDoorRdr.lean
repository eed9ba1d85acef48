/-
  Walks: the program's reader, byte by byte.
-/
import Derived.Test.YthjicahpfhjfdaaGreatDoorJ4
import Derived.Test.YthjicahpfhjfdaaGreatDoorJ0
import Derived.Deep.RegionHeld3
namespace Go.Proofs.YthjicahpfhjfdaaGreatDoor
open Go.RowKit

/-- below B all blocks but one are as they were -/
structure But (p B : Nat) (w w' : World) : Prop where
  os : w'.os = w.os
  tape : w'.tape = w.tape
  output : w'.output = w.output
  size : w.heap.size ≤ w'.heap.size
  block : ∀ k, k < B → k ≠ p → w'.heap[k]? = w.heap[k]?

theorem But.refl (p B : Nat) (w : World) : But p B w w := ⟨rfl, rfl, rfl, Nat.le_refl _, fun _ _ _ => rfl⟩
theorem But.trans {p B : Nat} {a b c : World} (h : But p B a b) (k : But p B b c) : But p B a c :=
  ⟨k.os.trans h.os, k.tape.trans h.tape, k.output.trans h.output, Nat.le_trans h.size k.size, fun i hi hp => (k.block i hi hp).trans (h.block i hi hp)⟩
theorem But.mono {p B B' : Nat} {w w' : World} (h : But p B w w') (hB : B' ≤ B) : But p B' w w' := ⟨h.os, h.tape, h.output, h.size, fun k hk => h.block k (Nat.lt_of_lt_of_le hk hB)⟩
theorem But.of_below {p B : Nat} {w w' : World} (h : Below B w w') : But p B w w' := ⟨h.os, h.tape, h.output, h.size, fun k hk _ => h.block k hk⟩
theorem But.set {p B : Nat} {a w : World} (h : But p B a w) (o : Nat) (v : Value) : But p B a (w.setCell ⟨p, o, none⟩ v) :=
  h.trans ⟨rfl, rfl, rfl, by simp [World.setCell], fun k _ hp => Below.heap_setCell _ _ _ _ hp⟩
theorem But.drew {p B : Nat} {a w : World} (h : But p B a w) : But p B a w.drew := ⟨h.os, h.tape, h.output, h.size, h.block⟩
theorem But.below {p B B' : Nat} {w w' : World} (h : But p B w w') (hB : B' ≤ B) (hp : B' ≤ p) : Below B' w w' := ⟨h.os, h.tape, h.output, h.size, fun k hk => h.block k (by omega) (by omega)⟩

/-- the reader's two cells -/
def RdAt (w : World) (p : Nat) (t : ByteArray) (i : Nat) : Prop :=
  w.cell? ⟨p, 0, none⟩ = some (.string t) ∧ w.cell? ⟨p, 1, none⟩ = some (.int .i64 i) ∧ w.frozen? ⟨p, 1, none⟩ = false

theorem RdAt.lt {w : World} {p : Nat} {t : ByteArray} {i : Nat} (h : RdAt w p t i) : p < w.heap.size := block_lt_of_cell h.1
theorem RdAt.below {w w' : World} {p B : Nat} {t : ByteArray} {i : Nat} (h : RdAt w p t i) (hb : Below B w w') (hB : p < B) : RdAt w' p t i :=
  ⟨(hb.cell (p := ⟨p, 0, none⟩) hB).trans h.1, (hb.cell (p := ⟨p, 1, none⟩) hB).trans h.2.1, (hb.frozen (p := ⟨p, 1, none⟩) hB).trans h.2.2⟩
theorem RdAt.set {w : World} {p : Nat} {t : ByteArray} {i : Nat} (h : RdAt w p t i) (k : Nat) : RdAt (w.setCell ⟨p, 1, none⟩ (.int .i64 k)) p t k := by
  obtain ⟨h0, h1, h2⟩ := h
  refine ⟨?_, ?_, ?_⟩
  · simp [go_sem, h0]
  · simp [go_sem, h1]
  · simp [go_sem, h2]
theorem RdAt.succ {w : World} {p : Nat} {t : ByteArray} {i : Nat} (h : RdAt w p t i) : RdAt (w.setCell ⟨p, 1, none⟩ (.int .i64 ((i : Int) + 1))) p t (i + 1) := h.set (i + 1)

/-- how many bytes are left -/
def leftOf (t : ByteArray) (p : Nat) (w : World) : Nat := t.size - (match w.cell? ⟨p, 1, none⟩ with | some v => (intOf v).toNat | none => 0)

theorem leftOf_eq {w : World} {p : Nat} {t : ByteArray} {i : Nat} (h : RdAt w p t i) : leftOf t p w = t.size - i := by
  unfold leftOf
  rw [h.2.1]
  simp [intOf]

theorem RdAt.drew {w : World} {p : Nat} {t : ByteArray} {i : Nat} (h : RdAt w p t i) : RdAt w.drew p t i := h

/-- the tokens from a place on -/
def toksAt (t : ByteArray) (i : Nat) : List (List UInt8) := P.toks (t.data.toList.drop i)

theorem drop_at {t : ByteArray} {i : Nat} (h : i < t.size) : t.data.toList.drop i = t[i] :: t.data.toList.drop (i + 1) := by
  rw [List.drop_eq_getElem_cons (by simpa using h)]; rfl

theorem toksAt_blank {t : ByteArray} {i : Nat} (h : i < t.size) (hb : t[i] = 32) : toksAt t (i + 1) = toksAt t i := by
  unfold toksAt
  rw [drop_at h, hb, P.toks_blank]

theorem toksAt_sign {t : ByteArray} {i : Nat} (h : i < t.size) (hb : t[i] ≠ 32) (hl : P.letter t[i] = false) : toksAt t i = [t[i]] :: toksAt t (i + 1) := by
  unfold toksAt
  rw [drop_at h, P.toks_sign _ hb hl]

theorem toksAt_end {t : ByteArray} {i : Nat} (h : t.size ≤ i) : toksAt t i = [] := by
  unfold toksAt
  rw [List.drop_eq_nil_of_le (by simpa using h)]; rfl

theorem onto_head (c : UInt8) (r : List UInt8) (ts : List (List UInt8)) : ∃ h l, P.onto c r ts = (c :: h) :: l := by
  cases r with
  | nil => exact ⟨_, _, rfl⟩
  | cons d r =>
    cases ts with
    | nil => exact ⟨_, _, rfl⟩
    | cons h t =>
      by_cases hd : P.letter d = true
      · exact ⟨h, t, by simp [P.onto, hd]⟩
      · exact ⟨[], h :: t, by simp [P.onto, hd]⟩

theorem toksAt_head {t : ByteArray} {i : Nat} (h : i < t.size) (hb : t[i] ≠ 32) : ∃ l r, toksAt t i = (t[i] :: l) :: r := by
  unfold toksAt
  rw [drop_at h, P.toks_cons, if_neg hb]
  by_cases hl : P.letter t[i] = true
  · rw [if_pos hl]; exact onto_head _ _ _
  · rw [if_neg hl]; exact ⟨[], _, rfl⟩

theorem tk_hit {t : ByteArray} {k : Nat} {s : UInt8} (h : k < t.size) (hc : t[k] = s) (h32 : s ≠ 32) (hl : P.letter s = false) : P.tk s (toksAt t k) = some (toksAt t (k + 1)) := by
  rw [toksAt_sign h (by rw [hc]; exact h32) (by rw [hc]; exact hl), hc]
  simp [P.tk]

theorem tk_miss {t : ByteArray} {k : Nat} {s : UInt8} (h : k < t.size) (hc : ¬ t[k] = s) (hb : t[k] ≠ 32) : P.tk s (toksAt t k) = none := by
  obtain ⟨l, r, e⟩ := toksAt_head h hb
  rw [e]
  simp [P.tk, hc]

/-- no blank stands at a place -/
def Solid (t : ByteArray) (i : Nat) : Prop := ∀ h : i < t.size, t[i] ≠ 32

theorem wpAnyH_mono {P : Program} {md : Region.Mode} {ops : Array Oper} {Q : Exit → Act → World → Prop} {S S' : World → Prop} (hS : ∀ w, S' w → S w) : ∀ (fuel : Nat) (listed : Array Bool) (a : Act) (w : World), wpAnyH P md ops Q S' fuel listed a w → wpAnyH P md ops Q S fuel listed a w
  | 0, _, _, _, h => h
  | fuel + 1, _, _, _, h => ⟨h.1, fun i hi => wpOp_mono (fun a' w' h' => ⟨hS w' h'.1, wpAnyH_mono hS fuel _ a' w' h'.2⟩) (h.2 i hi)⟩

set_option maxHeartbeats 1000000 in
theorem ended_any (p : Nat) (t : ByteArray) (i : Nat) (w : World) (hr : RdAt w p t i) (hi : i ≤ t.size) (ht : t.size ≤ 200) :
    Calls Tryz.prog 36 #[.pointer (some ⟨p, 0, none⟩)] w fun e w' => ∃ k, e = .returned (.bool (decide (k = t.size))) ∧ i ≤ k ∧ k ≤ t.size ∧ toksAt t k = toksAt t i ∧ Solid t k ∧ RdAt w' p t k ∧ But p w.heap.size w w' := by
  have HR : Hid (RdAt w p t i) := hr
  clear hr
  go_enter Tryz.func36, Tryz.ntmps36
  go_wp2_with fail
  go_loopw [] (fun wr => ∃ k, i ≤ k ∧ k ≤ t.size ∧ Hid (toksAt t k = toksAt t i) ∧ Hid (RdAt wr p t k) ∧ Hid (But p w.heap.size w wr)) (fun wr => leftOf t p wr)
  case atStart => exact ⟨i, Nat.le_refl _, hi, rfl, HR, But.refl _ _ _⟩
  case round =>
    obtain ⟨k, h1, h2, h3, h4, h5⟩ := hrel
    obtain ⟨r0, r1, r2⟩ := h4.out
    by_cases hlt : k < t.size
    · have i0 : (0 : Int) ≤ (k : Int) := by omega
      have i1 : (k : Int) < (t.size : Int) := by omega
      by_cases hb : t[k] = 32
      · have hb' : t[k].toNat = 32 := by rw [hb]; rfl
        have HT : Hid (toksAt t (k + 1) = toksAt t i) := (toksAt_blank hlt hb).trans h3.out
        clear hb
        go_wp2_with fail
        go_region
        go_wp2_with fail
        go_roundw
        case rel => exact ⟨k + 1, by omega, by omega, HT, h4.out.succ.drew, (h5.out.set _ _).drew⟩
        case measure => rw [leftOf_eq h4.out.succ.drew, leftOf_eq h4.out]; omega
      · have hb' : ¬ t[k].toNat = 32 := fun e => hb (UInt8.toNat_inj.1 e)
        have HS : Hid (Solid t k) := fun _ => hb
        clear hb
        go_wp2_with fail
        go_region
        go_wp2_with fail
        go_region
        go_wp2_with fail
        go_ret
        exact ⟨k, ret_bool (by rw [Bool.eq_iff_iff]; simp; omega), h1, h2, h3.out, HS.out, h4.out, h5.out.drew.drew⟩
    · have hke : k = t.size := by omega
      have HS : Hid (Solid t k) := fun h => absurd h hlt
      have i1 : ¬ (k : Int) < (t.size : Int) := by omega
      go_wp2_with fail
      go_region
      go_wp2_with fail
      go_region
      go_wp2_with fail
      go_ret
      exact ⟨k, ret_bool (decide_eq_true hke).symm, h1, h2, h3.out, HS.out, h4.out, h5.out.drew.drew⟩

/-- the reader's cells, for a region -/
def RdIn (p : Nat) (t : ByteArray) (i : Nat) (w : World) : Prop := RdAt w p t i

set_option maxHeartbeats 1000000 in
theorem take_any (p : Nat) (t : ByteArray) (i : Nat) (s : UInt8) (w : World) (hr : RdAt w p t i) (hi : i ≤ t.size) (ht : t.size ≤ 200) (h32 : s ≠ 32) (hl : P.letter s = false) :
    Calls Tryz.prog 69 #[.pointer (some ⟨p, 0, none⟩), .int .u8 s.toNat] w fun e w' => ∃ k, e = .returned (.bool (P.tk s (toksAt t i)).isSome) ∧ i ≤ k ∧ k ≤ t.size ∧ toksAt t k = (P.tk s (toksAt t i)).getD (toksAt t i) ∧ RdAt w' p t k ∧ But p w.heap.size w w' := by
  have HR : Hid (RdAt w p t i) := hr
  clear hr
  go_enter Tryz.func69, Tryz.ntmps69
  go_wp2_with fail
  refine wp_region_held_drew (S := fun _ => True) (by kernel_rfl) trivial (fun hS => ?_)
  refine wpAnyH_take (i := 0) (oi := { dst := some 5, op := _, type := _, pos := _, after := _, guard := none }) (v := .pointer (some ⟨p, 0, none⟩)) rfl (by kernel_rfl) (by kernel_rfl) (by kernel_rfl) (fun _ _ _ h => h) (Or.inl ⟨by rfl, ?_⟩) trivial ?_
  · intro wy hy
    go_simp <;> omega
  simp only [Act.put, List.setIfInBounds_toArray, List.set_cons_zero, List.set_cons_succ]
  refine wpAnyH_ready (rs := [1]) (by kernel_rfl) (by simp) (AllReadyH.cons (o := { dst := some 6, op := _, type := _, pos := _, after := _, guard := none }) rfl (fun K hK => ?_) AllReadyH.nil)
  go_simp
  refine (ended_any p t i _ HR.out.drew hi ht).mono ?_
  rintro e w1 ⟨k, rfl, k1, k2, k3, k4, k5, k6⟩
  have H5 : Hid (RdAt w1 p t k) := k5
  have H6 : Hid (But p w.heap.size w w1) := (But.refl p w.heap.size w).drew.trans k6
  have H3 : Hid (toksAt t k = toksAt t i) := k3
  have H4 : Hid (Solid t k) := k4
  refine hK.out _ _ trivial (fun _ => ?_)
  clear k3 k4 k5 k6 hS
  clear hK K
  refine wpAnyH_mono (S' := RdIn p t k) (fun _ _ => trivial) _ _ _ _ ?_
  have hS : RdIn p t k w1 := H5.out
  by_cases hk : k = t.size
  · have HT : Hid (P.tk s (toksAt t i) = none) := by rw [← H3.out, toksAt_end (by omega)]; rfl
    rw [decide_eq_true hk]
    refine wpAnyH_take (i := 2) (oi := { dst := some 7, op := _, type := _, pos := _, after := _, guard := none }) (v := .bool true) rfl (by kernel_rfl) (by kernel_rfl) (by kernel_rfl) (fun _ _ _ h => h) (Or.inl ⟨by rfl, ?_⟩) hS ?_
    · intro wy hy
      obtain ⟨y0, y1, y2⟩ := hy
      go_simp <;> omega
    simp only [Act.put, List.setIfInBounds_toArray, List.set_cons_zero, List.set_cons_succ]
    refine wpAnyH_take (i := 3) (oi := { dst := some 8, op := _, type := _, pos := _, after := _, guard := some (2, false) }) (v := undef) rfl (by kernel_rfl) (by kernel_rfl) (by kernel_rfl) (fun _ _ _ h => h) (Or.inr ⟨by rfl, rfl⟩) hS ?_
    simp only [Act.put, List.setIfInBounds_toArray, List.set_cons_zero, List.set_cons_succ]
    refine wpAnyH_take (i := 4) (oi := { dst := some 9, op := _, type := _, pos := _, after := _, guard := some (2, false) }) (v := undef) rfl (by kernel_rfl) (by kernel_rfl) (by kernel_rfl) (fun _ _ _ h => h) (Or.inr ⟨by rfl, rfl⟩) hS ?_
    simp only [Act.put, List.setIfInBounds_toArray, List.set_cons_zero, List.set_cons_succ]
    refine wpAnyH_take (i := 5) (oi := { dst := some 10, op := _, type := _, pos := _, after := _, guard := some (2, false) }) (v := undef) rfl (by kernel_rfl) (by kernel_rfl) (by kernel_rfl) (fun _ _ _ h => h) (Or.inr ⟨by rfl, rfl⟩) hS ?_
    simp only [Act.put, List.setIfInBounds_toArray, List.set_cons_zero, List.set_cons_succ]
    refine wpAnyH_take (i := 6) (oi := { dst := some 11, op := _, type := _, pos := _, after := _, guard := some (2, false) }) (v := undef) rfl (by kernel_rfl) (by kernel_rfl) (by kernel_rfl) (fun _ _ _ h => h) (Or.inr ⟨by rfl, rfl⟩) hS ?_
    simp only [Act.put, List.setIfInBounds_toArray, List.set_cons_zero, List.set_cons_succ]
    refine wpAnyH_take (i := 7) (oi := { dst := some 12, op := _, type := _, pos := _, after := _, guard := some (2, false) }) (v := undef) rfl (by kernel_rfl) (by kernel_rfl) (by kernel_rfl) (fun _ _ _ h => h) (Or.inr ⟨by rfl, rfl⟩) hS ?_
    simp only [Act.put, List.setIfInBounds_toArray, List.set_cons_zero, List.set_cons_succ]
    refine wpAnyH_take (i := 8) (oi := { dst := some 13, op := _, type := _, pos := _, after := _, guard := some (2, false) }) (v := undef) rfl (by kernel_rfl) (by kernel_rfl) (by kernel_rfl) (fun _ _ _ h => h) (Or.inr ⟨by rfl, rfl⟩) hS ?_
    simp only [Act.put, List.setIfInBounds_toArray, List.set_cons_zero, List.set_cons_succ]
    refine wpAnyH_take (i := 9) (oi := { dst := some 14, op := _, type := _, pos := _, after := _, guard := some (2, false) }) (v := undef) rfl (by kernel_rfl) (by kernel_rfl) (by kernel_rfl) (fun _ _ _ h => h) (Or.inr ⟨by rfl, rfl⟩) hS ?_
    simp only [Act.put, List.setIfInBounds_toArray, List.set_cons_zero, List.set_cons_succ]
    refine wpAnyH_take (i := 10) (oi := { dst := some 15, op := _, type := _, pos := _, after := _, guard := some (2, false) }) (v := undef) rfl (by kernel_rfl) (by kernel_rfl) (by kernel_rfl) (fun _ _ _ h => h) (Or.inr ⟨by rfl, rfl⟩) hS ?_
    simp only [Act.put, List.setIfInBounds_toArray, List.set_cons_zero, List.set_cons_succ]
    refine wpAnyH_take (i := 11) (oi := { dst := some 16, op := _, type := _, pos := _, after := _, guard := some (2, false) }) (v := undef) rfl (by kernel_rfl) (by kernel_rfl) (by kernel_rfl) (fun _ _ _ h => h) (Or.inr ⟨by rfl, rfl⟩) hS ?_
    simp only [Act.put, List.setIfInBounds_toArray, List.set_cons_zero, List.set_cons_succ]
    refine wpAnyH_take (i := 12) (oi := { dst := some 17, op := _, type := _, pos := _, after := _, guard := some (2, false) }) (v := undef) rfl (by kernel_rfl) (by kernel_rfl) (by kernel_rfl) (fun _ _ _ h => h) (Or.inr ⟨by rfl, rfl⟩) hS ?_
    simp only [Act.put, List.setIfInBounds_toArray, List.set_cons_zero, List.set_cons_succ]
    refine wpAnyH_take (i := 13) (oi := { dst := some 18, op := _, type := _, pos := _, after := _, guard := some (2, false) }) (v := undef) rfl (by kernel_rfl) (by kernel_rfl) (by kernel_rfl) (fun _ _ _ h => h) (Or.inr ⟨by rfl, rfl⟩) hS ?_
    simp only [Act.put, List.setIfInBounds_toArray, List.set_cons_zero, List.set_cons_succ]
    refine wpAnyH_take (i := 14) (oi := { dst := some 19, op := _, type := _, pos := _, after := _, guard := none }) (v := .bool true) rfl (by kernel_rfl) (by kernel_rfl) (by kernel_rfl) (fun _ _ _ h => h) (Or.inl ⟨by rfl, ?_⟩) hS ?_
    · intro wy hy
      obtain ⟨y0, y1, y2⟩ := hy
      go_simp <;> omega
    simp only [Act.put, List.setIfInBounds_toArray, List.set_cons_zero, List.set_cons_succ]
    refine wpAnyH_done (by kernel_rfl) ?_ _
    obtain ⟨r0, r1, r2⟩ := H5.out
    go_wp2_with fail
    go_ret
    exact ⟨k, by rw [HT.out]; rfl, k1, k2, by rw [HT.out, H3.out]; rfl, H5.out, H6.out⟩
  · have hlt : k < t.size := by omega
    rw [decide_eq_false hk]
    have i0 : (0 : Int) ≤ (k : Int) := by omega
    have i1 : (k : Int) < (t.size : Int) := by omega
    by_cases hc : t[k] = s
    · have HT : Hid (P.tk s (toksAt t i) = some (toksAt t (k + 1))) := by rw [← H3.out]; exact tk_hit hlt hc h32 hl
      have hc' : t[k].toNat = s.toNat := by rw [hc]
      clear hc
      refine wpAnyH_take (i := 2) (oi := { dst := some 7, op := _, type := _, pos := _, after := _, guard := none }) (v := .bool false) rfl (by kernel_rfl) (by kernel_rfl) (by kernel_rfl) (fun _ _ _ h => h) (Or.inl ⟨by rfl, ?_⟩) hS ?_
      · intro wy hy
        obtain ⟨y0, y1, y2⟩ := hy
        go_simp <;> omega
      simp only [Act.put, List.setIfInBounds_toArray, List.set_cons_zero, List.set_cons_succ]
      refine wpAnyH_take (i := 3) (oi := { dst := some 8, op := _, type := _, pos := _, after := _, guard := some (2, false) }) (v := .pointer (some ⟨p, 0, none⟩)) rfl (by kernel_rfl) (by kernel_rfl) (by kernel_rfl) (fun _ _ _ h => h) (Or.inl ⟨by rfl, ?_⟩) hS ?_
      · intro wy hy
        obtain ⟨y0, y1, y2⟩ := hy
        go_simp <;> omega
      simp only [Act.put, List.setIfInBounds_toArray, List.set_cons_zero, List.set_cons_succ]
      refine wpAnyH_take (i := 4) (oi := { dst := some 9, op := _, type := _, pos := _, after := _, guard := some (2, false) }) (v := .pointer (some ⟨p, 0, none⟩)) rfl (by kernel_rfl) (by kernel_rfl) (by kernel_rfl) (fun _ _ _ h => h) (Or.inl ⟨by rfl, ?_⟩) hS ?_
      · intro wy hy
        obtain ⟨y0, y1, y2⟩ := hy
        go_simp <;> omega
      simp only [Act.put, List.setIfInBounds_toArray, List.set_cons_zero, List.set_cons_succ]
      refine wpAnyH_take (i := 5) (oi := { dst := some 10, op := _, type := _, pos := _, after := _, guard := some (2, false) }) (v := .pointer (some ⟨p, 0, none⟩)) rfl (by kernel_rfl) (by kernel_rfl) (by kernel_rfl) (fun _ _ _ h => h) (Or.inl ⟨by rfl, ?_⟩) hS ?_
      · intro wy hy
        obtain ⟨y0, y1, y2⟩ := hy
        go_simp <;> omega
      simp only [Act.put, List.setIfInBounds_toArray, List.set_cons_zero, List.set_cons_succ]
      refine wpAnyH_take (i := 6) (oi := { dst := some 11, op := _, type := _, pos := _, after := _, guard := some (2, false) }) (v := .string t) rfl (by kernel_rfl) (by kernel_rfl) (by kernel_rfl) (fun _ _ _ h => h) (Or.inl ⟨by rfl, ?_⟩) hS ?_
      · intro wy hy
        obtain ⟨y0, y1, y2⟩ := hy
        go_simp <;> omega
      simp only [Act.put, List.setIfInBounds_toArray, List.set_cons_zero, List.set_cons_succ]
      refine wpAnyH_take (i := 7) (oi := { dst := some 12, op := _, type := _, pos := _, after := _, guard := some (2, false) }) (v := .pointer (some ⟨p, 0, none⟩)) rfl (by kernel_rfl) (by kernel_rfl) (by kernel_rfl) (fun _ _ _ h => h) (Or.inl ⟨by rfl, ?_⟩) hS ?_
      · intro wy hy
        obtain ⟨y0, y1, y2⟩ := hy
        go_simp <;> omega
      simp only [Act.put, List.setIfInBounds_toArray, List.set_cons_zero, List.set_cons_succ]
      refine wpAnyH_take (i := 8) (oi := { dst := some 13, op := _, type := _, pos := _, after := _, guard := some (2, false) }) (v := .pointer (some ⟨p, 0, none⟩)) rfl (by kernel_rfl) (by kernel_rfl) (by kernel_rfl) (fun _ _ _ h => h) (Or.inl ⟨by rfl, ?_⟩) hS ?_
      · intro wy hy
        obtain ⟨y0, y1, y2⟩ := hy
        go_simp <;> omega
      simp only [Act.put, List.setIfInBounds_toArray, List.set_cons_zero, List.set_cons_succ]
      refine wpAnyH_take (i := 9) (oi := { dst := some 14, op := _, type := _, pos := _, after := _, guard := some (2, false) }) (v := .pointer (some ⟨p, 1, none⟩)) rfl (by kernel_rfl) (by kernel_rfl) (by kernel_rfl) (fun _ _ _ h => h) (Or.inl ⟨by rfl, ?_⟩) hS ?_
      · intro wy hy
        obtain ⟨y0, y1, y2⟩ := hy
        go_simp <;> omega
      simp only [Act.put, List.setIfInBounds_toArray, List.set_cons_zero, List.set_cons_succ]
      refine wpAnyH_take (i := 10) (oi := { dst := some 15, op := _, type := _, pos := _, after := _, guard := some (2, false) }) (v := .int .i64 k) rfl (by kernel_rfl) (by kernel_rfl) (by kernel_rfl) (fun _ _ _ h => h) (Or.inl ⟨by rfl, ?_⟩) hS ?_
      · intro wy hy
        obtain ⟨y0, y1, y2⟩ := hy
        go_simp <;> omega
      simp only [Act.put, List.setIfInBounds_toArray, List.set_cons_zero, List.set_cons_succ]
      refine wpAnyH_take (i := 11) (oi := { dst := some 16, op := _, type := _, pos := _, after := _, guard := some (2, false) }) (v := .int .u8 t[k].toNat) rfl (by kernel_rfl) (by kernel_rfl) (by kernel_rfl) (fun _ _ _ h => h) (Or.inl ⟨by rfl, ?_⟩) hS ?_
      · intro wy hy
        obtain ⟨y0, y1, y2⟩ := hy
        go_simp <;> omega
      simp only [Act.put, List.setIfInBounds_toArray, List.set_cons_zero, List.set_cons_succ]
      refine wpAnyH_take (i := 12) (oi := { dst := some 17, op := _, type := _, pos := _, after := _, guard := some (2, false) }) (v := .int .u8 s.toNat) rfl (by kernel_rfl) (by kernel_rfl) (by kernel_rfl) (fun _ _ _ h => h) (Or.inl ⟨by rfl, ?_⟩) hS ?_
      · intro wy hy
        obtain ⟨y0, y1, y2⟩ := hy
        go_simp <;> omega
      simp only [Act.put, List.setIfInBounds_toArray, List.set_cons_zero, List.set_cons_succ]
      refine wpAnyH_take (i := 13) (oi := { dst := some 18, op := _, type := _, pos := _, after := _, guard := some (2, false) }) (v := .bool false) rfl (by kernel_rfl) (by kernel_rfl) (by kernel_rfl) (fun _ _ _ h => h) (Or.inl ⟨by rfl, ?_⟩) hS ?_
      · intro wy hy
        obtain ⟨y0, y1, y2⟩ := hy
        go_simp <;> omega
      simp only [Act.put, List.setIfInBounds_toArray, List.set_cons_zero, List.set_cons_succ]
      refine wpAnyH_take (i := 14) (oi := { dst := some 19, op := _, type := _, pos := _, after := _, guard := none }) (v := .bool false) rfl (by kernel_rfl) (by kernel_rfl) (by kernel_rfl) (fun _ _ _ h => h) (Or.inl ⟨by rfl, ?_⟩) hS ?_
      · intro wy hy
        obtain ⟨y0, y1, y2⟩ := hy
        go_simp <;> omega
      simp only [Act.put, List.setIfInBounds_toArray, List.set_cons_zero, List.set_cons_succ]
      refine wpAnyH_done (by kernel_rfl) ?_ _
      obtain ⟨r0, r1, r2⟩ := H5.out
      go_wp2_with fail
      go_ret
      exact ⟨k + 1, by rw [HT.out]; rfl, by omega, by omega, by rw [HT.out]; rfl, H5.out.succ, H6.out.set _ _⟩
    · have HT : Hid (P.tk s (toksAt t i) = none) := by rw [← H3.out]; exact tk_miss hlt hc (H4.out hlt)
      have hc' : ¬ t[k].toNat = s.toNat := fun e => hc (UInt8.toNat_inj.1 e)
      have hc2 : ((t[k].toNat : Int) == (s.toNat : Int)) = false := by simp; omega
      clear hc
      refine wpAnyH_take (i := 2) (oi := { dst := some 7, op := _, type := _, pos := _, after := _, guard := none }) (v := .bool false) rfl (by kernel_rfl) (by kernel_rfl) (by kernel_rfl) (fun _ _ _ h => h) (Or.inl ⟨by rfl, ?_⟩) hS ?_
      · intro wy hy
        obtain ⟨y0, y1, y2⟩ := hy
        go_simp <;> omega
      simp only [Act.put, List.setIfInBounds_toArray, List.set_cons_zero, List.set_cons_succ]
      refine wpAnyH_take (i := 3) (oi := { dst := some 8, op := _, type := _, pos := _, after := _, guard := some (2, false) }) (v := .pointer (some ⟨p, 0, none⟩)) rfl (by kernel_rfl) (by kernel_rfl) (by kernel_rfl) (fun _ _ _ h => h) (Or.inl ⟨by rfl, ?_⟩) hS ?_
      · intro wy hy
        obtain ⟨y0, y1, y2⟩ := hy
        go_simp <;> omega
      simp only [Act.put, List.setIfInBounds_toArray, List.set_cons_zero, List.set_cons_succ]
      refine wpAnyH_take (i := 4) (oi := { dst := some 9, op := _, type := _, pos := _, after := _, guard := some (2, false) }) (v := .pointer (some ⟨p, 0, none⟩)) rfl (by kernel_rfl) (by kernel_rfl) (by kernel_rfl) (fun _ _ _ h => h) (Or.inl ⟨by rfl, ?_⟩) hS ?_
      · intro wy hy
        obtain ⟨y0, y1, y2⟩ := hy
        go_simp <;> omega
      simp only [Act.put, List.setIfInBounds_toArray, List.set_cons_zero, List.set_cons_succ]
      refine wpAnyH_take (i := 5) (oi := { dst := some 10, op := _, type := _, pos := _, after := _, guard := some (2, false) }) (v := .pointer (some ⟨p, 0, none⟩)) rfl (by kernel_rfl) (by kernel_rfl) (by kernel_rfl) (fun _ _ _ h => h) (Or.inl ⟨by rfl, ?_⟩) hS ?_
      · intro wy hy
        obtain ⟨y0, y1, y2⟩ := hy
        go_simp <;> omega
      simp only [Act.put, List.setIfInBounds_toArray, List.set_cons_zero, List.set_cons_succ]
      refine wpAnyH_take (i := 6) (oi := { dst := some 11, op := _, type := _, pos := _, after := _, guard := some (2, false) }) (v := .string t) rfl (by kernel_rfl) (by kernel_rfl) (by kernel_rfl) (fun _ _ _ h => h) (Or.inl ⟨by rfl, ?_⟩) hS ?_
      · intro wy hy
        obtain ⟨y0, y1, y2⟩ := hy
        go_simp <;> omega
      simp only [Act.put, List.setIfInBounds_toArray, List.set_cons_zero, List.set_cons_succ]
      refine wpAnyH_take (i := 7) (oi := { dst := some 12, op := _, type := _, pos := _, after := _, guard := some (2, false) }) (v := .pointer (some ⟨p, 0, none⟩)) rfl (by kernel_rfl) (by kernel_rfl) (by kernel_rfl) (fun _ _ _ h => h) (Or.inl ⟨by rfl, ?_⟩) hS ?_
      · intro wy hy
        obtain ⟨y0, y1, y2⟩ := hy
        go_simp <;> omega
      simp only [Act.put, List.setIfInBounds_toArray, List.set_cons_zero, List.set_cons_succ]
      refine wpAnyH_take (i := 8) (oi := { dst := some 13, op := _, type := _, pos := _, after := _, guard := some (2, false) }) (v := .pointer (some ⟨p, 0, none⟩)) rfl (by kernel_rfl) (by kernel_rfl) (by kernel_rfl) (fun _ _ _ h => h) (Or.inl ⟨by rfl, ?_⟩) hS ?_
      · intro wy hy
        obtain ⟨y0, y1, y2⟩ := hy
        go_simp <;> omega
      simp only [Act.put, List.setIfInBounds_toArray, List.set_cons_zero, List.set_cons_succ]
      refine wpAnyH_take (i := 9) (oi := { dst := some 14, op := _, type := _, pos := _, after := _, guard := some (2, false) }) (v := .pointer (some ⟨p, 1, none⟩)) rfl (by kernel_rfl) (by kernel_rfl) (by kernel_rfl) (fun _ _ _ h => h) (Or.inl ⟨by rfl, ?_⟩) hS ?_
      · intro wy hy
        obtain ⟨y0, y1, y2⟩ := hy
        go_simp <;> omega
      simp only [Act.put, List.setIfInBounds_toArray, List.set_cons_zero, List.set_cons_succ]
      refine wpAnyH_take (i := 10) (oi := { dst := some 15, op := _, type := _, pos := _, after := _, guard := some (2, false) }) (v := .int .i64 k) rfl (by kernel_rfl) (by kernel_rfl) (by kernel_rfl) (fun _ _ _ h => h) (Or.inl ⟨by rfl, ?_⟩) hS ?_
      · intro wy hy
        obtain ⟨y0, y1, y2⟩ := hy
        go_simp <;> omega
      simp only [Act.put, List.setIfInBounds_toArray, List.set_cons_zero, List.set_cons_succ]
      refine wpAnyH_take (i := 11) (oi := { dst := some 16, op := _, type := _, pos := _, after := _, guard := some (2, false) }) (v := .int .u8 t[k].toNat) rfl (by kernel_rfl) (by kernel_rfl) (by kernel_rfl) (fun _ _ _ h => h) (Or.inl ⟨by rfl, ?_⟩) hS ?_
      · intro wy hy
        obtain ⟨y0, y1, y2⟩ := hy
        go_simp <;> omega
      simp only [Act.put, List.setIfInBounds_toArray, List.set_cons_zero, List.set_cons_succ]
      refine wpAnyH_take (i := 12) (oi := { dst := some 17, op := _, type := _, pos := _, after := _, guard := some (2, false) }) (v := .int .u8 s.toNat) rfl (by kernel_rfl) (by kernel_rfl) (by kernel_rfl) (fun _ _ _ h => h) (Or.inl ⟨by rfl, ?_⟩) hS ?_
      · intro wy hy
        obtain ⟨y0, y1, y2⟩ := hy
        go_simp <;> omega
      simp only [Act.put, List.setIfInBounds_toArray, List.set_cons_zero, List.set_cons_succ]
      refine wpAnyH_take (i := 13) (oi := { dst := some 18, op := _, type := _, pos := _, after := _, guard := some (2, false) }) (v := .bool true) rfl (by kernel_rfl) (by kernel_rfl) (by kernel_rfl) (fun _ _ _ h => h) (Or.inl ⟨by rfl, ?_⟩) hS ?_
      · intro wy hy
        obtain ⟨y0, y1, y2⟩ := hy
        go_simp <;> omega
      simp only [Act.put, List.setIfInBounds_toArray, List.set_cons_zero, List.set_cons_succ]
      refine wpAnyH_take (i := 14) (oi := { dst := some 19, op := _, type := _, pos := _, after := _, guard := none }) (v := .bool true) rfl (by kernel_rfl) (by kernel_rfl) (by kernel_rfl) (fun _ _ _ h => h) (Or.inl ⟨by rfl, ?_⟩) hS ?_
      · intro wy hy
        obtain ⟨y0, y1, y2⟩ := hy
        go_simp <;> omega
      simp only [Act.put, List.setIfInBounds_toArray, List.set_cons_zero, List.set_cons_succ]
      refine wpAnyH_done (by kernel_rfl) ?_ _
      obtain ⟨r0, r1, r2⟩ := H5.out
      go_wp2_with fail
      go_ret
      exact ⟨k, by rw [HT.out]; rfl, k1, k2, by rw [HT.out, H3.out]; rfl, H5.out, H6.out⟩

end Go.Proofs.YthjicahpfhjfdaaGreatDoor
