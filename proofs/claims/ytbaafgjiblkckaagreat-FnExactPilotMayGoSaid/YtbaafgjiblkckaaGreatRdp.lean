/-
  Walks: a select read by the program.
-/
import Derived.Test.YtbaafgjiblkckaaGreatRdi
namespace Go.Proofs.YtbaafgjiblkckaaGreat
open Go.RowKit

/-- the code of a text -/
def codeOf (t : ByteArray) : Nat :=
  if 200 < t.size then 1
  else if toksAt t 0 = [] then 0
  else match P.rd 1000 2 P.nonT (toksAt t 0) with
    | some (y, []) => if 20 < P.tall y then 3 else 0
    | _ => 2

/-- the tree of a text that is read -/
def treeOf (t : ByteArray) : P.Tr :=
  if toksAt t 0 = [] then P.nonT
  else match P.rd 1000 2 P.nonT (toksAt t 0) with
    | some (y, _) => y
    | none => P.nonT

/-- what the program's reading answers -/
def ReadR (t : ByteArray) (w : World) (e : Ending) (w' : World) : Prop :=
  ((codeOf t = 0 ∧ e = .returned (.tuple #[val (treeOf t), .nilIface])) ∨ (codeOf t ≠ 0 ∧ ∃ q, e = .returned (.tuple #[.nilIface, .iface 156 (.agg #[.int .i64 (codeOf t : Nat), .int .i64 q])]))) ∧ Below w.heap.size w w'

theorem toks_ne {t : ByteArray} {k : Nat} (hk : k < t.size) (hs : Solid t k) : toksAt t k ≠ [] := by
  obtain ⟨l, r, e⟩ := toksAt_head hk (hs hk)
  rw [e]
  exact fun h => by cases h

set_option maxHeartbeats 2000000 in
set_option maxRecDepth 100000 in
theorem read_any (t : ByteArray) (w : World) (hm : t.size ≤ maxLen) :
    Calls Tryz.prog 98 #[.string t] w fun e w' => ReadR t w e w' := by
  unfold maxLen at hm
  by_cases hbig : (200 : Int) < t.size
  · have HC : Hid (codeOf t = 1) := by show _ = _; unfold codeOf; rw [if_pos (by omega)]
    go_enter Tryz.func98, Tryz.ntmps98
    go_wp2_with fail
    go_ret2
    exact ⟨.inr ⟨by rw [HC.out]; omega, 200, by rw [HC.out]; rfl⟩, Below.refl _ _⟩
  have ht : t.size ≤ 200 := by omega
  have HC : Hid (codeOf t = if toksAt t 0 = [] then 0 else match P.rd 1000 2 P.nonT (toksAt t 0) with
    | some (y, []) => if 20 < P.tall y then 3 else 0
    | _ => 2) := by show _ = _; unfold codeOf; rw [if_neg (by omega)]
  have HT : Hid (treeOf t = if toksAt t 0 = [] then P.nonT else match P.rd 1000 2 P.nonT (toksAt t 0) with
    | some (y, _) => y
    | none => P.nonT) := rfl
  go_enter Tryz.func98, Tryz.ntmps98
  go_wp2_with fail
  have W0 : Hid (RdAt (w.alloc (Obj.cells #[.string t, .int .i64 0] 159)) w.heap.size t 0) := ⟨by simp, by simp, by simp⟩
  have B0 : Hid (Below w.heap.size w (w.alloc (Obj.cells #[.string t, .int .i64 0] 159))) := (Below.refl _ _).alloc (Nat.le_refl _) _
  generalize w.alloc (Obj.cells #[.string t, .int .i64 0] 159) = w0 at *
  refine (ended_any w.heap.size t 0 _ W0.out (Nat.zero_le _) ht).mono ?_
  rintro e w1 ⟨k, rfl, _, k2, k3, k4, k5, k6⟩
  have H3 : Hid (toksAt t k = toksAt t 0) := k3
  have H4 : Hid (Solid t k) := k4
  have H5 : Hid (RdAt w1 w.heap.size t k) := k5
  have B1 : Hid (Below w.heap.size w w1) := B0.out.trans (k6.below B0.out.size (Nat.le_refl _))
  clear k3 k4 k5 k6 B0 W0
  by_cases hk : k = t.size
  · rw [decide_eq_true hk]
    have he : toksAt t 0 = [] := by rw [← H3.out, toksAt_end (by omega)]
    have HC0 : Hid (codeOf t = 0) := by rw [HC.out, if_pos he]; rfl
    have HT0 : Hid (treeOf t = P.nonT) := by rw [HT.out, if_pos he]; rfl
    clear he hk
    go_wp2_with fail
    go_ret2
    exact ⟨.inl ⟨HC0.out, by rw [HT0.out]; rfl⟩, B1.out⟩
  rw [decide_eq_false hk]
  have he : ¬ toksAt t 0 = [] := by rw [← H3.out]; exact toks_ne (by omega) H4.out
  have HC1 : Hid (codeOf t = match P.rd 1000 2 P.nonT (toksAt t k) with
    | some (y, []) => if 20 < P.tall y then 3 else 0
    | _ => 2) := by rw [HC.out, if_neg he, H3.out]; rfl
  have HT1 : Hid (treeOf t = match P.rd 1000 2 P.nonT (toksAt t k) with
    | some (y, _) => y
    | none => P.nonT) := by rw [HT.out, if_neg he, H3.out]; rfl
  clear he hk HC HT
  go_wp2_with fail
  refine ((all_ok w.heap.size t ht 1000 1000 (Nat.le_refl _)).2.2 k _ H5.out k2 (by have := toksAt_le (i := k) ht; omega)).mono ?_
  rintro e w2 (⟨y, k3, f1, rfl, f2, f3, f4⟩ | ⟨f1, q, rfl, f4⟩)
  · obtain ⟨b1, b2, b3, b4, b5, b6⟩ := P.rd_rd 1000 2 P.nonT _ _ _ (fun h => by omega) f1
    have HT2 : Hid (treeOf t = y) := by rw [HT1.out, f1]; rfl
    have HC2 : Hid (codeOf t = match toksAt t k3 with
      | [] => if 20 < P.tall y then 3 else 0
      | _ => 2) := by rw [HC1.out, f1]; cases toksAt t k3 <;> rfl
    have F3 : Hid (RdAt w2 w.heap.size t k3) := f3
    have B2 : Hid (Below w.heap.size w w2) := B1.out.trans (f4.below B1.out.size (Nat.le_refl _))
    have HW : Hid (P.wf y) := b3
    clear f1 f3 f4 HT1 HC1 b1 b2 b3 b4 b5 b6
    go_wp2_with fail
    refine (ended_any w.heap.size t k3 _ F3.out f2 ht).mono ?_
    rintro e w3 ⟨k4, rfl, _, d2, d3, d4, d5, d6⟩
    have D3 : Hid (toksAt t k4 = toksAt t k3) := d3
    have D4 : Hid (Solid t k4) := d4
    have D5 : Hid (RdAt w3 w.heap.size t k4) := d5
    have B3 : Hid (Below w.heap.size w w3) := B2.out.trans (d6.below B2.out.size (Nat.le_refl _))
    clear d3 d4 d5 d6 B2 F3
    by_cases hk : k4 = t.size
    · rw [decide_eq_true hk]
      have he : toksAt t k3 = [] := by rw [← D3.out, toksAt_end (by omega)]
      have HC3 : Hid (codeOf t = if 20 < P.tall y then 3 else 0) := by rw [HC2.out, he]; rfl
      clear he hk HC2 D3 D4 D5
      obtain ⟨ty, v, hv⟩ := val_iface HW.out
      have HV : Hid (val y = .iface ty v) := hv
      rw [hv]
      clear hv
      go_wp2_with (refine wpList_meth rfl (.tmp 32) _ #[] #[] rfl _ rfl #[] (map_none _) _ (tall_meth ⟨fun _ => by kernel_rfl, fun _ _ => by kernel_rfl, fun _ _ _ => by kernel_rfl, fun _ _ _ => by kernel_rfl, fun _ _ _ _ => by kernel_rfl, fun _ _ _ _ => by kernel_rfl⟩ HW.out HV _) ?_; rintro u w4 ⟨rfl, hb4⟩)
      · have hgt : 20 < P.tall y := by omega
        have HC4 : Hid (codeOf t = 3) := by rw [HC3.out, if_pos hgt]; rfl
        go_ret2
        exact ⟨.inr ⟨by rw [HC4.out]; omega, _, by rw [HC4.out]; rfl⟩, B3.out.trans (hb4.mono B3.out.size)⟩
      · have hgt : ¬ 20 < P.tall y := by omega
        have HC4 : Hid (codeOf t = 0) := by rw [HC3.out, if_neg hgt]; rfl
        go_ret2
        exact ⟨.inl ⟨HC4.out, by rw [HT2.out, HV.out]; rfl⟩, B3.out.trans (hb4.mono B3.out.size)⟩
    · rw [decide_eq_false hk]
      have he : toksAt t k3 ≠ [] := by rw [← D3.out]; exact toks_ne (by omega) D4.out
      have HC3 : Hid (codeOf t = 2) := by
        rw [HC2.out]
        cases h : toksAt t k3 with
        | nil => exact absurd h he
        | cons a l => rfl
      clear he hk HC2 D3 D4
      go_wp2_with fail
      refine (fault_any w.heap.size t k4 _ D5.out).mono ?_
      rintro e w4 ⟨rfl, hb4⟩
      have B4 : Hid (Below w.heap.size w w4) := B3.out.trans (hb4.below B3.out.size (Nat.le_refl _))
      clear hb4
      go_wp2_with fail
      go_ret2
      exact ⟨.inr ⟨by rw [HC3.out]; omega, _, by rw [HC3.out]; rfl⟩, B4.out⟩
  · have HC2 : Hid (codeOf t = 2) := by rw [HC1.out, f1]; rfl
    have B2 : Hid (Below w.heap.size w w2) := B1.out.trans (f4.below B1.out.size (Nat.le_refl _))
    clear f1 f4 HT1 HC1
    simp only [fltV]
    go_wp2_with fail
    go_ret2
    exact ⟨.inr ⟨by rw [HC2.out]; omega, q, by rw [HC2.out]; rfl⟩, B2.out⟩

set_option maxHeartbeats 400000 in
theorem isRead_any (t : ByteArray) (w : World) (hm : t.size ≤ maxLen) :
    Calls Tryz.prog 88 #[.string t] w fun e w' => e = .returned (.bool (decide (codeOf t = 0))) ∧ Below w.heap.size w w' := by
  go_enter Tryz.func88, Tryz.ntmps88
  go_wp2_with fail
  refine (read_any t _ hm).mono ?_
  rintro e w1 ⟨⟨h1, rfl⟩ | ⟨h1, q, rfl⟩, hb⟩
  · have HC : Hid (decide (codeOf t = 0) = true) := decide_eq_true h1
    clear h1
    go_wp2_with fail
    go_ret
    exact ⟨ret_bool HC.out.symm, hb⟩
  · have HC : Hid (decide (codeOf t = 0) = false) := decide_eq_false h1
    clear h1
    go_wp2_with fail
    go_ret
    exact ⟨ret_bool HC.out.symm, hb⟩

end Go.Proofs.YtbaafgjiblkckaaGreat
