/-
  Walks: the program's reader, whole.
-/
import Derived.Test.YthjicahpfhjfdaaGreatDoorJ10
namespace Go.Proofs.YthjicahpfhjfdaaGreatDoor
open Go.RowKit

set_option maxHeartbeats 1000000 in
theorem both_any (p : Nat) (t : ByteArray) (f : Nat) (H : ∀ g, g ≤ f → RdOk 70 0 1 p t g) (ht : t.size ≤ 200) : RdOk 59 1 2 p t (f + 1) := by
  intro i w hr hi hf
  have HR : Hid (RdAt w p t i) := hr
  have HH : Hid (∀ g, g ≤ f → RdOk 70 0 1 p t g) := H
  have HF : Hid (4 * (toksAt t i).length + 2 ≤ f + 1) := hf
  clear hr H hf
  go_enter Tryz.func59, Tryz.ntmps59
  go_wp2_with fail
  refine (chainAnd_any p t f HH.out i _ HR.out hi ht HF.out).mono ?_
  rintro e w1 (⟨y, k, h1, rfl, h2, h3, h4⟩ | ⟨h1, q, rfl, h4⟩)
  · have H : Hid (Rds p t (P.rd (f + 1) 1 P.nonT (toksAt t i)) w (.returned (.tuple #[val y, .nilIface])) w1) := .inl ⟨y, k, h1, rfl, h2, h3, h4⟩
    clear h1 h3 h4
    go_wp2_with fail
    go_ret2
    exact H.out
  · have H : Hid (Rds p t (P.rd (f + 1) 1 P.nonT (toksAt t i)) w (.returned (.tuple #[.nilIface, fltV q])) w1) := .inr ⟨h1, q, rfl, h4⟩
    clear h1 h4
    go_wp2_with fail
    go_ret2
    exact H.out

set_option maxHeartbeats 1000000 in
theorem either_any (p : Nat) (t : ByteArray) (f : Nat) (H : ∀ g, g ≤ f → RdOk 59 1 2 p t g) (ht : t.size ≤ 200) : RdOk 37 2 3 p t (f + 1) := by
  intro i w hr hi hf
  have HR : Hid (RdAt w p t i) := hr
  have HH : Hid (∀ g, g ≤ f → RdOk 59 1 2 p t g) := H
  have HF : Hid (4 * (toksAt t i).length + 3 ≤ f + 1) := hf
  clear hr H hf
  go_enter Tryz.func37, Tryz.ntmps37
  go_wp2_with fail
  refine (chainOr_any p t f HH.out i _ HR.out hi ht HF.out).mono ?_
  rintro e w1 (⟨y, k, h1, rfl, h2, h3, h4⟩ | ⟨h1, q, rfl, h4⟩)
  · have H : Hid (Rds p t (P.rd (f + 1) 2 P.nonT (toksAt t i)) w (.returned (.tuple #[val y, .nilIface])) w1) := .inl ⟨y, k, h1, rfl, h2, h3, h4⟩
    clear h1 h3 h4
    go_wp2_with fail
    go_ret2
    exact H.out
  · have H : Hid (Rds p t (P.rd (f + 1) 2 P.nonT (toksAt t i)) w (.returned (.tuple #[.nilIface, fltV q])) w1) := .inr ⟨h1, q, rfl, h4⟩
    clear h1 h4
    go_wp2_with fail
    go_ret2
    exact H.out

/-- what stands in brackets -/
def brk (f : Nat) (l : List (List UInt8)) : Option (P.Tr × List (List UInt8)) := match P.rd f 2 P.nonT l with
  | none => none
  | some (y, r') => match P.tk 41 r' with
    | none => none
    | some r'' => some (y, r'')

set_option maxHeartbeats 1000000 in
theorem brk_any (p : Nat) (t : ByteArray) (f : Nat) (H : RdOk 37 2 3 p t f) (i : Nat) (w : World) (hr : RdAt w p t i) (hi : i ≤ t.size) (ht : t.size ≤ 200) (hf : 4 * (toksAt t i).length + 3 ≤ f) :
    Calls Tryz.prog 73 #[.pointer (some ⟨p, 0, none⟩)] w fun e w' => Rds p t (brk f (toksAt t i)) w e w' := by
  have HR : Hid (RdAt w p t i) := hr
  have HH : Hid (RdOk 37 2 3 p t f) := H
  have HF : Hid (4 * (toksAt t i).length + 3 ≤ f) := hf
  have HM : Hid (brk f (toksAt t i) = match P.rd f 2 P.nonT (toksAt t i) with
    | none => none
    | some (y, r') => match P.tk 41 r' with
      | none => none
      | some r'' => some (y, r'')) := rfl
  generalize brk f (toksAt t i) = M at *
  clear hr H hf
  go_enter Tryz.func73, Tryz.ntmps73
  go_wp2_with fail
  refine (HH.out i _ HR.out hi HF.out).mono ?_
  rintro e w1 (⟨y, k, h1, rfl, h2, h3, h4⟩ | ⟨h1, q, rfl, h4⟩)
  · have H3 : Hid (RdAt w1 p t k) := h3
    have H4 : Hid (But p w.heap.size w w1) := h4
    have HM2 : Hid (M = match P.tk 41 (toksAt t k) with
      | none => none
      | some r'' => some (y, r'')) := by rw [HM.out, h1]; rfl
    clear h1 h3 h4 HM
    go_wp2_with fail
    refine (take_any p t k 41 _ H3.out h2 ht (by decide) (by decide)).mono ?_
    rintro e w2 ⟨k2, rfl, g1, g2, g3, g4, g5⟩
    have G4 : Hid (RdAt w2 p t k2) := g4
    have G5 : Hid (But p w.heap.size w w2) := H4.out.trans (g5.mono H4.out.size)
    have G3 : Hid (toksAt t k2 = (P.tk 41 (toksAt t k)).getD (toksAt t k)) := g3
    clear g3 g4 g5
    cases hT : P.tk 41 (toksAt t k) with
    | none =>
      have HR1 : Hid (M = none) := by rw [HM2.out, hT]; rfl
      clear hT HM2 G3
      go_wp2_with fail
      refine (fault_any p t k2 _ G4.out).mono ?_
      rintro e w3 ⟨rfl, hb3⟩
      have F4 : Hid (But p w.heap.size w w3) := G5.out.trans (hb3.mono G5.out.size)
      clear hb3
      go_wp2_with fail
      go_ret2
      exact .inr ⟨HR1.out, _, rfl, F4.out⟩
    | some r' =>
      have HR1 : Hid (M = some (y, toksAt t k2)) := by rw [HM2.out, hT]; simp only []; rw [G3.out, hT]; rfl
      clear hT HM2 G3
      go_wp2_with fail
      go_ret2
      exact .inl ⟨y, k2, HR1.out, rfl, g2, G4.out, G5.out⟩
  · have HR1 : Hid (M = none) := by rw [HM.out, h1]; rfl
    have H4 : Hid (But p w.heap.size w w1) := h4
    clear h1 h4 HM
    simp only [fltV]
    go_wp2_with fail
    go_ret2
    exact .inr ⟨HR1.out, q, rfl, H4.out⟩

set_option maxHeartbeats 1000000 in
theorem single_any (p : Nat) (t : ByteArray) (f : Nat) (H : RdOk 70 0 1 p t f) (HE : RdOk 37 2 3 p t f) (ht : t.size ≤ 200) : RdOk 70 0 1 p t (f + 1) := by
  intro i w hr hi hf
  have HR : Hid (RdAt w p t i) := hr
  have HH : Hid (RdOk 70 0 1 p t f) := H
  have HE' : Hid (RdOk 37 2 3 p t f) := HE
  have HF : Hid (4 * (toksAt t i).length + 1 ≤ f + 1) := hf
  have HM : Hid (P.rd (f + 1) 0 P.nonT (toksAt t i) = match P.tk 33 (toksAt t i) with
    | some r => match P.rd f 0 P.nonT r with
      | none => none
      | some (y, r') => some (P.ntT y, r')
    | none => match P.tk 40 (toksAt t i) with
      | some r => brk f r
      | none => P.markT (toksAt t i)) := rfl
  generalize P.rd (f + 1) 0 P.nonT (toksAt t i) = M at *
  clear hr H hf HE
  go_enter Tryz.func70, Tryz.ntmps70
  go_wp2_with fail
  refine (take_any p t i 33 _ HR.out hi ht (by decide) (by decide)).mono ?_
  rintro e w2 ⟨k2, rfl, g1, g2, g3, g4, g5⟩
  have G4 : Hid (RdAt w2 p t k2) := g4
  have G5 : Hid (But p w.heap.size w w2) := g5
  have G3 : Hid (toksAt t k2 = (P.tk 33 (toksAt t i)).getD (toksAt t i)) := g3
  clear g3 g4 g5
  cases hT : P.tk 33 (toksAt t i) with
  | some r' =>
    have G3' : Hid (toksAt t k2 = r') := by rw [G3.out, hT]; rfl
    have hl2 : Hid ((toksAt t k2).length + 1 = (toksAt t i).length) := by rw [G3'.out]; exact P.tk_len hT
    have HM2 : Hid (M = match P.rd f 0 P.nonT (toksAt t k2) with
      | none => none
      | some (y, r') => some (P.ntT y, r')) := by rw [HM.out, hT]; simp only []; rw [G3'.out]; rfl
    clear hT HM G3 G3'
    go_wp2_with fail
    refine (HH.out k2 _ G4.out g2 (by have := HF.out; have := hl2.out; omega)).mono ?_
    rintro e w3 (⟨z, k3, f1, rfl, f2, f3, f4⟩ | ⟨f1, q, rfl, f4⟩)
    · obtain ⟨b1, b2, b3, b4, b5, b6⟩ := P.rd_rd f 0 P.nonT _ _ _ (fun h => by omega) f1
      rw [if_pos (by omega)] at b5
      have HM3 : Hid (M = some (P.ntT z, toksAt t k3)) := by rw [HM2.out, f1]; rfl
      have F3 : Hid (RdAt w3 p t k3) := f3
      have F4 : Hid (But p w.heap.size w w3) := G5.out.trans (f4.mono G5.out.size)
      have HW : Hid (P.wf z) := b3
      have HZ : Hid (P.tall z ≤ 1000) := by show _ ≤ _; have := toksAt_le (i := k2) ht; omega
      clear f1 f3 f4 HM2 b1 b2 b3 b4 b5 b6
      go_wp2_with fail
      refine (negate_any z HW.out HZ.out _).mono ?_
      rintro e w4 ⟨rfl, hb4⟩
      have E3 : Hid (RdAt w4 p t k3) := F3.out.below hb4 F3.out.lt
      have E4 : Hid (But p w.heap.size w w4) := F4.out.trans ((But.of_below hb4).mono F4.out.size)
      clear hb4
      go_wp2_with fail
      go_ret2
      exact .inl ⟨_, k3, HM3.out, rfl, f2, E3.out, E4.out⟩
    · have HR1 : Hid (M = none) := by rw [HM2.out, f1]; rfl
      have F4 : Hid (But p w.heap.size w w3) := G5.out.trans (f4.mono G5.out.size)
      clear f1 f4 HM2
      simp only [fltV]
      go_wp2_with fail
      go_ret2
      exact .inr ⟨HR1.out, q, rfl, F4.out⟩
  | none =>
    have G3' : Hid (toksAt t k2 = toksAt t i) := by rw [G3.out, hT]; rfl
    have HM2 : Hid (M = match P.tk 40 (toksAt t k2) with
      | some r => brk f r
      | none => P.markT (toksAt t k2)) := by rw [HM.out, hT, G3'.out]; rfl
    clear hT HM G3
    go_wp2_with fail
    refine (take_any p t k2 40 _ G4.out g2 ht (by decide) (by decide)).mono ?_
    rintro e w3 ⟨k3, rfl, f1, f2, f3, f4, f5⟩
    have F4 : Hid (RdAt w3 p t k3) := f4
    have F5 : Hid (But p w.heap.size w w3) := G5.out.trans (f5.mono G5.out.size)
    have F3 : Hid (toksAt t k3 = (P.tk 40 (toksAt t k2)).getD (toksAt t k2)) := f3
    clear f3 f4 f5
    cases hT : P.tk 40 (toksAt t k2) with
    | some r' =>
      have F3' : Hid (toksAt t k3 = r') := by rw [F3.out, hT]; rfl
      have hl2 : Hid ((toksAt t k3).length + 1 = (toksAt t i).length) := by rw [F3'.out, ← G3'.out]; exact P.tk_len hT
      have HM3 : Hid (M = brk f (toksAt t k3)) := by rw [HM2.out, hT, F3'.out]; rfl
      clear hT HM2 F3 F3' G3'
      go_wp2_with fail
      refine (brk_any p t f HE'.out k3 _ F4.out f2 ht (by have := HF.out; have := hl2.out; omega)).mono ?_
      rintro e w4 (⟨z, k4, d1, rfl, d2, d3, d4⟩ | ⟨d1, q, rfl, d4⟩)
      · have H : Hid (Rds p t M w (.returned (.tuple #[val z, .nilIface])) w4) := .inl ⟨z, k4, HM3.out.trans d1, rfl, d2, d3, F5.out.trans (d4.mono F5.out.size)⟩
        clear d1 d3 d4
        go_wp2_with fail
        go_ret2
        exact H.out
      · have H : Hid (Rds p t M w (.returned (.tuple #[.nilIface, fltV q])) w4) := .inr ⟨HM3.out.trans d1, q, rfl, F5.out.trans (d4.mono F5.out.size)⟩
        clear d1 d4
        go_wp2_with fail
        go_ret2
        exact H.out
    | none =>
      have HM3 : Hid (M = P.markT (toksAt t k3)) := by rw [HM2.out, hT, F3.out, hT]; rfl
      clear hT HM2 F3 G3'
      go_wp2_with fail
      refine (mark_any p t k3 _ F4.out f2 ht).mono ?_
      rintro e w4 (⟨z, k4, d1, rfl, d2, d3, d4⟩ | ⟨d1, q, rfl, d4⟩)
      · have H : Hid (Rds p t M w (.returned (.tuple #[val z, .nilIface])) w4) := .inl ⟨z, k4, HM3.out.trans d1, rfl, d2, d3, F5.out.trans (d4.mono F5.out.size)⟩
        clear d1 d3 d4
        go_wp2_with fail
        go_ret2
        exact H.out
      · have H : Hid (Rds p t M w (.returned (.tuple #[.nilIface, fltV q])) w4) := .inr ⟨HM3.out.trans d1, q, rfl, F5.out.trans (d4.mono F5.out.size)⟩
        clear d1 d4
        go_wp2_with fail
        go_ret2
        exact H.out

theorem rdOk_zero (F : FuncId) (m c p : Nat) (t : ByteArray) (hc : 1 ≤ c) : RdOk F m c p t 0 := by
  intro i w _ _ hf
  omega

/-- all reading functions, whatever the fuel -/
theorem all_ok (p : Nat) (t : ByteArray) (ht : t.size ≤ 200) : ∀ f g, g ≤ f → RdOk 70 0 1 p t g ∧ RdOk 59 1 2 p t g ∧ RdOk 37 2 3 p t g
  | 0, g, hg => by
    have : g = 0 := by omega
    subst this
    exact ⟨rdOk_zero _ _ _ _ _ (by omega), rdOk_zero _ _ _ _ _ (by omega), rdOk_zero _ _ _ _ _ (by omega)⟩
  | f + 1, g, hg => by
    have ih := all_ok p t ht f
    by_cases h : g ≤ f
    · exact ih g h
    · have : g = f + 1 := by omega
      subst this
      exact ⟨single_any p t f (ih f (Nat.le_refl _)).1 (ih f (Nat.le_refl _)).2.2 ht, both_any p t f (fun g hg => (ih g hg).1) ht, either_any p t f (fun g hg => (ih g hg).2.1) ht⟩

end Go.Proofs.YthjicahpfhjfdaaGreatDoor
