/-
  Walks: the program's reader: marks.
-/
import Derived.Test.YtbaafgjiblkckaaGreatRdn
namespace Go.Proofs.YtbaafgjiblkckaaGreat
open Go.RowKit

/-- what a reading part of the reader answers: a part and the place behind it, or a fault -/
def Rds (p : Nat) (t : ByteArray) (r : Option (P.Tr × List (List UInt8))) (w : World) (e : Ending) (w' : World) : Prop :=
  (∃ y k, r = some (y, toksAt t k) ∧ e = .returned (.tuple #[val y, .nilIface]) ∧ k ≤ t.size ∧ RdAt w' p t k ∧ But p w.heap.size w w') ∨
  (r = none ∧ ∃ q, e = .returned (.tuple #[.nilIface, fltV q]) ∧ But p w.heap.size w w')

set_option maxHeartbeats 2000000 in
theorem mark_any (p : Nat) (t : ByteArray) (i : Nat) (w : World) (hr : RdAt w p t i) (hi : i ≤ t.size) (ht : t.size ≤ 200) :
    Calls Tryz.prog 121 #[.pointer (some ⟨p, 0, none⟩)] w fun e w' => Rds p t (P.markT (toksAt t i)) w e w' := by
  have HR : Hid (RdAt w p t i) := hr
  clear hr
  have HM : Hid (P.markT (toksAt t i) = match P.nm (toksAt t i) with
    | none => none
    | some (n, r) => match P.tk 61 r with
      | none => some (P.nmT (P.bts n), r)
      | some r' => match P.nm r' with
        | none => none
        | some (v, r'') => some (P.vlT (P.bts n) (P.bts v), r'')) := rfl
  generalize P.markT (toksAt t i) = M at *
  go_enter Tryz.func121, Tryz.ntmps121
  go_wp2_with fail
  refine (name_any p t i _ HR.out hi ht).mono ?_
  rintro e w1 (⟨n, k, h1, rfl, h2, h3, h4⟩ | ⟨h1, q, rfl, h4⟩)
  · have H3 : Hid (RdAt w1 p t k) := h3
    have H4 : Hid (But p w.heap.size w w1) := h4
    have H1 : Hid (P.nm (toksAt t i) = some (n, toksAt t k)) := h1
    clear h1 h3 h4
    go_wp2_with fail
    refine (take_any p t k 61 _ H3.out h2 ht (by decide) (by decide)).mono ?_
    rintro e w2 ⟨k2, rfl, g1, g2, g3, g4, g5⟩
    have G4 : Hid (RdAt w2 p t k2) := g4
    have G5 : Hid (But p w.heap.size w w2) := H4.out.trans (g5.mono H4.out.size)
    have G3 : Hid (toksAt t k2 = (P.tk 61 (toksAt t k)).getD (toksAt t k)) := g3
    clear g3 g4 g5 H3 H4
    cases hT : P.tk 61 (toksAt t k) with
    | none =>
      have HR1 : Hid (M = some (P.nmT (P.bts n), toksAt t k2)) := by rw [HM.out, H1.out]; simp only [hT]; rw [G3.out, hT]; rfl
      clear hT HM G3
      go_wp2_with fail
      go_ret2
      exact .inl ⟨_, k2, HR1.out, rfl, g2, G4.out, G5.out⟩
    | some r' =>
      have G3' : Hid (toksAt t k2 = r') := by rw [G3.out, hT]; rfl
      have HM2 : Hid (M = match P.nm (toksAt t k2) with
        | none => none
        | some (v, r'') => some (P.vlT (P.bts n) (P.bts v), r'')) := by rw [HM.out, H1.out]; simp only [hT]; rw [G3'.out]; rfl
      clear hT HM G3 G3'
      go_wp2_with fail
      refine (name_any p t k2 _ G4.out g2 ht).mono ?_
      rintro e w3 (⟨v, k3, f1, rfl, f2, f3, f4⟩ | ⟨f1, q, rfl, f4⟩)
      · have HR1 : Hid (M = some (P.vlT (P.bts n) (P.bts v), toksAt t k3)) := by rw [HM2.out, f1]; rfl
        have F3 : Hid (RdAt w3 p t k3) := f3
        have F4 : Hid (But p w.heap.size w w3) := G5.out.trans (f4.mono G5.out.size)
        clear f1 f3 f4 HM2
        go_wp2_with fail
        go_ret2
        exact .inl ⟨_, k3, HR1.out, rfl, f2, F3.out, F4.out⟩
      · have HR1 : Hid (M = none) := by rw [HM2.out, f1]; rfl
        have F4 : Hid (But p w.heap.size w w3) := G5.out.trans (f4.mono G5.out.size)
        clear f1 f4 HM2
        simp only [fltV]
        go_wp2_with fail
        go_ret2
        exact .inr ⟨HR1.out, q, rfl, F4.out⟩
  · have HR1 : Hid (M = none) := by rw [HM.out, h1]; rfl
    have H4 : Hid (But p w.heap.size w w1) := h4
    clear h1 h4 HM
    simp only [fltV]
    go_wp2_with fail
    go_ret2
    exact .inr ⟨HR1.out, q, rfl, H4.out⟩

end Go.Proofs.YtbaafgjiblkckaaGreat
