/-
  Several texts in one: Rdm, Rdc.
-/
import Derived.Test.YthjicahpfhjfdaaGreatDoorJ6
namespace Go.Proofs.YthjicahpfhjfdaaGreatDoor
open Go.RowKit

/-- what a reading part of the reader answers: a part and the place behind it, or a fault -/
def Rds (p : Nat) (t : ByteArray) (r : Option (P.Tr × List (List UInt8))) (w : World) (e : Ending) (w' : World) : Prop :=
  (∃ y k, r = some (y, toksAt t k) ∧ e = .returned (.tuple #[val y, .nilIface]) ∧ k ≤ t.size ∧ RdAt w' p t k ∧ But p w.heap.size w w') ∨
  (r = none ∧ ∃ q, e = .returned (.tuple #[.nilIface, fltV q]) ∧ But p w.heap.size w w')

set_option maxHeartbeats 2000000 in
theorem mark_any (p : Nat) (t : ByteArray) (i : Nat) (w : World) (hr : RdAt w p t i) (hi : i ≤ t.size) (ht : t.size ≤ 200) :
    Calls Tryz.prog 74 #[.pointer (some ⟨p, 0, none⟩)] w fun e w' => Rds p t (P.markT (toksAt t i)) w e w' := by
  have HR : Hid (RdAt w p t i) := hr
  clear hr
  have HM : Hid (P.markT (toksAt t i) = match P.nm (toksAt t i) with
    | none => none
    | some (n, r) => match P.tk 61 r with
      | none => some (P.nmT (P.bts n), r)
      | some r' => match P.nm r' with
        | none => none
        | some (v, r'') => some (P.vlT (P.bts n) (P.bts v), r'')) := rfl
  generalize P.markT (toksAt t i) = M at *
  go_enter Tryz.func74, Tryz.ntmps74
  go_wp2_with fail
  refine (name_any p t i _ HR.out hi ht).mono ?_
  rintro e w1 (⟨n, k, h1, rfl, h2, h3, h4⟩ | ⟨h1, q, rfl, h4⟩)
  · have H3 : Hid (RdAt w1 p t k) := h3
    have H4 : Hid (But p w.heap.size w w1) := h4
    have H1 : Hid (P.nm (toksAt t i) = some (n, toksAt t k)) := h1
    clear h1 h3 h4
    go_wp2_with fail
    refine (take_any p t k 61 _ H3.out h2 ht (by decide) (by decide)).mono ?_
    rintro e w2 ⟨k2, rfl, g1, g2, g3, g4, g5⟩
    have G4 : Hid (RdAt w2 p t k2) := g4
    have G5 : Hid (But p w.heap.size w w2) := H4.out.trans (g5.mono H4.out.size)
    have G3 : Hid (toksAt t k2 = (P.tk 61 (toksAt t k)).getD (toksAt t k)) := g3
    clear g3 g4 g5 H3 H4
    cases hT : P.tk 61 (toksAt t k) with
    | none =>
      have HR1 : Hid (M = some (P.nmT (P.bts n), toksAt t k2)) := by rw [HM.out, H1.out]; simp only [hT]; rw [G3.out, hT]; rfl
      clear hT HM G3
      go_wp2_with fail
      go_ret2
      exact .inl ⟨_, k2, HR1.out, rfl, g2, G4.out, G5.out⟩
    | some r' =>
      have G3' : Hid (toksAt t k2 = r') := by rw [G3.out, hT]; rfl
      have HM2 : Hid (M = match P.nm (toksAt t k2) with
        | none => none
        | some (v, r'') => some (P.vlT (P.bts n) (P.bts v), r'')) := by rw [HM.out, H1.out]; simp only [hT]; rw [G3'.out]; rfl
      clear hT HM G3 G3'
      go_wp2_with fail
      refine (name_any p t k2 _ G4.out g2 ht).mono ?_
      rintro e w3 (⟨v, k3, f1, rfl, f2, f3, f4⟩ | ⟨f1, q, rfl, f4⟩)
      · have HR1 : Hid (M = some (P.vlT (P.bts n) (P.bts v), toksAt t k3)) := by rw [HM2.out, f1]; rfl
        have F3 : Hid (RdAt w3 p t k3) := f3
        have F4 : Hid (But p w.heap.size w w3) := G5.out.trans (f4.mono G5.out.size)
        clear f1 f3 f4 HM2
        go_wp2_with fail
        go_ret2
        exact .inl ⟨_, k3, HR1.out, rfl, f2, F3.out, F4.out⟩
      · have HR1 : Hid (M = none) := by rw [HM2.out, f1]; rfl
        have F4 : Hid (But p w.heap.size w w3) := G5.out.trans (f4.mono G5.out.size)
        clear f1 f4 HM2
        simp only [fltV]
        go_wp2_with fail
        go_ret2
        exact .inr ⟨HR1.out, q, rfl, F4.out⟩
  · have HR1 : Hid (M = none) := by rw [HM.out, h1]; rfl
    have H4 : Hid (But p w.heap.size w w1) := h4
    clear h1 h4 HM
    simp only [fltV]
    go_wp2_with fail
    go_ret2
    exact .inr ⟨HR1.out, q, rfl, H4.out⟩

end Go.Proofs.YthjicahpfhjfdaaGreatDoor

namespace Go.Proofs.YthjicahpfhjfdaaGreatDoor
open Go.RowKit

/-- a reading function of the reader, held to what is to be read, with so much fuel -/
def RdOk (F : FuncId) (m c p : Nat) (t : ByteArray) (f : Nat) : Prop :=
  ∀ (i : Nat) (w : World), RdAt w p t i → i ≤ t.size → 4 * (toksAt t i).length + c ≤ f →
    Calls Tryz.prog F #[.pointer (some ⟨p, 0, none⟩)] w fun e w' => Rds p t (P.rd f m P.nonT (toksAt t i)) w e w'

/-- how many tokens are left -/
def tokLeft (t : ByteArray) (p : Nat) (w : World) : Nat := (toksAt t (match w.cell? ⟨p, 1, none⟩ with | some v => (intOf v).toNat | none => 0)).length

theorem tokLeft_eq {w : World} {p : Nat} {t : ByteArray} {i : Nat} (h : RdAt w p t i) : tokLeft t p w = (toksAt t i).length := by
  unfold tokLeft
  rw [h.2.1]
  simp [intOf]

theorem toks_le : ∀ l : List UInt8, (P.toks l).length ≤ l.length
  | [] => by simp [P.toks]
  | c :: r => by
    have ih := toks_le r
    rw [P.toks_cons]
    split
    · simp; omega
    · split
      · cases r with
        | nil => simp [P.onto, P.toks]
        | cons d r' =>
          cases hT : P.toks (d :: r') with
          | nil => simp [P.onto]
          | cons h tl =>
            rw [hT] at ih
            by_cases hd : P.letter d = true
            · simp [P.onto, hd] at ih ⊢; omega
            · simp [P.onto, hd] at ih ⊢; omega
      · simp; omega

theorem toksAt_le {t : ByteArray} {i : Nat} (ht : t.size ≤ 200) : (toksAt t i).length ≤ 200 := by
  unfold toksAt
  have h1 := toks_le (t.data.toList.drop i)
  have h2 : t.data.toList.length = t.size := rfl
  simp only [List.length_drop] at h1
  omega

set_option maxHeartbeats 2000000 in
theorem chainAnd_any (p : Nat) (t : ByteArray) (f : Nat) (H : ∀ g, g ≤ f → RdOk 70 0 1 p t g) (i : Nat) (w : World) (hr : RdAt w p t i) (hi : i ≤ t.size) (ht : t.size ≤ 200) (hf : 4 * (toksAt t i).length + 2 ≤ f + 1) :
    Calls Tryz.prog 58 #[.pointer (some ⟨p, 0, none⟩), .int .u8 38, .func (.func 70) #[.pointer (some ⟨p, 0, none⟩)] #[], .func (.func 54) #[] #[]] w fun e w' => Rds p t (P.rd (f + 1) 1 P.nonT (toksAt t i)) w e w' := by
  have HR : Hid (RdAt w p t i) := hr
  have HH : Hid (∀ g, g ≤ f → RdOk 70 0 1 p t g) := H
  clear hr H
  have HM : Hid (P.rd (f + 1) 1 P.nonT (toksAt t i) = match P.rd f 0 P.nonT (toksAt t i) with
    | none => none
    | some (y, r) => P.rd f 3 y r) := rfl
  generalize P.rd (f + 1) 1 P.nonT (toksAt t i) = M at *
  have hlen := toksAt_le (i := i) ht
  generalize hN : (toksAt t i).length = N at *
  have HN : Hid ((toksAt t i).length = N) := hN
  clear hN
  go_enter Tryz.func58, Tryz.ntmps58
  go_wp2_with fail
  refine (HH.out f (Nat.le_refl _) i _ HR.out hi (by have := HN.out; omega)).mono ?_
  rintro e w1 (⟨y, k, h1, rfl, h2, h3, h4⟩ | ⟨h1, q, rfl, h4⟩)
  · obtain ⟨a1, a2, a3, a4, a5, a6⟩ := P.rd_rd f 0 P.nonT _ _ _ (fun h => by omega) h1
    have a2 := a2 (by omega)
    rw [if_pos (by omega), HN.out] at a5
    rw [HN.out] at a2
    have HM2 : Hid (M = P.rd f 3 y (toksAt t k)) := by rw [HM.out, h1]; rfl
    have H3 : Hid (RdAt w1 p t k) := h3
    have H4 : Hid (But p w.heap.size w w1) := h4
    have HW : Hid (P.wf y ∧ P.good y ∧ P.tall y < P.count y ∧ P.count y + (toksAt t k).length ≤ N) := ⟨a3, a4, a6, a5⟩
    have HG : Hid (4 * (toksAt t k).length + 1 ≤ f) := by show _ ≤ _; omega
    clear h1 h3 h4 HM a1 a2 a3 a4 a5 a6
    go_wp2_with fail
    go_loopw [10] (fun v wr => ∃ y k g, v = val y ∧ k ≤ t.size ∧ Hid (g ≤ f) ∧ Hid (4 * (toksAt t k).length + 1 ≤ g) ∧ Hid (RdAt wr p t k) ∧ Hid (But p w.heap.size w wr) ∧ Hid (P.wf y ∧ P.good y ∧ P.tall y < P.count y ∧ P.count y + (toksAt t k).length ≤ N) ∧ Hid (M = P.rd g 3 y (toksAt t k))) (fun _ wr => tokLeft t p wr)
    case atStart => exact ⟨y, k, f, rfl, h2, Nat.le_refl _, HG, H3, H4, HW, HM2⟩
    case round =>
      clear H3 H4 HW HM2 HG h2
      obtain ⟨y, k, g, rfl, h2, hg, HG, H3, H4, HW, HM2⟩ := hrel
      go_wp2_with fail
      refine (take_any p t k 38 _ H3.out h2 ht (by decide) (by decide)).mono ?_
      rintro e w2 ⟨k2, rfl, g1, g2, g3, g4, g5⟩
      have G4 : Hid (RdAt w2 p t k2) := g4
      have G5 : Hid (But p w.heap.size w w2) := H4.out.trans (g5.mono H4.out.size)
      have G3 : Hid (toksAt t k2 = (P.tk 38 (toksAt t k)).getD (toksAt t k)) := g3
      obtain ⟨g', hg'⟩ : ∃ g', g = g' + 1 := ⟨g - 1, by have := HG.out; omega⟩
      subst hg'
      have HM3 : Hid (M = match P.tk 38 (toksAt t k) with
        | none => some (y, toksAt t k)
        | some r => match P.rd g' 0 P.nonT r with
          | none => none
          | some (z, r') => P.rd g' 3 (P.anT y z) r') := HM2.out
      clear g3 g4 g5 HM2
      cases hT : P.tk 38 (toksAt t k) with
      | none =>
        have HR1 : Hid (M = some (y, toksAt t k2)) := by rw [HM3.out, hT]; simp only []; rw [G3.out, hT]; rfl
        clear hT HM3 G3
        go_wp2_with fail
        go_ret2
        exact .inl ⟨y, k2, HR1.out, rfl, g2, G4.out, G5.out⟩
      | some r' =>
        have G3' : Hid (toksAt t k2 = r') := by rw [G3.out, hT]; rfl
        have hl2 : Hid ((toksAt t k2).length + 1 = (toksAt t k).length) := by rw [G3'.out]; exact P.tk_len hT
        have HM4 : Hid (M = match P.rd g' 0 P.nonT (toksAt t k2) with
          | none => none
          | some (z, r') => P.rd g' 3 (P.anT y z) r') := by rw [HM3.out, hT]; simp only []; rw [G3'.out]; rfl
        clear hT HM3 G3 G3'
        go_wp2_with fail
        refine (HH.out g' (by have := hg.out; omega) k2 _ G4.out g2 (by have := HG.out; have := hl2.out; omega)).mono ?_
        rintro e w3 (⟨z, k3, f1, rfl, f2, f3, f4⟩ | ⟨f1, q, rfl, f4⟩)
        · obtain ⟨b1, b2, b3, b4, b5, b6⟩ := P.rd_rd g' 0 P.nonT _ _ _ (fun h => by omega) f1
          have b2 := b2 (by omega)
          rw [if_pos (by omega)] at b5
          have HM5 : Hid (M = P.rd g' 3 (P.anT y z) (toksAt t k3)) := by rw [HM4.out, f1]; rfl
          have F3 : Hid (RdAt w3 p t k3) := f3
          have F4 : Hid (But p w.heap.size w w3) := G5.out.trans (f4.mono G5.out.size)
          have HW3 : Hid (P.wf z ∧ P.good z ∧ P.tall z < P.count z) := ⟨b3, b4, b6⟩
          have HL3 : Hid ((toksAt t k3).length < (toksAt t k2).length ∧ P.count z + (toksAt t k3).length ≤ (toksAt t k2).length) := ⟨b2, b5⟩
          have HY : Hid (P.tall y ≤ 1000) := by show _ ≤ _; have := HW.out; omega
          have HZ : Hid (P.tall z ≤ 1000) := by show _ ≤ _; have := HW.out; have := hl2.out; omega
          clear f1 f3 f4 HM4 b1 b2 b3 b4 b5 b6
          go_wp2_with fail
          refine (joinBoth_any y z HW.out.1 HW3.out.1 HY.out HZ.out _).mono ?_
          rintro e w4 ⟨rfl, hb4⟩
          have E3 : Hid (RdAt w4 p t k3) := F3.out.below hb4 F3.out.lt
          have E4 : Hid (But p w.heap.size w w4) := F4.out.trans ((But.of_below hb4).mono F4.out.size)
          clear hb4
          go_wp2_with fail
          go_roundw
          case rel =>
            refine ⟨P.anT y z, k3, g', rfl, f2, by show _ ≤ _; have := hg.out; omega, by show _ ≤ _; have := HG.out; have := hl2.out; have := HL3.out; omega, E3, E4, ?_, HM5⟩
            obtain ⟨x1, x2, x3, x4⟩ := HW.out
            obtain ⟨z1, z2, z3⟩ := HW3.out
            have := hl2.out
            have := HL3.out
            exact ⟨P.wf_an x1 z1, by rw [P.good_an]; exact ⟨x2, z2⟩, by rw [P.tall_an, P.count_an]; omega, by rw [P.count_an]; omega⟩
          case measure => rw [tokLeft_eq E3.out, tokLeft_eq H3.out]; have := hl2.out; have := HL3.out; omega
        · have HR1 : Hid (M = none) := by rw [HM4.out, f1]; rfl
          have F4 : Hid (But p w.heap.size w w3) := G5.out.trans (f4.mono G5.out.size)
          clear f1 f4 HM4
          simp only [fltV]
          go_wp2_with fail
          go_ret2
          exact .inr ⟨HR1.out, q, rfl, F4.out⟩
  · have HR1 : Hid (M = none) := by rw [HM.out, h1]; rfl
    have H4 : Hid (But p w.heap.size w w1) := h4
    clear h1 h4 HM
    simp only [fltV]
    go_wp2_with fail
    go_ret2
    exact .inr ⟨HR1.out, q, rfl, H4.out⟩

set_option maxHeartbeats 2000000 in
theorem chainOr_any (p : Nat) (t : ByteArray) (f : Nat) (H : ∀ g, g ≤ f → RdOk 59 1 2 p t g) (i : Nat) (w : World) (hr : RdAt w p t i) (hi : i ≤ t.size) (ht : t.size ≤ 200) (hf : 4 * (toksAt t i).length + 3 ≤ f + 1) :
    Calls Tryz.prog 58 #[.pointer (some ⟨p, 0, none⟩), .int .u8 124, .func (.func 59) #[.pointer (some ⟨p, 0, none⟩)] #[], .func (.func 55) #[] #[]] w fun e w' => Rds p t (P.rd (f + 1) 2 P.nonT (toksAt t i)) w e w' := by
  have HR : Hid (RdAt w p t i) := hr
  have HH : Hid (∀ g, g ≤ f → RdOk 59 1 2 p t g) := H
  clear hr H
  have HM : Hid (P.rd (f + 1) 2 P.nonT (toksAt t i) = match P.rd f 1 P.nonT (toksAt t i) with
    | none => none
    | some (y, r) => P.rd f 4 y r) := rfl
  generalize P.rd (f + 1) 2 P.nonT (toksAt t i) = M at *
  have hlen := toksAt_le (i := i) ht
  generalize hN : (toksAt t i).length = N at *
  have HN : Hid ((toksAt t i).length = N) := hN
  clear hN
  go_enter Tryz.func58, Tryz.ntmps58
  go_wp2_with fail
  refine (HH.out f (Nat.le_refl _) i _ HR.out hi (by have := HN.out; omega)).mono ?_
  rintro e w1 (⟨y, k, h1, rfl, h2, h3, h4⟩ | ⟨h1, q, rfl, h4⟩)
  · obtain ⟨a1, a2, a3, a4, a5, a6⟩ := P.rd_rd f 1 P.nonT _ _ _ (fun h => by omega) h1
    have a2 := a2 (by omega)
    rw [if_pos (by omega), HN.out] at a5
    rw [HN.out] at a2
    have HM2 : Hid (M = P.rd f 4 y (toksAt t k)) := by rw [HM.out, h1]; rfl
    have H3 : Hid (RdAt w1 p t k) := h3
    have H4 : Hid (But p w.heap.size w w1) := h4
    have HW : Hid (P.wf y ∧ P.good y ∧ P.tall y < P.count y ∧ P.count y + (toksAt t k).length ≤ N) := ⟨a3, a4, a6, a5⟩
    have HG : Hid (4 * (toksAt t k).length + 1 ≤ f) := by show _ ≤ _; omega
    clear h1 h3 h4 HM a1 a2 a3 a4 a5 a6
    go_wp2_with fail
    go_loopw [10] (fun v wr => ∃ y k g, v = val y ∧ k ≤ t.size ∧ Hid (g ≤ f) ∧ Hid (4 * (toksAt t k).length + 1 ≤ g) ∧ Hid (RdAt wr p t k) ∧ Hid (But p w.heap.size w wr) ∧ Hid (P.wf y ∧ P.good y ∧ P.tall y < P.count y ∧ P.count y + (toksAt t k).length ≤ N) ∧ Hid (M = P.rd g 4 y (toksAt t k))) (fun _ wr => tokLeft t p wr)
    case atStart => exact ⟨y, k, f, rfl, h2, Nat.le_refl _, HG, H3, H4, HW, HM2⟩
    case round =>
      clear H3 H4 HW HM2 HG h2
      obtain ⟨y, k, g, rfl, h2, hg, HG, H3, H4, HW, HM2⟩ := hrel
      go_wp2_with fail
      refine (take_any p t k 124 _ H3.out h2 ht (by decide) (by decide)).mono ?_
      rintro e w2 ⟨k2, rfl, g1, g2, g3, g4, g5⟩
      have G4 : Hid (RdAt w2 p t k2) := g4
      have G5 : Hid (But p w.heap.size w w2) := H4.out.trans (g5.mono H4.out.size)
      have G3 : Hid (toksAt t k2 = (P.tk 124 (toksAt t k)).getD (toksAt t k)) := g3
      obtain ⟨g', hg'⟩ : ∃ g', g = g' + 1 := ⟨g - 1, by have := HG.out; omega⟩
      subst hg'
      have HM3 : Hid (M = match P.tk 124 (toksAt t k) with
        | none => some (y, toksAt t k)
        | some r => match P.rd g' 1 P.nonT r with
          | none => none
          | some (z, r') => P.rd g' 4 (P.orT y z) r') := HM2.out
      clear g3 g4 g5 HM2
      cases hT : P.tk 124 (toksAt t k) with
      | none =>
        have HR1 : Hid (M = some (y, toksAt t k2)) := by rw [HM3.out, hT]; simp only []; rw [G3.out, hT]; rfl
        clear hT HM3 G3
        go_wp2_with fail
        go_ret2
        exact .inl ⟨y, k2, HR1.out, rfl, g2, G4.out, G5.out⟩
      | some r' =>
        have G3' : Hid (toksAt t k2 = r') := by rw [G3.out, hT]; rfl
        have hl2 : Hid ((toksAt t k2).length + 1 = (toksAt t k).length) := by rw [G3'.out]; exact P.tk_len hT
        have HM4 : Hid (M = match P.rd g' 1 P.nonT (toksAt t k2) with
          | none => none
          | some (z, r') => P.rd g' 4 (P.orT y z) r') := by rw [HM3.out, hT]; simp only []; rw [G3'.out]; rfl
        clear hT HM3 G3 G3'
        go_wp2_with fail
        refine (HH.out g' (by have := hg.out; omega) k2 _ G4.out g2 (by have := HG.out; have := hl2.out; omega)).mono ?_
        rintro e w3 (⟨z, k3, f1, rfl, f2, f3, f4⟩ | ⟨f1, q, rfl, f4⟩)
        · obtain ⟨b1, b2, b3, b4, b5, b6⟩ := P.rd_rd g' 1 P.nonT _ _ _ (fun h => by omega) f1
          have b2 := b2 (by omega)
          rw [if_pos (by omega)] at b5
          have HM5 : Hid (M = P.rd g' 4 (P.orT y z) (toksAt t k3)) := by rw [HM4.out, f1]; rfl
          have F3 : Hid (RdAt w3 p t k3) := f3
          have F4 : Hid (But p w.heap.size w w3) := G5.out.trans (f4.mono G5.out.size)
          have HW3 : Hid (P.wf z ∧ P.good z ∧ P.tall z < P.count z) := ⟨b3, b4, b6⟩
          have HL3 : Hid ((toksAt t k3).length < (toksAt t k2).length ∧ P.count z + (toksAt t k3).length ≤ (toksAt t k2).length) := ⟨b2, b5⟩
          have HY : Hid (P.tall y ≤ 1000) := by show _ ≤ _; have := HW.out; omega
          have HZ : Hid (P.tall z ≤ 1000) := by show _ ≤ _; have := HW.out; have := hl2.out; omega
          clear f1 f3 f4 HM4 b1 b2 b3 b4 b5 b6
          go_wp2_with fail
          refine (joinEither_any y z HW.out.1 HW3.out.1 HY.out HZ.out _).mono ?_
          rintro e w4 ⟨rfl, hb4⟩
          have E3 : Hid (RdAt w4 p t k3) := F3.out.below hb4 F3.out.lt
          have E4 : Hid (But p w.heap.size w w4) := F4.out.trans ((But.of_below hb4).mono F4.out.size)
          clear hb4
          go_wp2_with fail
          go_roundw
          case rel =>
            refine ⟨P.orT y z, k3, g', rfl, f2, by show _ ≤ _; have := hg.out; omega, by show _ ≤ _; have := HG.out; have := hl2.out; have := HL3.out; omega, E3, E4, ?_, HM5⟩
            obtain ⟨x1, x2, x3, x4⟩ := HW.out
            obtain ⟨z1, z2, z3⟩ := HW3.out
            have := hl2.out
            have := HL3.out
            exact ⟨P.wf_or x1 z1, by rw [P.good_or]; exact ⟨x2, z2⟩, by rw [P.tall_or, P.count_or]; omega, by rw [P.count_or]; omega⟩
          case measure => rw [tokLeft_eq E3.out, tokLeft_eq H3.out]; have := hl2.out; have := HL3.out; omega
        · have HR1 : Hid (M = none) := by rw [HM4.out, f1]; rfl
          have F4 : Hid (But p w.heap.size w w3) := G5.out.trans (f4.mono G5.out.size)
          clear f1 f4 HM4
          simp only [fltV]
          go_wp2_with fail
          go_ret2
          exact .inr ⟨HR1.out, q, rfl, F4.out⟩
  · have HR1 : Hid (M = none) := by rw [HM.out, h1]; rfl
    have H4 : Hid (But p w.heap.size w w1) := h4
    clear h1 h4 HM
    simp only [fltV]
    go_wp2_with fail
    go_ret2
    exact .inr ⟨HR1.out, q, rfl, H4.out⟩

end Go.Proofs.YthjicahpfhjfdaaGreatDoor
