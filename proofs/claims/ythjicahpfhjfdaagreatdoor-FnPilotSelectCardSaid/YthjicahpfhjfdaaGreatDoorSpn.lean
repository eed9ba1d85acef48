/-
  Walks: the specification's parser.
-/
import Derived.Test.YthjicahpfhjfdaaGreatDoorJ8
namespace Go.Proofs.YthjicahpfhjfdaaGreatDoor
open Go.RowKit

/-- a tree as a list of nodes, its kids ahead of it -/
def post : P.Tr → List P.Nd
  | .nil => []
  | .node b _ p l r =>
    if b = 0 then [⟨0, ⟨#[]⟩, ⟨#[]⟩, 0⟩]
    else if b = 1 then [⟨1, p.1, ⟨#[]⟩, 0⟩]
    else if b = 2 then [⟨2, p.1, p.2, 0⟩]
    else if b = 3 then post l ++ [⟨3, ⟨#[]⟩, ⟨#[]⟩, 1⟩]
    else if b = 4 then post l ++ post r ++ [⟨4, ⟨#[]⟩, ⟨#[]⟩, 2⟩]
    else post l ++ post r ++ [⟨5, ⟨#[]⟩, ⟨#[]⟩, 2⟩]

theorem post_nm (n : ByteArray) : post (P.nmT n) = [⟨1, n, ⟨#[]⟩, 0⟩] := rfl
theorem post_vl (n v : ByteArray) : post (P.vlT n v) = [⟨2, n, v, 0⟩] := rfl
theorem post_nt (k : P.Tr) : post (P.ntT k) = post k ++ [⟨3, ⟨#[]⟩, ⟨#[]⟩, 1⟩] := rfl
theorem post_an (a b : P.Tr) : post (P.anT a b) = post a ++ post b ++ [⟨4, ⟨#[]⟩, ⟨#[]⟩, 2⟩] := rfl
theorem post_or (a b : P.Tr) : post (P.orT a b) = post a ++ post b ++ [⟨5, ⟨#[]⟩, ⟨#[]⟩, 2⟩] := rfl

/-- what a part of the parser answers -/
def PsRes (p g c : Nat) (L : List (List UInt8)) (i : Nat) (r : Option (P.Tr × List (List UInt8))) (w : World) (e : Ending) (w' : World) : Prop :=
  ∃ v ns k b, e = .returned v ∧ PsAt w' p g c L k b ∧ i ≤ k ∧ k ≤ L.length ∧ NdRow w' w.heap.size v ns ∧ But p w.heap.size w w' ∧
    ((b = false ∧ ns.length + i ≤ k ∧ ∃ y, r = some (y, L.drop k) ∧ ns = post y) ∨ (b = true ∧ ns.length + i ≤ k + 1 ∧ r = none))

/-- a part of the parser, held to what is to be read, with so much fuel -/
def PsOk (F : FuncId) (m cc p g c : Nat) (L : List (List UInt8)) (f : Nat) : Prop :=
  ∀ (i : Nat) (w : World), PsAt w p g c L i false → i ≤ L.length → 4 * (L.length - i) + cc ≤ f →
    Calls Tryz.prog F #[.pointer (some ⟨p, 0, none⟩)] w fun e w' => PsRes p g c L i (P.rd f m P.nonT (L.drop i)) w e w'

/-- how many tokens are left -/
def psLeft (n p : Nat) (w : World) : Nat := n - (match w.cell? ⟨p, 1, none⟩ with | some v => (intOf v).toNat | none => 0)

theorem psLeft_eq {w : World} {p g c : Nat} {L : List (List UInt8)} {i : Nat} {b : Bool} (n : Nat) (h : PsAt w p g c L i b) : psLeft n p w = n - i := by
  unfold psLeft
  rw [h.c1]
  simp [intOf]

theorem parts_one {w : World} {v : Value} {a : List P.Nd} {T : TypeId} (h : NdRow w 0 v a) : PartsAt (w.alloc (.cells #[v] T)) w.heap.size [a] := by
  intro j ns hj
  match j, hj with
  | 0, hj =>
    simp at hj
    subst hj
    exact ⟨v, by simp, h.below ((Below.refl w.heap.size w).alloc (Nat.le_refl _) _) (Nat.le_refl _)⟩

theorem parts_two {w : World} {v u : Value} {a b : List P.Nd} {T : TypeId} (h : NdRow w 0 v a) (h' : NdRow w 0 u b) : PartsAt (w.alloc (.cells #[v, u] T)) w.heap.size [a, b] := by
  intro j ns hj
  match j, hj with
  | 0, hj =>
    simp at hj
    subst hj
    exact ⟨v, by simp, h.below ((Below.refl w.heap.size w).alloc (Nat.le_refl _) _) (Nat.le_refl _)⟩
  | 1, hj =>
    simp at hj
    subst hj
    exact ⟨u, by simp, h'.below ((Below.refl w.heap.size w).alloc (Nat.le_refl _) _) (Nat.le_refl _)⟩

set_option maxHeartbeats 2000000 in
theorem and_ok (p g c : Nat) (L : List (List UInt8)) (f : Nat) (H : ∀ q, q ≤ f → PsOk 64 0 1 p g c L q) (hl : L.length ≤ 200) : PsOk 47 1 2 p g c L (f + 1) := by
  intro i w hp hi hf
  have HP : Hid (PsAt w p g c L i false) := hp
  have HH : Hid (∀ q, q ≤ f → PsOk 64 0 1 p g c L q) := H
  have hpw := hp.plt
  clear hp H
  have HM : Hid (P.rd (f + 1) 1 P.nonT (L.drop i) = match P.rd f 0 P.nonT (L.drop i) with
    | none => none
    | some (y, r) => P.rd f 3 y r) := rfl
  generalize P.rd (f + 1) 1 P.nonT (L.drop i) = M at *
  have HL200 : Hid (L.length ≤ 200) := hl
  generalize hN : L.length = N at *
  have HN : Hid (L.length = N) := hN
  clear hN
  go_enter Tryz.func47, Tryz.ntmps47
  go_wp2_with fail
  refine (HH.out f (Nat.le_refl _) i _ HP.out (by have := HN.out; omega) (by have := HN.out; omega)).mono ?_
  rintro e w1 ⟨v, ns, k, b, rfl, h1, h2, h3, h4, h5, h6⟩
  have S : Hid (∃ q, (b = false ∧ ns.length + i ≤ k ∧ q ≤ f ∧ 4 * (N - k) + 1 ≤ q ∧ ∃ y, M = P.rd q 3 y (L.drop k) ∧ ns = post y) ∨ (b = true ∧ ns.length + i ≤ k + 1 ∧ M = none)) := by
    rcases h6 with ⟨e1, e2, y, e3, e4⟩ | ⟨e1, e2, e3⟩
    · obtain ⟨a1, a2, _, _, _, _⟩ := P.rd_rd f 0 P.nonT _ _ _ (fun h => by omega) e3
      have a2 := a2 (by omega)
      simp only [List.length_drop] at a2
      have := HN.out
      exact ⟨f, .inl ⟨e1, e2, Nat.le_refl _, by omega, y, by rw [HM.out, e3], e4⟩⟩
    · exact ⟨0, .inr ⟨e1, e2, by rw [HM.out, e3]⟩⟩
  have H1 : Hid (PsAt w1 p g c L k b) := h1
  have H4 : Hid (NdRow w1 w.heap.size v ns) := h4
  have H5 : Hid (But p w.heap.size w w1) := h5
  rw [HN.out] at h3
  clear h1 h4 h5 h6 HM
  go_wp2_with fail
  go_loopw [3] (fun v wr => ∃ ns k b, i ≤ k ∧ k ≤ N ∧ Hid (PsAt wr p g c L k b) ∧ Hid (NdRow wr w.heap.size v ns) ∧ Hid (But p w.heap.size w wr) ∧ Hid (∃ q, (b = false ∧ ns.length + i ≤ k ∧ q ≤ f ∧ 4 * (N - k) + 1 ≤ q ∧ ∃ y, M = P.rd q 3 y (L.drop k) ∧ ns = post y) ∨ (b = true ∧ ns.length + i ≤ k + 1 ∧ M = none))) (fun _ wr => psLeft N p wr)
  case atStart => exact ⟨ns, k, b, h2, h3, H1, H4, H5, S⟩
  case round =>
    clear H1 H4 H5 S h2 h3
    obtain ⟨ns, k, b, h2, h3, H1, H4, H5, S⟩ := hrel
    obtain ⟨v0, hv0⟩ : ∃ v0, v0 = u3 := ⟨_, rfl⟩
    subst hv0
    obtain ⟨ga, ca, hva, _, _, _⟩ := H4.out
    subst hva
    cases b with
    | true =>
      have SR : Hid (ns.length + i ≤ k + 1 ∧ M = none) := by
        obtain ⟨q, ⟨e1, _⟩ | ⟨_, e2, e3⟩⟩ := S.out
        · cases e1
        · exact ⟨e2, e3⟩
      obtain ⟨c0, c1, c2, f1, f2, _, _, _⟩ := H1.out
      go_wp2_with fail
      go_ret
      exact ⟨_, ns, k, true, rfl, H1.out, h2, by rw [HN.out]; exact h3, H4.out, H5.out, .inr ⟨rfl, SR.out.1, SR.out.2⟩⟩
    | false =>
      obtain ⟨q, hq⟩ : ∃ q, ns.length + i ≤ k ∧ q ≤ f ∧ 4 * (N - k) + 1 ≤ q ∧ ∃ y, M = P.rd q 3 y (L.drop k) ∧ ns = post y := by
        obtain ⟨q, ⟨_, e⟩ | ⟨e1, _⟩⟩ := S.out
        · exact ⟨q, e⟩
        · cases e1
      obtain ⟨q1, q2, q3, y, q4, q5⟩ := hq
      obtain ⟨q', hq'⟩ : ∃ q', q = q' + 1 := ⟨q - 1, by omega⟩
      subst hq'
      have HM3 : Hid (M = match P.tk 38 (L.drop k) with
        | none => some (y, L.drop k)
        | some r => match P.rd q' 0 P.nonT r with
          | none => none
          | some (z, r') => P.rd q' 3 (P.anT y z) r') := q4
      have HY : Hid (ns = post y) := q5
      clear q4 q5 S
      obtain ⟨c0, c1, c2, f1, f2, _, _, _⟩ := H1.out
      go_wp2_with fail
      refine (stake_any p g c L k false 38 _ H1.out (by rw [HN.out]; exact h3) (by rw [HN.out]; exact HL200.out)).mono ?_
      rintro e w2 ⟨k2, rfl, g1, g2, g3, g4, g5, g6, g7⟩
      have G6 : Hid (PsAt w2 p g c L k2 false) := g6
      have G7 : Hid (But p w.heap.size w w2) := H5.out.trans (g7.mono H5.out.size)
      have GR : Hid (NdRow w2 w.heap.size (.slice (some ⟨ga, 0, none⟩) ns.length ca) ns) := H4.out.but g7 (Nat.le_refl _) hpw
      clear c0 c1 c2 f1 f2 g6 g7
      cases hT : P.tk 38 (L.drop k) with
      | none =>
        have hk2 : k2 = k := g5 (by rw [hT]; rfl)
        have HR1 : Hid (M = some (y, L.drop k2)) := by rw [HM3.out, hT, hk2]; rfl
        have hk2' : Hid (k2 = k) := hk2
        clear hT HM3 g3 g4 g5 hk2
        go_wp2_with fail
        go_ret
        exact ⟨_, ns, k2, false, rfl, G6.out, by have := hk2'.out; omega, g2, GR.out, G7.out, .inl ⟨rfl, by have := hk2'.out; omega, y, HR1.out, HY.out⟩⟩
      | some r' =>
        have hk2 : k2 = k + 1 := g4 (by rw [hT]; rfl)
        have G3' : Hid (L.drop k2 = r') := by rw [g3, hT]; rfl
        have HM4 : Hid (M = match P.rd q' 0 P.nonT (L.drop k2) with
          | none => none
          | some (z, r') => P.rd q' 3 (P.anT y z) r') := by rw [HM3.out, hT]; simp only []; rw [G3'.out]; rfl
        have hk2' : Hid (k2 = k + 1) := hk2
        clear hT HM3 g3 g4 g5 hk2 G3'
        have G2 : Hid (k2 ≤ L.length) := g2
        go_wp2_with fail
        refine (HH.out q' (by omega) k2 _ G6.out G2.out (by have := HN.out; have := hk2'.out; omega)).mono ?_
        rintro e w3 ⟨v2, ns2, k3, b3, rfl, f1, f2, f3, f4, f5, f6⟩
        have f4' := f4
        obtain ⟨gb, cb, hvb, _, _, _⟩ := f4'
        subst hvb
        have F1 : Hid (PsAt w3 p g c L k3 b3) := f1
        have F5 : Hid (But p w.heap.size w w3) := G7.out.trans (f5.mono G7.out.size)
        have R1 : Hid (NdRow w3 0 (.slice (some ⟨ga, 0, none⟩) ns.length ca) ns) := (GR.out.but f5 (Nat.le_refl _) hpw).mono (Nat.zero_le _)
        have R2 : Hid (NdRow w3 0 (.slice (some ⟨gb, 0, none⟩) ns2.length cb) ns2) := f4.mono (Nat.zero_le _)
        have F6 : Hid ((b3 = false ∧ ns2.length + k2 ≤ k3 ∧ ∃ y, P.rd q' 0 P.nonT (L.drop k2) = some (y, L.drop k3) ∧ ns2 = post y) ∨ (b3 = true ∧ ns2.length + k2 ≤ k3 + 1 ∧ P.rd q' 0 P.nonT (L.drop k2) = none)) := f6
        have hb2 : Hid (ns2.length + k2 ≤ k3 + 1) := by
          show _ ≤ _
          rcases f6 with ⟨_, e, _⟩ | ⟨_, e, _⟩ <;> omega
        have F3 : Hid (k3 ≤ L.length) := f3
        clear f1 f3 f4 f5 f6 GR
        go_wp2_with fail
        refine (over_any 4 2 _ [ns, ns2] _ (parts_two R1.out R2.out) (by simp) (by have := hb2.out; have := F3.out; have := hk2'.out; have := HN.out; simp; omega)).mono ?_
        rintro e w4 ⟨v4, rfl, o1, o2⟩
        have hal : Below w3.heap.size w3 w4 := ((Below.refl w3.heap.size w3).alloc (Nat.le_refl _) _).trans (o2.mono (by simp))
        have E1 : Hid (PsAt w4 p g c L k3 b3) := F1.out.below hal
        have E5 : Hid (But p w.heap.size w w4) := F5.out.trans ((But.of_below hal).mono F5.out.size)
        have ER : Hid (NdRow w4 w.heap.size v4 (ns ++ ns2 ++ [⟨4, ⟨#[]⟩, ⟨#[]⟩, 2⟩])) := by
          have := o1.mono (B' := w.heap.size) (by have := F5.out.size; simp; omega)
          show NdRow _ _ _ _
          simpa using this
        clear o1 o2 hal R1 R2
        go_wp2_with fail
        go_roundw
        case rel =>
          have hkk := hk2'.out
          have hnn := HN.out
          refine ⟨ns ++ ns2 ++ [⟨4, ⟨#[]⟩, ⟨#[]⟩, 2⟩], k3, b3, by omega, by have := F3.out; omega, E1, ER, E5, ?_⟩
          rcases F6.out with ⟨e1, e2, z, e3, e4⟩ | ⟨e1, e2, e3⟩
          · obtain ⟨a1, a2, _, _, _, _⟩ := P.rd_rd q' 0 P.nonT _ _ _ (fun h => by omega) e3
            have a2 := a2 (by omega)
            simp only [List.length_drop] at a2
            exact ⟨q', .inl ⟨e1, by simp; omega, by omega, by omega, P.anT y z, by rw [HM4.out, e3], by rw [HY.out, e4, post_an]⟩⟩
          · exact ⟨0, .inr ⟨e1, by simp; omega, by rw [HM4.out, e3]⟩⟩
        case measure => rw [psLeft_eq N E1.out, psLeft_eq N H1.out]; have := hk2'.out; have := F3.out; have := HN.out; omega

set_option maxHeartbeats 2000000 in
theorem or_ok (p g c : Nat) (L : List (List UInt8)) (f : Nat) (H : ∀ q, q ≤ f → PsOk 47 1 2 p g c L q) (hl : L.length ≤ 200) : PsOk 28 2 3 p g c L (f + 1) := by
  intro i w hp hi hf
  have HP : Hid (PsAt w p g c L i false) := hp
  have HH : Hid (∀ q, q ≤ f → PsOk 47 1 2 p g c L q) := H
  have hpw := hp.plt
  clear hp H
  have HM : Hid (P.rd (f + 1) 2 P.nonT (L.drop i) = match P.rd f 1 P.nonT (L.drop i) with
    | none => none
    | some (y, r) => P.rd f 4 y r) := rfl
  generalize P.rd (f + 1) 2 P.nonT (L.drop i) = M at *
  have HL200 : Hid (L.length ≤ 200) := hl
  generalize hN : L.length = N at *
  have HN : Hid (L.length = N) := hN
  clear hN
  go_enter Tryz.func28, Tryz.ntmps28
  go_wp2_with fail
  refine (HH.out f (Nat.le_refl _) i _ HP.out (by have := HN.out; omega) (by have := HN.out; omega)).mono ?_
  rintro e w1 ⟨v, ns, k, b, rfl, h1, h2, h3, h4, h5, h6⟩
  have S : Hid (∃ q, (b = false ∧ ns.length + i ≤ k ∧ q ≤ f ∧ 4 * (N - k) + 1 ≤ q ∧ ∃ y, M = P.rd q 4 y (L.drop k) ∧ ns = post y) ∨ (b = true ∧ ns.length + i ≤ k + 1 ∧ M = none)) := by
    rcases h6 with ⟨e1, e2, y, e3, e4⟩ | ⟨e1, e2, e3⟩
    · obtain ⟨a1, a2, _, _, _, _⟩ := P.rd_rd f 1 P.nonT _ _ _ (fun h => by omega) e3
      have a2 := a2 (by omega)
      simp only [List.length_drop] at a2
      have := HN.out
      exact ⟨f, .inl ⟨e1, e2, Nat.le_refl _, by omega, y, by rw [HM.out, e3], e4⟩⟩
    · exact ⟨0, .inr ⟨e1, e2, by rw [HM.out, e3]⟩⟩
  have H1 : Hid (PsAt w1 p g c L k b) := h1
  have H4 : Hid (NdRow w1 w.heap.size v ns) := h4
  have H5 : Hid (But p w.heap.size w w1) := h5
  rw [HN.out] at h3
  clear h1 h4 h5 h6 HM
  go_wp2_with fail
  go_loopw [3] (fun v wr => ∃ ns k b, i ≤ k ∧ k ≤ N ∧ Hid (PsAt wr p g c L k b) ∧ Hid (NdRow wr w.heap.size v ns) ∧ Hid (But p w.heap.size w wr) ∧ Hid (∃ q, (b = false ∧ ns.length + i ≤ k ∧ q ≤ f ∧ 4 * (N - k) + 1 ≤ q ∧ ∃ y, M = P.rd q 4 y (L.drop k) ∧ ns = post y) ∨ (b = true ∧ ns.length + i ≤ k + 1 ∧ M = none))) (fun _ wr => psLeft N p wr)
  case atStart => exact ⟨ns, k, b, h2, h3, H1, H4, H5, S⟩
  case round =>
    clear H1 H4 H5 S h2 h3
    obtain ⟨ns, k, b, h2, h3, H1, H4, H5, S⟩ := hrel
    obtain ⟨v0, hv0⟩ : ∃ v0, v0 = u3 := ⟨_, rfl⟩
    subst hv0
    obtain ⟨ga, ca, hva, _, _, _⟩ := H4.out
    subst hva
    cases b with
    | true =>
      have SR : Hid (ns.length + i ≤ k + 1 ∧ M = none) := by
        obtain ⟨q, ⟨e1, _⟩ | ⟨_, e2, e3⟩⟩ := S.out
        · cases e1
        · exact ⟨e2, e3⟩
      obtain ⟨c0, c1, c2, f1, f2, _, _, _⟩ := H1.out
      go_wp2_with fail
      go_ret
      exact ⟨_, ns, k, true, rfl, H1.out, h2, by rw [HN.out]; exact h3, H4.out, H5.out, .inr ⟨rfl, SR.out.1, SR.out.2⟩⟩
    | false =>
      obtain ⟨q, hq⟩ : ∃ q, ns.length + i ≤ k ∧ q ≤ f ∧ 4 * (N - k) + 1 ≤ q ∧ ∃ y, M = P.rd q 4 y (L.drop k) ∧ ns = post y := by
        obtain ⟨q, ⟨_, e⟩ | ⟨e1, _⟩⟩ := S.out
        · exact ⟨q, e⟩
        · cases e1
      obtain ⟨q1, q2, q3, y, q4, q5⟩ := hq
      obtain ⟨q', hq'⟩ : ∃ q', q = q' + 1 := ⟨q - 1, by omega⟩
      subst hq'
      have HM3 : Hid (M = match P.tk 124 (L.drop k) with
        | none => some (y, L.drop k)
        | some r => match P.rd q' 1 P.nonT r with
          | none => none
          | some (z, r') => P.rd q' 4 (P.orT y z) r') := q4
      have HY : Hid (ns = post y) := q5
      clear q4 q5 S
      obtain ⟨c0, c1, c2, f1, f2, _, _, _⟩ := H1.out
      go_wp2_with fail
      refine (stake_any p g c L k false 124 _ H1.out (by rw [HN.out]; exact h3) (by rw [HN.out]; exact HL200.out)).mono ?_
      rintro e w2 ⟨k2, rfl, g1, g2, g3, g4, g5, g6, g7⟩
      have G6 : Hid (PsAt w2 p g c L k2 false) := g6
      have G7 : Hid (But p w.heap.size w w2) := H5.out.trans (g7.mono H5.out.size)
      have GR : Hid (NdRow w2 w.heap.size (.slice (some ⟨ga, 0, none⟩) ns.length ca) ns) := H4.out.but g7 (Nat.le_refl _) hpw
      clear c0 c1 c2 f1 f2 g6 g7
      cases hT : P.tk 124 (L.drop k) with
      | none =>
        have hk2 : k2 = k := g5 (by rw [hT]; rfl)
        have HR1 : Hid (M = some (y, L.drop k2)) := by rw [HM3.out, hT, hk2]; rfl
        have hk2' : Hid (k2 = k) := hk2
        clear hT HM3 g3 g4 g5 hk2
        go_wp2_with fail
        go_ret
        exact ⟨_, ns, k2, false, rfl, G6.out, by have := hk2'.out; omega, g2, GR.out, G7.out, .inl ⟨rfl, by have := hk2'.out; omega, y, HR1.out, HY.out⟩⟩
      | some r' =>
        have hk2 : k2 = k + 1 := g4 (by rw [hT]; rfl)
        have G3' : Hid (L.drop k2 = r') := by rw [g3, hT]; rfl
        have HM4 : Hid (M = match P.rd q' 1 P.nonT (L.drop k2) with
          | none => none
          | some (z, r') => P.rd q' 4 (P.orT y z) r') := by rw [HM3.out, hT]; simp only []; rw [G3'.out]; rfl
        have hk2' : Hid (k2 = k + 1) := hk2
        clear hT HM3 g3 g4 g5 hk2 G3'
        have G2 : Hid (k2 ≤ L.length) := g2
        go_wp2_with fail
        refine (HH.out q' (by omega) k2 _ G6.out G2.out (by have := HN.out; have := hk2'.out; omega)).mono ?_
        rintro e w3 ⟨v2, ns2, k3, b3, rfl, f1, f2, f3, f4, f5, f6⟩
        have f4' := f4
        obtain ⟨gb, cb, hvb, _, _, _⟩ := f4'
        subst hvb
        have F1 : Hid (PsAt w3 p g c L k3 b3) := f1
        have F5 : Hid (But p w.heap.size w w3) := G7.out.trans (f5.mono G7.out.size)
        have R1 : Hid (NdRow w3 0 (.slice (some ⟨ga, 0, none⟩) ns.length ca) ns) := (GR.out.but f5 (Nat.le_refl _) hpw).mono (Nat.zero_le _)
        have R2 : Hid (NdRow w3 0 (.slice (some ⟨gb, 0, none⟩) ns2.length cb) ns2) := f4.mono (Nat.zero_le _)
        have F6 : Hid ((b3 = false ∧ ns2.length + k2 ≤ k3 ∧ ∃ y, P.rd q' 1 P.nonT (L.drop k2) = some (y, L.drop k3) ∧ ns2 = post y) ∨ (b3 = true ∧ ns2.length + k2 ≤ k3 + 1 ∧ P.rd q' 1 P.nonT (L.drop k2) = none)) := f6
        have hb2 : Hid (ns2.length + k2 ≤ k3 + 1) := by
          show _ ≤ _
          rcases f6 with ⟨_, e, _⟩ | ⟨_, e, _⟩ <;> omega
        have F3 : Hid (k3 ≤ L.length) := f3
        clear f1 f3 f4 f5 f6 GR
        go_wp2_with fail
        refine (over_any 5 2 _ [ns, ns2] _ (parts_two R1.out R2.out) (by simp) (by have := hb2.out; have := F3.out; have := hk2'.out; have := HN.out; simp; omega)).mono ?_
        rintro e w4 ⟨v4, rfl, o1, o2⟩
        have hal : Below w3.heap.size w3 w4 := ((Below.refl w3.heap.size w3).alloc (Nat.le_refl _) _).trans (o2.mono (by simp))
        have E1 : Hid (PsAt w4 p g c L k3 b3) := F1.out.below hal
        have E5 : Hid (But p w.heap.size w w4) := F5.out.trans ((But.of_below hal).mono F5.out.size)
        have ER : Hid (NdRow w4 w.heap.size v4 (ns ++ ns2 ++ [⟨5, ⟨#[]⟩, ⟨#[]⟩, 2⟩])) := by
          have := o1.mono (B' := w.heap.size) (by have := F5.out.size; simp; omega)
          show NdRow _ _ _ _
          simpa using this
        clear o1 o2 hal R1 R2
        go_wp2_with fail
        go_roundw
        case rel =>
          have hkk := hk2'.out
          have hnn := HN.out
          refine ⟨ns ++ ns2 ++ [⟨5, ⟨#[]⟩, ⟨#[]⟩, 2⟩], k3, b3, by omega, by have := F3.out; omega, E1, ER, E5, ?_⟩
          rcases F6.out with ⟨e1, e2, z, e3, e4⟩ | ⟨e1, e2, e3⟩
          · obtain ⟨a1, a2, _, _, _, _⟩ := P.rd_rd q' 1 P.nonT _ _ _ (fun h => by omega) e3
            have a2 := a2 (by omega)
            simp only [List.length_drop] at a2
            exact ⟨q', .inl ⟨e1, by simp; omega, by omega, by omega, P.orT y z, by rw [HM4.out, e3], by rw [HY.out, e4, post_or]⟩⟩
          · exact ⟨0, .inr ⟨e1, by simp; omega, by rw [HM4.out, e3]⟩⟩
        case measure => rw [psLeft_eq N E1.out, psLeft_eq N H1.out]; have := hk2'.out; have := F3.out; have := HN.out; omega

end Go.Proofs.YthjicahpfhjfdaaGreatDoor
