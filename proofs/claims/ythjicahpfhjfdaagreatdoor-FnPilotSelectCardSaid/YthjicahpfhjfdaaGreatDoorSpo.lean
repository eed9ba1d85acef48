/-
  Walks: the specification's parser: a single part.
-/
import Derived.Test.YthjicahpfhjfdaaGreatDoorSpn
import Derived.Test.YthjicahpfhjfdaaGreatDoorRdi
namespace Go.Proofs.YthjicahpfhjfdaaGreatDoor
open Go.RowKit

theorem ndRow_new {w : World} {B : Nat} (n : P.Nd) (T : TypeId) (hB : B ≤ w.heap.size) : NdRow (w.alloc (.cells #[.int .i64 n.kind, .string n.name, .string n.value, .int .i64 n.kids] T)) B (.slice (some ⟨w.heap.size, 0, none⟩) 1 1) [n] :=
  ⟨w.heap.size, 1, rfl, hB, by simp, fun j u hj => by
    have := news_nd w n T j u (by simpa [ndCells] using hj)
    rw [Addr.add_mid] at this
    exact this⟩

/-- a node under way lies in a block -/
def NvAt (w : World) (B : Nat) (n : P.Nd) : Prop :=
  (w.cell? ⟨B, 0, none⟩ = some (.int .i64 n.kind) ∧ w.cell? ⟨B, 1, none⟩ = some (.string n.name) ∧ w.cell? ⟨B, 2, none⟩ = some (.string n.value) ∧ w.cell? ⟨B, 3, none⟩ = some (.int .i64 n.kids)) ∧ w.frozen? ⟨B, 0, none⟩ = false ∧ w.frozen? ⟨B, 2, none⟩ = false

theorem NvAt.but {w w' : World} {p B B' : Nat} {n : P.Nd} (h : NvAt w B n) (hb : But p B' w w') (hB : B < B') (hp : B ≠ p) : NvAt w' B n := by
  have hk := hb.block B hB hp
  have hc : ∀ o, w'.cell? ⟨B, o, none⟩ = w.cell? ⟨B, o, none⟩ := fun o => World.cell?_of_block (w := w) (a := ⟨B, o, none⟩) hk
  have hf : ∀ o, w'.frozen? ⟨B, o, none⟩ = w.frozen? ⟨B, o, none⟩ := fun o => World.frozen?_of_block (w := w) (a := ⟨B, o, none⟩) hk
  obtain ⟨⟨a0, a1, a2, a3⟩, b0, b2⟩ := h
  exact ⟨⟨(hc 0).trans a0, (hc 1).trans a1, (hc 2).trans a2, (hc 3).trans a3⟩, (hf 0).trans b0, (hf 2).trans b2⟩

theorem NvAt.kind {w : World} {B : Nat} {n : P.Nd} (h : NvAt w B n) (k : Int) : NvAt (w.setCell ⟨B, 0, none⟩ (.int .i64 k)) B ⟨k, n.name, n.value, n.kids⟩ := by
  obtain ⟨⟨a0, a1, a2, a3⟩, b0, b2⟩ := h
  exact ⟨⟨by simp [go_sem, a0], by simp [go_sem, a1], by simp [go_sem, a2], by simp [go_sem, a3]⟩, by simp [go_sem, b0], by simp [go_sem, b2]⟩

theorem NvAt.value {w : World} {B : Nat} {n : P.Nd} (h : NvAt w B n) (v : ByteArray) : NvAt (w.setCell ⟨B, 2, none⟩ (.string v)) B ⟨n.kind, n.name, v, n.kids⟩ := by
  obtain ⟨⟨a0, a1, a2, a3⟩, b0, b2⟩ := h
  exact ⟨⟨by simp [go_sem, a0], by simp [go_sem, a1], by simp [go_sem, a2], by simp [go_sem, a3]⟩, by simp [go_sem, b0], by simp [go_sem, b2]⟩

theorem PsAt.set {w : World} {p g c : Nat} {L : List (List UInt8)} {i : Nat} {b : Bool} (h : PsAt w p g c L i b) {B o : Nat} (hp : B ≠ p) (hg : B ≠ g) (v : Value) : PsAt (w.setCell ⟨B, o, none⟩ v) p g c L i b := by
  have hbp := Below.heap_setCell w ⟨B, o, none⟩ v p (fun e => hp e.symm)
  have hbg := Below.heap_setCell w ⟨B, o, none⟩ v g (fun e => hg e.symm)
  have hc : ∀ o', (w.setCell ⟨B, o, none⟩ v).cell? ⟨p, o', none⟩ = w.cell? ⟨p, o', none⟩ := fun o' => World.cell?_of_block (w := w) (a := ⟨p, o', none⟩) hbp
  have hf : ∀ o', (w.setCell ⟨B, o, none⟩ v).frozen? ⟨p, o', none⟩ = w.frozen? ⟨p, o', none⟩ := fun o' => World.frozen?_of_block (w := w) (a := ⟨p, o', none⟩) hbp
  have hr : ∀ o', (w.setCell ⟨B, o, none⟩ v).cell? ⟨g, o', none⟩ = w.cell? ⟨g, o', none⟩ := fun o' => World.cell?_of_block (w := w) (a := ⟨g, o', none⟩) hbg
  exact ⟨(hc 0).trans h.c0, (hc 1).trans h.c1, (hc 2).trans h.c2, (hf 1).trans h.f1, (hf 2).trans h.f2, h.ne, by simpa [World.setCell] using h.lt, fun j l hj => (hr j).trans (h.row j l hj)⟩

theorem But.setOther {p B : Nat} {a w : World} (h : But p B a w) {k : Nat} (hk : B ≤ k) (o : Nat) (v : Value) : But p B a (w.setCell ⟨k, o, none⟩ v) :=
  h.trans ⟨rfl, rfl, rfl, by simp [World.setCell], fun j hj _ => Below.heap_setCell _ _ _ _ (by show j ≠ k; omega)⟩

set_option maxHeartbeats 2000000 in
theorem not_ok (p g c : Nat) (L : List (List UInt8)) (f : Nat) (H : PsOk 64 0 1 p g c L f) (HO : PsOk 28 2 3 p g c L f) (hl : L.length ≤ 200) (hz : ∀ l ∈ L, l.length ≤ 200) : PsOk 64 0 1 p g c L (f + 1) := by
  intro i w hp hi hf
  have HP : Hid (PsAt w p g c L i false) := hp
  have HH : Hid (PsOk 64 0 1 p g c L f) := H
  have HO' : Hid (PsOk 28 2 3 p g c L f) := HO
  have HZ : Hid (∀ l ∈ L, l.length ≤ 200) := hz
  have hpw := hp.plt
  have HM : Hid (P.rd (f + 1) 0 P.nonT (L.drop i) = match P.tk 33 (L.drop i) with
    | some r => match P.rd f 0 P.nonT r with
      | none => none
      | some (y, r') => some (P.ntT y, r')
    | none => match P.tk 40 (L.drop i) with
      | some r => brk f r
      | none => P.markT (L.drop i)) := rfl
  generalize P.rd (f + 1) 0 P.nonT (L.drop i) = M at *
  clear hp H HO hz
  generalize hN : L.length = N at *
  have HN : Hid (L.length = N) := hN
  clear hN
  obtain ⟨c0, c1, c2, f1, f2, _, _, _⟩ := HP.out
  go_enter Tryz.func64, Tryz.ntmps64
  go_wp2_with fail
  clear c0 c1 c2 f1 f2
  refine (stake_any p g c L i false 33 _ HP.out (by rw [HN.out]; exact hi) (by rw [HN.out]; exact hl)).mono ?_
  rintro e w2 ⟨k2, rfl, g1, g2, g3, g4, g5, g6, g7⟩
  have G6 : Hid (PsAt w2 p g c L k2 false) := g6
  have G7 : Hid (But p w.heap.size w w2) := g7
  clear g6 g7
  cases hT : P.tk 33 (L.drop i) with
  | some r' =>
    have hk2 : k2 = i + 1 := g4 (by rw [hT]; rfl)
    have G3' : Hid (L.drop k2 = r') := by rw [g3, hT]; rfl
    have HM4 : Hid (M = match P.rd f 0 P.nonT (L.drop k2) with
      | none => none
      | some (y, r') => some (P.ntT y, r')) := by rw [HM.out, hT]; simp only []; rw [G3'.out]; rfl
    have hk2' : Hid (k2 = i + 1) := hk2
    have G2 : Hid (k2 ≤ L.length) := g2
    clear hT HM g2 g3 g4 g5 hk2 G3'
    go_wp2_with fail
    refine (HH.out k2 _ G6.out G2.out (by have := HN.out; have := hk2'.out; have := G2.out; omega)).mono ?_
    rintro e w3 ⟨v2, ns2, k3, b3, rfl, f1, f2, f3, f4, f5, f6⟩
    have f4' := f4
    obtain ⟨gb, cb, hvb, _, _, _⟩ := f4'
    subst hvb
    have F1 : Hid (PsAt w3 p g c L k3 b3) := f1
    have F5 : Hid (But p w.heap.size w w3) := G7.out.trans (f5.mono G7.out.size)
    have R2 : Hid (NdRow w3 0 (.slice (some ⟨gb, 0, none⟩) ns2.length cb) ns2) := f4.mono (Nat.zero_le _)
    have F6 : Hid ((b3 = false ∧ ns2.length + k2 ≤ k3 ∧ ∃ y, P.rd f 0 P.nonT (L.drop k2) = some (y, L.drop k3) ∧ ns2 = post y) ∨ (b3 = true ∧ ns2.length + k2 ≤ k3 + 1 ∧ P.rd f 0 P.nonT (L.drop k2) = none)) := f6
    have hb2 : Hid (ns2.length + k2 ≤ k3 + 1) := by
      show _ ≤ _
      rcases f6 with ⟨_, e, _⟩ | ⟨_, e, _⟩ <;> omega
    have F3 : Hid (k3 ≤ L.length) := f3
    clear f1 f3 f4 f5 f6
    go_wp2_with fail
    refine (over_any 3 1 _ [ns2] _ (parts_one R2.out) (by simp) (by have := hb2.out; have := F3.out; have := HN.out; simp; omega)).mono ?_
    rintro e w4 ⟨v4, rfl, o1, o2⟩
    have hal : Below w3.heap.size w3 w4 := ((Below.refl w3.heap.size w3).alloc (Nat.le_refl _) _).trans (o2.mono (by simp))
    have E1 : Hid (PsAt w4 p g c L k3 b3) := F1.out.below hal
    have E5 : Hid (But p w.heap.size w w4) := F5.out.trans ((But.of_below hal).mono F5.out.size)
    have ER : Hid (NdRow w4 w.heap.size v4 (ns2 ++ [⟨3, ⟨#[]⟩, ⟨#[]⟩, 1⟩])) := by
      have := o1.mono (B' := w.heap.size) (by have := F5.out.size; simp; omega)
      show NdRow _ _ _ _
      simpa using this
    clear o1 o2 hal R2
    go_wp2_with fail
    go_ret
    have hkk := hk2'.out
    refine ⟨_, _, k3, b3, rfl, E1.out, by omega, F3.out, ER.out, E5.out, ?_⟩
    rcases F6.out with ⟨e1, e2, z, e3, e4⟩ | ⟨e1, e2, e3⟩
    · exact .inl ⟨e1, by simp; omega, P.ntT z, by rw [HM4.out, e3], by rw [e4, post_nt]⟩
    · exact .inr ⟨e1, by simp; omega, by rw [HM4.out, e3]⟩
  | none =>
    have hk2 : k2 = i := g5 (by rw [hT]; rfl)
    subst hk2
    have HM2 : Hid (M = match P.tk 40 (L.drop k2) with
      | some r => brk f r
      | none => P.markT (L.drop k2)) := by rw [HM.out, hT]; rfl
    clear hT HM g1 g2 g3 g4 g5
    go_wp2_with fail
    refine (stake_any p g c L k2 false 40 _ G6.out (by rw [HN.out]; exact hi) (by rw [HN.out]; exact hl)).mono ?_
    rintro e w3 ⟨k3, rfl, d1, d2, d3, d4, d5, d6, d7⟩
    have D6 : Hid (PsAt w3 p g c L k3 false) := d6
    have D7 : Hid (But p w.heap.size w w3) := G7.out.trans (d7.mono G7.out.size)
    clear d6 d7
    cases hT : P.tk 40 (L.drop k2) with
    | some r' =>
      have hk3 : k3 = k2 + 1 := d4 (by rw [hT]; rfl)
      have D3' : Hid (L.drop k3 = r') := by rw [d3, hT]; rfl
      have HM4 : Hid (M = match P.rd f 2 P.nonT (L.drop k3) with
        | none => none
        | some (y, r') => match P.tk 41 r' with
          | none => none
          | some r'' => some (y, r'')) := by rw [HM2.out, hT]; simp only []; rw [← D3'.out]; rfl
      have hk3' : Hid (k3 = k2 + 1) := hk3
      have D2 : Hid (k3 ≤ L.length) := d2
      clear hT HM2 d2 d3 d4 d5 hk3 D3'
      go_wp2_with fail
      refine (HO'.out k3 _ D6.out D2.out (by have := HN.out; have := hk3'.out; have := D2.out; omega)).mono ?_
      rintro e w4 ⟨v2, ns2, k4, b4, rfl, f1, f2, f3, f4, f5, f6⟩
      have f4' := f4
      obtain ⟨gb, cb, hvb, _, _, _⟩ := f4'
      subst hvb
      have F1 : Hid (PsAt w4 p g c L k4 b4) := f1
      have F5 : Hid (But p w.heap.size w w4) := D7.out.trans (f5.mono D7.out.size)
      have R2 : Hid (NdRow w4 w.heap.size (.slice (some ⟨gb, 0, none⟩) ns2.length cb) ns2) := f4.mono D7.out.size
      have F6 : Hid ((b4 = false ∧ ns2.length + k3 ≤ k4 ∧ ∃ y, P.rd f 2 P.nonT (L.drop k3) = some (y, L.drop k4) ∧ ns2 = post y) ∨ (b4 = true ∧ ns2.length + k3 ≤ k4 + 1 ∧ P.rd f 2 P.nonT (L.drop k3) = none)) := f6
      have F3 : Hid (k4 ≤ L.length) := f3
      clear f1 f3 f4 f5 f6
      go_wp2_with fail
      refine (stake_any p g c L k4 b4 41 _ F1.out F3.out (by rw [HN.out]; exact hl)).mono ?_
      rintro e w5 ⟨k5, rfl, a1, a2, a3, a4, a5, a6, a7⟩
      have A6 : Hid (PsAt w5 p g c L k5 b4) := a6
      have A7 : Hid (But p w.heap.size w w5) := F5.out.trans (a7.mono F5.out.size)
      have R5 : Hid (NdRow w5 w.heap.size (.slice (some ⟨gb, 0, none⟩) ns2.length cb) ns2) := R2.out.but a7 (Nat.le_refl _) hpw
      clear a6 a7 R2
      cases hC : P.tk 41 (L.drop k4) with
      | some r5 =>
        have hk5 : k5 = k4 + 1 := a4 (by rw [hC]; rfl)
        have A3 : Hid (L.drop k5 = r5) := by rw [a3, hC]; rfl
        have HC : Hid (P.tk 41 (L.drop k4) = some r5) := hC
        have hk5' : Hid (k5 = k4 + 1) := hk5
        have A2 : Hid (k5 ≤ L.length) := a2
        clear hC a2 a3 a4 a5 hk5
        go_wp2_with fail
        go_ret
        have hkk := hk3'.out
        have hkk5 := hk5'.out
        refine ⟨_, ns2, k5, b4, rfl, A6.out, by omega, A2.out, R5.out, A7.out, ?_⟩
        rcases F6.out with ⟨e1, e2, z, e3, e4⟩ | ⟨e1, e2, e3⟩
        · exact .inl ⟨e1, by omega, z, by rw [HM4.out, e3]; simp only []; rw [HC.out, A3.out], e4⟩
        · exact .inr ⟨e1, by omega, by rw [HM4.out, e3]⟩
      | none =>
        have hk5 : k5 = k4 := a5 (by rw [hC]; rfl)
        have HC : Hid (P.tk 41 (L.drop k4) = none) := hC
        have hk5' : Hid (k5 = k4) := hk5
        have A2 : Hid (k5 ≤ L.length) := a2
        clear hC a2 a3 a4 a5 hk5
        obtain ⟨x0, x1, x2, y1, y2, _, _, _⟩ := A6.out
        have R6 : Hid (NdRow (w5.setCell ⟨p, 2, none⟩ (.bool true)) w.heap.size (.slice (some ⟨gb, 0, none⟩) ns2.length cb) ns2) := R5.out.but ((But.refl p w5.heap.size w5).set _ _) (Nat.le_refl _) hpw
        go_wp2_with fail
        go_ret
        have hkk := hk3'.out
        have hkk5 := hk5'.out
        refine ⟨_, ns2, k5, true, rfl, A6.out.bad, by omega, A2.out, R6.out, A7.out.set _ _, ?_⟩
        rcases F6.out with ⟨e1, e2, z, e3, e4⟩ | ⟨e1, e2, e3⟩
        · exact .inr ⟨rfl, by omega, by rw [HM4.out, e3]; simp only []; rw [HC.out]⟩
        · exact .inr ⟨rfl, by omega, by rw [HM4.out, e3]⟩
    | none =>
      have hk3 : k3 = k2 := d5 (by rw [hT]; rfl)
      subst hk3
      have HM4 : Hid (M = match P.nm (L.drop k3) with
        | none => none
        | some (n, r) => match P.tk 61 r with
          | none => some (P.nmT (P.bts n), r)
          | some r' => match P.nm r' with
            | none => none
            | some (v, r'') => some (P.vlT (P.bts n) (P.bts v), r'')) := by rw [HM2.out, hT]; rfl
      clear hT HM2 d1 d2 d3 d4 d5
      go_wp2_with fail
      refine (sname_any p g c L k3 _ D6.out (by rw [HN.out]; exact hi) (by rw [HN.out]; exact hl) HZ.out).mono ?_
      rintro e w4 (⟨n, h1, h2, rfl, h3, h4⟩ | ⟨h1, rfl, h3, h4⟩)
      · have hpl := h3.plt
        have hgl := h3.lt
        have H3 : Hid (PsAt w4 p g c L (k3 + 1) false) := h3
        have H4 : Hid (But p w.heap.size w w4) := D7.out.trans (h4.mono D7.out.size)
        have HM5 : Hid (M = match P.tk 61 (L.drop (k3 + 1)) with
          | none => some (P.nmT (P.bts n), L.drop (k3 + 1))
          | some r' => match P.nm r' with
            | none => none
            | some (v, r'') => some (P.vlT (P.bts n) (P.bts v), r'')) := by rw [HM4.out, h1]; rfl
        have H2 : Hid (k3 < L.length) := h2
        have hws := H4.out.size
        obtain ⟨x0, x1, x2, y1, y2, _, _, _⟩ := h3
        clear h1 h2 h4 HM4
        go_wp2_with fail
        have hal : Below w4.heap.size w4 (w4.alloc (Obj.cells #[.int .i64 1, .string (P.bts n), .string ⟨#[]⟩, .int .i64 0] 36)) := (Below.refl _ _).alloc (Nat.le_refl _) _
        have H5 : Hid (PsAt (w4.alloc (Obj.cells #[.int .i64 1, .string (P.bts n), .string ⟨#[]⟩, .int .i64 0] 36)) p g c L (k3 + 1) false) := H3.out.below hal
        have H6 : Hid (But p w.heap.size w (w4.alloc (Obj.cells #[.int .i64 1, .string (P.bts n), .string ⟨#[]⟩, .int .i64 0] 36))) := H4.out.trans ((But.of_below hal).mono H4.out.size)
        have H7 : Hid (NvAt (w4.alloc (Obj.cells #[.int .i64 1, .string (P.bts n), .string ⟨#[]⟩, .int .i64 0] 36)) w4.heap.size ⟨1, P.bts n, ⟨#[]⟩, 0⟩) := ⟨⟨by simp, by simp, by simp, by simp⟩, by simp, by simp⟩
        have hs5 : w4.heap.size < (w4.alloc (Obj.cells #[.int .i64 1, .string (P.bts n), .string ⟨#[]⟩, .int .i64 0] 36)).heap.size := by simp
        clear hal x0 x1 x2 y1 y2 H3 H4
        generalize w4.alloc (Obj.cells #[.int .i64 1, .string (P.bts n), .string ⟨#[]⟩, .int .i64 0] 36) = w5 at *
        refine (stake_any p g c L (k3 + 1) false 61 _ H5.out H2.out (by rw [HN.out]; exact hl)).mono ?_
        rintro e w6 ⟨k6, rfl, a1, a2, a3, a4, a5, a6, a7⟩
        have A6 : Hid (PsAt w6 p g c L k6 false) := a6
        have A7 : Hid (But p w.heap.size w w6) := H6.out.trans (a7.mono H6.out.size)
        have N6 : Hid (NvAt w6 w4.heap.size ⟨1, P.bts n, ⟨#[]⟩, 0⟩) := H7.out.but a7 hs5 (by omega)
        have hs6 : w4.heap.size < w6.heap.size := Nat.lt_of_lt_of_le hs5 a7.size
        clear a6 a7 H5 H6 H7 hs5
        cases hT : P.tk 61 (L.drop (k3 + 1)) with
        | none =>
          have hk6 : Hid (k6 = k3 + 1) := a5 (by rw [hT]; rfl)
          have HR1 : Hid (M = some (P.nmT (P.bts n), L.drop k6)) := by rw [HM5.out, hT, hk6.out]; rfl
          have A2 : Hid (k6 ≤ L.length) := a2
          clear hT HM5 a1 a2 a3 a4 a5
          obtain ⟨⟨z0, z1, z2, z3⟩, _, _⟩ := N6.out
          go_wp2_with fail
          go_ret
          have hk := hk6.out
          have hal : Below w6.heap.size w6 (w6.alloc (Obj.cells #[.int .i64 1, .string (P.bts n), .string ⟨#[]⟩, .int .i64 0] 36)) := (Below.refl _ _).alloc (Nat.le_refl _) _
          exact ⟨_, [⟨1, P.bts n, ⟨#[]⟩, 0⟩], k6, false, rfl, A6.out.below hal, by omega, A2.out, ndRow_new ⟨1, P.bts n, ⟨#[]⟩, 0⟩ _ A7.out.size, A7.out.trans ((But.of_below hal).mono A7.out.size), .inl ⟨rfl, by simp; omega, _, HR1.out, rfl⟩⟩
        | some r' =>
          have hk6 : Hid (k6 = k3 + 1 + 1) := a4 (by rw [hT]; rfl)
          have A3 : Hid (L.drop k6 = r') := by rw [a3, hT]; rfl
          have HM6 : Hid (M = match P.nm (L.drop k6) with
            | none => none
            | some (v, r'') => some (P.vlT (P.bts n) (P.bts v), r'')) := by rw [HM5.out, hT]; simp only []; rw [A3.out]; rfl
          have A2 : Hid (k6 ≤ L.length) := a2
          clear hT HM5 a1 a2 a3 a4 a5 A3
          obtain ⟨⟨z0, z1, z2, z3⟩, z4, z5⟩ := N6.out
          go_wp2_with fail
          have B6 : Hid (PsAt (w6.setCell ⟨w4.heap.size, 0, none⟩ (.int .i64 2)) p g c L k6 false) := A6.out.set (by omega) (by omega) _
          have B7 : Hid (But p w.heap.size w (w6.setCell ⟨w4.heap.size, 0, none⟩ (.int .i64 2))) := A7.out.setOther hws _ _
          have N7 : Hid (NvAt (w6.setCell ⟨w4.heap.size, 0, none⟩ (.int .i64 2)) w4.heap.size ⟨2, P.bts n, ⟨#[]⟩, 0⟩) := N6.out.kind 2
          have hs7 : w4.heap.size < (w6.setCell ⟨w4.heap.size, 0, none⟩ (.int .i64 2)).heap.size := by simpa [World.setCell] using hs6
          clear z0 z1 z2 z3 z4 z5 A6 A7 N6 hs6
          generalize w6.setCell ⟨w4.heap.size, 0, none⟩ (.int .i64 2) = w7 at *
          refine (sname_any p g c L k6 _ B6.out A2.out (by rw [HN.out]; exact hl) HZ.out).mono ?_
          rintro e w8 (⟨v, h1, h2, rfl, h3, h4⟩ | ⟨h1, rfl, h3, h4⟩)
          · have HR1 : Hid (M = some (P.vlT (P.bts n) (P.bts v), L.drop (k6 + 1))) := by rw [HM6.out, h1]; rfl
            have C6 : Hid (PsAt w8 p g c L (k6 + 1) false) := h3
            have C7 : Hid (But p w.heap.size w w8) := B7.out.trans (h4.mono B7.out.size)
            have N8 : Hid (NvAt w8 w4.heap.size ⟨2, P.bts n, ⟨#[]⟩, 0⟩) := N7.out.but h4 hs7 (by omega)
            have H2' : Hid (k6 < L.length) := h2
            clear h1 h2 h3 h4 HM6 B6 B7 N7
            obtain ⟨⟨z0, z1, z2, z3⟩, z4, z5⟩ := N8.out
            go_wp2_with fail
            go_ret
            have S6 := C6.out.set (B := w4.heap.size) (o := 2) (by omega) (by omega) (.string (P.bts v))
            have S7 := C7.out.setOther (k := w4.heap.size) hws 2 (.string (P.bts v))
            have R := ndRow_new (w := w8.setCell ⟨w4.heap.size, 2, none⟩ (.string (P.bts v))) (B := w.heap.size) ⟨2, P.bts n, (P.bts v), 0⟩ 36 S7.size
            simp only [World.size_setCell] at R
            have hal := (Below.refl (w8.setCell ⟨w4.heap.size, 2, none⟩ (.string (P.bts v))).heap.size (w8.setCell ⟨w4.heap.size, 2, none⟩ (.string (P.bts v)))).alloc (Nat.le_refl _) (Obj.cells #[.int .i64 2, .string (P.bts n), .string (P.bts v), .int .i64 0] 36)
            have hk := hk6.out
            exact ⟨_, [⟨2, P.bts n, (P.bts v), 0⟩], k6 + 1, false, rfl, S6.below hal, by omega, H2'.out, R, S7.trans ((But.of_below hal).mono S7.size), .inl ⟨rfl, by simp; omega, _, HR1.out, rfl⟩⟩
          · have HR1 : Hid (M = none) := by rw [HM6.out, h1]; rfl
            have C6 : Hid (PsAt w8 p g c L k6 true) := h3
            have C7 : Hid (But p w.heap.size w w8) := B7.out.trans (h4.mono B7.out.size)
            have N8 : Hid (NvAt w8 w4.heap.size ⟨2, P.bts n, ⟨#[]⟩, 0⟩) := N7.out.but h4 hs7 (by omega)
            clear h1 h3 h4 HM6 B6 B7 N7
            obtain ⟨⟨z0, z1, z2, z3⟩, z4, z5⟩ := N8.out
            go_wp2_with fail
            go_ret
            have S6 := C6.out.set (B := w4.heap.size) (o := 2) (by omega) (by omega) (.string ⟨#[]⟩)
            have S7 := C7.out.setOther (k := w4.heap.size) hws 2 (.string ⟨#[]⟩)
            have R := ndRow_new (w := w8.setCell ⟨w4.heap.size, 2, none⟩ (.string ⟨#[]⟩)) (B := w.heap.size) ⟨2, P.bts n, ⟨#[]⟩, 0⟩ 36 S7.size
            simp only [World.size_setCell] at R
            have hal := (Below.refl (w8.setCell ⟨w4.heap.size, 2, none⟩ (.string ⟨#[]⟩)).heap.size (w8.setCell ⟨w4.heap.size, 2, none⟩ (.string ⟨#[]⟩))).alloc (Nat.le_refl _) (Obj.cells #[.int .i64 2, .string (P.bts n), .string ⟨#[]⟩, .int .i64 0] 36)
            have hk := hk6.out
            exact ⟨_, [⟨2, P.bts n, ⟨#[]⟩, 0⟩], k6, true, rfl, S6.below hal, by omega, A2.out, R, S7.trans ((But.of_below hal).mono S7.size), .inr ⟨rfl, by simp; omega, HR1.out⟩⟩
      · have HR1 : Hid (M = none) := by rw [HM4.out, h1]; rfl
        have hpl := h3.plt
        have H3 : Hid (PsAt w4 p g c L k3 true) := h3
        have H4 : Hid (But p w.heap.size w w4) := D7.out.trans (h4.mono D7.out.size)
        obtain ⟨x0, x1, x2, y1, y2, _, _, _⟩ := h3
        clear h1 h4 HM4
        go_wp2_with fail
        go_ret
        have hal : Below w4.heap.size w4 (w4.alloc (Obj.cells #[.int .i64 1, .string ⟨#[]⟩, .string ⟨#[]⟩, .int .i64 0] 36)) := (Below.refl _ _).alloc (Nat.le_refl _) _
        have S6 := H3.out.below hal
        have S7 := H4.out.trans ((But.of_below (p := p) hal).mono H4.out.size)
        have R := ndRow_new (w := w4.alloc (Obj.cells #[.int .i64 1, .string ⟨#[]⟩, .string ⟨#[]⟩, .int .i64 0] 36)) (B := w.heap.size) ⟨1, ⟨#[]⟩, ⟨#[]⟩, 0⟩ 36 S7.size
        simp only [World.size_alloc] at R
        have hal2 := (Below.refl (w4.alloc (Obj.cells #[.int .i64 1, .string ⟨#[]⟩, .string ⟨#[]⟩, .int .i64 0] 36)).heap.size (w4.alloc (Obj.cells #[.int .i64 1, .string ⟨#[]⟩, .string ⟨#[]⟩, .int .i64 0] 36))).alloc (Nat.le_refl _) (Obj.cells #[.int .i64 1, .string ⟨#[]⟩, .string ⟨#[]⟩, .int .i64 0] 36)
        exact ⟨_, [⟨1, ⟨#[]⟩, ⟨#[]⟩, 0⟩], k3, true, rfl, S6.below hal2, Nat.le_refl _, by rw [HN.out]; exact hi, R, S7.trans ((But.of_below hal2).mono S7.size), .inr ⟨rfl, by simp; omega, HR1.out⟩⟩

theorem psOk_zero (F : FuncId) (m cc p g c : Nat) (L : List (List UInt8)) (hc : 1 ≤ cc) : PsOk F m cc p g c L 0 := by
  intro i w _ _ hf
  omega

/-- all parts of the parser, whatever the fuel -/
theorem ps_all (p g c : Nat) (L : List (List UInt8)) (hl : L.length ≤ 200) (hz : ∀ l ∈ L, l.length ≤ 200) : ∀ f q, q ≤ f → PsOk 64 0 1 p g c L q ∧ PsOk 47 1 2 p g c L q ∧ PsOk 28 2 3 p g c L q
  | 0, q, hq => by
    have : q = 0 := by omega
    subst this
    exact ⟨psOk_zero _ _ _ _ _ _ _ (by omega), psOk_zero _ _ _ _ _ _ _ (by omega), psOk_zero _ _ _ _ _ _ _ (by omega)⟩
  | f + 1, q, hq => by
    have ih := ps_all p g c L hl hz f
    by_cases h : q ≤ f
    · exact ih q h
    · have : q = f + 1 := by omega
      subst this
      exact ⟨not_ok p g c L f (ih f (Nat.le_refl _)).1 (ih f (Nat.le_refl _)).2.2 hl hz, and_ok p g c L f (fun q hq => (ih q hq).1) hl, or_ok p g c L f (fun q hq => (ih q hq).2.1) hl⟩

end Go.Proofs.YthjicahpfhjfdaaGreatDoor
