/-
  Walks: the specification's parser: signs and names.
-/
import Derived.Test.YtggbhggnemlpnaaGreatJ17
import Derived.Maps.AppendAt
namespace Go.Proofs.YtggbhggnemlpnaaGreat
open Go.RowKit

/-- the parser's cells: its tokens lie in another block -/
structure PsAt (w : World) (p g c : Nat) (L : List (List UInt8)) (i : Nat) (bad : Bool) : Prop where
  c0 : w.cell? ⟨p, 0, none⟩ = some (.slice (some ⟨g, 0, none⟩) L.length c)
  c1 : w.cell? ⟨p, 1, none⟩ = some (.int .i64 i)
  c2 : w.cell? ⟨p, 2, none⟩ = some (.bool bad)
  f1 : w.frozen? ⟨p, 1, none⟩ = false
  f2 : w.frozen? ⟨p, 2, none⟩ = false
  ne : g ≠ p
  lt : g < w.heap.size
  row : ∀ j l, L[j]? = some l → w.cell? ⟨g, j, none⟩ = some (.string (P.bts l))

theorem PsAt.below {w w' : World} {p g c : Nat} {L : List (List UInt8)} {i : Nat} {b : Bool} (h : PsAt w p g c L i b) (hb : Below w.heap.size w w') : PsAt w' p g c L i b := by
  have hp : p < w.heap.size := block_lt_of_cell h.c0
  exact ⟨(hb.cell (p := ⟨p, 0, none⟩) hp).trans h.c0, (hb.cell (p := ⟨p, 1, none⟩) hp).trans h.c1, (hb.cell (p := ⟨p, 2, none⟩) hp).trans h.c2, (hb.frozen (p := ⟨p, 1, none⟩) hp).trans h.f1, (hb.frozen (p := ⟨p, 2, none⟩) hp).trans h.f2, h.ne, Nat.lt_of_lt_of_le h.lt hb.size,
    fun j l hj => (hb.cell (p := ⟨g, j, none⟩) h.lt).trans (h.row j l hj)⟩
theorem PsAt.drew {w : World} {p g c : Nat} {L : List (List UInt8)} {i : Nat} {b : Bool} (h : PsAt w p g c L i b) : PsAt w.drew p g c L i b := ⟨h.c0, h.c1, h.c2, h.f1, h.f2, h.ne, h.lt, h.row⟩
theorem PsAt.plt {w : World} {p g c : Nat} {L : List (List UInt8)} {i : Nat} {b : Bool} (h : PsAt w p g c L i b) : p < w.heap.size := block_lt_of_cell h.c0

theorem cell_set_other {w : World} {p g o j : Nat} {v : Value} (h : g ≠ p) : (w.setCell ⟨p, o, none⟩ v).cell? ⟨g, j, none⟩ = w.cell? ⟨g, j, none⟩ :=
  World.cell?_of_block (w := w) (a := ⟨g, j, none⟩) (Below.heap_setCell w ⟨p, o, none⟩ v g h)

theorem PsAt.at {w : World} {p g c : Nat} {L : List (List UInt8)} {i : Nat} {b : Bool} (h : PsAt w p g c L i b) : PsAt (w.setCell ⟨p, 1, none⟩ (.int .i64 ((i : Int) + 1))) p g c L (i + 1) b := by
  obtain ⟨c0, c1, c2, f1, f2, ne, lt, row⟩ := h
  refine ⟨by simp [go_sem, c0], by simp [go_sem, c1], by simp [go_sem, c2], by simp [go_sem, f1], by simp [go_sem, f2], ne, by simpa [World.setCell] using lt, fun j l hj => (cell_set_other ne).trans (row j l hj)⟩

theorem PsAt.bad {w : World} {p g c : Nat} {L : List (List UInt8)} {i : Nat} {b : Bool} (h : PsAt w p g c L i b) : PsAt (w.setCell ⟨p, 2, none⟩ (.bool true)) p g c L i true := by
  obtain ⟨c0, c1, c2, f1, f2, ne, lt, row⟩ := h
  refine ⟨by simp [go_sem, c0], by simp [go_sem, c1], by simp [go_sem, c2], by simp [go_sem, f1], by simp [go_sem, f2], ne, by simpa [World.setCell] using lt, fun j l hj => (cell_set_other ne).trans (row j l hj)⟩

theorem bts_inj {a b : List UInt8} (h : P.bts a = P.bts b) : a = b := by
  unfold P.bts at h
  injection h with h
  simpa using h

theorem bts_beq (a b : List UInt8) : ((P.bts a).toList == (P.bts b).toList) = decide (a = b) := by
  rw [ByteArray.toList_eq, ByteArray.toList_eq, Bool.eq_iff_iff]
  simp [P.bts]

theorem tk_drop (s : UInt8) (L : List (List UInt8)) (i : Nat) : (P.tk s (L.drop i)).isSome = (match L[i]? with | some l => decide (l = [s]) | none => false) := by
  by_cases h : i < L.length
  · rw [List.drop_eq_getElem_cons h, List.getElem?_eq_getElem h]
    by_cases e : L[i] = [s]
    · simp [P.tk, e]
    · simp [P.tk, e]
  · rw [List.drop_eq_nil_of_le (by omega), List.getElem?_eq_none (by omega)]
    rfl

theorem tk_drop_some {s : UInt8} {L : List (List UInt8)} {i : Nat} (h : i < L.length) (e : L[i] = [s]) : P.tk s (L.drop i) = some (L.drop (i + 1)) := by
  rw [List.drop_eq_getElem_cons h]
  simp [P.tk, e]

set_option maxHeartbeats 1000000 in
theorem is_any (p g c : Nat) (L : List (List UInt8)) (i : Nat) (b : Bool) (s : UInt8) (w : World) (h : PsAt w p g c L i b) (hi : i ≤ L.length) :
    Calls Tryz.prog 150 #[.pointer (some ⟨p, 0, none⟩), .string ⟨#[s]⟩] w fun e w' => e = .returned (.bool (P.tk s (L.drop i)).isSome) ∧ w' = w.drew := by
  have HP : Hid (PsAt w p g c L i b) := h
  obtain ⟨c0, c1, c2, _, _, _, _, row⟩ := h
  rw [tk_drop]
  by_cases hlt : i < L.length
  · have r0 := row i _ (List.getElem?_eq_getElem hlt)
    have i0 : (0 : Int) ≤ (i : Int) := by omega
    have i1 : (i : Int) < (L.length : Int) := by omega
    have HE : Hid ((match L[i]? with | some l => decide (l = [s]) | none => false) = decide (L[i] = [s])) := by rw [List.getElem?_eq_getElem hlt]; rfl
    rw [HE.out]
    clear row HE c2
    have HB : Hid (((P.bts L[i]).toList == (⟨#[s]⟩ : ByteArray).toList) = decide (L[i] = [s])) := bts_beq L[i] [s]
    generalize P.bts L[i] = T at *
    go_enter Tryz.func150, Tryz.ntmps150
    go_wp2_with fail
    go_region
    go_wp2_with fail
    go_ret
    exact ⟨ret_bool (by have := HB.out; simpa using this), rfl⟩
  · have HE : Hid ((match L[i]? with | some l => decide (l = [s]) | none => false) = false) := by rw [List.getElem?_eq_none (by omega)]; rfl
    rw [HE.out]
    have i1 : ¬ (i : Int) < (L.length : Int) := by omega
    clear row HE c2
    go_enter Tryz.func150, Tryz.ntmps150
    go_wp2_with fail
    go_region
    go_wp2_with fail
    go_ret
    exact ⟨rfl, rfl⟩

set_option maxHeartbeats 1000000 in
theorem stake_any (p g c : Nat) (L : List (List UInt8)) (i : Nat) (b : Bool) (s : UInt8) (w : World) (h : PsAt w p g c L i b) (hi : i ≤ L.length) (hl : L.length ≤ 200) :
    Calls Tryz.prog 141 #[.pointer (some ⟨p, 0, none⟩), .string ⟨#[s]⟩] w fun e w' => ∃ k, e = .returned (.bool (P.tk s (L.drop i)).isSome) ∧ i ≤ k ∧ k ≤ L.length ∧ L.drop k = (P.tk s (L.drop i)).getD (L.drop i) ∧ ((P.tk s (L.drop i)).isSome = true → k = i + 1) ∧ ((P.tk s (L.drop i)).isSome = false → k = i) ∧ PsAt w' p g c L k b ∧ But p w.heap.size w w' := by
  have HP : Hid (PsAt w p g c L i b) := h
  clear h
  go_enter Tryz.func141, Tryz.ntmps141
  go_wp2_with fail
  refine (is_any p g c L i b s _ HP.out hi).mono ?_
  rintro e w1 ⟨rfl, rfl⟩
  have H1 : Hid (PsAt w.drew p g c L i b) := HP.out.drew
  have HB : Hid (But p w.heap.size w w.drew) := (But.refl _ _ _).drew
  generalize w.drew = w1 at *
  cases hT : P.tk s (L.drop i) with
  | none =>
    have HT : Hid (P.tk s (L.drop i) = none) := hT
    clear hT
    go_wp2_with fail
    go_ret
    exact ⟨i, (by rw [HT.out]; rfl), Nat.le_refl _, hi, (by rw [HT.out]; rfl), (fun h => by rw [HT.out] at h; cases h), (fun _ => rfl), H1.out, HB.out⟩
  | some r =>
    have hlt : i < L.length := by
      have := P.tk_some hT
      have h2 : (L.drop i).length = r.length + 1 := by rw [this]; rfl
      rw [List.length_drop] at h2
      omega
    have HR : Hid (L.drop (i + 1) = r) := by
      have h3 := P.tk_some hT
      rw [List.drop_eq_getElem_cons hlt] at h3
      injection h3
    have HT : Hid (P.tk s (L.drop i) = some r) := hT
    clear hT
    obtain ⟨c0, c1, c2, f1, f2, _, _, _⟩ := H1.out
    go_wp2_with fail
    go_ret
    exact ⟨i + 1, (by rw [HT.out]; rfl), by omega, by omega, (by rw [HT.out, HR.out]; rfl), (fun _ => rfl), (fun h => by rw [HT.out] at h; cases h), H1.out.at, HB.out.set _ _⟩

theorem nm_drop_some {L : List (List UInt8)} {i : Nat} (h : i < L.length) (e : P.nmB L[i] = true) : P.nm (L.drop i) = some (L[i], L.drop (i + 1)) := by
  rw [List.drop_eq_getElem_cons h]
  simp [P.nm, e]

theorem nm_drop_none {L : List (List UInt8)} {i : Nat} (h : ∀ hi : i < L.length, P.nmB L[i] = false) : P.nm (L.drop i) = none := by
  by_cases hi : i < L.length
  · rw [List.drop_eq_getElem_cons hi]
    simp [P.nm, h hi]
  · rw [List.drop_eq_nil_of_le (by omega)]
    rfl

set_option maxHeartbeats 2000000 in
theorem sname_any (p g c : Nat) (L : List (List UInt8)) (i : Nat) (w : World) (h : PsAt w p g c L i false) (hi : i ≤ L.length) (hl : L.length ≤ 200) (hz : ∀ l ∈ L, l.length ≤ 200) :
    Calls Tryz.prog 155 #[.pointer (some ⟨p, 0, none⟩)] w fun e w' =>
      (∃ n, P.nm (L.drop i) = some (n, L.drop (i + 1)) ∧ i < L.length ∧ e = .returned (.string (P.bts n)) ∧ PsAt w' p g c L (i + 1) false ∧ But p w.heap.size w w') ∨
      (P.nm (L.drop i) = none ∧ e = .returned (.string ⟨#[]⟩) ∧ PsAt w' p g c L i true ∧ But p w.heap.size w w') := by
  have HP : Hid (PsAt w p g c L i false) := h
  obtain ⟨c0, c1, c2, f1, f2, _, _, row⟩ := h
  by_cases hlt : i < L.length
  · have r0 := row i _ (List.getElem?_eq_getElem hlt)
    have i0 : (0 : Int) ≤ (i : Int) := by omega
    have i1 : (i : Int) < (L.length : Int) := by omega
    have hsz : (P.bts L[i]).size ≤ maxLen := by
      have := hz L[i] (List.getElem_mem hlt)
      unfold maxLen P.bts
      simp [ByteArray.size]
      omega
    have HQ : Hid (P.nameOk (P.bts L[i]) = P.nmB L[i]) := P.nmB_eq _
    have HY : Hid (P.nmB L[i] = true → P.nm (L.drop i) = some (L[i], L.drop (i + 1))) := nm_drop_some hlt
    have HN : Hid (P.nmB L[i] = false → P.nm (L.drop i) = none) := fun e => nm_drop_none (fun _ => e)
    have k0 := cell_regrown c0
    have k1 := cell_regrown c1
    have k2 := cell_regrown r0
    clear row c2
    cases hq : P.nmB L[i] with
    | true =>
      have HY' : Hid (P.nm (L.drop i) = some (L[i], L.drop (i + 1))) := HY.out hq
      have cE : ∀ d os, Calls Tryz.prog 47 #[.string (P.bts L[i])] (Sort.grow (redrawn w d) os) fun e w'' => e = .returned (.bool true) ∧ ∃ p : Regrown, w'' = Sort.grow (redrawn w p.d) p.os := fun d os => (nameOk_any (P.bts L[i]) _ hsz).mono (by rintro e w' ⟨rfl, rfl⟩; exact ⟨by rw [HQ.out, hq], ⟨d, os⟩, rfl⟩)
      clear hq HY HN HQ hz hsz c0 c1 r0 f1 f2
      generalize hT : P.bts L[i] = T at *
      have HT : Hid (P.bts L[i] = T) := hT
      clear hT
      go_enter Tryz.func155, Tryz.ntmps155
      go_wp2_with fail
      refine wp_region_quiet_below (by kernel_rfl) (by kernel_rfl) ?_
      repeat (quiet_step (first | exact cE _ _))
      refine wpQuiet_nil ?_
      intro wq hw'
      obtain ⟨⟨dq, osq⟩, hw''⟩ := hw'
      have hbq : Below w.heap.size w wq := by
        simp only [] at hw''
        rw [hw'']; exact below_regrown w dq osq
      have G : Hid (PsAt wq p g c L i false) := HP.out.below hbq
      have GB : Hid (But p w.heap.size w wq) := But.of_below hbq
      clear hw'' hbq cE k0 k1 k2
      have G1 : Hid (PsAt (wq.setCell ⟨p, 1, none⟩ (.int .i64 ((i : Int) + 1))) p g c L (i + 1) false) := G.out.at
      have r1 : (wq.setCell ⟨p, 1, none⟩ (.int .i64 ((i : Int) + 1))).cell? ⟨g, i, none⟩ = some (.string T) := by rw [← HT.out]; exact G1.out.row i _ (List.getElem?_eq_getElem hlt)
      obtain ⟨d0, d1, d2, e1, e2, _, _, _⟩ := G.out
      obtain ⟨x0, x1, x2, _, _, _, _, _⟩ := G1.out
      go_upto_region 5 with fail
      have GB1 : Hid (But p w.heap.size w (wq.setCell ⟨p, 1, none⟩ (.int .i64 ((i : Int) + 1)))) := GB.out.set _ _
      clear d0 d1 d2 e1 e2
      generalize wq.setCell ⟨p, 1, none⟩ (.int .i64 ((i : Int) + 1)) = w8 at *
      go_region
      go_wp2_with fail
      go_ret
      exact .inl ⟨_, HY'.out, hlt, by rw [HT.out]; rfl, G1.out.drew, GB1.out.drew⟩
    | false =>
      have HN' : Hid (P.nm (L.drop i) = none) := HN.out hq
      have cE : ∀ d os, Calls Tryz.prog 47 #[.string (P.bts L[i])] (Sort.grow (redrawn w d) os) fun e w'' => e = .returned (.bool false) ∧ ∃ p : Regrown, w'' = Sort.grow (redrawn w p.d) p.os := fun d os => (nameOk_any (P.bts L[i]) _ hsz).mono (by rintro e w' ⟨rfl, rfl⟩; exact ⟨by rw [HQ.out, hq], ⟨d, os⟩, rfl⟩)
      clear hq HY HN HQ hz hsz c0 c1 r0 f1 f2
      generalize P.bts L[i] = T at *
      go_enter Tryz.func155, Tryz.ntmps155
      go_wp2_with fail
      refine wp_region_quiet_below (by kernel_rfl) (by kernel_rfl) ?_
      repeat (quiet_step (first | exact cE _ _))
      refine wpQuiet_nil ?_
      intro wq hw'
      obtain ⟨⟨dq, osq⟩, hw''⟩ := hw'
      have hbq : Below w.heap.size w wq := by
        simp only [] at hw''
        rw [hw'']; exact below_regrown w dq osq
      have G : Hid (PsAt wq p g c L i false) := HP.out.below hbq
      have GB : Hid (But p w.heap.size w wq) := But.of_below hbq
      clear hw'' hbq cE k0 k1 k2
      obtain ⟨d0, d1, d2, e1, e2, _, _, _⟩ := G.out
      go_wp2_with fail
      go_ret
      exact .inr ⟨HN'.out, rfl, G.out.bad, GB.out.set _ _⟩
  · have HN' : Hid (P.nm (L.drop i) = none) := nm_drop_none (fun h => absurd h hlt)
    have i1 : ¬ (i : Int) < (L.length : Int) := by omega
    clear row hz
    go_enter Tryz.func155, Tryz.ntmps155
    go_wp2_with fail
    go_region
    have G : Hid (PsAt w.drew p g c L i false) := HP.out.drew
    have GB : Hid (But p w.heap.size w w.drew) := (But.refl _ _ _).drew
    clear c0 c1 c2 f1 f2
    generalize w.drew = wq at *
    obtain ⟨d0, d1, d2, e1, e2, _, _, _⟩ := G.out
    go_wp2_with fail
    go_ret
    exact .inr ⟨HN'.out, rfl, G.out.bad, GB.out.set _ _⟩

end Go.Proofs.YtggbhggnemlpnaaGreat
