/-
  Walks: nodes marked, and the marks looked up.
-/
import Derived.Test.YtohgbmjjiohjeaaDoorMkt
import Derived.Test.YtohgbmjjiohjeaaDoorPrs
namespace Go.Proofs.YtohgbmjjiohjeaaDoor
open Go.RowKit

/-- what a mark is at a place of a node -/
def mkV (k : Nat) : Nat → Value
  | 0 => .int .i64 (k : Nat)
  | 1 => .string (mtOf (k + 1))
  | 2 => .string (mtOf (k + 2))
  | _ => .int .i64 ((k + 3 : Nat) : Int)

/-- marking under way: i nodes are marked, and c places of the next one -/
structure MkSt (w0 w : World) (g n i c : Nat) : Prop where
  th : ∀ o, o < n * 4 → ∃ u, w.cell? ⟨g, o, none⟩ = some u ∧ w.frozen? ⟨g, o, none⟩ = false
  old : ∀ j d, d < 4 → (j < i ∨ j = i ∧ d < c) → w.cell? ⟨g, j * 4 + d, none⟩ = some (mkV (1 + 4 * j) d)
  kept : ∀ a u, w0.cell? a = some u → a.block ≠ g → w.cell? a = some u
  bel : Below g w0 w

theorem MkSt.below {w0 w w' : World} {g n i c : Nat} (h : MkSt w0 w g n i c) (hb : Below w.heap.size w w') (hg : g ≤ w.heap.size) : MkSt w0 w' g n i c where
  th := fun o ho => by
    obtain ⟨u, h1, h2⟩ := h.th o ho
    have hl := block_lt_of_cell h1
    exact ⟨u, (hb.cell (p := ⟨g, o, none⟩) hl).trans h1, (hb.frozen (p := ⟨g, o, none⟩) hl).trans h2⟩
  old := fun j d hd hj => by
    have h1 := h.old j d hd hj
    exact (hb.cell (p := ⟨g, _, none⟩) (block_lt_of_cell h1)).trans h1
  kept := fun a u hc hn => by
    have h1 := h.kept a u hc hn
    exact (hb.cell (p := a) (block_lt_of_cell h1)).trans h1
  bel := h.bel.trans (hb.mono hg)

theorem addr_ne {g a b : Nat} (h : a ≠ b) : (⟨g, a, none⟩ : Addr) ≠ ⟨g, b, none⟩ := fun e => by injection e with _ e _; exact h e

theorem MkSt.set {w0 w : World} {g n i c : Nat} (h : MkSt w0 w g n i c) (hi : i < n) (hc : c < 4) : MkSt w0 (w.setCell ⟨g, i * 4 + c, none⟩ (mkV (1 + 4 * i) c)) g n i (c + 1) where
  th := fun o ho => by
    obtain ⟨u, h1, h2⟩ := h.th o ho
    by_cases e : i * 4 + c = o
    · subst e
      exact ⟨_, World.cell?_setCell_same _ _ _ h1, by rw [World.frozen?_setCell]; exact h2⟩
    · exact ⟨u, (World.cell?_setCell_other _ _ _ _ (addr_ne e)).trans h1, by rw [World.frozen?_setCell]; exact h2⟩
  old := fun j d hd hj => by
    by_cases e : i * 4 + c = j * 4 + d
    · have e1 : j = i := by omega
      have e2 : d = c := by omega
      subst e1 e2
      obtain ⟨u, h1, _⟩ := h.th (j * 4 + d) (by omega)
      exact World.cell?_setCell_same _ _ _ h1
    · exact (World.cell?_setCell_other _ _ _ _ (addr_ne e)).trans (h.old j d hd (by omega))
  kept := fun a u hc hn => (World.cell?_setCell_other _ _ _ _ (fun e => hn (by rw [← e]))).trans (h.kept a u hc hn)
  bel := h.bel.setCell (Nat.le_refl _) _

theorem MkSt.next {w0 w : World} {g n i : Nat} (h : MkSt w0 w g n i 4) : MkSt w0 w g n (i + 1) 0 where
  th := h.th
  old := fun j d hd hj => h.old j d hd (by omega)
  kept := h.kept
  bel := h.bel

theorem markTextI (z : Int) (k : Nat) (w : World) (hz : z = k) (h0 : 0 < k) (h1 : k ≤ 2000) :
    Calls Tryd.prog 32 #[.int .i64 z] w fun e w' => e = .returned (.string (mtOf k)) ∧ Below w.heap.size w w' := by
  subst hz
  exact markText_any k w h0 h1

set_option maxHeartbeats 2000000 in
set_option maxRecDepth 100000 in
theorem markNodeS_any (g n cap : Nat) (w : World) (hn : n ≤ 400) (hs : MkSt w w g n 0 0) (hgl : g < w.heap.size) :
    Calls Tryd.prog 15 #[.slice (some ⟨g, 0, none⟩) n cap, .int .i64 1] w fun e w' => e = .returned (.int .i64 ((1 + 4 * n : Nat) : Int)) ∧ MkSt w w' g n n 0 ∧ w.heap.size ≤ w'.heap.size := by
  have HS : Hid (MkSt w w g n 0 0) := hs
  clear hs
  go_enter Tryd.func15, Tryd.ntmps15
  go_wp2_with fail
  go_loopw [1, 5] (fun v j wr => ∃ (i k : Nat), i ≤ n ∧ k = 1 + 4 * i ∧ j = .int .i64 i ∧ v = .int .i64 k ∧ Hid (MkSt w wr g n i 0) ∧ Hid (w.heap.size ≤ wr.heap.size)) (fun _ j _ => n - (intOf j).toNat)
  case atStart => exact ⟨0, 1, Nat.zero_le _, rfl, rfl, rfl, HS, Nat.le_refl _⟩
  case round =>
    obtain ⟨i, k, hi, hk, rfl, rfl, HM, HZ⟩ := hrel
    clear HS
    by_cases hlt : i < n
    · obtain ⟨u0, c0, f0⟩ := HM.out.th (i * 4) (by omega)
      have i0 : (0 : Int) ≤ (i : Int) := by omega
      have i1 : (i : Int) < (n : Int) := by omega
      have hk2 : k ≤ 1700 := by omega
      have HK : Hid (k = 1 + 4 * i) := hk
      clear hk
      go_upto_region 5 with fail
      have M1 : Hid (MkSt w (wr.setCell ⟨g, i * 4, none⟩ (.int .i64 k)) g n i 1) := by
        have := HM.out.set hlt (c := 0) (by omega)
        rw [← HK.out] at this
        exact this
      have Z1 : Hid (w.heap.size ≤ (wr.setCell ⟨g, i * 4, none⟩ (.int .i64 k)).heap.size) := by show _ ≤ _; have := HZ.out; simpa [World.setCell] using this
      clear HM HZ c0 f0
      generalize wr.setCell ⟨g, i * 4, none⟩ (.int .i64 k) = wa at *
      go_wp2_with fail
      refine (markTextI _ (k + 1) _ (by omega) (by omega) (by omega)).mono ?_
      rintro e wb ⟨rfl, hb⟩
      have M2 : Hid (MkSt w wb g n i 1) := M1.out.below hb (by have := Z1.out; omega)
      have Z2 : Hid (w.heap.size ≤ wb.heap.size) := Nat.le_trans Z1.out hb.size
      clear hb M1 Z1
      obtain ⟨u1, c1, f1⟩ := M2.out.th (i * 4 + 1) (by omega)
      go_upto_region 7 with fail
      have M3 : Hid (MkSt w (wb.setCell ⟨g, i * 4 + 1, none⟩ (.string (mtOf (k + 1)))) g n i 2) := by
        have := M2.out.set hlt (c := 1) (by omega)
        rw [← HK.out] at this
        exact this
      have Z3 : Hid (w.heap.size ≤ (wb.setCell ⟨g, i * 4 + 1, none⟩ (.string (mtOf (k + 1)))).heap.size) := by show _ ≤ _; have := Z2.out; simpa [World.setCell] using this
      clear M2 Z2 c1 f1
      generalize wb.setCell ⟨g, i * 4 + 1, none⟩ (.string (mtOf (k + 1))) = wc at *
      go_wp2_with fail
      refine (markTextI _ (k + 2) _ (by omega) (by omega) (by omega)).mono ?_
      rintro e wd ⟨rfl, hb⟩
      have M4 : Hid (MkSt w wd g n i 2) := M3.out.below hb (by have := Z3.out; omega)
      have Z4 : Hid (w.heap.size ≤ wd.heap.size) := Nat.le_trans Z3.out hb.size
      clear hb M3 Z3
      obtain ⟨u2, c2, f2⟩ := M4.out.th (i * 4 + 2) (by omega)
      go_upto_region 9 with fail
      have M5 : Hid (MkSt w (wd.setCell ⟨g, i * 4 + 2, none⟩ (.string (mtOf (k + 2)))) g n i 3) := by
        have := M4.out.set hlt (c := 2) (by omega)
        rw [← HK.out] at this
        exact this
      have Z5 : Hid (w.heap.size ≤ (wd.setCell ⟨g, i * 4 + 2, none⟩ (.string (mtOf (k + 2)))).heap.size) := by show _ ≤ _; have := Z4.out; simpa [World.setCell] using this
      clear M4 Z4 c2 f2
      generalize wd.setCell ⟨g, i * 4 + 2, none⟩ (.string (mtOf (k + 2))) = we at *
      obtain ⟨u3, c3, f3⟩ := M5.out.th (i * 4 + 3) (by omega)
      have M6 : Hid (MkSt w (we.setCell ⟨g, i * 4 + 3, none⟩ (.int .i64 ((k + 3 : Nat) : Int))) g n i 4) := by
        have := M5.out.set hlt (c := 3) (by omega)
        rw [← HK.out] at this
        exact this
      have Z6 : Hid (w.heap.size ≤ (we.setCell ⟨g, i * 4 + 3, none⟩ (.int .i64 ((k + 3 : Nat) : Int))).heap.size) := by show _ ≤ _; have := Z5.out; simpa [World.setCell] using this
      clear M5 Z5
      go_wp2_with fail
      go_roundw
      case rel => exact ⟨i + 1, k + 4, by omega, by have := HK.out; omega, by go_num, by go_num, M6.out.next, Z6⟩
      case measure => simp [intOf]; omega
    · have hie : i = n := by omega
      subst hie
      have HK : Hid (k = 1 + 4 * i) := hk
      clear hk
      go_wp2_with fail
      go_ret
      exact ⟨ret_int (by rw [HK.out]), HM.out, HZ.out⟩

set_option maxHeartbeats 2000000 in
set_option maxRecDepth 100000 in
theorem heldNodeS_any (g n cap : Nat) (w0 w : World) (hn : n ≤ 400) (hs : MkSt w0 w g n n 0) :
    Calls Tryd.prog 16 #[.slice (some ⟨g, 0, none⟩) n cap, .int .i64 1] w fun e w' => e = .returned (.int .i64 ((1 + 4 * n : Nat) : Int)) ∧ Below w.heap.size w w' := by
  have HS : Hid (MkSt w0 w g n n 0) := hs
  clear hs
  go_enter Tryd.func16, Tryd.ntmps16
  go_wp2_with fail
  go_loopw [1, 5] (fun v j wr => ∃ (i k : Nat), i ≤ n ∧ Hid (k = 1 + 4 * i) ∧ k ≤ 1700 ∧ j = .int .i64 i ∧ v = .int .i64 k ∧ Hid (Below w.heap.size w wr)) (fun _ j _ => n - (intOf j).toNat)
  case atStart => exact ⟨0, 1, Nat.zero_le _, rfl, by omega, rfl, rfl, Below.refl _ _⟩
  case round =>
    obtain ⟨i, k, hi, HK, hk2, rfl, rfl, HB⟩ := hrel
    by_cases hlt : i < n
    · have get : Hid (∀ d, d < 4 → wr.cell? ⟨g, i * 4 + d, none⟩ = some (mkV k d)) := fun d hd => by
        have h1 := HS.out.old i d hd (.inl hlt)
        rw [← HK.out] at h1
        exact (HB.out.cell (p := ⟨g, _, none⟩) (block_lt_of_cell h1)).trans h1
      have c0 : wr.cell? ⟨g, i * 4, none⟩ = some (.int .i64 k) := get.out 0 (by omega)
      have i0 : (0 : Int) ≤ (i : Int) := by omega
      have i1 : (i : Int) < (n : Int) := by omega
      have hk3 : k + 4 ≤ 1700 := by have := HK.out; omega
      go_upto_region 7 with fail
      clear c0
      have c1 : wr.cell? ⟨g, i * 4 + 1, none⟩ = some (.string (mtOf (k + 1))) := get.out 1 (by omega)
      have CT1 : Hid (∀ W, Calls Tryd.prog 32 #[.int .i64 ((k : Int) + 1)] W fun e w' => e = .returned (.string (mtOf (k + 1))) ∧ Below W.heap.size W w') := fun W => markTextI _ (k + 1) W (by omega) (by omega) (by omega)
      generalize mtOf (k + 1) = s1 at *
      have r := cell_regrown c1
      have cM : ∀ d os, Calls Tryd.prog 32 #[.int .i64 ((k : Int) + 1)] (Sort.grow (redrawn wr d) os) fun e w'' => e = .returned (.string s1) ∧ ∃ p : Regrown, w'' = Sort.grow (redrawn wr p.d) p.os := fun d os => Calls.regrown_of (CT1.out _)
      clear c1
      refine wp_region_quiet_below (by kernel_rfl) (by kernel_rfl) ?_
      repeat (quiet_step (exact cM _ _))
      refine wpQuiet_nil ?_
      intro wa hw'
      obtain ⟨⟨dq, osq⟩, hw''⟩ := hw'
      have hB := below_regrown wr dq osq
      simp only [] at hw''
      rw [← hw''] at hB
      clear hw'' cM r
      have HB1 : Hid (Below w.heap.size w wa) := HB.out.trans (hB.mono HB.out.size)
      have get1 : Hid (∀ d, d < 4 → wa.cell? ⟨g, i * 4 + d, none⟩ = some (mkV k d)) := fun d hd => by
        have h1 := HS.out.old i d hd (.inl hlt)
        rw [← HK.out] at h1
        exact (HB1.out.cell (p := ⟨g, _, none⟩) (block_lt_of_cell h1)).trans h1
      clear hB get CT1
      have c2 : wa.cell? ⟨g, i * 4 + 2, none⟩ = some (.string (mtOf (k + 2))) := get1.out 2 (by omega)
      have CT2 : Hid (∀ W, Calls Tryd.prog 32 #[.int .i64 ((k : Int) + 1 + 1)] W fun e w' => e = .returned (.string (mtOf (k + 2))) ∧ Below W.heap.size W w') := fun W => markTextI _ (k + 2) W (by omega) (by omega) (by omega)
      generalize mtOf (k + 2) = s2 at *
      go_upto_region 10 with fail
      have r := cell_regrown c2
      have cM : ∀ d os, Calls Tryd.prog 32 #[.int .i64 ((k : Int) + 1 + 1)] (Sort.grow (redrawn wa d) os) fun e w'' => e = .returned (.string s2) ∧ ∃ p : Regrown, w'' = Sort.grow (redrawn wa p.d) p.os := fun d os => Calls.regrown_of (CT2.out _)
      clear c2
      refine wp_region_quiet_below (by kernel_rfl) (by kernel_rfl) ?_
      repeat (quiet_step (exact cM _ _))
      refine wpQuiet_nil ?_
      intro wb hw'
      obtain ⟨⟨dq, osq⟩, hw''⟩ := hw'
      have hB := below_regrown wa dq osq
      simp only [] at hw''
      rw [← hw''] at hB
      clear hw'' cM r
      have HB2 : Hid (Below w.heap.size w wb) := HB1.out.trans (hB.mono HB1.out.size)
      have c3 : wb.cell? ⟨g, i * 4 + 3, none⟩ = some (.int .i64 ((k + 3 : Nat) : Int)) := by
        have h1 := HS.out.old i 3 (by omega) (.inl hlt)
        rw [← HK.out] at h1
        exact (HB2.out.cell (p := ⟨g, _, none⟩) (block_lt_of_cell h1)).trans h1
      clear hB get1 CT2
      go_wp2_with fail
      go_roundw
      case rel => exact ⟨i + 1, k + 4, by omega, by have := HK.out; show _ = _; omega, by omega, by go_num, by go_num, HB2⟩
      case measure => simp [intOf]; omega
    · have hie : i = n := by omega
      subst hie
      go_wp2_with fail
      go_ret
      exact ⟨ret_int (by rw [HK.out]), HB.out⟩

end Go.Proofs.YtohgbmjjiohjeaaDoor
