import Derived.Test.YtmclbfkcbadnpaaGreatJ32
namespace Go.Proofs.YtmclbfkcbadnpaaGreat
open Go.RowKit Go.WideMaps Go.Maps

def selS (t : ByteArray) (ms : List ByteArray) (z : ByteArray) : Bool := decide (codeOf t = 0) && meetsS (zMarks ms z) (treeOf t)

theorem sel_nodes {t : ByteArray} (h : codeOf t = 0) : 0 < (nodesOf t).length ∧ Small (nodesOf t) ∧ ∀ ms, meetsNs (nodesOf t) ms = meetsS ms (treeOf t) := by
 obtain ⟨hw, hn, h20, hc⟩ := tree_facts h
 rw [nodesOf_yes h rfl]
 rcases hn with e | hn
 ·rw [e]
  refine ⟨by decide, ⟨by decide, ?_⟩, fun ms => rfl⟩
  intro n hn
  simp [post, P.nonT] at hn
  subst hn
  exact ⟨Nat.zero_le _, Nat.zero_le _⟩
 ·have hv := valid_post hw hn (by omega)
  have ht := treeI_post hw hn
  rw [decide_eq_true h20] at hv
  rw [if_pos h20] at ht
  refine ⟨?_, ⟨?_, ?_⟩, fun ms => ?_⟩
  ·rw [post_len _ hw]
   rcases P.wf_cases hw with e | ⟨n, e⟩ | ⟨n, v, e⟩ | ⟨k, _, e⟩ | ⟨a, b, _, _, e⟩ | ⟨a, b, _, _, e⟩
   ·rw [e]; decide
   ·rw [e]; exact Nat.one_pos
   ·rw [e]; exact Nat.one_pos
   ·rw [e, P.count_nt]; omega
   ·rw [e, P.count_an]; omega
   ·rw [e, P.count_or]; omega
  ·rw [post_len _ hw]; omega
  ·intro n hm
   have := post_small _ hw hn n hm
   omega
  ·rw [meetsNs, hv, ht]
   rfl

def SevC (p q : Nat) (c0 c1 c2 c3 c4 c5 c6 : Value) (w : World) : Prop := w.cell? ⟨p, 0, none⟩ = some c0 ∧ w.cell? ⟨p, 1, none⟩ = some c1 ∧ w.cell? ⟨p, 2, none⟩ = some c2 ∧ w.cell? ⟨p, 3, none⟩ = some c3 ∧ w.cell? ⟨p, 4, none⟩ = some c4 ∧ w.cell? ⟨p, 5, none⟩ = some c5 ∧ w.cell? ⟨q, 0, none⟩ = some c6

theorem SevC.below {p q : Nat} {c0 c1 c2 c3 c4 c5 c6 : Value} {w w' : World} (h : SevC p q c0 c1 c2 c3 c4 c5 c6 w) (hb : Below w.heap.size w w') : SevC p q c0 c1 c2 c3 c4 c5 c6 w' := by
 obtain ⟨h0, h1, h2, h3, h4, h5, h6⟩ := h
 exact ⟨(hb.cell (p := ⟨p, 0, none⟩) (block_lt_of_cell h0)).trans h0, (hb.cell (p := ⟨p, 1, none⟩) (block_lt_of_cell h1)).trans h1, (hb.cell (p := ⟨p, 2, none⟩) (block_lt_of_cell h2)).trans h2, (hb.cell (p := ⟨p, 3, none⟩) (block_lt_of_cell h3)).trans h3, (hb.cell (p := ⟨p, 4, none⟩) (block_lt_of_cell h4)).trans h4, (hb.cell (p := ⟨p, 5, none⟩) (block_lt_of_cell h5)).trans h5, (hb.cell (p := ⟨q, 0, none⟩) (block_lt_of_cell h6)).trans h6⟩

set_option maxHeartbeats 4000000 in
set_option maxRecDepth 100000 in
theorem l3Select_any (t nm z : ByteArray) (ms : List ByteArray) (a : Option Addr) (cap lo : Nat) (rm hd : Int) (cl : Bool) (w : World) (hin : SliceC StrC 1 lo w a ms) (hml : ms.length ≤ 1000) (hz : z.size ≤ 1000) (ht : t.size ≤ maxLen) :
  Calls Tryz.prog 55 #[.string t, .agg #[.string nm, .string z, .slice a ms.length cap, .int .i64 rm, .int .i64 hd, .bool cl]] w fun e w' => e = .returned (.bool (selS t ms z)) ∧ Below w.heap.size w w' := by
 have HSZ : Hid (∀ s ∈ ms, s.size ≤ maxLen) := fun s hs => by
  obtain ⟨j, hj⟩ := List.getElem?_of_mem hs
  obtain ⟨_, _, _, _, _, hc⟩ := hin.at hj
  exact hc.2
 have HI : Hid (SliceC StrC 1 lo w a ms) := hin
 clear hin
 go_enter Tryz.func55, Tryz.ntmps55
 go_upto_region 1 with fail
 have hal : Below w.heap.size w (w.alloc (Obj.cells #[.string nm, .string z, .slice a ms.length cap, .int .i64 rm, .int .i64 hd, .bool cl] 55)) := (Below.refl _ _).alloc (Nat.le_refl _) _
 have e0 : (w.alloc (Obj.cells #[.string nm, .string z, .slice a ms.length cap, .int .i64 rm, .int .i64 hd, .bool cl] 55)).cell? ⟨w.heap.size, 0, none⟩ = some (.string nm) := by simp
 have e1 : (w.alloc (Obj.cells #[.string nm, .string z, .slice a ms.length cap, .int .i64 rm, .int .i64 hd, .bool cl] 55)).cell? ⟨w.heap.size, 1, none⟩ = some (.string z) := by simp
 have e2 : (w.alloc (Obj.cells #[.string nm, .string z, .slice a ms.length cap, .int .i64 rm, .int .i64 hd, .bool cl] 55)).cell? ⟨w.heap.size, 2, none⟩ = some (.slice a ms.length cap) := by simp
 have e3 : (w.alloc (Obj.cells #[.string nm, .string z, .slice a ms.length cap, .int .i64 rm, .int .i64 hd, .bool cl] 55)).cell? ⟨w.heap.size, 3, none⟩ = some (.int .i64 rm) := by simp
 have e4 : (w.alloc (Obj.cells #[.string nm, .string z, .slice a ms.length cap, .int .i64 rm, .int .i64 hd, .bool cl] 55)).cell? ⟨w.heap.size, 4, none⟩ = some (.int .i64 hd) := by simp
 have e5 : (w.alloc (Obj.cells #[.string nm, .string z, .slice a ms.length cap, .int .i64 rm, .int .i64 hd, .bool cl] 55)).cell? ⟨w.heap.size, 5, none⟩ = some (.bool cl) := by simp
 have HI1 : Hid (SliceC StrC 1 lo (w.alloc (Obj.cells #[.string nm, .string z, .slice a ms.length cap, .int .i64 rm, .int .i64 hd, .bool cl] 55)) a ms) := HI.out.below StrC.holds hal (Nat.le_refl _)
 have HB1 : Hid (Below w.heap.size w (w.alloc (Obj.cells #[.string nm, .string z, .slice a ms.length cap, .int .i64 rm, .int .i64 hd, .bool cl] 55))) := hal
 clear hal HI
 generalize (w.alloc (Obj.cells #[.string nm, .string z, .slice a ms.length cap, .int .i64 rm, .int .i64 hd, .bool cl] 55)) = w1 at *
 go_wp2_with fail
 refine (parse_any t _ ht).mono ?_
 rintro e w2 ⟨an, cn, rfl, hn, hb2⟩
 have HE0 : Hid (w2.cell? ⟨w.heap.size, 0, none⟩ = some (.string nm)) := (hb2.cell (p := ⟨w.heap.size, 0, none⟩) (block_lt_of_cell e0)).trans e0
 have HE1 : Hid (w2.cell? ⟨w.heap.size, 1, none⟩ = some (.string z)) := (hb2.cell (p := ⟨w.heap.size, 1, none⟩) (block_lt_of_cell e1)).trans e1
 have HE2 : Hid (w2.cell? ⟨w.heap.size, 2, none⟩ = some (.slice a ms.length cap)) := (hb2.cell (p := ⟨w.heap.size, 2, none⟩) (block_lt_of_cell e2)).trans e2
 have HE3 : Hid (w2.cell? ⟨w.heap.size, 3, none⟩ = some (.int .i64 rm)) := (hb2.cell (p := ⟨w.heap.size, 3, none⟩) (block_lt_of_cell e3)).trans e3
 have HE4 : Hid (w2.cell? ⟨w.heap.size, 4, none⟩ = some (.int .i64 hd)) := (hb2.cell (p := ⟨w.heap.size, 4, none⟩) (block_lt_of_cell e4)).trans e4
 have HE5 : Hid (w2.cell? ⟨w.heap.size, 5, none⟩ = some (.bool cl)) := (hb2.cell (p := ⟨w.heap.size, 5, none⟩) (block_lt_of_cell e5)).trans e5
 have HI2 : Hid (SliceC StrC 1 lo w2 a ms) := HI1.out.below StrC.holds hb2 (Nat.le_refl _)
 have HB2 : Hid (Below w.heap.size w w2) := HB1.out.trans (hb2.mono HB1.out.size)
 have HN2 : Hid (NdIn w2 0 an (nodesOf t)) := hn.imp id (fun ⟨g, h1, _, h3⟩ => ⟨g, h1, Nat.zero_le _, h3⟩)
 clear hb2 hn HI1 HB1 e0 e1 e2 e3 e4 e5
 have hal : Below w2.heap.size w2 (w2.alloc (Obj.cells #[.slice an (nodesOf t).length cn] 142)) := (Below.refl _ _).alloc (Nat.le_refl _) _
 have HI3 : Hid (SliceC StrC 1 lo (w2.alloc (Obj.cells #[.slice an (nodesOf t).length cn] 142)).drew a ms) := (HI2.out.below StrC.holds hal (Nat.le_refl _)).below StrC.holds ((Below.refl _ (w2.alloc (Obj.cells #[.slice an (nodesOf t).length cn] 142))).drew) (Nat.le_refl _)
 have HB3 : Hid (Below w.heap.size w (w2.alloc (Obj.cells #[.slice an (nodesOf t).length cn] 142)).drew) := (HB2.out.trans (hal.mono HB2.out.size)).drew
 have HN3 : Hid (∀ g, Nodes0 w2 g (nodesOf t) → Nodes0 (w2.alloc (Obj.cells #[.slice an (nodesOf t).length cn] 142)).drew g (nodesOf t)) := fun g h => (h.grown hal).grown ((Below.refl _ (w2.alloc (Obj.cells #[.slice an (nodesOf t).length cn] 142))).drew)
 have HS3 : Hid (SevC w.heap.size w2.heap.size (.string nm) (.string z) (.slice a ms.length cap) (.int .i64 rm) (.int .i64 hd) (.bool cl) (.slice an (nodesOf t).length cn) (w2.alloc (Obj.cells #[.slice an (nodesOf t).length cn] 142))) := SevC.below (w := (w2.alloc (Obj.cells #[.slice an (nodesOf t).length cn] 142))) ⟨(hal.cell (p := ⟨w.heap.size, 0, none⟩) (block_lt_of_cell HE0.out)).trans HE0.out, (hal.cell (p := ⟨w.heap.size, 1, none⟩) (block_lt_of_cell HE1.out)).trans HE1.out, (hal.cell (p := ⟨w.heap.size, 2, none⟩) (block_lt_of_cell HE2.out)).trans HE2.out, (hal.cell (p := ⟨w.heap.size, 3, none⟩) (block_lt_of_cell HE3.out)).trans HE3.out, (hal.cell (p := ⟨w.heap.size, 4, none⟩) (block_lt_of_cell HE4.out)).trans HE4.out, (hal.cell (p := ⟨w.heap.size, 5, none⟩) (block_lt_of_cell HE5.out)).trans HE5.out, by simp⟩ (Below.refl _ _)
 clear hal
 by_cases hc : codeOf t = 0
 ·have HC : Hid (codeOf t = 0) := hc
  rw [hc]
  clear hc
  go_upto_region 3 with fail
  obtain ⟨hpos, hsm, hms⟩ := sel_nodes HC.out
  have HSM : Hid (Small (nodesOf t)) := hsm
  have HR : Hid (meetsNs (nodesOf t) (zMarks ms z) = selS t ms z) := by show _ = _; rw [hms]; unfold selS; rw [decide_eq_true HC.out]; rfl
  obtain ⟨g0, han, hn0⟩ : ∃ g, an = some ⟨g, 0, none⟩ ∧ Nodes0 w2 g (nodesOf t) := by
   rcases HN2.out with ⟨h, _⟩ | ⟨g, h1, _, h3⟩
   ·rw [h] at hpos; exact absurd hpos (Nat.lt_irrefl _)
   ·exact ⟨g, h1, h3⟩
  subst han
  have HN4 := HN3.out g0 hn0
  have HND : Hid (Nodes0 _ g0 (nodesOf t)) := HN4
  clear HN4 hn0 hpos hsm hms HN3 HN2 HI2 HB2 HE0 HE1 HE2 HE3 HE4 HE5
  refine wp_region_held_drew (S := SevC w.heap.size w2.heap.size (.string nm) (.string z) (.slice a ms.length cap) (.int .i64 rm) (.int .i64 hd) (.bool cl) (.slice (some ⟨g0, 0, none⟩) (nodesOf t).length cn)) (by kernel_rfl) (by simpa [SevC] using HS3.out) (fun hS => ?_)
  clear HS3
  generalize (w2.alloc (Obj.cells #[.slice (some ⟨g0, 0, none⟩) (nodesOf t).length cn] 142)).drew = w3 at *
  generalize w2.heap.size = q2 at *
  refine wpAnyH_take (i := 0) (oi := ⟨some 12, _, _, _, _, none⟩) (v := .int .i64 0) rfl (by kernel_rfl) (by kernel_rfl) (by kernel_rfl) (fun _ _ _ h => h) (Or.inl ⟨by rfl, ?_⟩) hS ?_
  ·intro wy hy
   obtain ⟨y0, y1, y2, y3, y4, y5, y6⟩ := hy
   go_simp
  simp only [Act.put, List.setIfInBounds_toArray, List.set_cons_zero, List.set_cons_succ]
  refine wpAnyH_take (i := 1) (oi := ⟨some 13, _, _, _, _, none⟩) (v := .bool true) rfl (by kernel_rfl) (by kernel_rfl) (by kernel_rfl) (fun _ _ _ h => h) (Or.inl ⟨by rfl, ?_⟩) hS ?_
  ·intro wy hy
   obtain ⟨y0, y1, y2, y3, y4, y5, y6⟩ := hy
   go_simp
  simp only [Act.put, List.setIfInBounds_toArray, List.set_cons_zero, List.set_cons_succ]
  refine wpAnyH_take (i := 2) (oi := ⟨some 14, _, _, _, _, none⟩) (v := .bool true) rfl (by kernel_rfl) (by kernel_rfl) (by kernel_rfl) (fun _ _ _ h => h) (Or.inl ⟨by rfl, ?_⟩) hS ?_
  ·intro wy hy
   obtain ⟨y0, y1, y2, y3, y4, y5, y6⟩ := hy
   go_simp
  simp only [Act.put, List.setIfInBounds_toArray, List.set_cons_zero, List.set_cons_succ]
  refine wpAnyH_take (i := 3) (oi := ⟨some 15, _, _, _, _, some (2, true)⟩) (v := .agg #[.slice (some ⟨g0, 0, none⟩) (nodesOf t).length cn]) rfl (by kernel_rfl) (by kernel_rfl) (by kernel_rfl) (fun _ _ _ h => h) (Or.inl ⟨by rfl, ?_⟩) hS ?_
  ·intro wy hy
   obtain ⟨y0, y1, y2, y3, y4, y5, y6⟩ := hy
   go_simp
  simp only [Act.put, List.setIfInBounds_toArray, List.set_cons_zero, List.set_cons_succ]
  refine wpAnyH_take (i := 4) (oi := ⟨some 16, _, _, _, _, some (2, true)⟩) (v := .agg #[.string nm, .string z, .slice a ms.length cap, .int .i64 rm, .int .i64 hd, .bool cl]) rfl (by kernel_rfl) (by kernel_rfl) (by kernel_rfl) (fun _ _ _ h => h) (Or.inl ⟨by rfl, ?_⟩) hS ?_
  ·intro wy hy
   obtain ⟨y0, y1, y2, y3, y4, y5, y6⟩ := hy
   go_simp
  simp only [Act.put, List.setIfInBounds_toArray, List.set_cons_zero, List.set_cons_succ]
  refine wpAnyH_ready (rs := [5]) (by kernel_rfl) (by simp) (AllReadyH.cons (o := ⟨some 17, _, _, _, _, some (2, true)⟩) rfl (fun K hK => ?_) AllReadyH.nil)
  go_simp
  refine (l3Marks_any nm z ms a cap lo rm hd cl _ HI3.out hml hz HSZ.out).mono ?_
  rintro e w4 ⟨g4, c4, rfl, hm4, hb⟩
  have HM4 : Hid (SliceC StrC 1 0 w4 (some ⟨g4, 0, none⟩) (zMarks ms z)) := hm4
  have HND4 : Hid (Nodes0 w4 g0 (nodesOf t)) := HND.out.grown hb
  have HB4 : Hid (Below w.heap.size w w4) := HB3.out.trans (hb.mono HB3.out.size)
  refine hK.out _ _ (hS.below hb) (fun hS => ?_)
  clear hm4 hb HND HB3 HI3 hK K
  refine wpAnyH_ready (rs := [6]) (by kernel_rfl) (by simp) (AllReadyH.cons (o := ⟨some 18, _, _, _, _, some (2, true)⟩) rfl (fun K hK => ?_) AllReadyH.nil)
  go_simp
  refine (specMeets_any (nodesOf t) g0 cn (zMarks ms z) _ c4 _ HND4.out HSM.out HM4.out).mono ?_
  rintro e w5 ⟨rfl, hb⟩
  rw [HR.out]
  have HB5 : Hid (Below w.heap.size w w5) := HB4.out.trans (hb.mono HB4.out.size)
  refine hK.out _ _ (hS.below hb) (fun hS => ?_)
  clear hb HND4 HB4 HM4 hK K
  refine wpAnyH_take (i := 7) (oi := ⟨some 19, _, _, _, _, none⟩) (v := .bool (selS t ms z)) rfl (by kernel_rfl) (by kernel_rfl) (by kernel_rfl) (fun _ _ _ h => h) (Or.inl ⟨by rfl, ?_⟩) hS ?_
  ·intro wy hy
   obtain ⟨y0, y1, y2, y3, y4, y5, y6⟩ := hy
   go_simp
  simp only [Act.put, List.setIfInBounds_toArray, List.set_cons_zero, List.set_cons_succ]
  refine wpAnyH_take (i := 8) (oi := ⟨some 4, _, _, _, _, none⟩) (v := .bool (selS t ms z)) rfl (by kernel_rfl) (by kernel_rfl) (by kernel_rfl) (fun _ _ _ h => h) (Or.inl ⟨by rfl, ?_⟩) hS ?_
  ·intro wy hy
   obtain ⟨y0, y1, y2, y3, y4, y5, y6⟩ := hy
   go_simp
  simp only [Act.put, List.setIfInBounds_toArray, List.set_cons_zero, List.set_cons_succ]
  refine wpAnyH_done (by kernel_rfl) ?_ _
  go_wp2_with fail
  go_ret
  exact ⟨rfl, HB5.out⟩
 ·have hc0 : ¬ ((codeOf t : Nat) : Int) = 0 := by omega
  have HF : Hid (false = selS t ms z) := by show _ = _; unfold selS; rw [decide_eq_false hc]; rfl
  clear hc
  generalize ((codeOf t : Nat) : Int) = q at *
  go_upto_region 3 with fail
  refine wp_region_held_drew (S := SevC w.heap.size w2.heap.size (.string nm) (.string z) (.slice a ms.length cap) (.int .i64 rm) (.int .i64 hd) (.bool cl) (.slice an (nodesOf t).length cn)) (by kernel_rfl) (by simpa [SevC] using HS3.out) (fun hS => ?_)
  clear HS3
  clear HN3 HN2 HI2 HB2 HE0 HE1 HE2 HE3 HE4 HE5 HI3
  generalize (w2.alloc (Obj.cells #[.slice an (nodesOf t).length cn] 142)).drew = w3 at *
  generalize w2.heap.size = q2 at *
  refine wpAnyH_take (i := 0) (oi := ⟨some 12, _, _, _, _, none⟩) (v := .int .i64 q) rfl (by kernel_rfl) (by kernel_rfl) (by kernel_rfl) (fun _ _ _ h => h) (Or.inl ⟨by rfl, ?_⟩) hS ?_
  ·intro wy hy
   obtain ⟨y0, y1, y2, y3, y4, y5, y6⟩ := hy
   go_simp
  simp only [Act.put, List.setIfInBounds_toArray, List.set_cons_zero, List.set_cons_succ]
  refine wpAnyH_take (i := 1) (oi := ⟨some 13, _, _, _, _, none⟩) (v := .bool false) rfl (by kernel_rfl) (by kernel_rfl) (by kernel_rfl) (fun _ _ _ h => h) (Or.inl ⟨by rfl, ?_⟩) hS ?_
  ·intro wy hy
   obtain ⟨y0, y1, y2, y3, y4, y5, y6⟩ := hy
   go_simp
  simp only [Act.put, List.setIfInBounds_toArray, List.set_cons_zero, List.set_cons_succ]
  refine wpAnyH_take (i := 2) (oi := ⟨some 14, _, _, _, _, none⟩) (v := .bool false) rfl (by kernel_rfl) (by kernel_rfl) (by kernel_rfl) (fun _ _ _ h => h) (Or.inl ⟨by rfl, ?_⟩) hS ?_
  ·intro wy hy
   obtain ⟨y0, y1, y2, y3, y4, y5, y6⟩ := hy
   go_simp
  simp only [Act.put, List.setIfInBounds_toArray, List.set_cons_zero, List.set_cons_succ]
  refine wpAnyH_take (i := 3) (oi := ⟨some 15, _, _, _, _, some (2, true)⟩) (v := undef) rfl (by kernel_rfl) (by kernel_rfl) (by kernel_rfl) (fun _ _ _ h => h) (Or.inr ⟨by rfl, rfl⟩) hS ?_
  simp only [Act.put, List.setIfInBounds_toArray, List.set_cons_zero, List.set_cons_succ]
  refine wpAnyH_take (i := 4) (oi := ⟨some 16, _, _, _, _, some (2, true)⟩) (v := undef) rfl (by kernel_rfl) (by kernel_rfl) (by kernel_rfl) (fun _ _ _ h => h) (Or.inr ⟨by rfl, rfl⟩) hS ?_
  simp only [Act.put, List.setIfInBounds_toArray, List.set_cons_zero, List.set_cons_succ]
  refine wpAnyH_take (i := 5) (oi := ⟨some 17, _, _, _, _, some (2, true)⟩) (v := undef) rfl (by kernel_rfl) (by kernel_rfl) (by kernel_rfl) (fun _ _ _ h => h) (Or.inr ⟨by rfl, rfl⟩) hS ?_
  simp only [Act.put, List.setIfInBounds_toArray, List.set_cons_zero, List.set_cons_succ]
  refine wpAnyH_take (i := 6) (oi := ⟨some 18, _, _, _, _, some (2, true)⟩) (v := undef) rfl (by kernel_rfl) (by kernel_rfl) (by kernel_rfl) (fun _ _ _ h => h) (Or.inr ⟨by rfl, rfl⟩) hS ?_
  simp only [Act.put, List.setIfInBounds_toArray, List.set_cons_zero, List.set_cons_succ]
  refine wpAnyH_take (i := 7) (oi := ⟨some 19, _, _, _, _, none⟩) (v := .bool false) rfl (by kernel_rfl) (by kernel_rfl) (by kernel_rfl) (fun _ _ _ h => h) (Or.inl ⟨by rfl, ?_⟩) hS ?_
  ·intro wy hy
   obtain ⟨y0, y1, y2, y3, y4, y5, y6⟩ := hy
   go_simp
  simp only [Act.put, List.setIfInBounds_toArray, List.set_cons_zero, List.set_cons_succ]
  refine wpAnyH_take (i := 8) (oi := ⟨some 4, _, _, _, _, none⟩) (v := .bool false) rfl (by kernel_rfl) (by kernel_rfl) (by kernel_rfl) (fun _ _ _ h => h) (Or.inl ⟨by rfl, ?_⟩) hS ?_
  ·intro wy hy
   obtain ⟨y0, y1, y2, y3, y4, y5, y6⟩ := hy
   go_simp
  simp only [Act.put, List.setIfInBounds_toArray, List.set_cons_zero, List.set_cons_succ]
  refine wpAnyH_done (by kernel_rfl) ?_ _
  go_wp2_with fail
  go_ret
  exact ⟨ret_bool HF.out, HB3.out⟩

end Go.Proofs.YtmclbfkcbadnpaaGreat
