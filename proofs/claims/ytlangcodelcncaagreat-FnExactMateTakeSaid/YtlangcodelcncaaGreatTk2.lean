import Derived.Test.YtlangcodelcncaaGreatTk1
import Derived.Maps.OwnSet
namespace Go.Proofs.YtlangcodelcncaaGreat
open Go.RowKit Go.WideMaps Go.Maps

set_option maxHeartbeats 8000000 in
set_option maxRecDepth 100000 in
theorem hear_any (y : Mte) (q : Pcl) (b3 : Option Addr) (d3 p lo kb : Nat) (W0 w : World) (h : Bth y p lo kb W0 w) (hq : QIn q b3 lo W0) :
    Calls Tryz.prog 77 #[.pointer (some ⟨p, 0, none⟩), .agg #[.int .i64 q.kind, .string q.berth, .int .i64 q.seen, .slice b3 q.wants.length d3, .string q.hold, .string q.copy, .int .i64 q.at_]] w fun e w' => e = .returned (.tuple #[]) ∧ Bth (hearM y q) p lo kb W0 w' := by
  obtain ⟨a5, c5, o6, k6, j6, o7, k7, j7, o8, k8, j8, m1, m2, n2, m3, n3, m4, n4, D2, D3, D4, h⟩ := h
  have hpg : p < w.heap.size := h.hP.lt
  have hord := h.ord
  have HQ := Hid.intro hq
  have hb1 : Below w.heap.size w (w.alloc (Obj.cells #[.int .i64 q.kind, .string q.berth, .int .i64 q.seen, .slice b3 q.wants.length d3, .string q.hold, .string q.copy, .int .i64 q.at_] 39)) := (Below.refl _ w).alloc (Nat.le_refl _) _
  have HK1 : Hid (Blk w.heap.size #[.int .i64 q.kind, .string q.berth, .int .i64 q.seen, .slice b3 q.wants.length d3, .string q.hold, .string q.copy, .int .i64 q.at_] 39 (w.alloc (Obj.cells #[.int .i64 q.kind, .string q.berth, .int .i64 q.seen, .slice b3 q.wants.length d3, .string q.hold, .string q.copy, .int .i64 q.at_] 39))) := Blk.alloc _ _ _
  have HH := Hid.intro (h.below hb1)
  clear h hb1 hq
  go_enter Tryz.func77, Tryz.ntmps77
  go_upto_region 1 with fail
  generalize w.alloc (Obj.cells #[.int .i64 q.kind, .string q.berth, .int .i64 q.seen, .slice b3 q.wants.length d3, .string q.hold, .string q.copy, .int .i64 q.at_] 39) = w1 at *
  generalize w.heap.size = g at *
  obtain ⟨N, HN⟩ : ∃ N, Hid (N = (!y.known || decide (y.seen < q.seen))) := ⟨_, rfl⟩
  go_cut [4] (fun v wz => v = .bool N ∧ Hid (BthI y p lo kb W0 a5 c5 o6 k6 j6 o7 k7 j7 o8 k8 j8 m1 m2 n2 m3 n3 m4 n4 D2 D3 D4 wz) ∧ Hid (Blk g #[.int .i64 q.kind, .string q.berth, .int .i64 q.seen, .slice b3 q.wants.length d3, .string q.hold, .string q.copy, .int .i64 q.at_] 39 wz))
  case first =>
    cases hk : y.known with
    | false =>
      have HKN := Hid.intro hk
      have hN : N = true := by rw [HN.out, hk]; rfl
      subst hN
      clear hk HN
      refine wp_region_held_drew (S := fun wy => Blk p #[.string y.name, .bool y.up, .int .i64 y.clock, .bool y.known, .int .i64 y.seen, .slice a5 y.wants.length c5, .slice o6 k6 j6, .slice o7 k7 j7, .slice o8 k8 j8, .map m1, .map (some m2), .map (some m3), .map (some m4)] 114 wy ∧ Blk g #[.int .i64 q.kind, .string q.berth, .int .i64 q.seen, .slice b3 q.wants.length d3, .string q.hold, .string q.copy, .int .i64 q.at_] 39 wy) (by kernel_rfl) ⟨HH.out.hP.drew, HK1.out.drew⟩ (fun hS => ?_)
      have hb2 : Below w1.heap.size w1 w1.drew := (Below.refl _ _).drew
      have HH2 := Hid.intro (HH.out.below hb2)
      have HK2 := Hid.intro (HK1.out.below hb2 HK1.out.lt)
      clear HH HK1 hb2
      generalize w1.drew = w2 at *
      refine wpAnyH_take (i := 0) (oi := ⟨some 5, _, _, _, _, none⟩) (v := .pointer (some ⟨p, 0, none⟩)) rfl (by kernel_rfl) (by kernel_rfl) (by kernel_rfl) (fun _ _ _ h => h) (Or.inl ⟨by rfl, ?_⟩) hS ?_
      · intro wy hy
        clear hy
        go_simp
      simp only [Act.put, List.setIfInBounds_toArray, List.set_cons_zero, List.set_cons_succ]
      refine wpAnyH_take (i := 1) (oi := ⟨some 6, _, _, _, _, none⟩) (v := .pointer (some ⟨p, 0, none⟩)) rfl (by kernel_rfl) (by kernel_rfl) (by kernel_rfl) (fun _ _ _ h => h) (Or.inl ⟨by rfl, ?_⟩) hS ?_
      · intro wy hy
        clear hy
        go_simp
      simp only [Act.put, List.setIfInBounds_toArray, List.set_cons_zero, List.set_cons_succ]
      refine wpAnyH_take (i := 2) (oi := ⟨some 7, _, _, _, _, none⟩) (v := .pointer (some ⟨p, 0, none⟩)) rfl (by kernel_rfl) (by kernel_rfl) (by kernel_rfl) (fun _ _ _ h => h) (Or.inl ⟨by rfl, ?_⟩) hS ?_
      · intro wy hy
        clear hy
        go_simp
      simp only [Act.put, List.setIfInBounds_toArray, List.set_cons_zero, List.set_cons_succ]
      refine wpAnyH_take (i := 3) (oi := ⟨some 8, _, _, _, _, none⟩) (v := .pointer (some ⟨p, 3, none⟩)) rfl (by kernel_rfl) (by kernel_rfl) (by kernel_rfl) (fun _ _ _ h => h) (Or.inl ⟨by rfl, ?_⟩) hS ?_
      · intro wy hy
        clear hy
        go_simp
      simp only [Act.put, List.setIfInBounds_toArray, List.set_cons_zero, List.set_cons_succ]
      refine wpAnyH_take (i := 4) (oi := ⟨some 9, _, _, _, _, none⟩) (v := .bool false) rfl (by kernel_rfl) (by kernel_rfl) (by kernel_rfl) (fun _ _ _ h => h) (Or.inl ⟨by rfl, ?_⟩) hS ?_
      · intro wy hy
        have h0 : wy.cell? ⟨p, 3, none⟩ = some (.bool false) := (hy.1.cell rfl).trans (by rw [HKN.out]; rfl)
        clear hy
        go_simp
      simp only [Act.put, List.setIfInBounds_toArray, List.set_cons_zero, List.set_cons_succ]
      refine wpAnyH_take (i := 5) (oi := ⟨some 10, _, _, _, _, none⟩) (v := .bool true) rfl (by kernel_rfl) (by kernel_rfl) (by kernel_rfl) (fun _ _ _ h => h) (Or.inl ⟨by rfl, ?_⟩) hS ?_
      · intro wy hy
        clear hy
        go_simp
      simp only [Act.put, List.setIfInBounds_toArray, List.set_cons_zero, List.set_cons_succ]
      refine wpAnyH_take (i := 6) (oi := ⟨some 11, _, _, _, _, none⟩) (v := .bool true) rfl (by kernel_rfl) (by kernel_rfl) (by kernel_rfl) (fun _ _ _ h => h) (Or.inl ⟨by rfl, ?_⟩) hS ?_
      · intro wy hy
        clear hy
        go_simp
      simp only [Act.put, List.setIfInBounds_toArray, List.set_cons_zero, List.set_cons_succ]
      refine wpAnyH_take (i := 7) (oi := ⟨some 12, _, _, _, _, some (6, false)⟩) (v := undef) rfl (by kernel_rfl) (by kernel_rfl) (by kernel_rfl) (fun _ _ _ h => h) (Or.inr ⟨by rfl, rfl⟩) hS ?_
      simp only [Act.put, List.setIfInBounds_toArray, List.set_cons_zero, List.set_cons_succ]
      refine wpAnyH_take (i := 8) (oi := ⟨some 13, _, _, _, _, some (6, false)⟩) (v := undef) rfl (by kernel_rfl) (by kernel_rfl) (by kernel_rfl) (fun _ _ _ h => h) (Or.inr ⟨by rfl, rfl⟩) hS ?_
      simp only [Act.put, List.setIfInBounds_toArray, List.set_cons_zero, List.set_cons_succ]
      refine wpAnyH_take (i := 9) (oi := ⟨some 14, _, _, _, _, some (6, false)⟩) (v := undef) rfl (by kernel_rfl) (by kernel_rfl) (by kernel_rfl) (fun _ _ _ h => h) (Or.inr ⟨by rfl, rfl⟩) hS ?_
      simp only [Act.put, List.setIfInBounds_toArray, List.set_cons_zero, List.set_cons_succ]
      refine wpAnyH_take (i := 10) (oi := ⟨some 15, _, _, _, _, some (6, false)⟩) (v := undef) rfl (by kernel_rfl) (by kernel_rfl) (by kernel_rfl) (fun _ _ _ h => h) (Or.inr ⟨by rfl, rfl⟩) hS ?_
      simp only [Act.put, List.setIfInBounds_toArray, List.set_cons_zero, List.set_cons_succ]
      refine wpAnyH_take (i := 11) (oi := ⟨some 16, _, _, _, _, some (6, false)⟩) (v := undef) rfl (by kernel_rfl) (by kernel_rfl) (by kernel_rfl) (fun _ _ _ h => h) (Or.inr ⟨by rfl, rfl⟩) hS ?_
      simp only [Act.put, List.setIfInBounds_toArray, List.set_cons_zero, List.set_cons_succ]
      refine wpAnyH_take (i := 12) (oi := ⟨some 17, _, _, _, _, some (6, false)⟩) (v := undef) rfl (by kernel_rfl) (by kernel_rfl) (by kernel_rfl) (fun _ _ _ h => h) (Or.inr ⟨by rfl, rfl⟩) hS ?_
      simp only [Act.put, List.setIfInBounds_toArray, List.set_cons_zero, List.set_cons_succ]
      refine wpAnyH_take (i := 13) (oi := ⟨some 18, _, _, _, _, some (6, false)⟩) (v := undef) rfl (by kernel_rfl) (by kernel_rfl) (by kernel_rfl) (fun _ _ _ h => h) (Or.inr ⟨by rfl, rfl⟩) hS ?_
      simp only [Act.put, List.setIfInBounds_toArray, List.set_cons_zero, List.set_cons_succ]
      refine wpAnyH_take (i := 14) (oi := ⟨some 19, _, _, _, _, some (6, false)⟩) (v := undef) rfl (by kernel_rfl) (by kernel_rfl) (by kernel_rfl) (fun _ _ _ h => h) (Or.inr ⟨by rfl, rfl⟩) hS ?_
      simp only [Act.put, List.setIfInBounds_toArray, List.set_cons_zero, List.set_cons_succ]
      refine wpAnyH_take (i := 15) (oi := ⟨some 20, _, _, _, _, none⟩) (v := .bool true) rfl (by kernel_rfl) (by kernel_rfl) (by kernel_rfl) (fun _ _ _ h => h) (Or.inl ⟨by rfl, ?_⟩) hS ?_
      · intro wy hy
        clear hy
        go_simp
      simp only [Act.put, List.setIfInBounds_toArray, List.set_cons_zero, List.set_cons_succ]
      refine wpAnyH_take (i := 16) (oi := ⟨some 4, _, _, _, _, none⟩) (v := .bool true) rfl (by kernel_rfl) (by kernel_rfl) (by kernel_rfl) (fun _ _ _ h => h) (Or.inl ⟨by rfl, ?_⟩) hS ?_
      · intro wy hy
        clear hy
        go_simp
      simp only [Act.put, List.setIfInBounds_toArray, List.set_cons_zero, List.set_cons_succ]
      refine wpAnyH_done (by kernel_rfl) ?_ _
      clear hS
      go_wp2_with fail
      go_meet
      exact ⟨rfl, HH2, HK2⟩
    | true =>
      have HKN := Hid.intro hk
      by_cases hs : y.seen < q.seen
      · have hN : N = true := by rw [HN.out, hk, decide_eq_true hs]; rfl
        subst hN
        clear hk HN
        refine wp_region_held_drew (S := fun wy => Blk p #[.string y.name, .bool y.up, .int .i64 y.clock, .bool y.known, .int .i64 y.seen, .slice a5 y.wants.length c5, .slice o6 k6 j6, .slice o7 k7 j7, .slice o8 k8 j8, .map m1, .map (some m2), .map (some m3), .map (some m4)] 114 wy ∧ Blk g #[.int .i64 q.kind, .string q.berth, .int .i64 q.seen, .slice b3 q.wants.length d3, .string q.hold, .string q.copy, .int .i64 q.at_] 39 wy) (by kernel_rfl) ⟨HH.out.hP.drew, HK1.out.drew⟩ (fun hS => ?_)
        have hb2 : Below w1.heap.size w1 w1.drew := (Below.refl _ _).drew
        have HH2 := Hid.intro (HH.out.below hb2)
        have HK2 := Hid.intro (HK1.out.below hb2 HK1.out.lt)
        clear HH HK1 hb2
        generalize w1.drew = w2 at *
        refine wpAnyH_take (i := 0) (oi := ⟨some 5, _, _, _, _, none⟩) (v := .pointer (some ⟨p, 0, none⟩)) rfl (by kernel_rfl) (by kernel_rfl) (by kernel_rfl) (fun _ _ _ h => h) (Or.inl ⟨by rfl, ?_⟩) hS ?_
        · intro wy hy
          clear hy
          go_simp
        simp only [Act.put, List.setIfInBounds_toArray, List.set_cons_zero, List.set_cons_succ]
        refine wpAnyH_take (i := 1) (oi := ⟨some 6, _, _, _, _, none⟩) (v := .pointer (some ⟨p, 0, none⟩)) rfl (by kernel_rfl) (by kernel_rfl) (by kernel_rfl) (fun _ _ _ h => h) (Or.inl ⟨by rfl, ?_⟩) hS ?_
        · intro wy hy
          clear hy
          go_simp
        simp only [Act.put, List.setIfInBounds_toArray, List.set_cons_zero, List.set_cons_succ]
        refine wpAnyH_take (i := 2) (oi := ⟨some 7, _, _, _, _, none⟩) (v := .pointer (some ⟨p, 0, none⟩)) rfl (by kernel_rfl) (by kernel_rfl) (by kernel_rfl) (fun _ _ _ h => h) (Or.inl ⟨by rfl, ?_⟩) hS ?_
        · intro wy hy
          clear hy
          go_simp
        simp only [Act.put, List.setIfInBounds_toArray, List.set_cons_zero, List.set_cons_succ]
        refine wpAnyH_take (i := 3) (oi := ⟨some 8, _, _, _, _, none⟩) (v := .pointer (some ⟨p, 3, none⟩)) rfl (by kernel_rfl) (by kernel_rfl) (by kernel_rfl) (fun _ _ _ h => h) (Or.inl ⟨by rfl, ?_⟩) hS ?_
        · intro wy hy
          clear hy
          go_simp
        simp only [Act.put, List.setIfInBounds_toArray, List.set_cons_zero, List.set_cons_succ]
        refine wpAnyH_take (i := 4) (oi := ⟨some 9, _, _, _, _, none⟩) (v := .bool true) rfl (by kernel_rfl) (by kernel_rfl) (by kernel_rfl) (fun _ _ _ h => h) (Or.inl ⟨by rfl, ?_⟩) hS ?_
        · intro wy hy
          have h0 : wy.cell? ⟨p, 3, none⟩ = some (.bool true) := (hy.1.cell rfl).trans (by rw [HKN.out]; rfl)
          clear hy
          go_simp
        simp only [Act.put, List.setIfInBounds_toArray, List.set_cons_zero, List.set_cons_succ]
        refine wpAnyH_take (i := 5) (oi := ⟨some 10, _, _, _, _, none⟩) (v := .bool false) rfl (by kernel_rfl) (by kernel_rfl) (by kernel_rfl) (fun _ _ _ h => h) (Or.inl ⟨by rfl, ?_⟩) hS ?_
        · intro wy hy
          clear hy
          go_simp
        simp only [Act.put, List.setIfInBounds_toArray, List.set_cons_zero, List.set_cons_succ]
        refine wpAnyH_take (i := 6) (oi := ⟨some 11, _, _, _, _, none⟩) (v := .bool false) rfl (by kernel_rfl) (by kernel_rfl) (by kernel_rfl) (fun _ _ _ h => h) (Or.inl ⟨by rfl, ?_⟩) hS ?_
        · intro wy hy
          clear hy
          go_simp
        simp only [Act.put, List.setIfInBounds_toArray, List.set_cons_zero, List.set_cons_succ]
        refine wpAnyH_take (i := 7) (oi := ⟨some 12, _, _, _, _, some (6, false)⟩) (v := .pointer (some ⟨g, 2, none⟩)) rfl (by kernel_rfl) (by kernel_rfl) (by kernel_rfl) (fun _ _ _ h => h) (Or.inl ⟨by rfl, ?_⟩) hS ?_
        · intro wy hy
          clear hy
          go_simp
        simp only [Act.put, List.setIfInBounds_toArray, List.set_cons_zero, List.set_cons_succ]
        refine wpAnyH_take (i := 8) (oi := ⟨some 13, _, _, _, _, some (6, false)⟩) (v := .int .i64 q.seen) rfl (by kernel_rfl) (by kernel_rfl) (by kernel_rfl) (fun _ _ _ h => h) (Or.inl ⟨by rfl, ?_⟩) hS ?_
        · intro wy hy
          have h0 : wy.cell? ⟨g, 2, none⟩ = some (.int .i64 q.seen) := hy.2.cell rfl
          clear hy
          go_simp
        simp only [Act.put, List.setIfInBounds_toArray, List.set_cons_zero, List.set_cons_succ]
        refine wpAnyH_take (i := 9) (oi := ⟨some 14, _, _, _, _, some (6, false)⟩) (v := .pointer (some ⟨p, 0, none⟩)) rfl (by kernel_rfl) (by kernel_rfl) (by kernel_rfl) (fun _ _ _ h => h) (Or.inl ⟨by rfl, ?_⟩) hS ?_
        · intro wy hy
          clear hy
          go_simp
        simp only [Act.put, List.setIfInBounds_toArray, List.set_cons_zero, List.set_cons_succ]
        refine wpAnyH_take (i := 10) (oi := ⟨some 15, _, _, _, _, some (6, false)⟩) (v := .pointer (some ⟨p, 0, none⟩)) rfl (by kernel_rfl) (by kernel_rfl) (by kernel_rfl) (fun _ _ _ h => h) (Or.inl ⟨by rfl, ?_⟩) hS ?_
        · intro wy hy
          clear hy
          go_simp
        simp only [Act.put, List.setIfInBounds_toArray, List.set_cons_zero, List.set_cons_succ]
        refine wpAnyH_take (i := 11) (oi := ⟨some 16, _, _, _, _, some (6, false)⟩) (v := .pointer (some ⟨p, 0, none⟩)) rfl (by kernel_rfl) (by kernel_rfl) (by kernel_rfl) (fun _ _ _ h => h) (Or.inl ⟨by rfl, ?_⟩) hS ?_
        · intro wy hy
          clear hy
          go_simp
        simp only [Act.put, List.setIfInBounds_toArray, List.set_cons_zero, List.set_cons_succ]
        refine wpAnyH_take (i := 12) (oi := ⟨some 17, _, _, _, _, some (6, false)⟩) (v := .pointer (some ⟨p, 4, none⟩)) rfl (by kernel_rfl) (by kernel_rfl) (by kernel_rfl) (fun _ _ _ h => h) (Or.inl ⟨by rfl, ?_⟩) hS ?_
        · intro wy hy
          clear hy
          go_simp
        simp only [Act.put, List.setIfInBounds_toArray, List.set_cons_zero, List.set_cons_succ]
        refine wpAnyH_take (i := 13) (oi := ⟨some 18, _, _, _, _, some (6, false)⟩) (v := .int .i64 y.seen) rfl (by kernel_rfl) (by kernel_rfl) (by kernel_rfl) (fun _ _ _ h => h) (Or.inl ⟨by rfl, ?_⟩) hS ?_
        · intro wy hy
          have h0 : wy.cell? ⟨p, 4, none⟩ = some (.int .i64 y.seen) := hy.1.cell rfl
          clear hy
          go_simp
        simp only [Act.put, List.setIfInBounds_toArray, List.set_cons_zero, List.set_cons_succ]
        refine wpAnyH_take (i := 14) (oi := ⟨some 19, _, _, _, _, some (6, false)⟩) (v := .bool true) rfl (by kernel_rfl) (by kernel_rfl) (by kernel_rfl) (fun _ _ _ h => h) (Or.inl ⟨by rfl, ?_⟩) hS ?_
        · intro wy hy
          clear hy
          first | (go_simp; done) | (go_simp; omega)
        simp only [Act.put, List.setIfInBounds_toArray, List.set_cons_zero, List.set_cons_succ]
        refine wpAnyH_take (i := 15) (oi := ⟨some 20, _, _, _, _, none⟩) (v := .bool true) rfl (by kernel_rfl) (by kernel_rfl) (by kernel_rfl) (fun _ _ _ h => h) (Or.inl ⟨by rfl, ?_⟩) hS ?_
        · intro wy hy
          clear hy
          go_simp
        simp only [Act.put, List.setIfInBounds_toArray, List.set_cons_zero, List.set_cons_succ]
        refine wpAnyH_take (i := 16) (oi := ⟨some 4, _, _, _, _, none⟩) (v := .bool true) rfl (by kernel_rfl) (by kernel_rfl) (by kernel_rfl) (fun _ _ _ h => h) (Or.inl ⟨by rfl, ?_⟩) hS ?_
        · intro wy hy
          clear hy
          go_simp
        simp only [Act.put, List.setIfInBounds_toArray, List.set_cons_zero, List.set_cons_succ]
        refine wpAnyH_done (by kernel_rfl) ?_ _
        clear hS
        go_wp2_with fail
        go_meet
        exact ⟨rfl, HH2, HK2⟩
      · have hs2 : q.seen ≤ y.seen := by omega
        have hN : N = false := by rw [HN.out, hk, decide_eq_false hs]; rfl
        subst hN
        clear hk HN hs
        refine wp_region_held_drew (S := fun wy => Blk p #[.string y.name, .bool y.up, .int .i64 y.clock, .bool y.known, .int .i64 y.seen, .slice a5 y.wants.length c5, .slice o6 k6 j6, .slice o7 k7 j7, .slice o8 k8 j8, .map m1, .map (some m2), .map (some m3), .map (some m4)] 114 wy ∧ Blk g #[.int .i64 q.kind, .string q.berth, .int .i64 q.seen, .slice b3 q.wants.length d3, .string q.hold, .string q.copy, .int .i64 q.at_] 39 wy) (by kernel_rfl) ⟨HH.out.hP.drew, HK1.out.drew⟩ (fun hS => ?_)
        have hb2 : Below w1.heap.size w1 w1.drew := (Below.refl _ _).drew
        have HH2 := Hid.intro (HH.out.below hb2)
        have HK2 := Hid.intro (HK1.out.below hb2 HK1.out.lt)
        clear HH HK1 hb2
        generalize w1.drew = w2 at *
        refine wpAnyH_take (i := 0) (oi := ⟨some 5, _, _, _, _, none⟩) (v := .pointer (some ⟨p, 0, none⟩)) rfl (by kernel_rfl) (by kernel_rfl) (by kernel_rfl) (fun _ _ _ h => h) (Or.inl ⟨by rfl, ?_⟩) hS ?_
        · intro wy hy
          clear hy
          go_simp
        simp only [Act.put, List.setIfInBounds_toArray, List.set_cons_zero, List.set_cons_succ]
        refine wpAnyH_take (i := 1) (oi := ⟨some 6, _, _, _, _, none⟩) (v := .pointer (some ⟨p, 0, none⟩)) rfl (by kernel_rfl) (by kernel_rfl) (by kernel_rfl) (fun _ _ _ h => h) (Or.inl ⟨by rfl, ?_⟩) hS ?_
        · intro wy hy
          clear hy
          go_simp
        simp only [Act.put, List.setIfInBounds_toArray, List.set_cons_zero, List.set_cons_succ]
        refine wpAnyH_take (i := 2) (oi := ⟨some 7, _, _, _, _, none⟩) (v := .pointer (some ⟨p, 0, none⟩)) rfl (by kernel_rfl) (by kernel_rfl) (by kernel_rfl) (fun _ _ _ h => h) (Or.inl ⟨by rfl, ?_⟩) hS ?_
        · intro wy hy
          clear hy
          go_simp
        simp only [Act.put, List.setIfInBounds_toArray, List.set_cons_zero, List.set_cons_succ]
        refine wpAnyH_take (i := 3) (oi := ⟨some 8, _, _, _, _, none⟩) (v := .pointer (some ⟨p, 3, none⟩)) rfl (by kernel_rfl) (by kernel_rfl) (by kernel_rfl) (fun _ _ _ h => h) (Or.inl ⟨by rfl, ?_⟩) hS ?_
        · intro wy hy
          clear hy
          go_simp
        simp only [Act.put, List.setIfInBounds_toArray, List.set_cons_zero, List.set_cons_succ]
        refine wpAnyH_take (i := 4) (oi := ⟨some 9, _, _, _, _, none⟩) (v := .bool true) rfl (by kernel_rfl) (by kernel_rfl) (by kernel_rfl) (fun _ _ _ h => h) (Or.inl ⟨by rfl, ?_⟩) hS ?_
        · intro wy hy
          have h0 : wy.cell? ⟨p, 3, none⟩ = some (.bool true) := (hy.1.cell rfl).trans (by rw [HKN.out]; rfl)
          clear hy
          go_simp
        simp only [Act.put, List.setIfInBounds_toArray, List.set_cons_zero, List.set_cons_succ]
        refine wpAnyH_take (i := 5) (oi := ⟨some 10, _, _, _, _, none⟩) (v := .bool false) rfl (by kernel_rfl) (by kernel_rfl) (by kernel_rfl) (fun _ _ _ h => h) (Or.inl ⟨by rfl, ?_⟩) hS ?_
        · intro wy hy
          clear hy
          go_simp
        simp only [Act.put, List.setIfInBounds_toArray, List.set_cons_zero, List.set_cons_succ]
        refine wpAnyH_take (i := 6) (oi := ⟨some 11, _, _, _, _, none⟩) (v := .bool false) rfl (by kernel_rfl) (by kernel_rfl) (by kernel_rfl) (fun _ _ _ h => h) (Or.inl ⟨by rfl, ?_⟩) hS ?_
        · intro wy hy
          clear hy
          go_simp
        simp only [Act.put, List.setIfInBounds_toArray, List.set_cons_zero, List.set_cons_succ]
        refine wpAnyH_take (i := 7) (oi := ⟨some 12, _, _, _, _, some (6, false)⟩) (v := .pointer (some ⟨g, 2, none⟩)) rfl (by kernel_rfl) (by kernel_rfl) (by kernel_rfl) (fun _ _ _ h => h) (Or.inl ⟨by rfl, ?_⟩) hS ?_
        · intro wy hy
          clear hy
          go_simp
        simp only [Act.put, List.setIfInBounds_toArray, List.set_cons_zero, List.set_cons_succ]
        refine wpAnyH_take (i := 8) (oi := ⟨some 13, _, _, _, _, some (6, false)⟩) (v := .int .i64 q.seen) rfl (by kernel_rfl) (by kernel_rfl) (by kernel_rfl) (fun _ _ _ h => h) (Or.inl ⟨by rfl, ?_⟩) hS ?_
        · intro wy hy
          have h0 : wy.cell? ⟨g, 2, none⟩ = some (.int .i64 q.seen) := hy.2.cell rfl
          clear hy
          go_simp
        simp only [Act.put, List.setIfInBounds_toArray, List.set_cons_zero, List.set_cons_succ]
        refine wpAnyH_take (i := 9) (oi := ⟨some 14, _, _, _, _, some (6, false)⟩) (v := .pointer (some ⟨p, 0, none⟩)) rfl (by kernel_rfl) (by kernel_rfl) (by kernel_rfl) (fun _ _ _ h => h) (Or.inl ⟨by rfl, ?_⟩) hS ?_
        · intro wy hy
          clear hy
          go_simp
        simp only [Act.put, List.setIfInBounds_toArray, List.set_cons_zero, List.set_cons_succ]
        refine wpAnyH_take (i := 10) (oi := ⟨some 15, _, _, _, _, some (6, false)⟩) (v := .pointer (some ⟨p, 0, none⟩)) rfl (by kernel_rfl) (by kernel_rfl) (by kernel_rfl) (fun _ _ _ h => h) (Or.inl ⟨by rfl, ?_⟩) hS ?_
        · intro wy hy
          clear hy
          go_simp
        simp only [Act.put, List.setIfInBounds_toArray, List.set_cons_zero, List.set_cons_succ]
        refine wpAnyH_take (i := 11) (oi := ⟨some 16, _, _, _, _, some (6, false)⟩) (v := .pointer (some ⟨p, 0, none⟩)) rfl (by kernel_rfl) (by kernel_rfl) (by kernel_rfl) (fun _ _ _ h => h) (Or.inl ⟨by rfl, ?_⟩) hS ?_
        · intro wy hy
          clear hy
          go_simp
        simp only [Act.put, List.setIfInBounds_toArray, List.set_cons_zero, List.set_cons_succ]
        refine wpAnyH_take (i := 12) (oi := ⟨some 17, _, _, _, _, some (6, false)⟩) (v := .pointer (some ⟨p, 4, none⟩)) rfl (by kernel_rfl) (by kernel_rfl) (by kernel_rfl) (fun _ _ _ h => h) (Or.inl ⟨by rfl, ?_⟩) hS ?_
        · intro wy hy
          clear hy
          go_simp
        simp only [Act.put, List.setIfInBounds_toArray, List.set_cons_zero, List.set_cons_succ]
        refine wpAnyH_take (i := 13) (oi := ⟨some 18, _, _, _, _, some (6, false)⟩) (v := .int .i64 y.seen) rfl (by kernel_rfl) (by kernel_rfl) (by kernel_rfl) (fun _ _ _ h => h) (Or.inl ⟨by rfl, ?_⟩) hS ?_
        · intro wy hy
          have h0 : wy.cell? ⟨p, 4, none⟩ = some (.int .i64 y.seen) := hy.1.cell rfl
          clear hy
          go_simp
        simp only [Act.put, List.setIfInBounds_toArray, List.set_cons_zero, List.set_cons_succ]
        refine wpAnyH_take (i := 14) (oi := ⟨some 19, _, _, _, _, some (6, false)⟩) (v := .bool false) rfl (by kernel_rfl) (by kernel_rfl) (by kernel_rfl) (fun _ _ _ h => h) (Or.inl ⟨by rfl, ?_⟩) hS ?_
        · intro wy hy
          clear hy
          first | (go_simp; done) | (go_simp; omega)
        simp only [Act.put, List.setIfInBounds_toArray, List.set_cons_zero, List.set_cons_succ]
        refine wpAnyH_take (i := 15) (oi := ⟨some 20, _, _, _, _, none⟩) (v := .bool false) rfl (by kernel_rfl) (by kernel_rfl) (by kernel_rfl) (fun _ _ _ h => h) (Or.inl ⟨by rfl, ?_⟩) hS ?_
        · intro wy hy
          clear hy
          go_simp
        simp only [Act.put, List.setIfInBounds_toArray, List.set_cons_zero, List.set_cons_succ]
        refine wpAnyH_take (i := 16) (oi := ⟨some 4, _, _, _, _, none⟩) (v := .bool false) rfl (by kernel_rfl) (by kernel_rfl) (by kernel_rfl) (fun _ _ _ h => h) (Or.inl ⟨by rfl, ?_⟩) hS ?_
        · intro wy hy
          clear hy
          go_simp
        simp only [Act.put, List.setIfInBounds_toArray, List.set_cons_zero, List.set_cons_succ]
        refine wpAnyH_done (by kernel_rfl) ?_ _
        clear hS
        go_wp2_with fail
        go_meet
        exact ⟨rfl, HH2, HK2⟩
  case rest =>
    clear HH HK1
    obtain ⟨rfl, HH2, HK2⟩ := hcut
    have e2 : wc.cell? ⟨g, 2, none⟩ = some (.int .i64 q.seen) := HK2.out.cell rfl
    have e3 : wc.cell? ⟨g, 3, none⟩ = some (.slice b3 q.wants.length d3) := HK2.out.cell rfl
    cases N with
    | false =>
      have HE : Hid (hearM y q = y) := by show _ = _; unfold hearM newerB; rw [← HN.out]; rfl
      go_wp2_with fail
      first | go_end0 | ((try simp only [Exit.inBlock, Exit.then]); refine bodyPost_ret (results_none rfl _ _ _) rfl ?_)
      refine ⟨rfl, ?_⟩
      rw [HE.out]
      exact ⟨a5, c5, o6, k6, j6, o7, k7, j7, o8, k8, j8, m1, m2, n2, m3, n3, m4, n4, D2, D3, D4, HH2.out⟩
    | true =>
      go_wp2_with fail
      refine (isIn_any q.seen 1 1000000 _).mono ?_
      rintro e v1 ⟨rfl, rfl⟩
      cases g1 : inR q.seen 1 1000000 with
      | false =>
        have HE : Hid (hearM y q = y) := by show _ = _; unfold hearM newerB; rw [← HN.out, g1]; rfl
        go_wp2_with fail
        first | go_end0 | ((try simp only [Exit.inBlock, Exit.then]); refine bodyPost_ret (results_none rfl _ _ _) rfl ?_)
        refine ⟨rfl, ?_⟩
        rw [HE.out]
        exact ⟨a5, c5, o6, k6, j6, o7, k7, j7, o8, k8, j8, m1, m2, n2, m3, n3, m4, n4, D2, D3, D4, HH2.out⟩
      | true =>
        go_wp2_with fail
        refine (implWantsOk_any q.wants b3 d3 lo _ (HQ.out.s3.below WntC.holds HH2.out.hB (Nat.le_refl _)) HQ.out.l3).mono ?_
        rintro e w3 ⟨rfl, hb3⟩
        have HH3 := Hid.intro (HH2.out.below hb3)
        have HK3 := Hid.intro (HK2.out.below hb3 HK2.out.lt)
        clear hb3 HH2 HK2 e2 e3
        cases g2 : wsB q.wants with
        | false =>
          have HE : Hid (hearM y q = y) := by show _ = _; unfold hearM newerB; rw [← HN.out, g1, g2]; rfl
          go_wp2_with fail
          first | go_end0 | ((try simp only [Exit.inBlock, Exit.then]); refine bodyPost_ret (results_none rfl _ _ _) rfl ?_)
          refine ⟨rfl, ?_⟩
          rw [HE.out]
          exact ⟨a5, c5, o6, k6, j6, o7, k7, j7, o8, k8, j8, m1, m2, n2, m3, n3, m4, n4, D2, D3, D4, HH3.out⟩
        | true =>
          have HE : Hid (hearM y q = { y with known := true, seen := q.seen, wants := q.wants }) := by show _ = _; unfold hearM newerB; rw [← HN.out, g1, g2]; rfl
          clear g1 g2
          go_wp2_with fail
          refine wp_region_held_drew (S := fun wy => Blk g #[.int .i64 q.kind, .string q.berth, .int .i64 q.seen, .slice b3 q.wants.length d3, .string q.hold, .string q.copy, .int .i64 q.at_] 39 wy) (by kernel_rfl) HK3.out.drew (fun hS => ?_)
          have hb4 : Below w3.heap.size w3 w3.drew := (Below.refl _ _).drew
          have HH4 := Hid.intro (HH3.out.below hb4)
          clear HH3 hb4 HK3
          generalize w3.drew = w4 at *
          refine wpAnyH_take (i := 0) (oi := ⟨some 32, _, _, _, _, none⟩) (v := .pointer (some ⟨p, 0, none⟩)) rfl (by kernel_rfl) (by kernel_rfl) (by kernel_rfl) (fun _ _ _ h => h) (Or.inl ⟨by rfl, ?_⟩) hS ?_
          · intro wy hy
            clear hy
            go_simp
          simp only [Act.put, List.setIfInBounds_toArray, List.set_cons_zero, List.set_cons_succ]
          refine wpAnyH_take (i := 1) (oi := ⟨some 33, _, _, _, _, none⟩) (v := .pointer (some ⟨p, 0, none⟩)) rfl (by kernel_rfl) (by kernel_rfl) (by kernel_rfl) (fun _ _ _ h => h) (Or.inl ⟨by rfl, ?_⟩) hS ?_
          · intro wy hy
            clear hy
            go_simp
          simp only [Act.put, List.setIfInBounds_toArray, List.set_cons_zero, List.set_cons_succ]
          refine wpAnyH_take (i := 2) (oi := ⟨some 34, _, _, _, _, none⟩) (v := .pointer (some ⟨p, 0, none⟩)) rfl (by kernel_rfl) (by kernel_rfl) (by kernel_rfl) (fun _ _ _ h => h) (Or.inl ⟨by rfl, ?_⟩) hS ?_
          · intro wy hy
            clear hy
            go_simp
          simp only [Act.put, List.setIfInBounds_toArray, List.set_cons_zero, List.set_cons_succ]
          refine wpAnyH_take (i := 3) (oi := ⟨some 35, _, _, _, _, none⟩) (v := .pointer (some ⟨g, 2, none⟩)) rfl (by kernel_rfl) (by kernel_rfl) (by kernel_rfl) (fun _ _ _ h => h) (Or.inl ⟨by rfl, ?_⟩) hS ?_
          · intro wy hy
            clear hy
            go_simp
          simp only [Act.put, List.setIfInBounds_toArray, List.set_cons_zero, List.set_cons_succ]
          refine wpAnyH_take (i := 4) (oi := ⟨some 36, _, _, _, _, none⟩) (v := .int .i64 q.seen) rfl (by kernel_rfl) (by kernel_rfl) (by kernel_rfl) (fun _ _ _ h => h) (Or.inl ⟨by rfl, ?_⟩) hS ?_
          · intro wy hy
            have h0 : wy.cell? ⟨g, 2, none⟩ = some (.int .i64 q.seen) := hy.cell rfl
            clear hy
            go_simp
          simp only [Act.put, List.setIfInBounds_toArray, List.set_cons_zero, List.set_cons_succ]
          refine wpAnyH_take (i := 5) (oi := ⟨some 37, _, _, _, _, none⟩) (v := .pointer (some ⟨g, 3, none⟩)) rfl (by kernel_rfl) (by kernel_rfl) (by kernel_rfl) (fun _ _ _ h => h) (Or.inl ⟨by rfl, ?_⟩) hS ?_
          · intro wy hy
            clear hy
            go_simp
          simp only [Act.put, List.setIfInBounds_toArray, List.set_cons_zero, List.set_cons_succ]
          refine wpAnyH_take (i := 6) (oi := ⟨some 38, _, _, _, _, none⟩) (v := .slice b3 q.wants.length d3) rfl (by kernel_rfl) (by kernel_rfl) (by kernel_rfl) (fun _ _ _ h => h) (Or.inl ⟨by rfl, ?_⟩) hS ?_
          · intro wy hy
            have h0 : wy.cell? ⟨g, 3, none⟩ = some (.slice b3 q.wants.length d3) := hy.cell rfl
            clear hy
            go_simp
          simp only [Act.put, List.setIfInBounds_toArray, List.set_cons_zero, List.set_cons_succ]
          have hPx := Hid.intro HH4.out.hP
          have hM2 := Hid.intro HH4.out.M2
          have hM3 := Hid.intro HH4.out.M3
          have hM4 := Hid.intro HH4.out.M4
          have hB4 := HH4.out.hB
          refine wpAnyH_take (i := 7) (oi := ⟨some 39, _, _, _, _, none⟩) (v := .pointer (some ⟨p, 0, none⟩)) rfl (by kernel_rfl) (by kernel_rfl) (by kernel_rfl) (fun _ _ _ h => h) (Or.inl ⟨by rfl, ?_⟩) hS ?_
          · intro wy hy
            clear hy
            go_simp
          simp only [Act.put, List.setIfInBounds_toArray, List.set_cons_zero, List.set_cons_succ]
          refine wpAnyH_take (i := 8) (oi := ⟨some 40, _, _, _, _, none⟩) (v := .pointer (some ⟨p, 0, none⟩)) rfl (by kernel_rfl) (by kernel_rfl) (by kernel_rfl) (fun _ _ _ h => h) (Or.inl ⟨by rfl, ?_⟩) hS ?_
          · intro wy hy
            clear hy
            go_simp
          simp only [Act.put, List.setIfInBounds_toArray, List.set_cons_zero, List.set_cons_succ]
          refine wpAnyH_take (i := 9) (oi := ⟨some 41, _, _, _, _, none⟩) (v := .pointer (some ⟨p, 3, none⟩)) rfl (by kernel_rfl) (by kernel_rfl) (by kernel_rfl) (fun _ _ _ h => h) (Or.inl ⟨by rfl, ?_⟩) hS ?_
          · intro wy hy
            clear hy
            go_simp
          simp only [Act.put, List.setIfInBounds_toArray, List.set_cons_zero, List.set_cons_succ]
          have kk : w4.cell? ⟨p, 3, none⟩ = some (.bool y.known) := hPx.out.cell rfl
          have ff : w4.frozen? ⟨p, 3, none⟩ = false := hPx.out.frozen _
          refine wpAnyH_ready (rs := [10]) (by kernel_rfl) (by simp) (AllReadyH.cons (o := ⟨none, _, _, _, _, none⟩) rfl (fun K hK => ?_) AllReadyH.nil)
          go_simp
          replace hPx : Hid (Blk p #[.string y.name, .bool y.up, .int .i64 y.clock, .bool true, .int .i64 y.seen, .slice a5 y.wants.length c5, .slice o6 k6 j6, .slice o7 k7 j7, .slice o8 k8 j8, .map m1, .map (some m2), .map (some m3), .map (some m4)] 114 (w4.setCell ⟨p, 3, none⟩ (.bool true))) := hPx.out.set 3 _
          have hB5 : Below W0.heap.size W0 (w4.setCell ⟨p, 3, none⟩ (.bool true)) := hB4.setCell (p := ⟨p, 3, none⟩) (show W0.heap.size ≤ p by omega) _
          replace hM2 : Hid ((w4.setCell ⟨p, 3, none⟩ (.bool true)).ownsMap Tryz.prog 9 elRn m2 n2 D2) := hM2.out.setCell (a := ⟨p, 3, none⟩) (show m2 ≠ p by omega) _
          replace hM3 : Hid ((w4.setCell ⟨p, 3, none⟩ (.bool true)).ownsMap Tryz.prog 9 aksElem m3 n3 D3) := hM3.out.setCell (a := ⟨p, 3, none⟩) (show m3 ≠ p by omega) _
          replace hM4 : Hid ((w4.setCell ⟨p, 3, none⟩ (.bool true)).ownsMap Tryz.prog 9 aksElem m4 n4 D4) := hM4.out.setCell (a := ⟨p, 3, none⟩) (show m4 ≠ p by omega) _
          refine hK.out _ _ (hS.other (a := ⟨p, 3, none⟩) (show g ≠ p by omega) _) (fun hS => ?_)
          clear hK K kk ff hB4
          generalize (w4.setCell ⟨p, 3, none⟩ (.bool true)) = w5 at *
          refine wpAnyH_take (i := 11) (oi := ⟨some 42, _, _, _, _, none⟩) (v := .pointer (some ⟨p, 0, none⟩)) rfl (by kernel_rfl) (by kernel_rfl) (by kernel_rfl) (fun _ _ _ h => h) (Or.inl ⟨by rfl, ?_⟩) hS ?_
          · intro wy hy
            clear hy
            go_simp
          simp only [Act.put, List.setIfInBounds_toArray, List.set_cons_zero, List.set_cons_succ]
          refine wpAnyH_take (i := 12) (oi := ⟨some 43, _, _, _, _, none⟩) (v := .pointer (some ⟨p, 0, none⟩)) rfl (by kernel_rfl) (by kernel_rfl) (by kernel_rfl) (fun _ _ _ h => h) (Or.inl ⟨by rfl, ?_⟩) hS ?_
          · intro wy hy
            clear hy
            go_simp
          simp only [Act.put, List.setIfInBounds_toArray, List.set_cons_zero, List.set_cons_succ]
          refine wpAnyH_take (i := 13) (oi := ⟨some 44, _, _, _, _, none⟩) (v := .pointer (some ⟨p, 4, none⟩)) rfl (by kernel_rfl) (by kernel_rfl) (by kernel_rfl) (fun _ _ _ h => h) (Or.inl ⟨by rfl, ?_⟩) hS ?_
          · intro wy hy
            clear hy
            go_simp
          simp only [Act.put, List.setIfInBounds_toArray, List.set_cons_zero, List.set_cons_succ]
          have kk : w5.cell? ⟨p, 4, none⟩ = some (.int .i64 y.seen) := hPx.out.cell rfl
          have ff : w5.frozen? ⟨p, 4, none⟩ = false := hPx.out.frozen _
          refine wpAnyH_ready (rs := [14]) (by kernel_rfl) (by simp) (AllReadyH.cons (o := ⟨none, _, _, _, _, none⟩) rfl (fun K hK => ?_) AllReadyH.nil)
          go_simp
          replace hPx : Hid (Blk p #[.string y.name, .bool y.up, .int .i64 y.clock, .bool true, .int .i64 q.seen, .slice a5 y.wants.length c5, .slice o6 k6 j6, .slice o7 k7 j7, .slice o8 k8 j8, .map m1, .map (some m2), .map (some m3), .map (some m4)] 114 (w5.setCell ⟨p, 4, none⟩ (.int .i64 q.seen))) := hPx.out.set 4 _
          have hB6 : Below W0.heap.size W0 (w5.setCell ⟨p, 4, none⟩ (.int .i64 q.seen)) := hB5.setCell (p := ⟨p, 4, none⟩) (show W0.heap.size ≤ p by omega) _
          replace hM2 : Hid ((w5.setCell ⟨p, 4, none⟩ (.int .i64 q.seen)).ownsMap Tryz.prog 9 elRn m2 n2 D2) := hM2.out.setCell (a := ⟨p, 4, none⟩) (show m2 ≠ p by omega) _
          replace hM3 : Hid ((w5.setCell ⟨p, 4, none⟩ (.int .i64 q.seen)).ownsMap Tryz.prog 9 aksElem m3 n3 D3) := hM3.out.setCell (a := ⟨p, 4, none⟩) (show m3 ≠ p by omega) _
          replace hM4 : Hid ((w5.setCell ⟨p, 4, none⟩ (.int .i64 q.seen)).ownsMap Tryz.prog 9 aksElem m4 n4 D4) := hM4.out.setCell (a := ⟨p, 4, none⟩) (show m4 ≠ p by omega) _
          refine hK.out _ _ (hS.other (a := ⟨p, 4, none⟩) (show g ≠ p by omega) _) (fun hS => ?_)
          clear hK K kk ff hB5
          generalize (w5.setCell ⟨p, 4, none⟩ (.int .i64 q.seen)) = w6 at *
          refine wpAnyH_take (i := 15) (oi := ⟨some 45, _, _, _, _, none⟩) (v := .pointer (some ⟨p, 0, none⟩)) rfl (by kernel_rfl) (by kernel_rfl) (by kernel_rfl) (fun _ _ _ h => h) (Or.inl ⟨by rfl, ?_⟩) hS ?_
          · intro wy hy
            clear hy
            go_simp
          simp only [Act.put, List.setIfInBounds_toArray, List.set_cons_zero, List.set_cons_succ]
          refine wpAnyH_take (i := 16) (oi := ⟨some 46, _, _, _, _, none⟩) (v := .pointer (some ⟨p, 0, none⟩)) rfl (by kernel_rfl) (by kernel_rfl) (by kernel_rfl) (fun _ _ _ h => h) (Or.inl ⟨by rfl, ?_⟩) hS ?_
          · intro wy hy
            clear hy
            go_simp
          simp only [Act.put, List.setIfInBounds_toArray, List.set_cons_zero, List.set_cons_succ]
          refine wpAnyH_take (i := 17) (oi := ⟨some 47, _, _, _, _, none⟩) (v := .pointer (some ⟨p, 5, none⟩)) rfl (by kernel_rfl) (by kernel_rfl) (by kernel_rfl) (fun _ _ _ h => h) (Or.inl ⟨by rfl, ?_⟩) hS ?_
          · intro wy hy
            clear hy
            go_simp
          simp only [Act.put, List.setIfInBounds_toArray, List.set_cons_zero, List.set_cons_succ]
          have kk : w6.cell? ⟨p, 5, none⟩ = some (.slice a5 y.wants.length c5) := hPx.out.cell rfl
          have ff : w6.frozen? ⟨p, 5, none⟩ = false := hPx.out.frozen _
          refine wpAnyH_ready (rs := [18]) (by kernel_rfl) (by simp) (AllReadyH.cons (o := ⟨none, _, _, _, _, none⟩) rfl (fun K hK => ?_) AllReadyH.nil)
          go_simp
          replace hPx : Hid (Blk p #[.string y.name, .bool y.up, .int .i64 y.clock, .bool true, .int .i64 q.seen, .slice b3 q.wants.length d3, .slice o6 k6 j6, .slice o7 k7 j7, .slice o8 k8 j8, .map m1, .map (some m2), .map (some m3), .map (some m4)] 114 (w6.setCell ⟨p, 5, none⟩ (.slice b3 q.wants.length d3))) := hPx.out.set 5 _
          have hB7 : Below W0.heap.size W0 (w6.setCell ⟨p, 5, none⟩ (.slice b3 q.wants.length d3)) := hB6.setCell (p := ⟨p, 5, none⟩) (show W0.heap.size ≤ p by omega) _
          replace hM2 : Hid ((w6.setCell ⟨p, 5, none⟩ (.slice b3 q.wants.length d3)).ownsMap Tryz.prog 9 elRn m2 n2 D2) := hM2.out.setCell (a := ⟨p, 5, none⟩) (show m2 ≠ p by omega) _
          replace hM3 : Hid ((w6.setCell ⟨p, 5, none⟩ (.slice b3 q.wants.length d3)).ownsMap Tryz.prog 9 aksElem m3 n3 D3) := hM3.out.setCell (a := ⟨p, 5, none⟩) (show m3 ≠ p by omega) _
          replace hM4 : Hid ((w6.setCell ⟨p, 5, none⟩ (.slice b3 q.wants.length d3)).ownsMap Tryz.prog 9 aksElem m4 n4 D4) := hM4.out.setCell (a := ⟨p, 5, none⟩) (show m4 ≠ p by omega) _
          refine hK.out _ _ (hS.other (a := ⟨p, 5, none⟩) (show g ≠ p by omega) _) (fun hS => ?_)
          clear hK K kk ff hB6
          generalize (w6.setCell ⟨p, 5, none⟩ (.slice b3 q.wants.length d3)) = w7 at *
          refine wpAnyH_done (by kernel_rfl) ?_ _
          clear hS
          have HF : Hid (BthI { y with known := true, seen := q.seen, wants := q.wants } p lo kb W0 b3 d3 o6 k6 j6 o7 k7 j7 o8 k8 j8 m1 m2 n2 m3 n3 m4 n4 D2 D3 D4 w7) := ⟨hPx.out, hM2.out, hM3.out, hM4.out, HH4.out.nn, HH4.out.T2, HH4.out.T3, HH4.out.T4, HH4.out.A6, HH4.out.A7, HH4.out.A8, HQ.out.s3, HQ.out.p3, ⟨HH4.out.sz.nm, HQ.out.z3, HH4.out.sz.z6, HH4.out.sz.z7, HH4.out.sz.z8, HQ.out.l3, HH4.out.sz.l6, HH4.out.sz.l7, HH4.out.sz.l8⟩, HH4.out.ab, HH4.out.ord, hB7⟩
          clear hPx hM2 hM3 hM4 hB7 HH4
          go_wp2_with fail
          first | go_end0 | ((try simp only [Exit.inBlock, Exit.then]); refine bodyPost_ret (results_none rfl _ _ _) rfl ?_)
          refine ⟨rfl, ?_⟩
          rw [HE.out]
          exact ⟨b3, d3, o6, k6, j6, o7, k7, j7, o8, k8, j8, m1, m2, n2, m3, n3, m4, n4, D2, D3, D4, HF.out⟩

end Go.Proofs.YtlangcodelcncaaGreat
