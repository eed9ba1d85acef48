import Derived.Test.YtlangcodelcncaaGreatTk1
import Derived.Maps.OwnSet
namespace Go.Proofs.YtlangcodelcncaaGreat
open Go.RowKit Go.WideMaps Go.Maps

set_option maxHeartbeats 8000000 in
set_option maxRecDepth 100000 in
theorem forget_any (y : Mte) (q : Pcl) (b3 : Option Addr) (d3 p lo kb : Nat) (W0 w : World) (h : Bth y p lo kb W0 w) (hq : QIn q b3 lo W0) :
    Calls Tryz.prog 79 #[.pointer (some ⟨p, 0, none⟩), .agg #[.int .i64 q.kind, .string q.berth, .int .i64 q.seen, .slice b3 q.wants.length d3, .string q.hold, .string q.copy, .int .i64 q.at_]] w fun e w' => e = .returned (.tuple #[]) ∧ Bth (forgetM y q) p lo kb W0 w' := by
  obtain ⟨a5, c5, o6, k6, j6, o7, k7, j7, o8, k8, j8, m1, m2, n2, m3, n3, m4, n4, D2, D3, D4, h⟩ := h
  have hpg : p < w.heap.size := h.hP.lt
  have hord := h.ord
  have HQ := Hid.intro hq
  have hb1 : Below w.heap.size w (w.alloc (Obj.cells #[.int .i64 q.kind, .string q.berth, .int .i64 q.seen, .slice b3 q.wants.length d3, .string q.hold, .string q.copy, .int .i64 q.at_] 39)) := (Below.refl _ w).alloc (Nat.le_refl _) _
  have HK1 : Hid (Blk w.heap.size #[.int .i64 q.kind, .string q.berth, .int .i64 q.seen, .slice b3 q.wants.length d3, .string q.hold, .string q.copy, .int .i64 q.at_] 39 (w.alloc (Obj.cells #[.int .i64 q.kind, .string q.berth, .int .i64 q.seen, .slice b3 q.wants.length d3, .string q.hold, .string q.copy, .int .i64 q.at_] 39))) := Blk.alloc _ _ _
  have HH := Hid.intro (h.below hb1)
  clear h hb1 hq
  go_enter Tryz.func79, Tryz.ntmps79
  go_upto_region 1 with fail
  generalize w.alloc (Obj.cells #[.int .i64 q.kind, .string q.berth, .int .i64 q.seen, .slice b3 q.wants.length d3, .string q.hold, .string q.copy, .int .i64 q.at_] 39) = w1 at *
  generalize w.heap.size = g at *
  rcases look_okA (m := m4) (n := n4) (D := D4) HH.out.T4 HQ.out.zh with ⟨x, hf, hl⟩ | ⟨hf, hl⟩
  case inr =>
    have HL := Hid.intro hl
    have HE : Hid (forgetM y q = y) := by show _ = _; unfold forgetM okGive; rw [hf]; rfl
    clear hf hl
    refine wp_region_held_drew (S := fun wy => Blk p #[.string y.name, .bool y.up, .int .i64 y.clock, .bool y.known, .int .i64 y.seen, .slice a5 y.wants.length c5, .slice o6 k6 j6, .slice o7 k7 j7, .slice o8 k8 j8, .map m1, .map (some m2), .map (some m3), .map (some m4)] 114 wy ∧ Blk g #[.int .i64 q.kind, .string q.berth, .int .i64 q.seen, .slice b3 q.wants.length d3, .string q.hold, .string q.copy, .int .i64 q.at_] 39 wy ∧ wy.ownsMap Tryz.prog 9 aksElem m4 n4 D4) (by kernel_rfl) ⟨HH.out.hP.drew, HK1.out.drew, own_heap HH.out.M4 rfl⟩ (fun hS => ?_)
    have hb2 : Below w1.heap.size w1 w1.drew := (Below.refl _ _).drew
    have HH2 := Hid.intro (HH.out.below hb2)
    have HK2 := Hid.intro (HK1.out.below hb2 HK1.out.lt)
    clear HH HK1 hb2
    generalize w1.drew = w2 at *
    refine wpAnyH_take (i := 0) (oi := ⟨some 7, _, _, _, _, none⟩) (v := .pointer (some ⟨p, 0, none⟩)) rfl (by kernel_rfl) (by kernel_rfl) (by kernel_rfl) (fun _ _ _ h => h) (Or.inl ⟨by rfl, ?_⟩) hS ?_
    · intro wy hy
      clear hy
      go_simp
    simp only [Act.put, List.setIfInBounds_toArray, List.set_cons_zero, List.set_cons_succ]
    refine wpAnyH_take (i := 1) (oi := ⟨some 8, _, _, _, _, none⟩) (v := .pointer (some ⟨p, 0, none⟩)) rfl (by kernel_rfl) (by kernel_rfl) (by kernel_rfl) (fun _ _ _ h => h) (Or.inl ⟨by rfl, ?_⟩) hS ?_
    · intro wy hy
      clear hy
      go_simp
    simp only [Act.put, List.setIfInBounds_toArray, List.set_cons_zero, List.set_cons_succ]
    refine wpAnyH_take (i := 2) (oi := ⟨some 9, _, _, _, _, none⟩) (v := .pointer (some ⟨p, 12, none⟩)) rfl (by kernel_rfl) (by kernel_rfl) (by kernel_rfl) (fun _ _ _ h => h) (Or.inl ⟨by rfl, ?_⟩) hS ?_
    · intro wy hy
      clear hy
      go_simp
    simp only [Act.put, List.setIfInBounds_toArray, List.set_cons_zero, List.set_cons_succ]
    refine wpAnyH_take (i := 3) (oi := ⟨some 10, _, _, _, _, none⟩) (v := .map (some m4)) rfl (by kernel_rfl) (by kernel_rfl) (by kernel_rfl) (fun _ _ _ h => h) (Or.inl ⟨by rfl, ?_⟩) hS ?_
    · intro wy hy
      have h0 : wy.cell? ⟨p, 12, none⟩ = some (.map (some m4)) := hy.1.cell rfl
      clear hy
      go_simp
    simp only [Act.put, List.setIfInBounds_toArray, List.set_cons_zero, List.set_cons_succ]
    refine wpAnyH_take (i := 4) (oi := ⟨some 11, _, _, _, _, none⟩) (v := .pointer (some ⟨g, 4, none⟩)) rfl (by kernel_rfl) (by kernel_rfl) (by kernel_rfl) (fun _ _ _ h => h) (Or.inl ⟨by rfl, ?_⟩) hS ?_
    · intro wy hy
      clear hy
      go_simp
    simp only [Act.put, List.setIfInBounds_toArray, List.set_cons_zero, List.set_cons_succ]
    refine wpAnyH_take (i := 5) (oi := ⟨some 12, _, _, _, _, none⟩) (v := .string q.hold) rfl (by kernel_rfl) (by kernel_rfl) (by kernel_rfl) (fun _ _ _ h => h) (Or.inl ⟨by rfl, ?_⟩) hS ?_
    · intro wy hy
      have h0 : wy.cell? ⟨g, 4, none⟩ = some (.string q.hold) := hy.2.1.cell rfl
      clear hy
      go_simp
    simp only [Act.put, List.setIfInBounds_toArray, List.set_cons_zero, List.set_cons_succ]
    refine wpAnyH_take (i := 6) (oi := ⟨some 13, _, _, _, _, none⟩) (v := .tuple #[.agg #[.string ⟨#[]⟩, .string ⟨#[]⟩, .int .i64 0, .int .i64 0], .bool false]) rfl (by kernel_rfl) (by kernel_rfl) (by kernel_rfl) (fun _ _ _ h => h) (Or.inl ⟨by rfl, ?_⟩) hS ?_
    · intro wy hy
      have hy3 := hy.2.2
      have h0 := HL.out wy hy3
      clear hy
      first | (go_simp; done) | (simp [go_sem, HL.out _ hy3]; done) | (go_simp; rw [HL.out _ hy3]; done) | (go_simp; rw [HL.out _ hy3]; rfl)
    simp only [Act.put, List.setIfInBounds_toArray, List.set_cons_zero, List.set_cons_succ]
    refine wpAnyH_take (i := 7) (oi := ⟨some 6, _, _, _, _, none⟩) (v := .tuple #[.agg #[.string ⟨#[]⟩, .string ⟨#[]⟩, .int .i64 0, .int .i64 0], .bool false]) rfl (by kernel_rfl) (by kernel_rfl) (by kernel_rfl) (fun _ _ _ h => h) (Or.inl ⟨by rfl, ?_⟩) hS ?_
    · intro wy hy
      clear hy
      go_simp
    simp only [Act.put, List.setIfInBounds_toArray, List.set_cons_zero, List.set_cons_succ]
    refine wpAnyH_take (i := 8) (oi := ⟨some 14, _, _, _, _, none⟩) (v := .agg #[.string ⟨#[]⟩, .string ⟨#[]⟩, .int .i64 0, .int .i64 0]) rfl (by kernel_rfl) (by kernel_rfl) (by kernel_rfl) (fun _ _ _ h => h) (Or.inl ⟨by rfl, ?_⟩) hS ?_
    · intro wy hy
      clear hy
      go_simp
    simp only [Act.put, List.setIfInBounds_toArray, List.set_cons_zero, List.set_cons_succ]
    refine wpAnyH_take (i := 9) (oi := ⟨some 15, _, _, _, _, none⟩) (v := .bool false) rfl (by kernel_rfl) (by kernel_rfl) (by kernel_rfl) (fun _ _ _ h => h) (Or.inl ⟨by rfl, ?_⟩) hS ?_
    · intro wy hy
      clear hy
      go_simp
    simp only [Act.put, List.setIfInBounds_toArray, List.set_cons_zero, List.set_cons_succ]
    refine wpAnyH_ready (rs := [10]) (by kernel_rfl) (by simp) (AllReadyH.cons (o := ⟨some 4, _, _, _, _, none⟩) rfl (fun K hK => ?_) AllReadyH.nil)
    go_simp
    have HG3 := Hid.intro (Blk.alloc w2 #[.string ⟨#[]⟩, .string ⟨#[]⟩, .int .i64 0, .int .i64 0] 61)
    have hb3 : Below w2.heap.size w2 (w2.alloc (Obj.cells #[.string ⟨#[]⟩, .string ⟨#[]⟩, .int .i64 0, .int .i64 0] 61)) := (Below.refl _ _).alloc (Nat.le_refl _) _
    have HH3 := Hid.intro (HH2.out.below hb3)
    have HK3 := Hid.intro (HK2.out.below hb3 HK2.out.lt)
    have hg3 : g < w2.heap.size := HK2.out.lt
    refine hK.out _ _ ⟨hS.1.below hb3 hS.1.lt, hS.2.1.below hb3 hS.2.1.lt, ownsMap_below hS.2.2 hb3 hS.2.2.lt⟩ (fun hS => ?_)
    clear hK K hb3 HH2 HK2
    generalize w2.alloc (Obj.cells #[.string ⟨#[]⟩, .string ⟨#[]⟩, .int .i64 0, .int .i64 0] 61) = w3 at *
    generalize w2.heap.size = ga at *
    refine wpAnyH_ready (rs := [11]) (by kernel_rfl) (by simp) (AllReadyH.cons (o := ⟨none, _, _, _, _, none⟩) rfl (fun K hK => ?_) AllReadyH.nil)
    rw [if_pos (by rfl)]
    refine wp_store_mid 61 (.tmp 4) (.tmp 14) (by rfl) ga 0 #[.string ⟨#[]⟩, .string ⟨#[]⟩, .int .i64 0, .int .i64 0] (by rfl) (by rfl) HG3.out.there isz_Aks (by simp [Value.oneCell']) ?_
    have HG4 : Hid (Blk ga #[.string ⟨#[]⟩, .string ⟨#[]⟩, .int .i64 0, .int .i64 0] 61 (w3.setCells ga 0 [.string ⟨#[]⟩, .string ⟨#[]⟩, .int .i64 0, .int .i64 0])) := HG3.out.setAll #[.string ⟨#[]⟩, .string ⟨#[]⟩, .int .i64 0, .int .i64 0] rfl
    have hb4 : Below ga w3 (w3.setCells ga 0 [.string ⟨#[]⟩, .string ⟨#[]⟩, .int .i64 0, .int .i64 0]) := below_setCells (Nat.le_refl _) _ _ _ (Below.refl _ _)
    have HH4 := Hid.intro (HH3.out.under hb4 (by omega))
    have HK4 := Hid.intro (HK3.out.below hb4 hg3)
    refine hK.out _ _ ⟨HH4.out.hP, HK4.out, HH4.out.M4⟩ (fun hS => ?_)
    clear hK K hb4 HH3 HK3 HG3
    generalize (w3.setCells ga 0 [.string ⟨#[]⟩, .string ⟨#[]⟩, .int .i64 0, .int .i64 0]) = w4 at *
    refine wpAnyH_take (i := 12) (oi := ⟨some 5, _, _, _, _, none⟩) (v := .bool false) rfl (by kernel_rfl) (by kernel_rfl) (by kernel_rfl) (fun _ _ _ h => h) (Or.inl ⟨by rfl, ?_⟩) hS ?_
    · intro wy hy
      clear hy
      go_simp
    simp only [Act.put, List.setIfInBounds_toArray, List.set_cons_zero, List.set_cons_succ]
    refine wpAnyH_done (by kernel_rfl) ?_ _
    clear hS
    go_wp2_with fail
    first | go_end0 | ((try simp only [Exit.inBlock, Exit.then]); refine bodyPost_ret (results_none rfl _ _ _) rfl ?_)
    refine ⟨rfl, ?_⟩
    rw [HE.out]
    exact ⟨a5, c5, o6, k6, j6, o7, k7, j7, o8, k8, j8, m1, m2, n2, m3, n3, m4, n4, D2, D3, D4, HH4.out⟩
  have HL := Hid.intro hl
  have HF := Hid.intro hf
  clear hf hl
  refine wp_region_held_drew (S := fun wy => Blk p #[.string y.name, .bool y.up, .int .i64 y.clock, .bool y.known, .int .i64 y.seen, .slice a5 y.wants.length c5, .slice o6 k6 j6, .slice o7 k7 j7, .slice o8 k8 j8, .map m1, .map (some m2), .map (some m3), .map (some m4)] 114 wy ∧ Blk g #[.int .i64 q.kind, .string q.berth, .int .i64 q.seen, .slice b3 q.wants.length d3, .string q.hold, .string q.copy, .int .i64 q.at_] 39 wy ∧ wy.ownsMap Tryz.prog 9 aksElem m4 n4 D4) (by kernel_rfl) ⟨HH.out.hP.drew, HK1.out.drew, own_heap HH.out.M4 rfl⟩ (fun hS => ?_)
  have hb2 : Below w1.heap.size w1 w1.drew := (Below.refl _ _).drew
  have HH2 := Hid.intro (HH.out.below hb2)
  have HK2 := Hid.intro (HK1.out.below hb2 HK1.out.lt)
  clear HH HK1 hb2
  generalize w1.drew = w2 at *
  refine wpAnyH_take (i := 0) (oi := ⟨some 7, _, _, _, _, none⟩) (v := .pointer (some ⟨p, 0, none⟩)) rfl (by kernel_rfl) (by kernel_rfl) (by kernel_rfl) (fun _ _ _ h => h) (Or.inl ⟨by rfl, ?_⟩) hS ?_
  · intro wy hy
    clear hy
    go_simp
  simp only [Act.put, List.setIfInBounds_toArray, List.set_cons_zero, List.set_cons_succ]
  refine wpAnyH_take (i := 1) (oi := ⟨some 8, _, _, _, _, none⟩) (v := .pointer (some ⟨p, 0, none⟩)) rfl (by kernel_rfl) (by kernel_rfl) (by kernel_rfl) (fun _ _ _ h => h) (Or.inl ⟨by rfl, ?_⟩) hS ?_
  · intro wy hy
    clear hy
    go_simp
  simp only [Act.put, List.setIfInBounds_toArray, List.set_cons_zero, List.set_cons_succ]
  refine wpAnyH_take (i := 2) (oi := ⟨some 9, _, _, _, _, none⟩) (v := .pointer (some ⟨p, 12, none⟩)) rfl (by kernel_rfl) (by kernel_rfl) (by kernel_rfl) (fun _ _ _ h => h) (Or.inl ⟨by rfl, ?_⟩) hS ?_
  · intro wy hy
    clear hy
    go_simp
  simp only [Act.put, List.setIfInBounds_toArray, List.set_cons_zero, List.set_cons_succ]
  refine wpAnyH_take (i := 3) (oi := ⟨some 10, _, _, _, _, none⟩) (v := .map (some m4)) rfl (by kernel_rfl) (by kernel_rfl) (by kernel_rfl) (fun _ _ _ h => h) (Or.inl ⟨by rfl, ?_⟩) hS ?_
  · intro wy hy
    have h0 : wy.cell? ⟨p, 12, none⟩ = some (.map (some m4)) := hy.1.cell rfl
    clear hy
    go_simp
  simp only [Act.put, List.setIfInBounds_toArray, List.set_cons_zero, List.set_cons_succ]
  refine wpAnyH_take (i := 4) (oi := ⟨some 11, _, _, _, _, none⟩) (v := .pointer (some ⟨g, 4, none⟩)) rfl (by kernel_rfl) (by kernel_rfl) (by kernel_rfl) (fun _ _ _ h => h) (Or.inl ⟨by rfl, ?_⟩) hS ?_
  · intro wy hy
    clear hy
    go_simp
  simp only [Act.put, List.setIfInBounds_toArray, List.set_cons_zero, List.set_cons_succ]
  refine wpAnyH_take (i := 5) (oi := ⟨some 12, _, _, _, _, none⟩) (v := .string q.hold) rfl (by kernel_rfl) (by kernel_rfl) (by kernel_rfl) (fun _ _ _ h => h) (Or.inl ⟨by rfl, ?_⟩) hS ?_
  · intro wy hy
    have h0 : wy.cell? ⟨g, 4, none⟩ = some (.string q.hold) := hy.2.1.cell rfl
    clear hy
    go_simp
  simp only [Act.put, List.setIfInBounds_toArray, List.set_cons_zero, List.set_cons_succ]
  refine wpAnyH_take (i := 6) (oi := ⟨some 13, _, _, _, _, none⟩) (v := .tuple #[.agg #[.string x.hold, .string x.copy, .int .i64 x.first, .int .i64 x.at_], .bool true]) rfl (by kernel_rfl) (by kernel_rfl) (by kernel_rfl) (fun _ _ _ h => h) (Or.inl ⟨by rfl, ?_⟩) hS ?_
  · intro wy hy
    have hy3 := hy.2.2
    have h0 := HL.out wy hy3
    clear hy
    first | (go_simp; done) | (simp [go_sem, HL.out _ hy3]; done) | (go_simp; rw [HL.out _ hy3]; done) | (go_simp; rw [HL.out _ hy3]; rfl)
  simp only [Act.put, List.setIfInBounds_toArray, List.set_cons_zero, List.set_cons_succ]
  refine wpAnyH_take (i := 7) (oi := ⟨some 6, _, _, _, _, none⟩) (v := .tuple #[.agg #[.string x.hold, .string x.copy, .int .i64 x.first, .int .i64 x.at_], .bool true]) rfl (by kernel_rfl) (by kernel_rfl) (by kernel_rfl) (fun _ _ _ h => h) (Or.inl ⟨by rfl, ?_⟩) hS ?_
  · intro wy hy
    clear hy
    go_simp
  simp only [Act.put, List.setIfInBounds_toArray, List.set_cons_zero, List.set_cons_succ]
  refine wpAnyH_take (i := 8) (oi := ⟨some 14, _, _, _, _, none⟩) (v := .agg #[.string x.hold, .string x.copy, .int .i64 x.first, .int .i64 x.at_]) rfl (by kernel_rfl) (by kernel_rfl) (by kernel_rfl) (fun _ _ _ h => h) (Or.inl ⟨by rfl, ?_⟩) hS ?_
  · intro wy hy
    clear hy
    go_simp
  simp only [Act.put, List.setIfInBounds_toArray, List.set_cons_zero, List.set_cons_succ]
  refine wpAnyH_take (i := 9) (oi := ⟨some 15, _, _, _, _, none⟩) (v := .bool true) rfl (by kernel_rfl) (by kernel_rfl) (by kernel_rfl) (fun _ _ _ h => h) (Or.inl ⟨by rfl, ?_⟩) hS ?_
  · intro wy hy
    clear hy
    go_simp
  simp only [Act.put, List.setIfInBounds_toArray, List.set_cons_zero, List.set_cons_succ]
  refine wpAnyH_ready (rs := [10]) (by kernel_rfl) (by simp) (AllReadyH.cons (o := ⟨some 4, _, _, _, _, none⟩) rfl (fun K hK => ?_) AllReadyH.nil)
  go_simp
  have HG3 := Hid.intro (Blk.alloc w2 #[.string ⟨#[]⟩, .string ⟨#[]⟩, .int .i64 0, .int .i64 0] 61)
  have hb3 : Below w2.heap.size w2 (w2.alloc (Obj.cells #[.string ⟨#[]⟩, .string ⟨#[]⟩, .int .i64 0, .int .i64 0] 61)) := (Below.refl _ _).alloc (Nat.le_refl _) _
  have HH3 := Hid.intro (HH2.out.below hb3)
  have HK3 := Hid.intro (HK2.out.below hb3 HK2.out.lt)
  have hg3 : g < w2.heap.size := HK2.out.lt
  refine hK.out _ _ ⟨hS.1.below hb3 hS.1.lt, hS.2.1.below hb3 hS.2.1.lt, ownsMap_below hS.2.2 hb3 hS.2.2.lt⟩ (fun hS => ?_)
  clear hK K hb3 HH2 HK2
  generalize w2.alloc (Obj.cells #[.string ⟨#[]⟩, .string ⟨#[]⟩, .int .i64 0, .int .i64 0] 61) = w3 at *
  generalize w2.heap.size = ga at *
  refine wpAnyH_ready (rs := [11]) (by kernel_rfl) (by simp) (AllReadyH.cons (o := ⟨none, _, _, _, _, none⟩) rfl (fun K hK => ?_) AllReadyH.nil)
  rw [if_pos (by rfl)]
  refine wp_store_mid 61 (.tmp 4) (.tmp 14) (by rfl) ga 0 #[.string x.hold, .string x.copy, .int .i64 x.first, .int .i64 x.at_] (by rfl) (by rfl) HG3.out.there isz_Aks (by simp [Value.oneCell']) ?_
  have HG4 : Hid (Blk ga #[.string x.hold, .string x.copy, .int .i64 x.first, .int .i64 x.at_] 61 (w3.setCells ga 0 [.string x.hold, .string x.copy, .int .i64 x.first, .int .i64 x.at_])) := HG3.out.setAll #[.string x.hold, .string x.copy, .int .i64 x.first, .int .i64 x.at_] rfl
  have hb4 : Below ga w3 (w3.setCells ga 0 [.string x.hold, .string x.copy, .int .i64 x.first, .int .i64 x.at_]) := below_setCells (Nat.le_refl _) _ _ _ (Below.refl _ _)
  have HH4 := Hid.intro (HH3.out.under hb4 (by omega))
  have HK4 := Hid.intro (HK3.out.below hb4 hg3)
  refine hK.out _ _ ⟨HH4.out.hP, HK4.out, HH4.out.M4⟩ (fun hS => ?_)
  clear hK K hb4 HH3 HK3 HG3
  generalize (w3.setCells ga 0 [.string x.hold, .string x.copy, .int .i64 x.first, .int .i64 x.at_]) = w4 at *
  refine wpAnyH_take (i := 12) (oi := ⟨some 5, _, _, _, _, none⟩) (v := .bool true) rfl (by kernel_rfl) (by kernel_rfl) (by kernel_rfl) (fun _ _ _ h => h) (Or.inl ⟨by rfl, ?_⟩) hS ?_
  · intro wy hy
    clear hy
    go_simp
  simp only [Act.put, List.setIfInBounds_toArray, List.set_cons_zero, List.set_cons_succ]
  refine wpAnyH_done (by kernel_rfl) ?_ _
  clear hS
  have d3 : w4.cell? ⟨ga, 3, none⟩ = some (.int .i64 x.at_) := HG4.out.cell rfl
  have e6 : w4.cell? ⟨g, 6, none⟩ = some (.int .i64 q.at_) := HK4.out.cell rfl
  cases hx : (x.at_ == q.at_) with
  | false =>
    have HE : Hid (forgetM y q = y) := by show _ = _; unfold forgetM; rw [show okGive y q = false by unfold okGive; rw [HF.out]; exact hx]; rfl
    go_wp2_with fail
    first | go_end0 | ((try simp only [Exit.inBlock, Exit.then]); refine bodyPost_ret (results_none rfl _ _ _) rfl ?_)
    refine ⟨rfl, ?_⟩
    rw [HE.out]
    exact ⟨a5, c5, o6, k6, j6, o7, k7, j7, o8, k8, j8, m1, m2, n2, m3, n3, m4, n4, D2, D3, D4, HH4.out⟩
  | true =>
    have HE : Hid (forgetM y q = { y with gives := y.gives.filter (fun g => !decide (g.hold = q.hold)) }) := by show _ = _; unfold forgetM; rw [show okGive y q = true by unfold okGive; rw [HF.out]; exact hx]; rfl
    go_wp2_with fail
    clear d3 e6 hx
    refine wp_region_held_drew (S := fun wy => Blk p #[.string y.name, .bool y.up, .int .i64 y.clock, .bool y.known, .int .i64 y.seen, .slice a5 y.wants.length c5, .slice o6 k6 j6, .slice o7 k7 j7, .slice o8 k8 j8, .map m1, .map (some m2), .map (some m3), .map (some m4)] 114 wy ∧ Blk g #[.int .i64 q.kind, .string q.berth, .int .i64 q.seen, .slice b3 q.wants.length d3, .string q.hold, .string q.copy, .int .i64 q.at_] 39 wy) (by kernel_rfl) ⟨HH4.out.hP.drew, HK4.out.drew⟩ (fun hS => ?_)
    have hb5 : Below w4.heap.size w4 w4.drew := (Below.refl _ _).drew
    have HH5 := Hid.intro (HH4.out.below hb5)
    clear HH4 HK4 HG4 hb5
    generalize w4.drew = w5 at *
    refine wpAnyH_take (i := 0) (oi := ⟨some 24, _, _, _, _, none⟩) (v := .pointer (some ⟨p, 0, none⟩)) rfl (by kernel_rfl) (by kernel_rfl) (by kernel_rfl) (fun _ _ _ h => h) (Or.inl ⟨by rfl, ?_⟩) hS ?_
    · intro wy hy
      clear hy
      go_simp
    simp only [Act.put, List.setIfInBounds_toArray, List.set_cons_zero, List.set_cons_succ]
    refine wpAnyH_take (i := 1) (oi := ⟨some 25, _, _, _, _, none⟩) (v := .pointer (some ⟨p, 0, none⟩)) rfl (by kernel_rfl) (by kernel_rfl) (by kernel_rfl) (fun _ _ _ h => h) (Or.inl ⟨by rfl, ?_⟩) hS ?_
    · intro wy hy
      clear hy
      go_simp
    simp only [Act.put, List.setIfInBounds_toArray, List.set_cons_zero, List.set_cons_succ]
    refine wpAnyH_take (i := 2) (oi := ⟨some 26, _, _, _, _, none⟩) (v := .pointer (some ⟨p, 12, none⟩)) rfl (by kernel_rfl) (by kernel_rfl) (by kernel_rfl) (fun _ _ _ h => h) (Or.inl ⟨by rfl, ?_⟩) hS ?_
    · intro wy hy
      clear hy
      go_simp
    simp only [Act.put, List.setIfInBounds_toArray, List.set_cons_zero, List.set_cons_succ]
    refine wpAnyH_take (i := 3) (oi := ⟨some 27, _, _, _, _, none⟩) (v := .map (some m4)) rfl (by kernel_rfl) (by kernel_rfl) (by kernel_rfl) (fun _ _ _ h => h) (Or.inl ⟨by rfl, ?_⟩) hS ?_
    · intro wy hy
      have h0 : wy.cell? ⟨p, 12, none⟩ = some (.map (some m4)) := hy.1.cell rfl
      clear hy
      go_simp
    simp only [Act.put, List.setIfInBounds_toArray, List.set_cons_zero, List.set_cons_succ]
    refine wpAnyH_take (i := 4) (oi := ⟨some 28, _, _, _, _, none⟩) (v := .pointer (some ⟨g, 4, none⟩)) rfl (by kernel_rfl) (by kernel_rfl) (by kernel_rfl) (fun _ _ _ h => h) (Or.inl ⟨by rfl, ?_⟩) hS ?_
    · intro wy hy
      clear hy
      go_simp
    simp only [Act.put, List.setIfInBounds_toArray, List.set_cons_zero, List.set_cons_succ]
    refine wpAnyH_take (i := 5) (oi := ⟨some 29, _, _, _, _, none⟩) (v := .string q.hold) rfl (by kernel_rfl) (by kernel_rfl) (by kernel_rfl) (fun _ _ _ h => h) (Or.inl ⟨by rfl, ?_⟩) hS ?_
    · intro wy hy
      have h0 : wy.cell? ⟨g, 4, none⟩ = some (.string q.hold) := hy.2.cell rfl
      clear hy
      go_simp
    simp only [Act.put, List.setIfInBounds_toArray, List.set_cons_zero, List.set_cons_succ]
    have hz4 : q.hold.size ≤ maxLen := by have := HQ.out.zh; unfold maxLen; omega
    refine wpAnyH_ready (rs := [6]) (by kernel_rfl) (by simp) (AllReadyH.cons (o := ⟨none, _, _, _, _, none⟩) rfl (fun K hK => ?_) AllReadyH.nil)
    obtain ⟨w6, hrun, hown, hturn⟩ := HH5.out.M4.drop law_str Tryz.underlying110 (keyOf_string_mk Tryz.underlying9 hz4) 0
    have hg6 := hturn.grown
    have hP6 := Hid.intro (blk_grown HH5.out.hP hg6 (by omega))
    have hQ6 := blk_grown hS.2 hg6 (by omega)
    have HM2 := Hid.intro (own_grown HH5.out.M2 hg6 (by omega))
    have HM3 := Hid.intro (own_grown HH5.out.M3 hg6 (by omega))
    have hB6 : Below W0.heap.size W0 w6 := HH5.out.hB.grown hg6 HH5.out.hB.size (fun j hj => by cases hj; omega)
    have HF6 : Hid (BthI { y with gives := y.gives.filter (fun g => !decide (g.hold = q.hold)) } p lo kb W0 a5 c5 o6 k6 j6 o7 k7 j7 o8 k8 j8 m1 m2 n2 m3 n3 m4 n4 D2 D3 (D4.del (kOf q.hold)) w6) := ⟨hP6.out, HM2.out, HM3.out, hown, HH5.out.nn, HH5.out.T2, HH5.out.T3, HH5.out.T4.del q.hold, HH5.out.A6, HH5.out.A7, asc_filter _ HH5.out.A8, HH5.out.s5, HH5.out.p5, ⟨HH5.out.sz.nm, HH5.out.sz.z5, HH5.out.sz.z6, HH5.out.sz.z7, fun a ha => HH5.out.sz.z8 a (List.mem_filter.1 ha).1, HH5.out.sz.l5, HH5.out.sz.l6, HH5.out.sz.l7, Nat.le_trans (List.length_filter_le _ _) HH5.out.sz.l8⟩, HH5.out.ab, HH5.out.ord, hB6⟩
    rw [if_pos (by rfl)]
    refine wp_delete (.tmp 27) (.tmp 29) 110 9 (by rfl) m4 _ (by rfl) (by rfl) hrun ?_
    refine hK.out _ _ ⟨hP6.out, hQ6⟩ (fun hS => ?_)
    clear hK K hg6 hP6 HM2 HM3 hB6 HH5 hown hturn hrun
    refine wpAnyH_done (by kernel_rfl) ?_ _
    clear hS
    go_wp2_with fail
    first | go_end0 | ((try simp only [Exit.inBlock, Exit.then]); refine bodyPost_ret (results_none rfl _ _ _) rfl ?_)
    refine ⟨rfl, ?_⟩
    rw [HE.out]
    exact ⟨a5, c5, o6, k6, j6, o7, k7, j7, o8, k8, j8, m1, m2, n2, m3, n3, m4, n4, D2, D3, _, HF6.out⟩

end Go.Proofs.YtlangcodelcncaaGreat
