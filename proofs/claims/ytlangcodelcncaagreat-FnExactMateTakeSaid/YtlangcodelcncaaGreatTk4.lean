import Derived.Test.YtlangcodelcncaaGreatTk1
import Derived.Maps.OwnSet
namespace Go.Proofs.YtlangcodelcncaaGreat
open Go.RowKit Go.WideMaps Go.Maps

theorem wp_mapUpdate {P : Program} {op : Oper} {a : Act} {w w' : World} {K : Act → World → Prop} {Q : Exit → Act → World → Prop} (m x v : Operand) (t : TypeId) (hop : op.op = Op.mapUpdate t m x v) (b : Nat) (key val : Value)
    (hm : a.eval m = .map (some b)) (hx : a.eval x = key) (hv : a.eval v = val) (hrun : (Instr.mapUpdate t (.map (some b)) key val).run P w = .ok () w') (hK : K (a.put op.dst undef) w') : op.wp P a w K Q := by
  unfold Oper.wp
  simp [execOp, hop, hm, hx, hv, hrun, Result.andThen]
  exact hK

theorem upd_same {q : Pcl} {r : Rn} (hh : r.want.hold = q.hold) (hc : r.want.copy = q.copy) : updR q r = { r with until_ := max r.until_ (q.at_ + 16) } := by
  unfold updR
  by_cases h : r.until_ < q.at_ + 16
  · rw [if_pos ⟨hh, hc, h⟩, show max r.until_ (q.at_ + 16) = q.at_ + 16 by omega]
  · rw [if_neg (fun h2 => h h2.2.2), show max r.until_ (q.at_ + 16) = r.until_ by omega]

theorem upd_other {q : Pcl} {r : Rn} (h : ¬ (r.want.hold = q.hold ∧ r.want.copy = q.copy)) : updR q r = r := by
  unfold updR
  rw [if_neg (fun h2 => h ⟨h2.1, h2.2.1⟩)]

theorem map_id_of {q : Pcl} {xs : List Rn} (h : ∀ z ∈ xs, updR q z = z) : xs.map (updR q) = xs := by
  have : xs.map (updR q) = xs.map id := List.map_congr_left h
  rw [this, List.map_id]

theorem lease_none {y : Mte} {q : Pcl} (h : y.runs.find? (fun a => decide (a.want.copy = q.copy)) = none) : leaseM y q = y := by
  unfold leaseM
  split
  · rw [map_id_of (fun z hz => upd_other (fun e => by have := List.find?_eq_none.1 h z hz; simp [e.2] at this))]
  · rfl

theorem run_uniq {xs : List Rn} {c : ByteArray} {r z : Rn} (ha : ascTo (xs.map (·.want.copy)) xs.length = true) (hf : xs.find? (fun a => decide (a.want.copy = c)) = some r) (hz : z ∈ xs) (hc : z.want.copy = c) : z = r := by
  have hn : (xs.map (·.want.copy)).Nodup := nodup_of (by rw [List.length_map]; exact ha)
  have := find_uniq (f := (·.want.copy)) hn hz
  rw [hc, hf] at this
  exact (Option.some.inj this).symm

theorem lease_other {y : Mte} {q : Pcl} {r : Rn} (ha : ascTo (y.runs.map (·.want.copy)) y.runs.length = true) (hf : y.runs.find? (fun a => decide (a.want.copy = q.copy)) = some r) (hh : ¬ r.want.hold = q.hold) : leaseM y q = y := by
  unfold leaseM
  split
  · rw [map_id_of (fun z hz => upd_other (fun e => hh (by rw [← run_uniq ha hf hz e.2]; exact e.1)))]
  · rfl

set_option maxHeartbeats 8000000 in
set_option maxRecDepth 100000 in
theorem lease_any (y : Mte) (q : Pcl) (b3 : Option Addr) (d3 p lo kb : Nat) (W0 w : World) (h : Bth y p lo kb W0 w) (hq : QIn q b3 lo W0) (hkb : kb ≤ 2000000) :
    Calls Tryz.prog 78 #[.pointer (some ⟨p, 0, none⟩), .agg #[.int .i64 q.kind, .string q.berth, .int .i64 q.seen, .slice b3 q.wants.length d3, .string q.hold, .string q.copy, .int .i64 q.at_]] w fun e w' => e = .returned (.tuple #[]) ∧ Bth (leaseM y q) p lo (kb + 1) W0 w' := by
  obtain ⟨a5, c5, o6, k6, j6, o7, k7, j7, o8, k8, j8, m1, m2, n2, m3, n3, m4, n4, D2, D3, D4, h⟩ := h
  have hpg : p < w.heap.size := h.hP.lt
  have hord := h.ord
  have HQ := Hid.intro hq
  have hb1 : Below w.heap.size w (w.alloc (Obj.cells #[.int .i64 q.kind, .string q.berth, .int .i64 q.seen, .slice b3 q.wants.length d3, .string q.hold, .string q.copy, .int .i64 q.at_] 39)) := (Below.refl _ w).alloc (Nat.le_refl _) _
  have HK1 : Hid (Blk w.heap.size #[.int .i64 q.kind, .string q.berth, .int .i64 q.seen, .slice b3 q.wants.length d3, .string q.hold, .string q.copy, .int .i64 q.at_] 39 (w.alloc (Obj.cells #[.int .i64 q.kind, .string q.berth, .int .i64 q.seen, .slice b3 q.wants.length d3, .string q.hold, .string q.copy, .int .i64 q.at_] 39))) := Blk.alloc _ _ _
  have HH := Hid.intro (h.below hb1)
  clear h hb1 hq
  go_enter Tryz.func78, Tryz.ntmps78
  go_upto_region 1 with fail
  generalize w.alloc (Obj.cells #[.int .i64 q.kind, .string q.berth, .int .i64 q.seen, .slice b3 q.wants.length d3, .string q.hold, .string q.copy, .int .i64 q.at_] 39) = w1 at *
  generalize w.heap.size = g at *
  rcases look_okA (m := m3) (n := n3) (D := D3) HH.out.T3 HQ.out.zh with ⟨x, hf, hl⟩ | ⟨hf, hl⟩
  case inr =>
    have HL := Hid.intro hl
    have HE : Hid (leaseM y q = y) := by show _ = _; unfold leaseM okAsk; rw [hf]; rfl
    clear hf hl
    refine wp_region_held_drew (S := fun wy => Blk p #[.string y.name, .bool y.up, .int .i64 y.clock, .bool y.known, .int .i64 y.seen, .slice a5 y.wants.length c5, .slice o6 k6 j6, .slice o7 k7 j7, .slice o8 k8 j8, .map m1, .map (some m2), .map (some m3), .map (some m4)] 114 wy ∧ Blk g #[.int .i64 q.kind, .string q.berth, .int .i64 q.seen, .slice b3 q.wants.length d3, .string q.hold, .string q.copy, .int .i64 q.at_] 39 wy ∧ wy.ownsMap Tryz.prog 9 aksElem m3 n3 D3) (by kernel_rfl) ⟨HH.out.hP.drew, HK1.out.drew, own_heap HH.out.M3 rfl⟩ (fun hS => ?_)
    have hb2 : Below w1.heap.size w1 w1.drew := (Below.refl _ _).drew
    have HH2 := Hid.intro (HH.out.below hb2)
    have HK2 := Hid.intro (HK1.out.below hb2 HK1.out.lt)
    clear HH HK1 hb2
    generalize w1.drew = w2 at *
    refine wpAnyH_take (i := 0) (oi := ⟨some 9, _, _, _, _, none⟩) (v := .pointer (some ⟨p, 0, none⟩)) rfl (by kernel_rfl) (by kernel_rfl) (by kernel_rfl) (fun _ _ _ h => h) (Or.inl ⟨by rfl, ?_⟩) hS ?_
    · intro wy hy
      clear hy
      go_simp
    simp only [Act.put, List.setIfInBounds_toArray, List.set_cons_zero, List.set_cons_succ]
    refine wpAnyH_take (i := 1) (oi := ⟨some 10, _, _, _, _, none⟩) (v := .pointer (some ⟨p, 0, none⟩)) rfl (by kernel_rfl) (by kernel_rfl) (by kernel_rfl) (fun _ _ _ h => h) (Or.inl ⟨by rfl, ?_⟩) hS ?_
    · intro wy hy
      clear hy
      go_simp
    simp only [Act.put, List.setIfInBounds_toArray, List.set_cons_zero, List.set_cons_succ]
    refine wpAnyH_take (i := 2) (oi := ⟨some 11, _, _, _, _, none⟩) (v := .pointer (some ⟨p, 11, none⟩)) rfl (by kernel_rfl) (by kernel_rfl) (by kernel_rfl) (fun _ _ _ h => h) (Or.inl ⟨by rfl, ?_⟩) hS ?_
    · intro wy hy
      clear hy
      go_simp
    simp only [Act.put, List.setIfInBounds_toArray, List.set_cons_zero, List.set_cons_succ]
    refine wpAnyH_take (i := 3) (oi := ⟨some 12, _, _, _, _, none⟩) (v := .map (some m3)) rfl (by kernel_rfl) (by kernel_rfl) (by kernel_rfl) (fun _ _ _ h => h) (Or.inl ⟨by rfl, ?_⟩) hS ?_
    · intro wy hy
      have h0 : wy.cell? ⟨p, 11, none⟩ = some (.map (some m3)) := hy.1.cell rfl
      clear hy
      go_simp
    simp only [Act.put, List.setIfInBounds_toArray, List.set_cons_zero, List.set_cons_succ]
    refine wpAnyH_take (i := 4) (oi := ⟨some 13, _, _, _, _, none⟩) (v := .pointer (some ⟨g, 4, none⟩)) rfl (by kernel_rfl) (by kernel_rfl) (by kernel_rfl) (fun _ _ _ h => h) (Or.inl ⟨by rfl, ?_⟩) hS ?_
    · intro wy hy
      clear hy
      go_simp
    simp only [Act.put, List.setIfInBounds_toArray, List.set_cons_zero, List.set_cons_succ]
    refine wpAnyH_take (i := 5) (oi := ⟨some 14, _, _, _, _, none⟩) (v := .string q.hold) rfl (by kernel_rfl) (by kernel_rfl) (by kernel_rfl) (fun _ _ _ h => h) (Or.inl ⟨by rfl, ?_⟩) hS ?_
    · intro wy hy
      have h0 : wy.cell? ⟨g, 4, none⟩ = some (.string q.hold) := hy.2.1.cell rfl
      clear hy
      go_simp
    simp only [Act.put, List.setIfInBounds_toArray, List.set_cons_zero, List.set_cons_succ]
    refine wpAnyH_take (i := 6) (oi := ⟨some 15, _, _, _, _, none⟩) (v := .tuple #[.agg #[.string ⟨#[]⟩, .string ⟨#[]⟩, .int .i64 0, .int .i64 0], .bool false]) rfl (by kernel_rfl) (by kernel_rfl) (by kernel_rfl) (fun _ _ _ h => h) (Or.inl ⟨by rfl, ?_⟩) hS ?_
    · intro wy hy
      have hy3 := hy.2.2
      have h0 := HL.out wy hy3
      clear hy
      first | (go_simp; done) | (simp [go_sem, HL.out _ hy3]; done) | (go_simp; rw [HL.out _ hy3]; done) | (go_simp; rw [HL.out _ hy3]; rfl)
    simp only [Act.put, List.setIfInBounds_toArray, List.set_cons_zero, List.set_cons_succ]
    refine wpAnyH_take (i := 7) (oi := ⟨some 8, _, _, _, _, none⟩) (v := .tuple #[.agg #[.string ⟨#[]⟩, .string ⟨#[]⟩, .int .i64 0, .int .i64 0], .bool false]) rfl (by kernel_rfl) (by kernel_rfl) (by kernel_rfl) (fun _ _ _ h => h) (Or.inl ⟨by rfl, ?_⟩) hS ?_
    · intro wy hy
      clear hy
      go_simp
    simp only [Act.put, List.setIfInBounds_toArray, List.set_cons_zero, List.set_cons_succ]
    refine wpAnyH_take (i := 8) (oi := ⟨some 16, _, _, _, _, none⟩) (v := .agg #[.string ⟨#[]⟩, .string ⟨#[]⟩, .int .i64 0, .int .i64 0]) rfl (by kernel_rfl) (by kernel_rfl) (by kernel_rfl) (fun _ _ _ h => h) (Or.inl ⟨by rfl, ?_⟩) hS ?_
    · intro wy hy
      clear hy
      go_simp
    simp only [Act.put, List.setIfInBounds_toArray, List.set_cons_zero, List.set_cons_succ]
    refine wpAnyH_take (i := 9) (oi := ⟨some 17, _, _, _, _, none⟩) (v := .bool false) rfl (by kernel_rfl) (by kernel_rfl) (by kernel_rfl) (fun _ _ _ h => h) (Or.inl ⟨by rfl, ?_⟩) hS ?_
    · intro wy hy
      clear hy
      go_simp
    simp only [Act.put, List.setIfInBounds_toArray, List.set_cons_zero, List.set_cons_succ]
    refine wpAnyH_ready (rs := [10]) (by kernel_rfl) (by simp) (AllReadyH.cons (o := ⟨some 4, _, _, _, _, none⟩) rfl (fun K hK => ?_) AllReadyH.nil)
    go_simp
    have HG3 := Hid.intro (Blk.alloc w2 #[.string ⟨#[]⟩, .string ⟨#[]⟩, .int .i64 0, .int .i64 0] 61)
    have hb3 : Below w2.heap.size w2 (w2.alloc (Obj.cells #[.string ⟨#[]⟩, .string ⟨#[]⟩, .int .i64 0, .int .i64 0] 61)) := (Below.refl _ _).alloc (Nat.le_refl _) _
    have HH3 := Hid.intro (HH2.out.below hb3)
    have HK3 := Hid.intro (HK2.out.below hb3 HK2.out.lt)
    have hg3 : g < w2.heap.size := HK2.out.lt
    refine hK.out _ _ ⟨hS.1.below hb3 hS.1.lt, hS.2.1.below hb3 hS.2.1.lt, ownsMap_below hS.2.2 hb3 hS.2.2.lt⟩ (fun hS => ?_)
    clear hK K hb3 HH2 HK2
    generalize w2.alloc (Obj.cells #[.string ⟨#[]⟩, .string ⟨#[]⟩, .int .i64 0, .int .i64 0] 61) = w3 at *
    generalize w2.heap.size = ga at *
    refine wpAnyH_ready (rs := [11]) (by kernel_rfl) (by simp) (AllReadyH.cons (o := ⟨none, _, _, _, _, none⟩) rfl (fun K hK => ?_) AllReadyH.nil)
    rw [if_pos (by rfl)]
    refine wp_store_mid 61 (.tmp 4) (.tmp 16) (by rfl) ga 0 #[.string ⟨#[]⟩, .string ⟨#[]⟩, .int .i64 0, .int .i64 0] (by rfl) (by rfl) HG3.out.there isz_Aks (by simp [Value.oneCell']) ?_
    have HG4 : Hid (Blk ga #[.string ⟨#[]⟩, .string ⟨#[]⟩, .int .i64 0, .int .i64 0] 61 (w3.setCells ga 0 [.string ⟨#[]⟩, .string ⟨#[]⟩, .int .i64 0, .int .i64 0])) := HG3.out.setAll #[.string ⟨#[]⟩, .string ⟨#[]⟩, .int .i64 0, .int .i64 0] rfl
    have hb4 : Below ga w3 (w3.setCells ga 0 [.string ⟨#[]⟩, .string ⟨#[]⟩, .int .i64 0, .int .i64 0]) := below_setCells (Nat.le_refl _) _ _ _ (Below.refl _ _)
    have HH4 := Hid.intro (HH3.out.under hb4 (by omega))
    have HK4 := Hid.intro (HK3.out.below hb4 hg3)
    refine hK.out _ _ ⟨HH4.out.hP, HK4.out, HH4.out.M3⟩ (fun hS => ?_)
    clear hK K hb4 HH3 HK3 HG3
    generalize (w3.setCells ga 0 [.string ⟨#[]⟩, .string ⟨#[]⟩, .int .i64 0, .int .i64 0]) = w4 at *
    refine wpAnyH_take (i := 12) (oi := ⟨some 5, _, _, _, _, none⟩) (v := .bool false) rfl (by kernel_rfl) (by kernel_rfl) (by kernel_rfl) (fun _ _ _ h => h) (Or.inl ⟨by rfl, ?_⟩) hS ?_
    · intro wy hy
      clear hy
      go_simp
    simp only [Act.put, List.setIfInBounds_toArray, List.set_cons_zero, List.set_cons_succ]
    refine wpAnyH_done (by kernel_rfl) ?_ _
    clear hS
    go_wp2_with fail
    first | go_end0 | ((try simp only [Exit.inBlock, Exit.then]); refine bodyPost_ret (results_none rfl _ _ _) rfl ?_)
    refine ⟨rfl, ?_⟩
    rw [HE.out]
    exact ⟨a5, c5, o6, k6, j6, o7, k7, j7, o8, k8, j8, m1, m2, n2, m3, n3, m4, n4, D2, D3, D4, HH4.out.more⟩
  have HL := Hid.intro hl
  have HF := Hid.intro hf
  clear hf hl
  refine wp_region_held_drew (S := fun wy => Blk p #[.string y.name, .bool y.up, .int .i64 y.clock, .bool y.known, .int .i64 y.seen, .slice a5 y.wants.length c5, .slice o6 k6 j6, .slice o7 k7 j7, .slice o8 k8 j8, .map m1, .map (some m2), .map (some m3), .map (some m4)] 114 wy ∧ Blk g #[.int .i64 q.kind, .string q.berth, .int .i64 q.seen, .slice b3 q.wants.length d3, .string q.hold, .string q.copy, .int .i64 q.at_] 39 wy ∧ wy.ownsMap Tryz.prog 9 aksElem m3 n3 D3) (by kernel_rfl) ⟨HH.out.hP.drew, HK1.out.drew, own_heap HH.out.M3 rfl⟩ (fun hS => ?_)
  have hb2 : Below w1.heap.size w1 w1.drew := (Below.refl _ _).drew
  have HH2 := Hid.intro (HH.out.below hb2)
  have HK2 := Hid.intro (HK1.out.below hb2 HK1.out.lt)
  clear HH HK1 hb2
  generalize w1.drew = w2 at *
  refine wpAnyH_take (i := 0) (oi := ⟨some 9, _, _, _, _, none⟩) (v := .pointer (some ⟨p, 0, none⟩)) rfl (by kernel_rfl) (by kernel_rfl) (by kernel_rfl) (fun _ _ _ h => h) (Or.inl ⟨by rfl, ?_⟩) hS ?_
  · intro wy hy
    clear hy
    go_simp
  simp only [Act.put, List.setIfInBounds_toArray, List.set_cons_zero, List.set_cons_succ]
  refine wpAnyH_take (i := 1) (oi := ⟨some 10, _, _, _, _, none⟩) (v := .pointer (some ⟨p, 0, none⟩)) rfl (by kernel_rfl) (by kernel_rfl) (by kernel_rfl) (fun _ _ _ h => h) (Or.inl ⟨by rfl, ?_⟩) hS ?_
  · intro wy hy
    clear hy
    go_simp
  simp only [Act.put, List.setIfInBounds_toArray, List.set_cons_zero, List.set_cons_succ]
  refine wpAnyH_take (i := 2) (oi := ⟨some 11, _, _, _, _, none⟩) (v := .pointer (some ⟨p, 11, none⟩)) rfl (by kernel_rfl) (by kernel_rfl) (by kernel_rfl) (fun _ _ _ h => h) (Or.inl ⟨by rfl, ?_⟩) hS ?_
  · intro wy hy
    clear hy
    go_simp
  simp only [Act.put, List.setIfInBounds_toArray, List.set_cons_zero, List.set_cons_succ]
  refine wpAnyH_take (i := 3) (oi := ⟨some 12, _, _, _, _, none⟩) (v := .map (some m3)) rfl (by kernel_rfl) (by kernel_rfl) (by kernel_rfl) (fun _ _ _ h => h) (Or.inl ⟨by rfl, ?_⟩) hS ?_
  · intro wy hy
    have h0 : wy.cell? ⟨p, 11, none⟩ = some (.map (some m3)) := hy.1.cell rfl
    clear hy
    go_simp
  simp only [Act.put, List.setIfInBounds_toArray, List.set_cons_zero, List.set_cons_succ]
  refine wpAnyH_take (i := 4) (oi := ⟨some 13, _, _, _, _, none⟩) (v := .pointer (some ⟨g, 4, none⟩)) rfl (by kernel_rfl) (by kernel_rfl) (by kernel_rfl) (fun _ _ _ h => h) (Or.inl ⟨by rfl, ?_⟩) hS ?_
  · intro wy hy
    clear hy
    go_simp
  simp only [Act.put, List.setIfInBounds_toArray, List.set_cons_zero, List.set_cons_succ]
  refine wpAnyH_take (i := 5) (oi := ⟨some 14, _, _, _, _, none⟩) (v := .string q.hold) rfl (by kernel_rfl) (by kernel_rfl) (by kernel_rfl) (fun _ _ _ h => h) (Or.inl ⟨by rfl, ?_⟩) hS ?_
  · intro wy hy
    have h0 : wy.cell? ⟨g, 4, none⟩ = some (.string q.hold) := hy.2.1.cell rfl
    clear hy
    go_simp
  simp only [Act.put, List.setIfInBounds_toArray, List.set_cons_zero, List.set_cons_succ]
  refine wpAnyH_take (i := 6) (oi := ⟨some 15, _, _, _, _, none⟩) (v := .tuple #[.agg #[.string x.hold, .string x.copy, .int .i64 x.first, .int .i64 x.at_], .bool true]) rfl (by kernel_rfl) (by kernel_rfl) (by kernel_rfl) (fun _ _ _ h => h) (Or.inl ⟨by rfl, ?_⟩) hS ?_
  · intro wy hy
    have hy3 := hy.2.2
    have h0 := HL.out wy hy3
    clear hy
    first | (go_simp; done) | (simp [go_sem, HL.out _ hy3]; done) | (go_simp; rw [HL.out _ hy3]; done) | (go_simp; rw [HL.out _ hy3]; rfl)
  simp only [Act.put, List.setIfInBounds_toArray, List.set_cons_zero, List.set_cons_succ]
  refine wpAnyH_take (i := 7) (oi := ⟨some 8, _, _, _, _, none⟩) (v := .tuple #[.agg #[.string x.hold, .string x.copy, .int .i64 x.first, .int .i64 x.at_], .bool true]) rfl (by kernel_rfl) (by kernel_rfl) (by kernel_rfl) (fun _ _ _ h => h) (Or.inl ⟨by rfl, ?_⟩) hS ?_
  · intro wy hy
    clear hy
    go_simp
  simp only [Act.put, List.setIfInBounds_toArray, List.set_cons_zero, List.set_cons_succ]
  refine wpAnyH_take (i := 8) (oi := ⟨some 16, _, _, _, _, none⟩) (v := .agg #[.string x.hold, .string x.copy, .int .i64 x.first, .int .i64 x.at_]) rfl (by kernel_rfl) (by kernel_rfl) (by kernel_rfl) (fun _ _ _ h => h) (Or.inl ⟨by rfl, ?_⟩) hS ?_
  · intro wy hy
    clear hy
    go_simp
  simp only [Act.put, List.setIfInBounds_toArray, List.set_cons_zero, List.set_cons_succ]
  refine wpAnyH_take (i := 9) (oi := ⟨some 17, _, _, _, _, none⟩) (v := .bool true) rfl (by kernel_rfl) (by kernel_rfl) (by kernel_rfl) (fun _ _ _ h => h) (Or.inl ⟨by rfl, ?_⟩) hS ?_
  · intro wy hy
    clear hy
    go_simp
  simp only [Act.put, List.setIfInBounds_toArray, List.set_cons_zero, List.set_cons_succ]
  refine wpAnyH_ready (rs := [10]) (by kernel_rfl) (by simp) (AllReadyH.cons (o := ⟨some 4, _, _, _, _, none⟩) rfl (fun K hK => ?_) AllReadyH.nil)
  go_simp
  have HG3 := Hid.intro (Blk.alloc w2 #[.string ⟨#[]⟩, .string ⟨#[]⟩, .int .i64 0, .int .i64 0] 61)
  have hb3 : Below w2.heap.size w2 (w2.alloc (Obj.cells #[.string ⟨#[]⟩, .string ⟨#[]⟩, .int .i64 0, .int .i64 0] 61)) := (Below.refl _ _).alloc (Nat.le_refl _) _
  have HH3 := Hid.intro (HH2.out.below hb3)
  have HK3 := Hid.intro (HK2.out.below hb3 HK2.out.lt)
  have hg3 : g < w2.heap.size := HK2.out.lt
  refine hK.out _ _ ⟨hS.1.below hb3 hS.1.lt, hS.2.1.below hb3 hS.2.1.lt, ownsMap_below hS.2.2 hb3 hS.2.2.lt⟩ (fun hS => ?_)
  clear hK K hb3 HH2 HK2
  generalize w2.alloc (Obj.cells #[.string ⟨#[]⟩, .string ⟨#[]⟩, .int .i64 0, .int .i64 0] 61) = w3 at *
  generalize w2.heap.size = ga at *
  refine wpAnyH_ready (rs := [11]) (by kernel_rfl) (by simp) (AllReadyH.cons (o := ⟨none, _, _, _, _, none⟩) rfl (fun K hK => ?_) AllReadyH.nil)
  rw [if_pos (by rfl)]
  refine wp_store_mid 61 (.tmp 4) (.tmp 16) (by rfl) ga 0 #[.string x.hold, .string x.copy, .int .i64 x.first, .int .i64 x.at_] (by rfl) (by rfl) HG3.out.there isz_Aks (by simp [Value.oneCell']) ?_
  have HG4 : Hid (Blk ga #[.string x.hold, .string x.copy, .int .i64 x.first, .int .i64 x.at_] 61 (w3.setCells ga 0 [.string x.hold, .string x.copy, .int .i64 x.first, .int .i64 x.at_])) := HG3.out.setAll #[.string x.hold, .string x.copy, .int .i64 x.first, .int .i64 x.at_] rfl
  have hb4 : Below ga w3 (w3.setCells ga 0 [.string x.hold, .string x.copy, .int .i64 x.first, .int .i64 x.at_]) := below_setCells (Nat.le_refl _) _ _ _ (Below.refl _ _)
  have HH4 := Hid.intro (HH3.out.under hb4 (by omega))
  have HK4 := Hid.intro (HK3.out.below hb4 hg3)
  refine hK.out _ _ ⟨HH4.out.hP, HK4.out, HH4.out.M3⟩ (fun hS => ?_)
  clear hK K hb4 HH3 HK3 HG3
  generalize (w3.setCells ga 0 [.string x.hold, .string x.copy, .int .i64 x.first, .int .i64 x.at_]) = w4 at *
  refine wpAnyH_take (i := 12) (oi := ⟨some 5, _, _, _, _, none⟩) (v := .bool true) rfl (by kernel_rfl) (by kernel_rfl) (by kernel_rfl) (fun _ _ _ h => h) (Or.inl ⟨by rfl, ?_⟩) hS ?_
  · intro wy hy
    clear hy
    go_simp
  simp only [Act.put, List.setIfInBounds_toArray, List.set_cons_zero, List.set_cons_succ]
  refine wpAnyH_done (by kernel_rfl) ?_ _
  clear hS
  have d1 : w4.cell? ⟨ga, 1, none⟩ = some (.string x.copy) := HG4.out.cell rfl
  have d2 : w4.cell? ⟨ga, 2, none⟩ = some (.int .i64 x.first) := HG4.out.cell rfl
  have d4 : w4.cell? ⟨ga, 3, none⟩ = some (.int .i64 x.at_) := HG4.out.cell rfl
  have e5 : w4.cell? ⟨g, 5, none⟩ = some (.string q.copy) := HK4.out.cell rfl
  have e6 : w4.cell? ⟨g, 6, none⟩ = some (.int .i64 q.at_) := HK4.out.cell rfl
  by_cases hc : x.copy = q.copy
  case neg =>
    have HE : Hid (leaseM y q = y) := by show _ = _; unfold leaseM; rw [show okAsk y q = false by unfold okAsk; rw [HF.out]; simp [hc]]; rfl
    have hc2 : (x.copy.toList == q.copy.toList) = false := bt_ne hc
    clear hc
    go_wp2_with fail
    first | go_end0 | ((try simp only [Exit.inBlock, Exit.then]); refine bodyPost_ret (results_none rfl _ _ _) rfl ?_)
    refine ⟨rfl, ?_⟩
    rw [HE.out]
    exact ⟨a5, c5, o6, k6, j6, o7, k7, j7, o8, k8, j8, m1, m2, n2, m3, n3, m4, n4, D2, D3, D4, HH4.out.more⟩
  have hc2 : (x.copy.toList == q.copy.toList) = true := by rw [hc]; simp
  go_wp2_with fail
  refine (isIn_any q.at_ x.first x.at_ _).mono ?_
  rintro e v1 ⟨rfl, rfl⟩
  cases g1 : inR q.at_ x.first x.at_ with
  | false =>
    have HE : Hid (leaseM y q = y) := by show _ = _; unfold leaseM; rw [show okAsk y q = false by unfold okAsk; rw [HF.out]; simp [g1]]; rfl
    go_wp2_with fail
    first | go_end0 | ((try simp only [Exit.inBlock, Exit.then]); refine bodyPost_ret (results_none rfl _ _ _) rfl ?_)
    refine ⟨rfl, ?_⟩
    rw [HE.out]
    exact ⟨a5, c5, o6, k6, j6, o7, k7, j7, o8, k8, j8, m1, m2, n2, m3, n3, m4, n4, D2, D3, D4, HH4.out.more⟩
  | true =>
    have HOK : Hid (okAsk y q = true) := by show _ = _; unfold okAsk; rw [HF.out]; simp [hc, g1]
    have hat : 0 ≤ q.at_ ∧ q.at_ ≤ 1000000 := by
      have h1 := HH4.out.ab x (List.mem_of_find?_eq_some HF.out)
      unfold inR at g1
      simp at g1
      omega
    clear hc g1
    go_wp2_with fail
    clear hc2 d1 d2 d4 e5 e6 HG4 HL
    rcases look_okR (m := m2) (n := n2) (D := D2) HH4.out.T2 HQ.out.zc with ⟨r, hf, hl⟩ | ⟨hf, hl⟩
    case inr =>
      have HL2 := Hid.intro hl
      have HE : Hid (leaseM y q = y) := lease_none hf
      clear hf hl
      refine wp_region_held_drew (S := fun wy => Blk p #[.string y.name, .bool y.up, .int .i64 y.clock, .bool y.known, .int .i64 y.seen, .slice a5 y.wants.length c5, .slice o6 k6 j6, .slice o7 k7 j7, .slice o8 k8 j8, .map m1, .map (some m2), .map (some m3), .map (some m4)] 114 wy ∧ Blk g #[.int .i64 q.kind, .string q.berth, .int .i64 q.seen, .slice b3 q.wants.length d3, .string q.hold, .string q.copy, .int .i64 q.at_] 39 wy ∧ wy.ownsMap Tryz.prog 9 elRn m2 n2 D2) (by kernel_rfl) ⟨HH4.out.hP.drew, HK4.out.drew, own_heap HH4.out.M2 rfl⟩ (fun hS => ?_)
      have hb12 : Below v1.heap.size v1 v1.drew := (Below.refl _ _).drew
      have HH12 := Hid.intro (HH4.out.below hb12)
      have HK12 := Hid.intro (HK4.out.below hb12 HK4.out.lt)
      clear HH4 HK4 hb12
      generalize v1.drew = w12 at *
      refine wpAnyH_take (i := 0) (oi := ⟨some 38, _, _, _, _, none⟩) (v := .pointer (some ⟨p, 0, none⟩)) rfl (by kernel_rfl) (by kernel_rfl) (by kernel_rfl) (fun _ _ _ h => h) (Or.inl ⟨by rfl, ?_⟩) hS ?_
      · intro wy hy
        clear hy
        go_simp
      simp only [Act.put, List.setIfInBounds_toArray, List.set_cons_zero, List.set_cons_succ]
      refine wpAnyH_take (i := 1) (oi := ⟨some 39, _, _, _, _, none⟩) (v := .pointer (some ⟨p, 0, none⟩)) rfl (by kernel_rfl) (by kernel_rfl) (by kernel_rfl) (fun _ _ _ h => h) (Or.inl ⟨by rfl, ?_⟩) hS ?_
      · intro wy hy
        clear hy
        go_simp
      simp only [Act.put, List.setIfInBounds_toArray, List.set_cons_zero, List.set_cons_succ]
      refine wpAnyH_take (i := 2) (oi := ⟨some 40, _, _, _, _, none⟩) (v := .pointer (some ⟨p, 10, none⟩)) rfl (by kernel_rfl) (by kernel_rfl) (by kernel_rfl) (fun _ _ _ h => h) (Or.inl ⟨by rfl, ?_⟩) hS ?_
      · intro wy hy
        clear hy
        go_simp
      simp only [Act.put, List.setIfInBounds_toArray, List.set_cons_zero, List.set_cons_succ]
      refine wpAnyH_take (i := 3) (oi := ⟨some 41, _, _, _, _, none⟩) (v := .map (some m2)) rfl (by kernel_rfl) (by kernel_rfl) (by kernel_rfl) (fun _ _ _ h => h) (Or.inl ⟨by rfl, ?_⟩) hS ?_
      · intro wy hy
        have h0 : wy.cell? ⟨p, 10, none⟩ = some (.map (some m2)) := hy.1.cell rfl
        clear hy
        go_simp
      simp only [Act.put, List.setIfInBounds_toArray, List.set_cons_zero, List.set_cons_succ]
      refine wpAnyH_take (i := 4) (oi := ⟨some 42, _, _, _, _, none⟩) (v := .pointer (some ⟨g, 5, none⟩)) rfl (by kernel_rfl) (by kernel_rfl) (by kernel_rfl) (fun _ _ _ h => h) (Or.inl ⟨by rfl, ?_⟩) hS ?_
      · intro wy hy
        clear hy
        go_simp
      simp only [Act.put, List.setIfInBounds_toArray, List.set_cons_zero, List.set_cons_succ]
      refine wpAnyH_take (i := 5) (oi := ⟨some 43, _, _, _, _, none⟩) (v := .string q.copy) rfl (by kernel_rfl) (by kernel_rfl) (by kernel_rfl) (fun _ _ _ h => h) (Or.inl ⟨by rfl, ?_⟩) hS ?_
      · intro wy hy
        have h0 : wy.cell? ⟨g, 5, none⟩ = some (.string q.copy) := hy.2.1.cell rfl
        clear hy
        go_simp
      simp only [Act.put, List.setIfInBounds_toArray, List.set_cons_zero, List.set_cons_succ]
      refine wpAnyH_take (i := 6) (oi := ⟨some 44, _, _, _, _, none⟩) (v := .tuple #[.agg #[.string ⟨#[]⟩, .int .i64 0, .string ⟨#[]⟩, .int .i64 0, .int .i64 0, .int .i64 0, .int .i64 0, .int .i64 0, .int .i64 0, .int .i64 0, .int .i64 0], .bool false]) rfl (by kernel_rfl) (by kernel_rfl) (by kernel_rfl) (fun _ _ _ h => h) (Or.inl ⟨by rfl, ?_⟩) hS ?_
      · intro wy hy
        have hy3 := hy.2.2
        have h0 := HL2.out wy hy3
        clear hy
        first | (go_simp; done) | (simp [go_sem, HL2.out _ hy3]; done) | (go_simp; rw [HL2.out _ hy3]; done) | (go_simp; rw [HL2.out _ hy3]; rfl)
      simp only [Act.put, List.setIfInBounds_toArray, List.set_cons_zero, List.set_cons_succ]
      refine wpAnyH_take (i := 7) (oi := ⟨some 37, _, _, _, _, none⟩) (v := .tuple #[.agg #[.string ⟨#[]⟩, .int .i64 0, .string ⟨#[]⟩, .int .i64 0, .int .i64 0, .int .i64 0, .int .i64 0, .int .i64 0, .int .i64 0, .int .i64 0, .int .i64 0], .bool false]) rfl (by kernel_rfl) (by kernel_rfl) (by kernel_rfl) (fun _ _ _ h => h) (Or.inl ⟨by rfl, ?_⟩) hS ?_
      · intro wy hy
        clear hy
        go_simp
      simp only [Act.put, List.setIfInBounds_toArray, List.set_cons_zero, List.set_cons_succ]
      refine wpAnyH_take (i := 8) (oi := ⟨some 45, _, _, _, _, none⟩) (v := .agg #[.string ⟨#[]⟩, .int .i64 0, .string ⟨#[]⟩, .int .i64 0, .int .i64 0, .int .i64 0, .int .i64 0, .int .i64 0, .int .i64 0, .int .i64 0, .int .i64 0]) rfl (by kernel_rfl) (by kernel_rfl) (by kernel_rfl) (fun _ _ _ h => h) (Or.inl ⟨by rfl, ?_⟩) hS ?_
      · intro wy hy
        clear hy
        go_simp
      simp only [Act.put, List.setIfInBounds_toArray, List.set_cons_zero, List.set_cons_succ]
      refine wpAnyH_take (i := 9) (oi := ⟨some 46, _, _, _, _, none⟩) (v := .bool false) rfl (by kernel_rfl) (by kernel_rfl) (by kernel_rfl) (fun _ _ _ h => h) (Or.inl ⟨by rfl, ?_⟩) hS ?_
      · intro wy hy
        clear hy
        go_simp
      simp only [Act.put, List.setIfInBounds_toArray, List.set_cons_zero, List.set_cons_succ]
      refine wpAnyH_ready (rs := [10]) (by kernel_rfl) (by simp) (AllReadyH.cons (o := ⟨some 6, _, _, _, _, none⟩) rfl (fun K hK => ?_) AllReadyH.nil)
      go_simp
      have HG13 := Hid.intro (Blk.alloc w12 #[.string ⟨#[]⟩, .int .i64 0, .string ⟨#[]⟩, .int .i64 0, .int .i64 0, .int .i64 0, .int .i64 0, .int .i64 0, .int .i64 0, .int .i64 0, .int .i64 0] 65)
      have hb13 : Below w12.heap.size w12 (w12.alloc (Obj.cells #[.string ⟨#[]⟩, .int .i64 0, .string ⟨#[]⟩, .int .i64 0, .int .i64 0, .int .i64 0, .int .i64 0, .int .i64 0, .int .i64 0, .int .i64 0, .int .i64 0] 65)) := (Below.refl _ _).alloc (Nat.le_refl _) _
      have HH13 := Hid.intro (HH12.out.below hb13)
      have HK13 := Hid.intro (HK12.out.below hb13 HK12.out.lt)
      have hg13 : g < w12.heap.size := HK12.out.lt
      refine hK.out _ _ ⟨hS.1.below hb13 hS.1.lt, hS.2.1.below hb13 hS.2.1.lt, ownsMap_below hS.2.2 hb13 hS.2.2.lt⟩ (fun hS => ?_)
      clear hK K hb13 HH12 HK12
      generalize w12.alloc (Obj.cells #[.string ⟨#[]⟩, .int .i64 0, .string ⟨#[]⟩, .int .i64 0, .int .i64 0, .int .i64 0, .int .i64 0, .int .i64 0, .int .i64 0, .int .i64 0, .int .i64 0] 65) = w13 at *
      generalize w12.heap.size = gb at *
      refine wpAnyH_ready (rs := [11]) (by kernel_rfl) (by simp) (AllReadyH.cons (o := ⟨none, _, _, _, _, none⟩) rfl (fun K hK => ?_) AllReadyH.nil)
      rw [if_pos (by rfl)]
      refine wp_store_mid 65 (.tmp 6) (.tmp 45) (by rfl) gb 0 #[.string ⟨#[]⟩, .int .i64 0, .string ⟨#[]⟩, .int .i64 0, .int .i64 0, .int .i64 0, .int .i64 0, .int .i64 0, .int .i64 0, .int .i64 0, .int .i64 0] (by rfl) (by rfl) HG13.out.there isz_Rn (by simp [Value.oneCell']) ?_
      have HG14 : Hid (Blk gb #[.string ⟨#[]⟩, .int .i64 0, .string ⟨#[]⟩, .int .i64 0, .int .i64 0, .int .i64 0, .int .i64 0, .int .i64 0, .int .i64 0, .int .i64 0, .int .i64 0] 65 (w13.setCells gb 0 [.string ⟨#[]⟩, .int .i64 0, .string ⟨#[]⟩, .int .i64 0, .int .i64 0, .int .i64 0, .int .i64 0, .int .i64 0, .int .i64 0, .int .i64 0, .int .i64 0])) := HG13.out.setAll #[.string ⟨#[]⟩, .int .i64 0, .string ⟨#[]⟩, .int .i64 0, .int .i64 0, .int .i64 0, .int .i64 0, .int .i64 0, .int .i64 0, .int .i64 0, .int .i64 0] rfl
      have hb14 : Below gb w13 (w13.setCells gb 0 [.string ⟨#[]⟩, .int .i64 0, .string ⟨#[]⟩, .int .i64 0, .int .i64 0, .int .i64 0, .int .i64 0, .int .i64 0, .int .i64 0, .int .i64 0, .int .i64 0]) := below_setCells (Nat.le_refl _) _ _ _ (Below.refl _ _)
      have HH14 := Hid.intro (HH13.out.under hb14 (by omega))
      have HK14 := Hid.intro (HK13.out.below hb14 hg13)
      refine hK.out _ _ ⟨HH14.out.hP, HK14.out, HH14.out.M2⟩ (fun hS => ?_)
      clear hK K hb14 HH13 HK13 HG13
      generalize (w13.setCells gb 0 [.string ⟨#[]⟩, .int .i64 0, .string ⟨#[]⟩, .int .i64 0, .int .i64 0, .int .i64 0, .int .i64 0, .int .i64 0, .int .i64 0, .int .i64 0, .int .i64 0]) = w14 at *
      refine wpAnyH_take (i := 12) (oi := ⟨some 7, _, _, _, _, none⟩) (v := .bool false) rfl (by kernel_rfl) (by kernel_rfl) (by kernel_rfl) (fun _ _ _ h => h) (Or.inl ⟨by rfl, ?_⟩) hS ?_
      · intro wy hy
        clear hy
        go_simp
      simp only [Act.put, List.setIfInBounds_toArray, List.set_cons_zero, List.set_cons_succ]
      refine wpAnyH_done (by kernel_rfl) ?_ _
      clear hS
      go_wp2_with fail
      first | go_end0 | ((try simp only [Exit.inBlock, Exit.then]); refine bodyPost_ret (results_none rfl _ _ _) rfl ?_)
      refine ⟨rfl, ?_⟩
      rw [HE.out]
      exact ⟨a5, c5, o6, k6, j6, o7, k7, j7, o8, k8, j8, m1, m2, n2, m3, n3, m4, n4, D2, D3, D4, HH14.out.more⟩
    have HL2 := Hid.intro hl
    have HFR := Hid.intro hf
    clear hf hl
    refine wp_region_held_drew (S := fun wy => Blk p #[.string y.name, .bool y.up, .int .i64 y.clock, .bool y.known, .int .i64 y.seen, .slice a5 y.wants.length c5, .slice o6 k6 j6, .slice o7 k7 j7, .slice o8 k8 j8, .map m1, .map (some m2), .map (some m3), .map (some m4)] 114 wy ∧ Blk g #[.int .i64 q.kind, .string q.berth, .int .i64 q.seen, .slice b3 q.wants.length d3, .string q.hold, .string q.copy, .int .i64 q.at_] 39 wy ∧ wy.ownsMap Tryz.prog 9 elRn m2 n2 D2) (by kernel_rfl) ⟨HH4.out.hP.drew, HK4.out.drew, own_heap HH4.out.M2 rfl⟩ (fun hS => ?_)
    have hb12 : Below v1.heap.size v1 v1.drew := (Below.refl _ _).drew
    have HH12 := Hid.intro (HH4.out.below hb12)
    have HK12 := Hid.intro (HK4.out.below hb12 HK4.out.lt)
    clear HH4 HK4 hb12
    generalize v1.drew = w12 at *
    refine wpAnyH_take (i := 0) (oi := ⟨some 38, _, _, _, _, none⟩) (v := .pointer (some ⟨p, 0, none⟩)) rfl (by kernel_rfl) (by kernel_rfl) (by kernel_rfl) (fun _ _ _ h => h) (Or.inl ⟨by rfl, ?_⟩) hS ?_
    · intro wy hy
      clear hy
      go_simp
    simp only [Act.put, List.setIfInBounds_toArray, List.set_cons_zero, List.set_cons_succ]
    refine wpAnyH_take (i := 1) (oi := ⟨some 39, _, _, _, _, none⟩) (v := .pointer (some ⟨p, 0, none⟩)) rfl (by kernel_rfl) (by kernel_rfl) (by kernel_rfl) (fun _ _ _ h => h) (Or.inl ⟨by rfl, ?_⟩) hS ?_
    · intro wy hy
      clear hy
      go_simp
    simp only [Act.put, List.setIfInBounds_toArray, List.set_cons_zero, List.set_cons_succ]
    refine wpAnyH_take (i := 2) (oi := ⟨some 40, _, _, _, _, none⟩) (v := .pointer (some ⟨p, 10, none⟩)) rfl (by kernel_rfl) (by kernel_rfl) (by kernel_rfl) (fun _ _ _ h => h) (Or.inl ⟨by rfl, ?_⟩) hS ?_
    · intro wy hy
      clear hy
      go_simp
    simp only [Act.put, List.setIfInBounds_toArray, List.set_cons_zero, List.set_cons_succ]
    refine wpAnyH_take (i := 3) (oi := ⟨some 41, _, _, _, _, none⟩) (v := .map (some m2)) rfl (by kernel_rfl) (by kernel_rfl) (by kernel_rfl) (fun _ _ _ h => h) (Or.inl ⟨by rfl, ?_⟩) hS ?_
    · intro wy hy
      have h0 : wy.cell? ⟨p, 10, none⟩ = some (.map (some m2)) := hy.1.cell rfl
      clear hy
      go_simp
    simp only [Act.put, List.setIfInBounds_toArray, List.set_cons_zero, List.set_cons_succ]
    refine wpAnyH_take (i := 4) (oi := ⟨some 42, _, _, _, _, none⟩) (v := .pointer (some ⟨g, 5, none⟩)) rfl (by kernel_rfl) (by kernel_rfl) (by kernel_rfl) (fun _ _ _ h => h) (Or.inl ⟨by rfl, ?_⟩) hS ?_
    · intro wy hy
      clear hy
      go_simp
    simp only [Act.put, List.setIfInBounds_toArray, List.set_cons_zero, List.set_cons_succ]
    refine wpAnyH_take (i := 5) (oi := ⟨some 43, _, _, _, _, none⟩) (v := .string q.copy) rfl (by kernel_rfl) (by kernel_rfl) (by kernel_rfl) (fun _ _ _ h => h) (Or.inl ⟨by rfl, ?_⟩) hS ?_
    · intro wy hy
      have h0 : wy.cell? ⟨g, 5, none⟩ = some (.string q.copy) := hy.2.1.cell rfl
      clear hy
      go_simp
    simp only [Act.put, List.setIfInBounds_toArray, List.set_cons_zero, List.set_cons_succ]
    refine wpAnyH_take (i := 6) (oi := ⟨some 44, _, _, _, _, none⟩) (v := .tuple #[.agg #[.string r.want.copy, .int .i64 r.want.version, .string r.want.hold, .int .i64 r.want.pull, .int .i64 r.want.start, .int .i64 r.want.dies, .int .i64 r.want.grace, .int .i64 r.state, .int .i64 r.left, .int .i64 r.falls, .int .i64 r.until_], .bool true]) rfl (by kernel_rfl) (by kernel_rfl) (by kernel_rfl) (fun _ _ _ h => h) (Or.inl ⟨by rfl, ?_⟩) hS ?_
    · intro wy hy
      have hy3 := hy.2.2
      have h0 := HL2.out wy hy3
      clear hy
      first | (go_simp; done) | (simp [go_sem, HL2.out _ hy3]; done) | (go_simp; rw [HL2.out _ hy3]; done) | (go_simp; rw [HL2.out _ hy3]; rfl)
    simp only [Act.put, List.setIfInBounds_toArray, List.set_cons_zero, List.set_cons_succ]
    refine wpAnyH_take (i := 7) (oi := ⟨some 37, _, _, _, _, none⟩) (v := .tuple #[.agg #[.string r.want.copy, .int .i64 r.want.version, .string r.want.hold, .int .i64 r.want.pull, .int .i64 r.want.start, .int .i64 r.want.dies, .int .i64 r.want.grace, .int .i64 r.state, .int .i64 r.left, .int .i64 r.falls, .int .i64 r.until_], .bool true]) rfl (by kernel_rfl) (by kernel_rfl) (by kernel_rfl) (fun _ _ _ h => h) (Or.inl ⟨by rfl, ?_⟩) hS ?_
    · intro wy hy
      clear hy
      go_simp
    simp only [Act.put, List.setIfInBounds_toArray, List.set_cons_zero, List.set_cons_succ]
    refine wpAnyH_take (i := 8) (oi := ⟨some 45, _, _, _, _, none⟩) (v := .agg #[.string r.want.copy, .int .i64 r.want.version, .string r.want.hold, .int .i64 r.want.pull, .int .i64 r.want.start, .int .i64 r.want.dies, .int .i64 r.want.grace, .int .i64 r.state, .int .i64 r.left, .int .i64 r.falls, .int .i64 r.until_]) rfl (by kernel_rfl) (by kernel_rfl) (by kernel_rfl) (fun _ _ _ h => h) (Or.inl ⟨by rfl, ?_⟩) hS ?_
    · intro wy hy
      clear hy
      go_simp
    simp only [Act.put, List.setIfInBounds_toArray, List.set_cons_zero, List.set_cons_succ]
    refine wpAnyH_take (i := 9) (oi := ⟨some 46, _, _, _, _, none⟩) (v := .bool true) rfl (by kernel_rfl) (by kernel_rfl) (by kernel_rfl) (fun _ _ _ h => h) (Or.inl ⟨by rfl, ?_⟩) hS ?_
    · intro wy hy
      clear hy
      go_simp
    simp only [Act.put, List.setIfInBounds_toArray, List.set_cons_zero, List.set_cons_succ]
    refine wpAnyH_ready (rs := [10]) (by kernel_rfl) (by simp) (AllReadyH.cons (o := ⟨some 6, _, _, _, _, none⟩) rfl (fun K hK => ?_) AllReadyH.nil)
    go_simp
    have HG13 := Hid.intro (Blk.alloc w12 #[.string ⟨#[]⟩, .int .i64 0, .string ⟨#[]⟩, .int .i64 0, .int .i64 0, .int .i64 0, .int .i64 0, .int .i64 0, .int .i64 0, .int .i64 0, .int .i64 0] 65)
    have hb13 : Below w12.heap.size w12 (w12.alloc (Obj.cells #[.string ⟨#[]⟩, .int .i64 0, .string ⟨#[]⟩, .int .i64 0, .int .i64 0, .int .i64 0, .int .i64 0, .int .i64 0, .int .i64 0, .int .i64 0, .int .i64 0] 65)) := (Below.refl _ _).alloc (Nat.le_refl _) _
    have HH13 := Hid.intro (HH12.out.below hb13)
    have HK13 := Hid.intro (HK12.out.below hb13 HK12.out.lt)
    have hg13 : g < w12.heap.size := HK12.out.lt
    refine hK.out _ _ ⟨hS.1.below hb13 hS.1.lt, hS.2.1.below hb13 hS.2.1.lt, ownsMap_below hS.2.2 hb13 hS.2.2.lt⟩ (fun hS => ?_)
    clear hK K hb13 HH12 HK12
    generalize w12.alloc (Obj.cells #[.string ⟨#[]⟩, .int .i64 0, .string ⟨#[]⟩, .int .i64 0, .int .i64 0, .int .i64 0, .int .i64 0, .int .i64 0, .int .i64 0, .int .i64 0, .int .i64 0] 65) = w13 at *
    generalize w12.heap.size = gb at *
    refine wpAnyH_ready (rs := [11]) (by kernel_rfl) (by simp) (AllReadyH.cons (o := ⟨none, _, _, _, _, none⟩) rfl (fun K hK => ?_) AllReadyH.nil)
    rw [if_pos (by rfl)]
    refine wp_store_mid 65 (.tmp 6) (.tmp 45) (by rfl) gb 0 #[.string r.want.copy, .int .i64 r.want.version, .string r.want.hold, .int .i64 r.want.pull, .int .i64 r.want.start, .int .i64 r.want.dies, .int .i64 r.want.grace, .int .i64 r.state, .int .i64 r.left, .int .i64 r.falls, .int .i64 r.until_] (by rfl) (by rfl) HG13.out.there isz_Rn (by simp [Value.oneCell']) ?_
    have HG14 : Hid (Blk gb #[.string r.want.copy, .int .i64 r.want.version, .string r.want.hold, .int .i64 r.want.pull, .int .i64 r.want.start, .int .i64 r.want.dies, .int .i64 r.want.grace, .int .i64 r.state, .int .i64 r.left, .int .i64 r.falls, .int .i64 r.until_] 65 (w13.setCells gb 0 [.string r.want.copy, .int .i64 r.want.version, .string r.want.hold, .int .i64 r.want.pull, .int .i64 r.want.start, .int .i64 r.want.dies, .int .i64 r.want.grace, .int .i64 r.state, .int .i64 r.left, .int .i64 r.falls, .int .i64 r.until_])) := HG13.out.setAll #[.string r.want.copy, .int .i64 r.want.version, .string r.want.hold, .int .i64 r.want.pull, .int .i64 r.want.start, .int .i64 r.want.dies, .int .i64 r.want.grace, .int .i64 r.state, .int .i64 r.left, .int .i64 r.falls, .int .i64 r.until_] rfl
    have hb14 : Below gb w13 (w13.setCells gb 0 [.string r.want.copy, .int .i64 r.want.version, .string r.want.hold, .int .i64 r.want.pull, .int .i64 r.want.start, .int .i64 r.want.dies, .int .i64 r.want.grace, .int .i64 r.state, .int .i64 r.left, .int .i64 r.falls, .int .i64 r.until_]) := below_setCells (Nat.le_refl _) _ _ _ (Below.refl _ _)
    have HH14 := Hid.intro (HH13.out.under hb14 (by omega))
    have HK14 := Hid.intro (HK13.out.below hb14 hg13)
    refine hK.out _ _ ⟨HH14.out.hP, HK14.out, HH14.out.M2⟩ (fun hS => ?_)
    clear hK K hb14 HH13 HK13 HG13
    generalize (w13.setCells gb 0 [.string r.want.copy, .int .i64 r.want.version, .string r.want.hold, .int .i64 r.want.pull, .int .i64 r.want.start, .int .i64 r.want.dies, .int .i64 r.want.grace, .int .i64 r.state, .int .i64 r.left, .int .i64 r.falls, .int .i64 r.until_]) = w14 at *
    refine wpAnyH_take (i := 12) (oi := ⟨some 7, _, _, _, _, none⟩) (v := .bool true) rfl (by kernel_rfl) (by kernel_rfl) (by kernel_rfl) (fun _ _ _ h => h) (Or.inl ⟨by rfl, ?_⟩) hS ?_
    · intro wy hy
      clear hy
      go_simp
    simp only [Act.put, List.setIfInBounds_toArray, List.set_cons_zero, List.set_cons_succ]
    refine wpAnyH_done (by kernel_rfl) ?_ _
    clear hS
    have f2 : w14.cell? ⟨gb, 2, none⟩ = some (.string r.want.hold) := HG14.out.cell rfl
    have e4 : w14.cell? ⟨g, 4, none⟩ = some (.string q.hold) := HK14.out.cell rfl
    by_cases hh : r.want.hold = q.hold
    case neg =>
      have HE : Hid (leaseM y q = y) := lease_other HH14.out.A6 HFR.out hh
      have hh2 : (r.want.hold.toList == q.hold.toList) = false := bt_ne hh
      clear hh
      go_wp2_with fail
      first | go_end0 | ((try simp only [Exit.inBlock, Exit.then]); refine bodyPost_ret (results_none rfl _ _ _) rfl ?_)
      refine ⟨rfl, ?_⟩
      rw [HE.out]
      exact ⟨a5, c5, o6, k6, j6, o7, k7, j7, o8, k8, j8, m1, m2, n2, m3, n3, m4, n4, D2, D3, D4, HH14.out.more⟩
    have hh2 : (r.want.hold.toList == q.hold.toList) = true := by rw [hh]; simp
    have HHH := Hid.intro hh
    clear hh
    have f10 : w14.cell? ⟨gb, 10, none⟩ = some (.int .i64 r.until_) := HG14.out.cell rfl
    have ff : w14.frozen? ⟨gb, 10, none⟩ = false := HG14.out.frozen _
    have e6 : w14.cell? ⟨g, 6, none⟩ = some (.int .i64 q.at_) := HK14.out.cell rfl
    go_upto_region 6 with fail
    have hb15 : Below gb w14 (w14.setCell ⟨gb, 10, none⟩ (.int .i64 (max r.until_ (q.at_ + 16)))) := (Below.refl gb w14).setCell (p := ⟨gb, 10, none⟩) (Nat.le_refl _) _
    have HG15 : Hid (Blk gb #[.string r.want.copy, .int .i64 r.want.version, .string r.want.hold, .int .i64 r.want.pull, .int .i64 r.want.start, .int .i64 r.want.dies, .int .i64 r.want.grace, .int .i64 r.state, .int .i64 r.left, .int .i64 r.falls, .int .i64 (max r.until_ (q.at_ + 16))] 65 (w14.setCell ⟨gb, 10, none⟩ (.int .i64 (max r.until_ (q.at_ + 16))))) := HG14.out.set 10 _
    have HH15 := Hid.intro (HH14.out.under hb15 (by omega))
    have HK15 := Hid.intro (HK14.out.below hb15 hg13)
    clear hb15 f2 e4 hh2 f10 ff e6 HG14 HH14 HK14
    generalize (w14.setCell ⟨gb, 10, none⟩ (.int .i64 (max r.until_ (q.at_ + 16)))) = w15 at *
    refine wp_region_held_drew (S := fun wy => Blk p #[.string y.name, .bool y.up, .int .i64 y.clock, .bool y.known, .int .i64 y.seen, .slice a5 y.wants.length c5, .slice o6 k6 j6, .slice o7 k7 j7, .slice o8 k8 j8, .map m1, .map (some m2), .map (some m3), .map (some m4)] 114 wy ∧ Blk g #[.int .i64 q.kind, .string q.berth, .int .i64 q.seen, .slice b3 q.wants.length d3, .string q.hold, .string q.copy, .int .i64 q.at_] 39 wy ∧ Blk gb #[.string r.want.copy, .int .i64 r.want.version, .string r.want.hold, .int .i64 r.want.pull, .int .i64 r.want.start, .int .i64 r.want.dies, .int .i64 r.want.grace, .int .i64 r.state, .int .i64 r.left, .int .i64 r.falls, .int .i64 (max r.until_ (q.at_ + 16))] 65 wy) (by kernel_rfl) ⟨HH15.out.hP.drew, HK15.out.drew, HG15.out.drew⟩ (fun hS => ?_)
    have hb16 : Below w15.heap.size w15 w15.drew := (Below.refl _ _).drew
    have HH16 := Hid.intro (HH15.out.below hb16)
    clear HH15 HK15 HG15 hb16
    generalize w15.drew = w16 at *
    refine wpAnyH_take (i := 0) (oi := ⟨some 63, _, _, _, _, none⟩) (v := .pointer (some ⟨p, 0, none⟩)) rfl (by kernel_rfl) (by kernel_rfl) (by kernel_rfl) (fun _ _ _ h => h) (Or.inl ⟨by rfl, ?_⟩) hS ?_
    · intro wy hy
      clear hy
      go_simp
    simp only [Act.put, List.setIfInBounds_toArray, List.set_cons_zero, List.set_cons_succ]
    refine wpAnyH_take (i := 1) (oi := ⟨some 64, _, _, _, _, none⟩) (v := .pointer (some ⟨p, 0, none⟩)) rfl (by kernel_rfl) (by kernel_rfl) (by kernel_rfl) (fun _ _ _ h => h) (Or.inl ⟨by rfl, ?_⟩) hS ?_
    · intro wy hy
      clear hy
      go_simp
    simp only [Act.put, List.setIfInBounds_toArray, List.set_cons_zero, List.set_cons_succ]
    refine wpAnyH_take (i := 2) (oi := ⟨some 65, _, _, _, _, none⟩) (v := .pointer (some ⟨p, 10, none⟩)) rfl (by kernel_rfl) (by kernel_rfl) (by kernel_rfl) (fun _ _ _ h => h) (Or.inl ⟨by rfl, ?_⟩) hS ?_
    · intro wy hy
      clear hy
      go_simp
    simp only [Act.put, List.setIfInBounds_toArray, List.set_cons_zero, List.set_cons_succ]
    refine wpAnyH_take (i := 3) (oi := ⟨some 66, _, _, _, _, none⟩) (v := .map (some m2)) rfl (by kernel_rfl) (by kernel_rfl) (by kernel_rfl) (fun _ _ _ h => h) (Or.inl ⟨by rfl, ?_⟩) hS ?_
    · intro wy hy
      have h0 : wy.cell? ⟨p, 10, none⟩ = some (.map (some m2)) := hy.1.cell rfl
      clear hy
      go_simp
    simp only [Act.put, List.setIfInBounds_toArray, List.set_cons_zero, List.set_cons_succ]
    refine wpAnyH_take (i := 4) (oi := ⟨some 67, _, _, _, _, none⟩) (v := .pointer (some ⟨g, 5, none⟩)) rfl (by kernel_rfl) (by kernel_rfl) (by kernel_rfl) (fun _ _ _ h => h) (Or.inl ⟨by rfl, ?_⟩) hS ?_
    · intro wy hy
      clear hy
      go_simp
    simp only [Act.put, List.setIfInBounds_toArray, List.set_cons_zero, List.set_cons_succ]
    refine wpAnyH_take (i := 5) (oi := ⟨some 68, _, _, _, _, none⟩) (v := .string q.copy) rfl (by kernel_rfl) (by kernel_rfl) (by kernel_rfl) (fun _ _ _ h => h) (Or.inl ⟨by rfl, ?_⟩) hS ?_
    · intro wy hy
      have h0 : wy.cell? ⟨g, 5, none⟩ = some (.string q.copy) := hy.2.1.cell rfl
      clear hy
      go_simp
    simp only [Act.put, List.setIfInBounds_toArray, List.set_cons_zero, List.set_cons_succ]
    refine wpAnyH_take (i := 6) (oi := ⟨some 69, _, _, _, _, none⟩) (v := .agg #[.string r.want.copy, .int .i64 r.want.version, .string r.want.hold, .int .i64 r.want.pull, .int .i64 r.want.start, .int .i64 r.want.dies, .int .i64 r.want.grace, .int .i64 r.state, .int .i64 r.left, .int .i64 r.falls, .int .i64 (max r.until_ (q.at_ + 16))]) rfl (by kernel_rfl) (by kernel_rfl) (by kernel_rfl) (fun _ _ _ h => h) (yieldsIf_load_mid (by rfl) _ _ rfl gb (0) rfl [.string r.want.copy, .int .i64 r.want.version, .string r.want.hold, .int .i64 r.want.pull, .int .i64 r.want.start, .int .i64 r.want.dies, .int .i64 r.want.grace, .int .i64 r.state, .int .i64 r.left, .int .i64 r.falls, .int .i64 (max r.until_ (q.at_ + 16))] _ (fun _ h => h.2.2.rangeA) Tryz.underlying65 rfl isz_Rn) hS ?_
    simp only [Act.put, List.setIfInBounds_toArray, List.set_cons_zero, List.set_cons_succ]
    have hzc : q.copy.size ≤ maxLen := by have := HQ.out.zc; unfold maxLen; omega
    have hrc : r.want.copy = q.copy := by have h9 := List.find?_some HFR.out; exact of_decide_eq_true h9
    refine wpAnyH_ready (rs := [7]) (by kernel_rfl) (by simp) (AllReadyH.cons (o := ⟨none, _, _, _, _, none⟩) rfl (fun K hK => ?_) AllReadyH.nil)
    obtain ⟨w17, hrun, hown, hturn⟩ := HH16.out.M2.store law_str Tryz.underlying107 (show n2 < maxLen by have := HH16.out.nn.1; unfold maxLen; omega) (keyOf_string_mk Tryz.underlying9 hzc) (elRn_mk { r with until_ := max r.until_ (q.at_ + 16) })
    have hg17 := hturn.grown
    have hP17 := Hid.intro (blk_grown HH16.out.hP hg17 (by omega))
    have hQ17 := blk_grown hS.2.1 hg17 (by omega)
    have hG17 := blk_grown hS.2.2 hg17 (by omega)
    have HM3 := Hid.intro (own_grown HH16.out.M3 hg17 (by omega))
    have HM4 := Hid.intro (own_grown HH16.out.M4 hg17 (by omega))
    have hB17 : Below W0.heap.size W0 w17 := HH16.out.hB.grown hg17 HH16.out.hB.size (fun j hj => by cases hj; omega)
    have HT2 : Hid (TabR (D2.put (kOf q.copy) (dtRn { r with until_ := max r.until_ (q.at_ + 16) })) (y.runs.map (updR q))) := HH16.out.T2.put HH16.out.M2.isMap (c := q.copy) (r := { r with until_ := max r.until_ (q.at_ + 16) }) hrc (by rw [List.any_eq_true]; exact ⟨r, List.mem_of_find?_eq_some HFR.out, decide_eq_true hrc⟩) (updR q) (updR_copy q) (fun z hz hc => by rw [run_uniq HH16.out.A6 HFR.out hz hc]; exact upd_same HHH.out hrc) (fun z hz hc => upd_other (fun e => hc e.2))
    have HF17 : Hid (BthI { y with runs := y.runs.map (updR q) } p lo (kb + 1) W0 a5 c5 o6 k6 j6 o7 k7 j7 o8 k8 j8 m1 m2 (n2 + 1) m3 n3 m4 n4 _ D3 D4 w17) := ⟨hP17.out, hown, HM3.out, HM4.out, ⟨Nat.succ_le_succ HH16.out.nn.1, Nat.le_succ_of_le HH16.out.nn.2.1, Nat.le_succ_of_le HH16.out.nn.2.2⟩, HT2.out, HH16.out.T3, HH16.out.T4, (by rw [map_copy, List.length_map]; exact HH16.out.A6), HH16.out.A7, HH16.out.A8, HH16.out.s5, HH16.out.p5, ⟨HH16.out.sz.nm, HH16.out.sz.z5, (fun a ha => by obtain ⟨z, hz, rfl⟩ := List.mem_map.1 ha; rw [updR_copy]; exact HH16.out.sz.z6 z hz), HH16.out.sz.z7, HH16.out.sz.z8, HH16.out.sz.l5, (by rw [List.length_map]; exact HH16.out.sz.l6), HH16.out.sz.l7, HH16.out.sz.l8⟩, HH16.out.ab, HH16.out.ord, hB17⟩
    rw [if_pos (by rfl)]
    refine wp_mapUpdate (.tmp 66) (.tmp 68) (.tmp 69) 107 (by rfl) m2 _ _ (by rfl) (by rfl) (by rfl) hrun ?_
    refine hK.out _ _ ⟨hP17.out, hQ17, hG17⟩ (fun hS => ?_)
    clear hK K hg17 hP17 HM3 HM4 hB17 HH16 hown hturn hrun HT2
    refine wpAnyH_done (by kernel_rfl) ?_ _
    clear hS
    have HE : Hid (leaseM y q = { y with runs := y.runs.map (updR q) }) := by show _ = _; unfold leaseM; rw [HOK.out]; rfl
    go_wp2_with fail
    first | go_end0 | ((try simp only [Exit.inBlock, Exit.then]); refine bodyPost_ret (results_none rfl _ _ _) rfl ?_)
    refine ⟨rfl, ?_⟩
    rw [HE.out]
    exact ⟨a5, c5, o6, k6, j6, o7, k7, j7, o8, k8, j8, m1, m2, n2 + 1, m3, n3, m4, n4, _, D3, D4, HF17.out⟩

end Go.Proofs.YtlangcodelcncaaGreat
