import Derived.Test.YtlangcodelcncaaGreatInoR
import Derived.Test.YtlangcodelcncaaGreatRis
namespace Go.Proofs.YtlangcodelcncaaGreat
open Go.RowKit

theorem own_spot2 {base n cap : Nat} {a : Option Addr} {w : World} {e : TypeId} {s : Nat} {cs : List Value} (h : w.ownsRow base e s (.slice a n cap) n cs) : ∀ b o sp, a = some ⟨b, o, sp⟩ → sp = none := by
  intro b o sp ea
  rcases h.2 with ⟨h1, _⟩ | ⟨g', cap', cur, h1, _⟩
  · rw [ea] at h1
    cases h1
  · have e2 : a = some ⟨g', 0, none⟩ := by injection h1
    rw [e2] at ea
    cases ea
    rfl

set_option maxHeartbeats 4000000 in
set_option maxRecDepth 100000 in
theorem told_any (y : Mte) (p : Nat) (a5 : Option Addr) (c5 : Nat) (o6 : Option Addr) (k6 j6 : Nat) (o7 : Option Addr) (k7 j7 : Nat) (o8 : Option Addr) (k8 j8 : Nat) (m1 : Option Nat) (m2 n2 m3 n3 m4 n4 lo : Nat) (D2 D3 D4 : DataW Unit) (w : World) (hP : Blk p #[.string y.name, .bool y.up, .int .i64 y.clock, .bool y.known, .int .i64 y.seen, .slice a5 y.wants.length c5, .slice o6 k6 j6, .slice o7 k7 j7, .slice o8 k8 j8, .map m1, .map (some m2), .map (some m3), .map (some m4)] 114 w)
    (hM2 : w.ownsMap Tryz.prog 9 elRn m2 n2 D2) (hM3 : w.ownsMap Tryz.prog 9 aksElem m3 n3 D3) (hM4 : w.ownsMap Tryz.prog 9 aksElem m4 n4 D4) (hn2 : n2 ≤ 2097152) (hn3 : n3 ≤ 2097152) (hn4 : n4 ≤ 2097152)
    (hT2 : TabR D2 y.runs) (hT3 : TabA D3 y.asks) (hT4 : TabA D4 y.gives) (hA6 : ascTo (y.runs.map (·.want.copy)) y.runs.length = true) (hA7 : ascTo (y.asks.map (·.hold)) y.asks.length = true) (hA8 : ascTo (y.gives.map (·.hold)) y.gives.length = true)
    (hZ6 : ∀ x ∈ y.runs, x.want.copy.size ≤ maxLen) (hZ7 : ∀ x ∈ y.asks, x.hold.size ≤ maxLen) (hZ8 : ∀ x ∈ y.gives, x.hold.size ≤ maxLen) (hs5 : SliceC WntC 7 lo w a5 y.wants) (hp5 : ∀ b o s, a5 = some ⟨b, o, s⟩ → s = none) (hm : MSz y) :
    Calls Tryz.prog 36 #[.pointer (some ⟨p, 0, none⟩)] w fun e w' => ∃ d5 r5 d6 r6 d7 r7 d8 r8, e = .returned (.agg #[.string y.name, .bool y.up, .int .i64 y.clock, .bool y.known, .int .i64 y.seen, .slice d5 y.wants.length r5, .slice d6 y.runs.length r6, .slice d7 y.asks.length r7, .slice d8 y.gives.length r8]) ∧ G4 y w.heap.size w'.heap.size d5 d6 d7 d8 w' ∧ Below w.heap.size w w' := by
  have M2 := Hid.intro hM2
  have M3 := Hid.intro hM3
  have M4 := Hid.intro hM4
  have T2 := Hid.intro hT2
  have T3 := Hid.intro hT3
  have T4 := Hid.intro hT4
  have A6 := Hid.intro hA6
  have A7 := Hid.intro hA7
  have A8 := Hid.intro hA8
  have Z6 := Hid.intro hZ6
  have Z7 := Hid.intro hZ7
  have Z8 := Hid.intro hZ8
  have S5 := Hid.intro hs5
  have P5 := Hid.intro hp5
  have HM := Hid.intro hm
  have hpl : p < w.heap.size := hP.lt
  have HP0 := Hid.intro hP
  clear hM2 hM3 hM4 hT2 hT3 hT4 hA6 hA7 hA8 hZ6 hZ7 hZ8 hs5 hp5 hm hP
  have hb1 : Below w.heap.size w (w.alloc (.cells #[.string ⟨#[]⟩, .bool false, .int .i64 0, .bool false, .int .i64 0, .slice none 0 0, .slice none 0 0, .slice none 0 0, .slice none 0 0] 35)) := (Below.refl _ w).alloc (Nat.le_refl _) _
  have HP1 := Hid.intro (HP0.out.below hb1 HP0.out.lt)
  have hB2 : Below w.heap.size w ((w.alloc (.cells #[.string ⟨#[]⟩, .bool false, .int .i64 0, .bool false, .int .i64 0, .slice none 0 0, .slice none 0 0, .slice none 0 0, .slice none 0 0] 35)).alloc (.cells #[.string y.name, .bool y.up, .int .i64 y.clock, .bool y.known, .int .i64 y.seen, .slice a5 y.wants.length c5, .slice o6 k6 j6, .slice o7 k7 j7, .slice o8 k8 j8] 35)) := by go_grown
  have HP2 : Hid (Blk p #[.string y.name, .bool y.up, .int .i64 y.clock, .bool y.known, .int .i64 y.seen, .slice a5 y.wants.length c5, .slice o6 k6 j6, .slice o7 k7 j7, .slice o8 k8 j8, .map m1, .map (some m2), .map (some m3), .map (some m4)] 114 ((w.alloc (.cells #[.string ⟨#[]⟩, .bool false, .int .i64 0, .bool false, .int .i64 0, .slice none 0 0, .slice none 0 0, .slice none 0 0, .slice none 0 0] 35)).alloc (.cells #[.string y.name, .bool y.up, .int .i64 y.clock, .bool y.known, .int .i64 y.seen, .slice a5 y.wants.length c5, .slice o6 k6 j6, .slice o7 k7 j7, .slice o8 k8 j8] 35))) := HP0.out.below hB2 HP0.out.lt
  have HZa : Blk w.heap.size #[.string ⟨#[]⟩, .bool false, .int .i64 0, .bool false, .int .i64 0, .slice none 0 0, .slice none 0 0, .slice none 0 0, .slice none 0 0] 35 (w.alloc (.cells #[.string ⟨#[]⟩, .bool false, .int .i64 0, .bool false, .int .i64 0, .slice none 0 0, .slice none 0 0, .slice none 0 0, .slice none 0 0] 35)) := Blk.alloc _ _ _
  have HZ2 : Hid (Blk w.heap.size #[.string ⟨#[]⟩, .bool false, .int .i64 0, .bool false, .int .i64 0, .slice none 0 0, .slice none 0 0, .slice none 0 0, .slice none 0 0] 35 ((w.alloc (.cells #[.string ⟨#[]⟩, .bool false, .int .i64 0, .bool false, .int .i64 0, .slice none 0 0, .slice none 0 0, .slice none 0 0, .slice none 0 0] 35)).alloc (.cells #[.string y.name, .bool y.up, .int .i64 y.clock, .bool y.known, .int .i64 y.seen, .slice a5 y.wants.length c5, .slice o6 k6 j6, .slice o7 k7 j7, .slice o8 k8 j8] 35))) := HZa.below ((Below.refl _ _).alloc (Nat.le_refl _) _) HZa.lt
  have HH2 : Hid (Blk (w.heap.size + 1) #[.string y.name, .bool y.up, .int .i64 y.clock, .bool y.known, .int .i64 y.seen, .slice a5 y.wants.length c5, .slice o6 k6 j6, .slice o7 k7 j7, .slice o8 k8 j8] 35 ((w.alloc (.cells #[.string ⟨#[]⟩, .bool false, .int .i64 0, .bool false, .int .i64 0, .slice none 0 0, .slice none 0 0, .slice none 0 0, .slice none 0 0] 35)).alloc (.cells #[.string y.name, .bool y.up, .int .i64 y.clock, .bool y.known, .int .i64 y.seen, .slice a5 y.wants.length c5, .slice o6 k6 j6, .slice o7 k7 j7, .slice o8 k8 j8] 35))) := by
    have := Blk.alloc (w.alloc (.cells #[.string ⟨#[]⟩, .bool false, .int .i64 0, .bool false, .int .i64 0, .slice none 0 0, .slice none 0 0, .slice none 0 0, .slice none 0 0] 35)) #[.string y.name, .bool y.up, .int .i64 y.clock, .bool y.known, .int .i64 y.seen, .slice a5 y.wants.length c5, .slice o6 k6 j6, .slice o7 k7 j7, .slice o8 k8 j8] 35
    show Blk _ _ _ _
    simpa using this
  have HRG : Hid ((w.alloc (.cells #[.string ⟨#[]⟩, .bool false, .int .i64 0, .bool false, .int .i64 0, .slice none 0 0, .slice none 0 0, .slice none 0 0, .slice none 0 0] 35)).rangeAt p 0 [.string y.name, .bool y.up, .int .i64 y.clock, .bool y.known, .int .i64 y.seen, .slice a5 y.wants.length c5, .slice o6 k6 j6, .slice o7 k7 j7, .slice o8 k8 j8]) := fun j v hj => HP1.out.rangeA j v (by rw [← hj]; exact List.getElem?_append_left (l₂ := [.map m1, .map (some m2), .map (some m3), .map (some m4)]) (lt_of_some hj))
  clear hb1 HZa HP1
  go_enter Tryz.func36, Tryz.ntmps36
  go_upto_region 2 with (refine wpList_load_mid rfl 35 _ rfl p 0 rfl [.string y.name, .bool y.up, .int .i64 y.clock, .bool y.known, .int .i64 y.seen, .slice a5 y.wants.length c5, .slice o6 k6 j6, .slice o7 k7 j7, .slice o8 k8 j8] _ HRG.out Tryz.underlying35 rfl isz_Mte ?_)
  clear HRG
  generalize (w.alloc (Obj.cells #[.string ⟨#[]⟩, .bool false, .int .i64 0, .bool false, .int .i64 0, .slice none 0 0, .slice none 0 0, .slice none 0 0, .slice none 0 0] 35)).alloc (Obj.cells #[.string y.name, .bool y.up, .int .i64 y.clock, .bool y.known, .int .i64 y.seen, .slice a5 y.wants.length c5, .slice o6 k6 j6, .slice o7 k7 j7, .slice o8 k8 j8] 35) = w2 at *
  refine wp_region_held_drew (S := fun wy => Blk p #[.string y.name, .bool y.up, .int .i64 y.clock, .bool y.known, .int .i64 y.seen, .slice a5 y.wants.length c5, .slice o6 k6 j6, .slice o7 k7 j7, .slice o8 k8 j8, .map m1, .map (some m2), .map (some m3), .map (some m4)] 114 wy) (by kernel_rfl) HP2.out.drew (fun hS => ?_)
  have hB3 : Below w.heap.size w w2.drew := hB2.drew
  have HH3 : Hid (Blk (w.heap.size + 1) #[.string y.name, .bool y.up, .int .i64 y.clock, .bool y.known, .int .i64 y.seen, .slice a5 y.wants.length c5, .slice o6 k6 j6, .slice o7 k7 j7, .slice o8 k8 j8] 35 w2.drew) := HH2.out.drew
  have HZ3 : Hid (Blk w.heap.size #[.string ⟨#[]⟩, .bool false, .int .i64 0, .bool false, .int .i64 0, .slice none 0 0, .slice none 0 0, .slice none 0 0, .slice none 0 0] 35 w2.drew) := HZ2.out.drew
  clear HP2 HH2 HZ2 hB2
  generalize w2.drew = w3 at *
  refine wpAnyH_take (i := 0) (oi := ⟨some 8, _, _, _, _, none⟩) (v := .pointer (some ⟨p, 0, none⟩)) rfl (by kernel_rfl) (by kernel_rfl) (by kernel_rfl) (fun _ _ _ h => h) (Or.inl ⟨by rfl, ?_⟩) hS ?_
  · intro wy hy
    clear hy
    go_simp
  simp only [Act.put, List.setIfInBounds_toArray, List.set_cons_zero, List.set_cons_succ]
  refine wpAnyH_take (i := 1) (oi := ⟨some 9, _, _, _, _, none⟩) (v := .pointer (some ⟨p, 0, none⟩)) rfl (by kernel_rfl) (by kernel_rfl) (by kernel_rfl) (fun _ _ _ h => h) (Or.inl ⟨by rfl, ?_⟩) hS ?_
  · intro wy hy
    clear hy
    go_simp
  simp only [Act.put, List.setIfInBounds_toArray, List.set_cons_zero, List.set_cons_succ]
  refine wpAnyH_take (i := 2) (oi := ⟨some 10, _, _, _, _, none⟩) (v := .pointer (some ⟨p, 10, none⟩)) rfl (by kernel_rfl) (by kernel_rfl) (by kernel_rfl) (fun _ _ _ h => h) (Or.inl ⟨by rfl, ?_⟩) hS ?_
  · intro wy hy
    clear hy
    go_simp
  simp only [Act.put, List.setIfInBounds_toArray, List.set_cons_zero, List.set_cons_succ]
  refine wpAnyH_take (i := 3) (oi := ⟨some 11, _, _, _, _, none⟩) (v := .map (some m2)) rfl (by kernel_rfl) (by kernel_rfl) (by kernel_rfl) (fun _ _ _ h => h) (Or.inl ⟨by rfl, ?_⟩) hS ?_
  · intro wy hy
    have h0 : wy.cell? ⟨p, 10, none⟩ = some (.map (some m2)) := hy.cell rfl
    clear hy
    go_simp
  simp only [Act.put, List.setIfInBounds_toArray, List.set_cons_zero, List.set_cons_succ]
  refine wpAnyH_take (i := 5) (oi := ⟨some 13, _, _, _, _, none⟩) (v := .pointer (some ⟨p, 0, none⟩)) rfl (by kernel_rfl) (by kernel_rfl) (by kernel_rfl) (fun _ _ _ h => h) (Or.inl ⟨by rfl, ?_⟩) hS ?_
  · intro wy hy
    clear hy
    go_simp
  simp only [Act.put, List.setIfInBounds_toArray, List.set_cons_zero, List.set_cons_succ]
  refine wpAnyH_take (i := 6) (oi := ⟨some 14, _, _, _, _, none⟩) (v := .pointer (some ⟨p, 0, none⟩)) rfl (by kernel_rfl) (by kernel_rfl) (by kernel_rfl) (fun _ _ _ h => h) (Or.inl ⟨by rfl, ?_⟩) hS ?_
  · intro wy hy
    clear hy
    go_simp
  simp only [Act.put, List.setIfInBounds_toArray, List.set_cons_zero, List.set_cons_succ]
  refine wpAnyH_take (i := 7) (oi := ⟨some 15, _, _, _, _, none⟩) (v := .pointer (some ⟨p, 11, none⟩)) rfl (by kernel_rfl) (by kernel_rfl) (by kernel_rfl) (fun _ _ _ h => h) (Or.inl ⟨by rfl, ?_⟩) hS ?_
  · intro wy hy
    clear hy
    go_simp
  simp only [Act.put, List.setIfInBounds_toArray, List.set_cons_zero, List.set_cons_succ]
  refine wpAnyH_take (i := 8) (oi := ⟨some 16, _, _, _, _, none⟩) (v := .map (some m3)) rfl (by kernel_rfl) (by kernel_rfl) (by kernel_rfl) (fun _ _ _ h => h) (Or.inl ⟨by rfl, ?_⟩) hS ?_
  · intro wy hy
    have h0 : wy.cell? ⟨p, 11, none⟩ = some (.map (some m3)) := hy.cell rfl
    clear hy
    go_simp
  simp only [Act.put, List.setIfInBounds_toArray, List.set_cons_zero, List.set_cons_succ]
  refine wpAnyH_take (i := 10) (oi := ⟨some 18, _, _, _, _, none⟩) (v := .pointer (some ⟨p, 0, none⟩)) rfl (by kernel_rfl) (by kernel_rfl) (by kernel_rfl) (fun _ _ _ h => h) (Or.inl ⟨by rfl, ?_⟩) hS ?_
  · intro wy hy
    clear hy
    go_simp
  simp only [Act.put, List.setIfInBounds_toArray, List.set_cons_zero, List.set_cons_succ]
  refine wpAnyH_take (i := 11) (oi := ⟨some 19, _, _, _, _, none⟩) (v := .pointer (some ⟨p, 0, none⟩)) rfl (by kernel_rfl) (by kernel_rfl) (by kernel_rfl) (fun _ _ _ h => h) (Or.inl ⟨by rfl, ?_⟩) hS ?_
  · intro wy hy
    clear hy
    go_simp
  simp only [Act.put, List.setIfInBounds_toArray, List.set_cons_zero, List.set_cons_succ]
  refine wpAnyH_take (i := 12) (oi := ⟨some 20, _, _, _, _, none⟩) (v := .pointer (some ⟨p, 12, none⟩)) rfl (by kernel_rfl) (by kernel_rfl) (by kernel_rfl) (fun _ _ _ h => h) (Or.inl ⟨by rfl, ?_⟩) hS ?_
  · intro wy hy
    clear hy
    go_simp
  simp only [Act.put, List.setIfInBounds_toArray, List.set_cons_zero, List.set_cons_succ]
  refine wpAnyH_take (i := 13) (oi := ⟨some 21, _, _, _, _, none⟩) (v := .map (some m4)) rfl (by kernel_rfl) (by kernel_rfl) (by kernel_rfl) (fun _ _ _ h => h) (Or.inl ⟨by rfl, ?_⟩) hS ?_
  · intro wy hy
    have h0 : wy.cell? ⟨p, 12, none⟩ = some (.map (some m4)) := hy.cell rfl
    clear hy
    go_simp
  simp only [Act.put, List.setIfInBounds_toArray, List.set_cons_zero, List.set_cons_succ]
  refine wpAnyH_ready (rs := [4]) (by kernel_rfl) (by simp) (AllReadyH.cons (o := ⟨some 12, _, _, _, _, none⟩) rfl (fun K hK => ?_) AllReadyH.nil)
  go_simp
  refine (inOrdR_any y.runs m2 n2 D2 _ (ownsMap_below M2.out hB3 M2.out.lt) hn2 T2.out A6.out Z6.out HM.out.l6).mono ?_
  rintro e w4 ⟨b6, q6, rfl, ho, hb⟩
  have hB4 := hB3.trans (hb.mono hB3.size)
  have HH4 := Hid.intro (HH3.out.below hb HH3.out.lt)
  have HZ4 := Hid.intro (HZ3.out.below hb HZ3.out.lt)
  have P6 := Hid.intro (rowslRn ho HM.out.l6 HM.out.z6)
  have S6 := Hid.intro (own_spot2 ho)
  have hg6 : w.heap.size + 1 < w3.heap.size := HH3.out.lt
  refine hK.out _ _ (hS.below hb hS.lt) (fun hS => ?_)
  clear hK K
  clear hb ho HH3 HZ3 hB3
  refine wpAnyH_take (i := 15) (oi := ⟨some 23, _, _, _, _, none⟩) (v := .pointer (some ⟨w.heap.size + 1, 6, none⟩)) rfl (by kernel_rfl) (by kernel_rfl) (by kernel_rfl) (fun _ _ _ h => h) (Or.inl ⟨by rfl, ?_⟩) hS ?_
  · intro wy hy
    clear hy
    go_simp
  simp only [Act.put, List.setIfInBounds_toArray, List.set_cons_zero, List.set_cons_succ]
  refine wpAnyH_ready (rs := [9]) (by kernel_rfl) (by simp) (AllReadyH.cons (o := ⟨some 17, _, _, _, _, none⟩) rfl (fun K hK => ?_) AllReadyH.nil)
  go_simp
  refine (inOrdA_any y.asks m3 n3 D3 _ (ownsMap_below M3.out hB4 M3.out.lt) hn3 T3.out A7.out Z7.out HM.out.l7).mono ?_
  rintro e w5 ⟨b7, q7, rfl, ho, hb⟩
  have hB5 := hB4.trans (hb.mono hB4.size)
  have HH5 := Hid.intro (HH4.out.below hb HH4.out.lt)
  have HZ5 := Hid.intro (HZ4.out.below hb HZ4.out.lt)
  replace P6 := Hid.intro (P6.out.below RnC.holds hb (Nat.le_refl _))
  have P7 := Hid.intro (rowslAks ho HM.out.l7 HM.out.z7)
  have S7 := Hid.intro (own_spot2 ho)
  have hg7 : w.heap.size + 1 < w4.heap.size := HH4.out.lt
  refine hK.out _ _ (hS.below hb hS.lt) (fun hS => ?_)
  clear hK K
  clear hb ho HH4 HZ4 hB4
  refine wpAnyH_ready (rs := [14]) (by kernel_rfl) (by simp) (AllReadyH.cons (o := ⟨some 22, _, _, _, _, none⟩) rfl (fun K hK => ?_) AllReadyH.nil)
  go_simp
  refine (inOrdA_any y.gives m4 n4 D4 _ (ownsMap_below M4.out hB5 M4.out.lt) hn4 T4.out A8.out Z8.out HM.out.l8).mono ?_
  rintro e w6 ⟨b8, q8, rfl, ho, hb⟩
  have hB6 := hB5.trans (hb.mono hB5.size)
  have HH6 := Hid.intro (HH5.out.below hb HH5.out.lt)
  have HZ6 := Hid.intro (HZ5.out.below hb HZ5.out.lt)
  replace P6 := Hid.intro (P6.out.below RnC.holds hb (Nat.le_refl _))
  replace P7 := Hid.intro (P7.out.below AksC.holds hb (Nat.le_refl _))
  have P8 := Hid.intro (rowslAks ho HM.out.l8 HM.out.z8)
  have S8 := Hid.intro (own_spot2 ho)
  have hg8 : w.heap.size + 1 < w5.heap.size := HH5.out.lt
  refine hK.out _ _ (hS.below hb hS.lt) (fun hS => ?_)
  clear hK K
  clear hb ho HH5 HZ5 hB5
  have kk : w6.cell? ⟨w.heap.size + 1, 6, none⟩ = some (.slice o6 k6 j6) := HH6.out.cell rfl
  have ff : w6.frozen? ⟨w.heap.size + 1, 6, none⟩ = false := HH6.out.frozen _
  refine wpAnyH_ready (rs := [16]) (by kernel_rfl) (by simp) (AllReadyH.cons (o := ⟨none, _, _, _, _, none⟩) rfl (fun K hK => ?_) AllReadyH.nil)
  go_simp
  have HH7 : Hid (Blk (w.heap.size + 1) #[.string y.name, .bool y.up, .int .i64 y.clock, .bool y.known, .int .i64 y.seen, .slice a5 y.wants.length c5, .slice b6 y.runs.length q6, .slice o7 k7 j7, .slice o8 k8 j8] 35 (w6.setCell ⟨w.heap.size + 1, 6, none⟩ (.slice b6 y.runs.length q6))) := HH6.out.set 6 _
  have HZ7 : Hid (Blk w.heap.size #[.string ⟨#[]⟩, .bool false, .int .i64 0, .bool false, .int .i64 0, .slice none 0 0, .slice none 0 0, .slice none 0 0, .slice none 0 0] 35 (w6.setCell ⟨w.heap.size + 1, 6, none⟩ (.slice b6 y.runs.length q6))) := HZ6.out.other (a := ⟨w.heap.size + 1, 6, none⟩) (show w.heap.size ≠ w.heap.size + 1 by omega) _
  have hB7 : Below w.heap.size w (w6.setCell ⟨w.heap.size + 1, 6, none⟩ (.slice b6 y.runs.length q6)) := hB6.setCell (p := ⟨w.heap.size + 1, 6, none⟩) (Nat.le_succ _) _
  replace P6 : Hid (SliceC RnC 11 w3.heap.size (w6.setCell ⟨w.heap.size + 1, 6, none⟩ (.slice b6 y.runs.length q6)) b6 y.runs) := P6.out.keep RnC.holds (Keeps.set (a := ⟨w.heap.size + 1, 6, none⟩) (show w.heap.size + 1 < w3.heap.size by omega) _) (Nat.le_refl _)
  replace P7 : Hid (SliceC AksC 4 w4.heap.size (w6.setCell ⟨w.heap.size + 1, 6, none⟩ (.slice b6 y.runs.length q6)) b7 y.asks) := P7.out.keep AksC.holds (Keeps.set (a := ⟨w.heap.size + 1, 6, none⟩) (show w.heap.size + 1 < w4.heap.size by omega) _) (Nat.le_refl _)
  replace P8 : Hid (SliceC AksC 4 w5.heap.size (w6.setCell ⟨w.heap.size + 1, 6, none⟩ (.slice b6 y.runs.length q6)) b8 y.gives) := P8.out.keep AksC.holds (Keeps.set (a := ⟨w.heap.size + 1, 6, none⟩) (show w.heap.size + 1 < w5.heap.size by omega) _) (Nat.le_refl _)
  refine hK.out _ _ (hS.other (a := ⟨w.heap.size + 1, 6, none⟩) (show p ≠ w.heap.size + 1 by omega) _) (fun hS => ?_)
  clear hK K kk ff HH6 HZ6 hB6
  generalize (w6.setCell ⟨w.heap.size + 1, 6, none⟩ (.slice b6 y.runs.length q6)) = w7 at *
  refine wpAnyH_take (i := 17) (oi := ⟨some 24, _, _, _, _, none⟩) (v := .pointer (some ⟨w.heap.size + 1, 7, none⟩)) rfl (by kernel_rfl) (by kernel_rfl) (by kernel_rfl) (fun _ _ _ h => h) (Or.inl ⟨by rfl, ?_⟩) hS ?_
  · intro wy hy
    clear hy
    go_simp
  simp only [Act.put, List.setIfInBounds_toArray, List.set_cons_zero, List.set_cons_succ]
  have kk : w7.cell? ⟨w.heap.size + 1, 7, none⟩ = some (.slice o7 k7 j7) := HH7.out.cell rfl
  have ff : w7.frozen? ⟨w.heap.size + 1, 7, none⟩ = false := HH7.out.frozen _
  refine wpAnyH_ready (rs := [18]) (by kernel_rfl) (by simp) (AllReadyH.cons (o := ⟨none, _, _, _, _, none⟩) rfl (fun K hK => ?_) AllReadyH.nil)
  go_simp
  have HH8 : Hid (Blk (w.heap.size + 1) #[.string y.name, .bool y.up, .int .i64 y.clock, .bool y.known, .int .i64 y.seen, .slice a5 y.wants.length c5, .slice b6 y.runs.length q6, .slice b7 y.asks.length q7, .slice o8 k8 j8] 35 (w7.setCell ⟨w.heap.size + 1, 7, none⟩ (.slice b7 y.asks.length q7))) := HH7.out.set 7 _
  have HZ8 : Hid (Blk w.heap.size #[.string ⟨#[]⟩, .bool false, .int .i64 0, .bool false, .int .i64 0, .slice none 0 0, .slice none 0 0, .slice none 0 0, .slice none 0 0] 35 (w7.setCell ⟨w.heap.size + 1, 7, none⟩ (.slice b7 y.asks.length q7))) := HZ7.out.other (a := ⟨w.heap.size + 1, 7, none⟩) (show w.heap.size ≠ w.heap.size + 1 by omega) _
  have hB8 : Below w.heap.size w (w7.setCell ⟨w.heap.size + 1, 7, none⟩ (.slice b7 y.asks.length q7)) := hB7.setCell (p := ⟨w.heap.size + 1, 7, none⟩) (Nat.le_succ _) _
  replace P6 : Hid (SliceC RnC 11 w3.heap.size (w7.setCell ⟨w.heap.size + 1, 7, none⟩ (.slice b7 y.asks.length q7)) b6 y.runs) := P6.out.keep RnC.holds (Keeps.set (a := ⟨w.heap.size + 1, 7, none⟩) (show w.heap.size + 1 < w3.heap.size by omega) _) (Nat.le_refl _)
  replace P7 : Hid (SliceC AksC 4 w4.heap.size (w7.setCell ⟨w.heap.size + 1, 7, none⟩ (.slice b7 y.asks.length q7)) b7 y.asks) := P7.out.keep AksC.holds (Keeps.set (a := ⟨w.heap.size + 1, 7, none⟩) (show w.heap.size + 1 < w4.heap.size by omega) _) (Nat.le_refl _)
  replace P8 : Hid (SliceC AksC 4 w5.heap.size (w7.setCell ⟨w.heap.size + 1, 7, none⟩ (.slice b7 y.asks.length q7)) b8 y.gives) := P8.out.keep AksC.holds (Keeps.set (a := ⟨w.heap.size + 1, 7, none⟩) (show w.heap.size + 1 < w5.heap.size by omega) _) (Nat.le_refl _)
  refine hK.out _ _ (hS.other (a := ⟨w.heap.size + 1, 7, none⟩) (show p ≠ w.heap.size + 1 by omega) _) (fun hS => ?_)
  clear hK K kk ff HH7 HZ7 hB7
  generalize (w7.setCell ⟨w.heap.size + 1, 7, none⟩ (.slice b7 y.asks.length q7)) = w8 at *
  refine wpAnyH_take (i := 19) (oi := ⟨some 25, _, _, _, _, none⟩) (v := .pointer (some ⟨w.heap.size + 1, 8, none⟩)) rfl (by kernel_rfl) (by kernel_rfl) (by kernel_rfl) (fun _ _ _ h => h) (Or.inl ⟨by rfl, ?_⟩) hS ?_
  · intro wy hy
    clear hy
    go_simp
  simp only [Act.put, List.setIfInBounds_toArray, List.set_cons_zero, List.set_cons_succ]
  have kk : w8.cell? ⟨w.heap.size + 1, 8, none⟩ = some (.slice o8 k8 j8) := HH8.out.cell rfl
  have ff : w8.frozen? ⟨w.heap.size + 1, 8, none⟩ = false := HH8.out.frozen _
  refine wpAnyH_ready (rs := [20]) (by kernel_rfl) (by simp) (AllReadyH.cons (o := ⟨none, _, _, _, _, none⟩) rfl (fun K hK => ?_) AllReadyH.nil)
  go_simp
  have HH9 : Hid (Blk (w.heap.size + 1) #[.string y.name, .bool y.up, .int .i64 y.clock, .bool y.known, .int .i64 y.seen, .slice a5 y.wants.length c5, .slice b6 y.runs.length q6, .slice b7 y.asks.length q7, .slice b8 y.gives.length q8] 35 (w8.setCell ⟨w.heap.size + 1, 8, none⟩ (.slice b8 y.gives.length q8))) := HH8.out.set 8 _
  have HZ9 : Hid (Blk w.heap.size #[.string ⟨#[]⟩, .bool false, .int .i64 0, .bool false, .int .i64 0, .slice none 0 0, .slice none 0 0, .slice none 0 0, .slice none 0 0] 35 (w8.setCell ⟨w.heap.size + 1, 8, none⟩ (.slice b8 y.gives.length q8))) := HZ8.out.other (a := ⟨w.heap.size + 1, 8, none⟩) (show w.heap.size ≠ w.heap.size + 1 by omega) _
  have hB9 : Below w.heap.size w (w8.setCell ⟨w.heap.size + 1, 8, none⟩ (.slice b8 y.gives.length q8)) := hB8.setCell (p := ⟨w.heap.size + 1, 8, none⟩) (Nat.le_succ _) _
  replace P6 : Hid (SliceC RnC 11 w3.heap.size (w8.setCell ⟨w.heap.size + 1, 8, none⟩ (.slice b8 y.gives.length q8)) b6 y.runs) := P6.out.keep RnC.holds (Keeps.set (a := ⟨w.heap.size + 1, 8, none⟩) (show w.heap.size + 1 < w3.heap.size by omega) _) (Nat.le_refl _)
  replace P7 : Hid (SliceC AksC 4 w4.heap.size (w8.setCell ⟨w.heap.size + 1, 8, none⟩ (.slice b8 y.gives.length q8)) b7 y.asks) := P7.out.keep AksC.holds (Keeps.set (a := ⟨w.heap.size + 1, 8, none⟩) (show w.heap.size + 1 < w4.heap.size by omega) _) (Nat.le_refl _)
  replace P8 : Hid (SliceC AksC 4 w5.heap.size (w8.setCell ⟨w.heap.size + 1, 8, none⟩ (.slice b8 y.gives.length q8)) b8 y.gives) := P8.out.keep AksC.holds (Keeps.set (a := ⟨w.heap.size + 1, 8, none⟩) (show w.heap.size + 1 < w5.heap.size by omega) _) (Nat.le_refl _)
  refine hK.out _ _ (hS.other (a := ⟨w.heap.size + 1, 8, none⟩) (show p ≠ w.heap.size + 1 by omega) _) (fun hS => ?_)
  clear hK K kk ff HH8 HZ8 hB8
  generalize (w8.setCell ⟨w.heap.size + 1, 8, none⟩ (.slice b8 y.gives.length q8)) = w9 at *
  refine wpAnyH_done (by kernel_rfl) ?_ _
  clear hS
  have hg9 : w.heap.size + 1 < w9.heap.size := HH9.out.lt
  go_wp2_with (refine wpList_load_mid rfl 35 _ rfl (w.heap.size + 1) 0 (by first | rfl | (simp [go_sem]; done)) [.string y.name, .bool y.up, .int .i64 y.clock, .bool y.known, .int .i64 y.seen, .slice a5 y.wants.length c5, .slice b6 y.runs.length q6, .slice b7 y.asks.length q7, .slice b8 y.gives.length q8] _ HH9.out.rangeA Tryz.underlying35 rfl isz_Mte ?_)
  refine (newMate_any y a5 c5 b6 q6 b7 q7 b8 q8 0 _ ⟨(S5.out.below WntC.holds hB9 (Nat.le_refl _)).keep WntC.holds (Keeps.refl _ _) (Nat.zero_le _), P6.out.keep RnC.holds (Keeps.refl _ _) (Nat.zero_le _), P7.out.keep AksC.holds (Keeps.refl _ _) (Nat.zero_le _), P8.out.keep AksC.holds (Keeps.refl _ _) (Nat.zero_le _), P5.out, S6.out, S7.out, S8.out⟩ HM.out).mono ?_
  rintro e wn ⟨d5, r5, d6, r6, d7, r7, d8, r8, rfl, hg, hbn⟩
  have HZn := Hid.intro (HZ9.out.below hbn HZ9.out.lt)
  have hBn := hB9.trans (hbn.mono hB9.size)
  have HG := Hid.intro hg
  have HTZ := Hid.intro HZn.out.there
  obtain ⟨wf, HE⟩ : ∃ wf, Hid (wf = wn.setCells w.heap.size 0 [.string y.name, .bool y.up, .int .i64 y.clock, .bool y.known, .int .i64 y.seen, .slice d5 y.wants.length r5, .slice d6 y.runs.length r6, .slice d7 y.asks.length r7, .slice d8 y.gives.length r8]) := ⟨_, rfl⟩
  have HRf : Hid (wf.rangeAt w.heap.size 0 [.string y.name, .bool y.up, .int .i64 y.clock, .bool y.known, .int .i64 y.seen, .slice d5 y.wants.length r5, .slice d6 y.runs.length r6, .slice d7 y.asks.length r7, .slice d8 y.gives.length r8]) := by
    show World.rangeAt _ _ _ _
    rw [HE.out]
    exact World.rangeAt_setCells_same _ _ _ _ HTZ.out
  have hBf : Below w.heap.size w wf := by
    rw [HE.out]
    exact below_setCells (Nat.le_refl _) _ _ _ hBn
  replace HG : Hid (G4 y w.heap.size wf.heap.size d5 d6 d7 d8 wf) := by
    have hk : Keeps w9.heap.size wn wf := by rw [HE.out]; exact Keeps.setCells (by omega) _ _ _
    exact (HG.out.keep hk).widen (by omega) hk.1 (Nat.le_refl _)
  clear hbn hg hBn HZn
  go_wp2_with (refine wpList_store_to rfl 35 _ _ rfl w.heap.size 0 #[.string y.name, .bool y.up, .int .i64 y.clock, .bool y.known, .int .i64 y.seen, .slice d5 y.wants.length r5, .slice d6 y.runs.length r6, .slice d7 y.asks.length r7, .slice d8 y.gives.length r8] (by first | rfl | (simp [go_sem]; done)) rfl HTZ.out isz_Mte (by simp [Value.oneCell']) wf HE.out ?_)
  exact bodyPost_ret (results_cell_mid rfl _ _ w.heap.size [.string y.name, .bool y.up, .int .i64 y.clock, .bool y.known, .int .i64 y.seen, .slice d5 y.wants.length r5, .slice d6 y.runs.length r6, .slice d7 y.asks.length r7, .slice d8 y.gives.length r8] _ rfl HRf.out Tryz.underlying35 rfl isz_Mte) rfl ⟨d5, r5, d6, r6, d7, r7, d8, r8, rfl, HG.out, hBf⟩

end Go.Proofs.YtlangcodelcncaaGreat
