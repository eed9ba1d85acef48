import Derived.Test.YtlangcodelcncaaGreatAv4
import Derived.Test.YtlangcodelcncaaGreatTbWnt
import Derived.Test.YtlangcodelcncaaGreatTbRn
namespace Go.Proofs.YtlangcodelcncaaGreat
open Go.RowKit

set_option maxHeartbeats 4000000 in
set_option maxRecDepth 100000 in
theorem berthOf_any (x : Mte) (a5 : Option Addr) (c5 : Nat) (a6 : Option Addr) (c6 : Nat) (a7 : Option Addr) (c7 : Nat) (a8 : Option Addr) (c8 : Nat) (lo : Nat) (w : World) (hin : MSl x lo a5 a6 a7 a8 w) :
    Calls Tryz.prog 34 #[.agg #[.string x.name, .bool x.up, .int .i64 x.clock, .bool x.known, .int .i64 x.seen, .slice a5 x.wants.length c5, .slice a6 x.runs.length c6, .slice a7 x.asks.length c7, .slice a8 x.gives.length c8]] w fun e w' => ∃ p m1 n1 m2 n2 m3 n3 m4 n4 : Nat, e = .returned (.pointer (some ⟨p, 0, none⟩)) ∧ Blk p #[.string x.name, .bool x.up, .int .i64 x.clock, .bool x.known, .int .i64 x.seen, .slice a5 x.wants.length c5, .slice a6 x.runs.length c6, .slice a7 x.asks.length c7, .slice a8 x.gives.length c8, .map (some m1), .map (some m2), .map (some m3), .map (some m4)] 114 w' ∧
      w'.ownsMap Tryz.prog 9 elWnt m1 n1 (tmWnt x.wants.reverse) ∧ w'.ownsMap Tryz.prog 9 elRn m2 n2 (tmRn x.runs.reverse) ∧ w'.ownsMap Tryz.prog 9 aksElem m3 n3 (asM x.asks.reverse) ∧ w'.ownsMap Tryz.prog 9 aksElem m4 n4 (asM x.gives.reverse) ∧
      (n1 ≤ x.wants.length ∧ n2 ≤ x.runs.length ∧ n3 ≤ x.asks.length ∧ n4 ≤ x.gives.length) ∧ (w.heap.size < m1 ∧ m1 < m2 ∧ m2 < m3 ∧ m3 < m4 ∧ m4 < p) ∧ Below w.heap.size w w' := by
  have HI := Hid.intro hin
  clear hin
  have HK1 : Hid (Blk w.heap.size #[.string x.name, .bool x.up, .int .i64 x.clock, .bool x.known, .int .i64 x.seen, .slice a5 x.wants.length c5, .slice a6 x.runs.length c6, .slice a7 x.asks.length c7, .slice a8 x.gives.length c8] 35 (w.alloc (Obj.cells #[.string x.name, .bool x.up, .int .i64 x.clock, .bool x.known, .int .i64 x.seen, .slice a5 x.wants.length c5, .slice a6 x.runs.length c6, .slice a7 x.asks.length c7, .slice a8 x.gives.length c8] 35))) := Blk.alloc _ _ _
  have hB1 : Below w.heap.size w (w.alloc (Obj.cells #[.string x.name, .bool x.up, .int .i64 x.clock, .bool x.known, .int .i64 x.seen, .slice a5 x.wants.length c5, .slice a6 x.runs.length c6, .slice a7 x.asks.length c7, .slice a8 x.gives.length c8] 35)) := (Below.refl _ w).alloc (Nat.le_refl _) _
  go_enter Tryz.func34, Tryz.ntmps34
  go_upto_region 1 with fail
  generalize w.alloc (Obj.cells #[.string x.name, .bool x.up, .int .i64 x.clock, .bool x.known, .int .i64 x.seen, .slice a5 x.wants.length c5, .slice a6 x.runs.length c6, .slice a7 x.asks.length c7, .slice a8 x.gives.length c8] 35) = w1 at *
  refine wp_region_held_drew (S := fun wy => Blk w.heap.size #[.string x.name, .bool x.up, .int .i64 x.clock, .bool x.known, .int .i64 x.seen, .slice a5 x.wants.length c5, .slice a6 x.runs.length c6, .slice a7 x.asks.length c7, .slice a8 x.gives.length c8] 35 wy) (by kernel_rfl) HK1.out.drew (fun hS => ?_)
  have hB2 : Below w.heap.size w w1.drew := hB1.drew
  have hz2 : w.heap.size < w1.drew.heap.size := hS.lt
  generalize w1.drew = w2 at *
  refine wpAnyH_take (i := 0) (oi := ⟨some 3, _, _, _, _, none⟩) (v := .agg #[.string x.name, .bool x.up, .int .i64 x.clock, .bool x.known, .int .i64 x.seen, .slice a5 x.wants.length c5, .slice a6 x.runs.length c6, .slice a7 x.asks.length c7, .slice a8 x.gives.length c8]) rfl (by kernel_rfl) (by kernel_rfl) (by kernel_rfl) (fun _ _ _ h => h) (yieldsIf_load_mid (by rfl) _ _ rfl w.heap.size (0) rfl [.string x.name, .bool x.up, .int .i64 x.clock, .bool x.known, .int .i64 x.seen, .slice a5 x.wants.length c5, .slice a6 x.runs.length c6, .slice a7 x.asks.length c7, .slice a8 x.gives.length c8] _ (fun _ h => h.rangeA) Tryz.underlying35 rfl isz_Mte) hS ?_
  simp only [Act.put, List.setIfInBounds_toArray, List.set_cons_zero, List.set_cons_succ]
  refine wpAnyH_take (i := 1) (oi := ⟨some 4, _, _, _, _, none⟩) (v := .pointer (some ⟨w.heap.size, 5, none⟩)) rfl (by kernel_rfl) (by kernel_rfl) (by kernel_rfl) (fun _ _ _ h => h) (Or.inl ⟨by rfl, ?_⟩) hS ?_
  · intro wy hy
    clear hy
    go_simp
  simp only [Act.put, List.setIfInBounds_toArray, List.set_cons_zero, List.set_cons_succ]
  refine wpAnyH_take (i := 2) (oi := ⟨some 5, _, _, _, _, none⟩) (v := .slice a5 x.wants.length c5) rfl (by kernel_rfl) (by kernel_rfl) (by kernel_rfl) (fun _ _ _ h => h) (Or.inl ⟨by rfl, ?_⟩) hS ?_
  · intro wy hy
    have h0 : wy.cell? ⟨w.heap.size, 5, none⟩ = some (.slice a5 x.wants.length c5) := hy.cell rfl
    clear hy
    go_simp
  simp only [Act.put, List.setIfInBounds_toArray, List.set_cons_zero, List.set_cons_succ]
  refine wpAnyH_take (i := 4) (oi := ⟨some 7, _, _, _, _, none⟩) (v := .pointer (some ⟨w.heap.size, 6, none⟩)) rfl (by kernel_rfl) (by kernel_rfl) (by kernel_rfl) (fun _ _ _ h => h) (Or.inl ⟨by rfl, ?_⟩) hS ?_
  · intro wy hy
    clear hy
    go_simp
  simp only [Act.put, List.setIfInBounds_toArray, List.set_cons_zero, List.set_cons_succ]
  refine wpAnyH_take (i := 5) (oi := ⟨some 8, _, _, _, _, none⟩) (v := .slice a6 x.runs.length c6) rfl (by kernel_rfl) (by kernel_rfl) (by kernel_rfl) (fun _ _ _ h => h) (Or.inl ⟨by rfl, ?_⟩) hS ?_
  · intro wy hy
    have h0 : wy.cell? ⟨w.heap.size, 6, none⟩ = some (.slice a6 x.runs.length c6) := hy.cell rfl
    clear hy
    go_simp
  simp only [Act.put, List.setIfInBounds_toArray, List.set_cons_zero, List.set_cons_succ]
  refine wpAnyH_take (i := 7) (oi := ⟨some 10, _, _, _, _, none⟩) (v := .pointer (some ⟨w.heap.size, 7, none⟩)) rfl (by kernel_rfl) (by kernel_rfl) (by kernel_rfl) (fun _ _ _ h => h) (Or.inl ⟨by rfl, ?_⟩) hS ?_
  · intro wy hy
    clear hy
    go_simp
  simp only [Act.put, List.setIfInBounds_toArray, List.set_cons_zero, List.set_cons_succ]
  refine wpAnyH_take (i := 8) (oi := ⟨some 11, _, _, _, _, none⟩) (v := .slice a7 x.asks.length c7) rfl (by kernel_rfl) (by kernel_rfl) (by kernel_rfl) (fun _ _ _ h => h) (Or.inl ⟨by rfl, ?_⟩) hS ?_
  · intro wy hy
    have h0 : wy.cell? ⟨w.heap.size, 7, none⟩ = some (.slice a7 x.asks.length c7) := hy.cell rfl
    clear hy
    go_simp
  simp only [Act.put, List.setIfInBounds_toArray, List.set_cons_zero, List.set_cons_succ]
  refine wpAnyH_take (i := 10) (oi := ⟨some 13, _, _, _, _, none⟩) (v := .pointer (some ⟨w.heap.size, 8, none⟩)) rfl (by kernel_rfl) (by kernel_rfl) (by kernel_rfl) (fun _ _ _ h => h) (Or.inl ⟨by rfl, ?_⟩) hS ?_
  · intro wy hy
    clear hy
    go_simp
  simp only [Act.put, List.setIfInBounds_toArray, List.set_cons_zero, List.set_cons_succ]
  refine wpAnyH_take (i := 11) (oi := ⟨some 14, _, _, _, _, none⟩) (v := .slice a8 x.gives.length c8) rfl (by kernel_rfl) (by kernel_rfl) (by kernel_rfl) (fun _ _ _ h => h) (Or.inl ⟨by rfl, ?_⟩) hS ?_
  · intro wy hy
    have h0 : wy.cell? ⟨w.heap.size, 8, none⟩ = some (.slice a8 x.gives.length c8) := hy.cell rfl
    clear hy
    go_simp
  simp only [Act.put, List.setIfInBounds_toArray, List.set_cons_zero, List.set_cons_succ]
  refine wpAnyH_ready (rs := [3]) (by kernel_rfl) (by simp) (AllReadyH.cons (o := ⟨some 6, _, _, _, _, none⟩) rfl (fun K hK => ?_) AllReadyH.nil)
  go_simp
  refine (byNWnt_any x.wants a5 c5 lo _ (HI.out.s5.below WntC.holds hB2 (Nat.le_refl _)) HI.out.l5).mono ?_
  rintro e w3 ⟨m1, n1, rfl, hm1, hn1, ho, hb⟩
  have hB3 := hB2.trans (hb.mono hB2.size)
  have M1 := Hid.intro ho
  have hz3 := hb.size
  have hu1 : m1 < w3.heap.size := M1.out.lt
  refine hK.out _ _ (hS.below hb hS.lt) (fun hS => ?_)
  clear hK K
  clear hb ho
  refine wpAnyH_ready (rs := [6]) (by kernel_rfl) (by simp) (AllReadyH.cons (o := ⟨some 9, _, _, _, _, none⟩) rfl (fun K hK => ?_) AllReadyH.nil)
  go_simp
  refine (byNRn_any x.runs a6 c6 lo _ (HI.out.s6.below RnC.holds hB3 (Nat.le_refl _)) HI.out.l6).mono ?_
  rintro e w4 ⟨m2, n2, rfl, hm2, hn2, ho, hb⟩
  have hB4 := hB3.trans (hb.mono hB3.size)
  have M1 := Hid.intro (ownsMap_below M1.out hb M1.out.lt)
  have M2 := Hid.intro ho
  have hz4 := hb.size
  have hu2 : m2 < w4.heap.size := M2.out.lt
  refine hK.out _ _ (hS.below hb hS.lt) (fun hS => ?_)
  clear hK K
  clear hb ho
  refine wpAnyH_ready (rs := [9]) (by kernel_rfl) (by simp) (AllReadyH.cons (o := ⟨some 12, _, _, _, _, none⟩) rfl (fun K hK => ?_) AllReadyH.nil)
  go_simp
  refine (byNameA_any x.asks a7 c7 lo _ (HI.out.s7.below AksC.holds hB4 (Nat.le_refl _)) HI.out.l7).mono ?_
  rintro e w5 ⟨m3, n3, rfl, hm3, hn3, ho, hb⟩
  have hB5 := hB4.trans (hb.mono hB4.size)
  have M1 := Hid.intro (ownsMap_below M1.out hb M1.out.lt)
  have M2 := Hid.intro (ownsMap_below M2.out hb M2.out.lt)
  have M3 := Hid.intro ho
  have hz5 := hb.size
  have hu3 : m3 < w5.heap.size := M3.out.lt
  refine hK.out _ _ (hS.below hb hS.lt) (fun hS => ?_)
  clear hK K
  clear hb ho
  refine wpAnyH_ready (rs := [12]) (by kernel_rfl) (by simp) (AllReadyH.cons (o := ⟨some 15, _, _, _, _, none⟩) rfl (fun K hK => ?_) AllReadyH.nil)
  go_simp
  refine (byNameA_any x.gives a8 c8 lo _ (HI.out.s8.below AksC.holds hB5 (Nat.le_refl _)) HI.out.l8).mono ?_
  rintro e w6 ⟨m4, n4, rfl, hm4, hn4, ho, hb⟩
  have hB6 := hB5.trans (hb.mono hB5.size)
  have M1 := Hid.intro (ownsMap_below M1.out hb M1.out.lt)
  have M2 := Hid.intro (ownsMap_below M2.out hb M2.out.lt)
  have M3 := Hid.intro (ownsMap_below M3.out hb M3.out.lt)
  have M4 := Hid.intro ho
  have hz6 := hb.size
  have hu4 : m4 < w6.heap.size := M4.out.lt
  refine hK.out _ _ (hS.below hb hS.lt) (fun hS => ?_)
  clear hK K
  clear hb ho
  refine wpAnyH_take (i := 13) (oi := ⟨some 16, _, _, _, _, none⟩) (v := .agg #[.string x.name, .bool x.up, .int .i64 x.clock, .bool x.known, .int .i64 x.seen, .slice a5 x.wants.length c5, .slice a6 x.runs.length c6, .slice a7 x.asks.length c7, .slice a8 x.gives.length c8, .map (some m1), .map (some m2), .map (some m3), .map (some m4)]) rfl (by kernel_rfl) (by kernel_rfl) (by kernel_rfl) (fun _ _ _ h => h) (Or.inl ⟨by rfl, ?_⟩) hS ?_
  · intro wy hy
    clear hy
    go_simp
  simp only [Act.put, List.setIfInBounds_toArray, List.set_cons_zero, List.set_cons_succ]
  refine wpAnyH_ready (rs := [14]) (by kernel_rfl) (by simp) (AllReadyH.cons (o := ⟨some 17, _, _, _, _, none⟩) rfl (fun K hK => ?_) AllReadyH.nil)
  go_simp
  have HP : Hid (Blk w6.heap.size #[.string x.name, .bool x.up, .int .i64 x.clock, .bool x.known, .int .i64 x.seen, .slice a5 x.wants.length c5, .slice a6 x.runs.length c6, .slice a7 x.asks.length c7, .slice a8 x.gives.length c8, .map (some m1), .map (some m2), .map (some m3), .map (some m4)] 114 (w6.alloc (Obj.cells #[.string x.name, .bool x.up, .int .i64 x.clock, .bool x.known, .int .i64 x.seen, .slice a5 x.wants.length c5, .slice a6 x.runs.length c6, .slice a7 x.asks.length c7, .slice a8 x.gives.length c8, .map (some m1), .map (some m2), .map (some m3), .map (some m4)] 114))) := Blk.alloc _ _ _
  have hb : Below w6.heap.size w6 (w6.alloc (Obj.cells #[.string x.name, .bool x.up, .int .i64 x.clock, .bool x.known, .int .i64 x.seen, .slice a5 x.wants.length c5, .slice a6 x.runs.length c6, .slice a7 x.asks.length c7, .slice a8 x.gives.length c8, .map (some m1), .map (some m2), .map (some m3), .map (some m4)] 114)) := (Below.refl _ _).alloc (Nat.le_refl _) _
  replace M1 := Hid.intro (ownsMap_below M1.out hb M1.out.lt)
  replace M2 := Hid.intro (ownsMap_below M2.out hb M2.out.lt)
  replace M3 := Hid.intro (ownsMap_below M3.out hb M3.out.lt)
  replace M4 := Hid.intro (ownsMap_below M4.out hb M4.out.lt)
  have hBf := hB6.trans (hb.mono hB6.size)
  refine hK.out _ _ (hS.below hb hS.lt) (fun hS => ?_)
  clear hK K hb
  generalize w6.alloc (Obj.cells #[.string x.name, .bool x.up, .int .i64 x.clock, .bool x.known, .int .i64 x.seen, .slice a5 x.wants.length c5, .slice a6 x.runs.length c6, .slice a7 x.asks.length c7, .slice a8 x.gives.length c8, .map (some m1), .map (some m2), .map (some m3), .map (some m4)] 114) = wf at *
  generalize hp : w6.heap.size = p at *
  clear hp
  refine wpAnyH_take (i := 15) (oi := ⟨some 2, _, _, _, _, none⟩) (v := .pointer (some ⟨p, 0, none⟩)) rfl (by kernel_rfl) (by kernel_rfl) (by kernel_rfl) (fun _ _ _ h => h) (Or.inl ⟨by rfl, ?_⟩) hS ?_
  · intro wy hy
    clear hy
    go_simp
  simp only [Act.put, List.setIfInBounds_toArray, List.set_cons_zero, List.set_cons_succ]
  refine wpAnyH_done (by kernel_rfl) ?_ _
  clear hS
  go_wp2_with fail
  go_ret
  exact ⟨p, m1, n1, m2, n2, m3, n3, m4, n4, rfl, HP.out, M1.out, M2.out, M3.out, M4.out, ⟨hn1, hn2, hn3, hn4⟩, ⟨by omega, by omega, by omega, by omega, by omega⟩, hBf⟩

end Go.Proofs.YtlangcodelcncaaGreat
