import Derived.Test.YtlangcodelcncaaGreatJ42
namespace Go.Proofs.YtlangcodelcncaaGreat
open Go.RowKit

set_option maxHeartbeats 16000000 in
set_option maxRecDepth 100000 in
theorem specTake_any (x : Mte) (a5 : Option Addr) (c5 : Nat) (a6 : Option Addr) (c6 : Nat) (a7 : Option Addr) (c7 : Nat) (a8 : Option Addr) (c8 : Nat) (q : Pcl) (b3 : Option Addr) (d3 lo : Nat) (w : World) (hin : MSv x lo a5 a6 a7 a8 w) (hv : MNil a5 x.wants.length c5 a6 x.runs.length c6 a7 x.asks.length c7 a8 x.gives.length c8) (hm : MSz x) (hq : QIn q b3 lo w) (he3 : b3 = none → q.wants.length = 0 ∧ d3 = 0) :
    Calls Tryz.prog 7 #[.agg #[.string x.name, .bool x.up, .int .i64 x.clock, .bool x.known, .int .i64 x.seen, .slice a5 x.wants.length c5, .slice a6 x.runs.length c6, .slice a7 x.asks.length c7, .slice a8 x.gives.length c8], .agg #[.int .i64 q.kind, .string q.berth, .int .i64 q.seen, .slice b3 q.wants.length d3, .string q.hold, .string q.copy, .int .i64 q.at_]] w fun e w' => ∃ (y : Mte) (b5 : Option Addr) (q5 : Nat) (b6 : Option Addr) (q6 : Nat) (b7 : Option Addr) (q7 : Nat) (b8 : Option Addr) (q8 : Nat), y = takeM x q ∧ e = .returned (.agg #[.string y.name, .bool y.up, .int .i64 y.clock, .bool y.known, .int .i64 y.seen, .slice b5 y.wants.length q5, .slice b6 y.runs.length q6, .slice b7 y.asks.length q7, .slice b8 y.gives.length q8]) ∧ SliceC WntC 7 w.heap.size w' b5 y.wants ∧ SliceC RnC 11 w.heap.size w' b6 y.runs ∧ SliceC AksC 4 w.heap.size w' b7 y.asks ∧ SliceC AksC 4 w.heap.size w' b8 y.gives ∧ Below w.heap.size w w' := by
  obtain ⟨iW, hiW, hz0, hz1, hz2⟩ := info_parts info_Wnt
  have HI := Hid.intro hin
  have HV := Hid.intro hv
  have HM := Hid.intro hm
  have HQI := Hid.intro hq
  have HE3 := Hid.intro he3
  clear hin hv hm hq he3
  have HXa : Blk w.heap.size #[.string x.name, .bool x.up, .int .i64 x.clock, .bool x.known, .int .i64 x.seen, .slice a5 x.wants.length c5, .slice a6 x.runs.length c6, .slice a7 x.asks.length c7, .slice a8 x.gives.length c8] 35 (w.alloc (.cells #[.string x.name, .bool x.up, .int .i64 x.clock, .bool x.known, .int .i64 x.seen, .slice a5 x.wants.length c5, .slice a6 x.runs.length c6, .slice a7 x.asks.length c7, .slice a8 x.gives.length c8] 35)) := Blk.alloc _ _ _
  have HQa : Blk (w.heap.size + 1) #[.int .i64 q.kind, .string q.berth, .int .i64 q.seen, .slice b3 q.wants.length d3, .string q.hold, .string q.copy, .int .i64 q.at_] 39 ((w.alloc (.cells #[.string x.name, .bool x.up, .int .i64 x.clock, .bool x.known, .int .i64 x.seen, .slice a5 x.wants.length c5, .slice a6 x.runs.length c6, .slice a7 x.asks.length c7, .slice a8 x.gives.length c8] 35)).alloc (.cells #[.int .i64 q.kind, .string q.berth, .int .i64 q.seen, .slice b3 q.wants.length d3, .string q.hold, .string q.copy, .int .i64 q.at_] 39)) := by
    have := Blk.alloc (w.alloc (.cells #[.string x.name, .bool x.up, .int .i64 x.clock, .bool x.known, .int .i64 x.seen, .slice a5 x.wants.length c5, .slice a6 x.runs.length c6, .slice a7 x.asks.length c7, .slice a8 x.gives.length c8] 35)) #[.int .i64 q.kind, .string q.berth, .int .i64 q.seen, .slice b3 q.wants.length d3, .string q.hold, .string q.copy, .int .i64 q.at_] 39
    simpa using this
  have HZ2 : Hid (Blk (w.heap.size + 2) #[.string ⟨#[]⟩, .bool false, .int .i64 0, .bool false, .int .i64 0, .slice none 0 0, .slice none 0 0, .slice none 0 0, .slice none 0 0] 35 (((w.alloc (.cells #[.string x.name, .bool x.up, .int .i64 x.clock, .bool x.known, .int .i64 x.seen, .slice a5 x.wants.length c5, .slice a6 x.runs.length c6, .slice a7 x.asks.length c7, .slice a8 x.gives.length c8] 35)).alloc (.cells #[.int .i64 q.kind, .string q.berth, .int .i64 q.seen, .slice b3 q.wants.length d3, .string q.hold, .string q.copy, .int .i64 q.at_] 39)).alloc (.cells #[.string ⟨#[]⟩, .bool false, .int .i64 0, .bool false, .int .i64 0, .slice none 0 0, .slice none 0 0, .slice none 0 0, .slice none 0 0] 35))) := by
    have := Blk.alloc ((w.alloc (.cells #[.string x.name, .bool x.up, .int .i64 x.clock, .bool x.known, .int .i64 x.seen, .slice a5 x.wants.length c5, .slice a6 x.runs.length c6, .slice a7 x.asks.length c7, .slice a8 x.gives.length c8] 35)).alloc (.cells #[.int .i64 q.kind, .string q.berth, .int .i64 q.seen, .slice b3 q.wants.length d3, .string q.hold, .string q.copy, .int .i64 q.at_] 39)) #[.string ⟨#[]⟩, .bool false, .int .i64 0, .bool false, .int .i64 0, .slice none 0 0, .slice none 0 0, .slice none 0 0, .slice none 0 0] 35
    show Blk _ _ _ _
    simpa using this
  have HX2 : Hid (Blk w.heap.size #[.string x.name, .bool x.up, .int .i64 x.clock, .bool x.known, .int .i64 x.seen, .slice a5 x.wants.length c5, .slice a6 x.runs.length c6, .slice a7 x.asks.length c7, .slice a8 x.gives.length c8] 35 (((w.alloc (.cells #[.string x.name, .bool x.up, .int .i64 x.clock, .bool x.known, .int .i64 x.seen, .slice a5 x.wants.length c5, .slice a6 x.runs.length c6, .slice a7 x.asks.length c7, .slice a8 x.gives.length c8] 35)).alloc (.cells #[.int .i64 q.kind, .string q.berth, .int .i64 q.seen, .slice b3 q.wants.length d3, .string q.hold, .string q.copy, .int .i64 q.at_] 39)).alloc (.cells #[.string ⟨#[]⟩, .bool false, .int .i64 0, .bool false, .int .i64 0, .slice none 0 0, .slice none 0 0, .slice none 0 0, .slice none 0 0] 35))) := (HXa.below ((Below.refl _ _).alloc (Nat.le_refl _) _) HXa.lt).below ((Below.refl _ _).alloc (Nat.le_refl _) _) (by simp; omega)
  have HQ2 : Hid (Blk (w.heap.size + 1) #[.int .i64 q.kind, .string q.berth, .int .i64 q.seen, .slice b3 q.wants.length d3, .string q.hold, .string q.copy, .int .i64 q.at_] 39 (((w.alloc (.cells #[.string x.name, .bool x.up, .int .i64 x.clock, .bool x.known, .int .i64 x.seen, .slice a5 x.wants.length c5, .slice a6 x.runs.length c6, .slice a7 x.asks.length c7, .slice a8 x.gives.length c8] 35)).alloc (.cells #[.int .i64 q.kind, .string q.berth, .int .i64 q.seen, .slice b3 q.wants.length d3, .string q.hold, .string q.copy, .int .i64 q.at_] 39)).alloc (.cells #[.string ⟨#[]⟩, .bool false, .int .i64 0, .bool false, .int .i64 0, .slice none 0 0, .slice none 0 0, .slice none 0 0, .slice none 0 0] 35))) := HQa.below ((Below.refl _ _).alloc (Nat.le_refl _) _) HQa.lt
  have hB2 : Below w.heap.size w (((w.alloc (.cells #[.string x.name, .bool x.up, .int .i64 x.clock, .bool x.known, .int .i64 x.seen, .slice a5 x.wants.length c5, .slice a6 x.runs.length c6, .slice a7 x.asks.length c7, .slice a8 x.gives.length c8] 35)).alloc (.cells #[.int .i64 q.kind, .string q.berth, .int .i64 q.seen, .slice b3 q.wants.length d3, .string q.hold, .string q.copy, .int .i64 q.at_] 39)).alloc (.cells #[.string ⟨#[]⟩, .bool false, .int .i64 0, .bool false, .int .i64 0, .slice none 0 0, .slice none 0 0, .slice none 0 0, .slice none 0 0] 35)) := by go_grown
  clear HXa HQa
  go_enter Tryz.func7, Tryz.ntmps7
  go_upto_region 1 with fail
  generalize ((w.alloc (Obj.cells #[.string x.name, .bool x.up, .int .i64 x.clock, .bool x.known, .int .i64 x.seen, .slice a5 x.wants.length c5, .slice a6 x.runs.length c6, .slice a7 x.asks.length c7, .slice a8 x.gives.length c8] 35)).alloc (Obj.cells #[.int .i64 q.kind, .string q.berth, .int .i64 q.seen, .slice b3 q.wants.length d3, .string q.hold, .string q.copy, .int .i64 q.at_] 39)).alloc (Obj.cells #[.string ⟨#[]⟩, .bool false, .int .i64 0, .bool false, .int .i64 0, .slice none 0 0, .slice none 0 0, .slice none 0 0, .slice none 0 0] 35) = w2 at *
  go_wp2_with (refine wpList_load_mid rfl 35 _ rfl w.heap.size 0 (by first | rfl | (simp [go_sem]; done)) [.string x.name, .bool x.up, .int .i64 x.clock, .bool x.known, .int .i64 x.seen, .slice a5 x.wants.length c5, .slice a6 x.runs.length c6, .slice a7 x.asks.length c7, .slice a8 x.gives.length c8] _ HX2.out.rangeA Tryz.underlying35 rfl isz_Mte ?_)
  refine (specValid_any x a5 c5 a6 c6 a7 c7 a8 c8 lo _ (ms_all HM.out (HI.out.below hB2 (Nat.le_refl _)))).mono ?_
  rintro e w3 ⟨rfl, hb3⟩
  have HX3 := Hid.intro (HX2.out.below hb3 HX2.out.lt)
  have HQ3 := Hid.intro (HQ2.out.below hb3 HQ2.out.lt)
  have HZ3 := Hid.intro (HZ2.out.below hb3 HZ2.out.lt)
  have hB3 := hB2.trans (hb3.mono hB2.size)
  clear hb3 HX2 HQ2 HZ2 hB2
  cases hmv : mvB x with
  | false =>
    have HTS := Hid.intro HZ3.out.there
    have hy : noMte = takeM x q := by unfold takeM; rw [hmv]; rfl
    obtain ⟨wf, HE⟩ : ∃ wf, Hid (wf = w3.setCells (w.heap.size + 2) 0 [.string ⟨#[]⟩, .bool false, .int .i64 0, .bool false, .int .i64 0, .slice none 0 0, .slice none 0 0, .slice none 0 0, .slice none 0 0]) := ⟨_, rfl⟩
    have HRf : Hid (wf.rangeAt (w.heap.size + 2) 0 [.string ⟨#[]⟩, .bool false, .int .i64 0, .bool false, .int .i64 0, .slice none 0 0, .slice none 0 0, .slice none 0 0, .slice none 0 0]) := by
      show World.rangeAt _ _ _ _
      rw [HE.out]
      exact World.rangeAt_setCells_same _ _ _ _ HTS.out
    have hBf : Below w.heap.size w wf := by
      rw [HE.out]
      exact below_setCells (by omega) _ _ _ hB3
    have HYY := Hid.intro hy
    clear hB3 hmv hy
    go_wp2_with (refine wpList_store_to rfl 35 _ _ rfl (w.heap.size + 2) 0 #[.string ⟨#[]⟩, .bool false, .int .i64 0, .bool false, .int .i64 0, .slice none 0 0, .slice none 0 0, .slice none 0 0, .slice none 0 0] (by first | rfl | (simp [go_sem]; done)) rfl HTS.out isz_Mte (by simp [Value.oneCell']) wf HE.out ?_)
    exact bodyPost_ret (results_cell_mid rfl _ _ (w.heap.size + 2) [.string ⟨#[]⟩, .bool false, .int .i64 0, .bool false, .int .i64 0, .slice none 0 0, .slice none 0 0, .slice none 0 0, .slice none 0 0] _ rfl HRf.out Tryz.underlying35 rfl isz_Mte) rfl ⟨noMte, none, 0, none, 0, none, 0, none, 0, HYY.out, rfl, SliceC.nil, SliceC.nil, SliceC.nil, SliceC.nil, hBf⟩
  | true =>
    go_wp2_with (refine wpList_load_mid rfl 35 _ rfl w.heap.size 0 (by first | rfl | (simp [go_sem]; done)) [.string x.name, .bool x.up, .int .i64 x.clock, .bool x.known, .int .i64 x.seen, .slice a5 x.wants.length c5, .slice a6 x.runs.length c6, .slice a7 x.asks.length c7, .slice a8 x.gives.length c8] _ HX3.out.rangeA Tryz.underlying35 rfl isz_Mte ?_)
    refine (copy13g_any x a5 c5 a6 c6 a7 c7 a8 c8 lo _ (HI.out.below hB3 (Nat.le_refl _)) HV.out HM.out).mono ?_
    rintro e w4 ⟨b5, q5, b6, q6, b7, q7, b8, q8, rfl, hg, hb4⟩
    obtain ⟨g5, g6, g7, hg1, hg2, hg3, hg4, hg5, hu5, hu6, hu7, hu8, hs5, hs6, hs7, hs8⟩ := hg
    have hub5 : b5 < g5 := hu5 b5 0 none rfl
    have hub6x : b6 < g6 := hu6 b6 0 none rfl
    have hub7 : b7 < g7 := hu7 b7 0 none rfl
    have hub8 : b8 < w4.heap.size := hu8 b8 0 none rfl
    have hz3 : w.heap.size + 2 < w3.heap.size := HZ3.out.lt
    have hcx : Below w4.heap.size w4 (w4.alloc (Obj.cells #[.string x.name, .bool x.up, .int .i64 x.clock, .bool x.known, .int .i64 x.seen, .slice (some ⟨b5, 0, none⟩) x.wants.length q5, .slice (some ⟨b6, 0, none⟩) x.runs.length q6, .slice (some ⟨b7, 0, none⟩) x.asks.length q7, .slice (some ⟨b8, 0, none⟩) x.gives.length q8] 35)) := (Below.refl _ _).alloc (Nat.le_refl _) _
    have HX5 := Hid.intro ((HX3.out.below hb4 HX3.out.lt).below hcx (Nat.lt_of_lt_of_le HX3.out.lt hb4.size))
    have HQ5 := Hid.intro ((HQ3.out.below hb4 HQ3.out.lt).below hcx (Nat.lt_of_lt_of_le HQ3.out.lt hb4.size))
    have HZ5 := Hid.intro ((HZ3.out.below hb4 HZ3.out.lt).below hcx (Nat.lt_of_lt_of_le HZ3.out.lt hb4.size))
    have HC5 : Hid (Blk w4.heap.size #[.string x.name, .bool x.up, .int .i64 x.clock, .bool x.known, .int .i64 x.seen, .slice (some ⟨b5, 0, none⟩) x.wants.length q5, .slice (some ⟨b6, 0, none⟩) x.runs.length q6, .slice (some ⟨b7, 0, none⟩) x.asks.length q7, .slice (some ⟨b8, 0, none⟩) x.gives.length q8] 35 (w4.alloc (Obj.cells #[.string x.name, .bool x.up, .int .i64 x.clock, .bool x.known, .int .i64 x.seen, .slice (some ⟨b5, 0, none⟩) x.wants.length q5, .slice (some ⟨b6, 0, none⟩) x.runs.length q6, .slice (some ⟨b7, 0, none⟩) x.asks.length q7, .slice (some ⟨b8, 0, none⟩) x.gives.length q8] 35))) := Blk.alloc _ _ _
    have S5_5 := Hid.intro (hs5.below WntC.holds hcx (Nat.le_refl _))
    have S6_5 := Hid.intro (hs6.below RnC.holds hcx (Nat.le_refl _))
    have S7_5 := Hid.intro (hs7.below AksC.holds hcx (Nat.le_refl _))
    have S8_5 := Hid.intro (hs8.below AksC.holds hcx (Nat.le_refl _))
    have hB5 := (hB3.trans (hb4.mono hB3.size)).trans (hcx.mono (Nat.le_trans hB3.size hb4.size))
    have hcz : w3.heap.size ≤ w4.heap.size := hb4.size
    clear hcx hb4 HX3 HQ3 HZ3 hs5 hs6 hs7 hs8 hu5 hu6 hu7 hu8 hB3 hg5
    go_upto_region 4 with fail
    generalize w4.alloc (Obj.cells #[.string x.name, .bool x.up, .int .i64 x.clock, .bool x.known, .int .i64 x.seen, .slice (some ⟨b5, 0, none⟩) x.wants.length q5, .slice (some ⟨b6, 0, none⟩) x.runs.length q6, .slice (some ⟨b7, 0, none⟩) x.asks.length q7, .slice (some ⟨b8, 0, none⟩) x.gives.length q8] 35) = w5 at *
    generalize w4.heap.size = hc at *
    have k0 : w5.cell? ⟨w.heap.size, 0, none⟩ = some (.string x.name) := HX5.out.cell rfl
    have k1 : w5.cell? ⟨w.heap.size, 1, none⟩ = some (.bool x.up) := HX5.out.cell rfl
    have e0 : w5.cell? ⟨w.heap.size + 1, 0, none⟩ = some (.int .i64 q.kind) := HQ5.out.cell rfl
    have e1 : w5.cell? ⟨w.heap.size + 1, 1, none⟩ = some (.string q.berth) := HQ5.out.cell rfl
    have hor : x.up = true ∨ x.up = false := by cases x.up <;> simp
    rcases hor with hu | hu
    case inr =>
      have HXE : Hid (x = takeM x q) := by show _ = _; unfold takeM; rw [hmv, hu]; rfl
      rw [hu] at k1
      have HTS := Hid.intro HZ5.out.there
      obtain ⟨wf, HEF⟩ : ∃ wf, Hid (wf = w5.setCells (w.heap.size + 2) 0 [.string x.name, .bool x.up, .int .i64 x.clock, .bool x.known, .int .i64 x.seen, .slice (some ⟨b5, 0, none⟩) x.wants.length q5, .slice (some ⟨b6, 0, none⟩) x.runs.length q6, .slice (some ⟨b7, 0, none⟩) x.asks.length q7, .slice (some ⟨b8, 0, none⟩) x.gives.length q8]) := ⟨_, rfl⟩
      have HRf : Hid (wf.rangeAt (w.heap.size + 2) 0 [.string x.name, .bool x.up, .int .i64 x.clock, .bool x.known, .int .i64 x.seen, .slice (some ⟨b5, 0, none⟩) x.wants.length q5, .slice (some ⟨b6, 0, none⟩) x.runs.length q6, .slice (some ⟨b7, 0, none⟩) x.asks.length q7, .slice (some ⟨b8, 0, none⟩) x.gives.length q8]) := by
        show World.rangeAt _ _ _ _
        rw [HEF.out]
        exact World.rangeAt_setCells_same _ _ _ _ HTS.out
      have hBf : Below w.heap.size w wf := by
        rw [HEF.out]
        exact below_setCells (by omega) _ _ _ hB5
      have F5 : Hid (SliceC WntC 7 w.heap.size wf (some ⟨b5, 0, none⟩) x.wants) := by
        show SliceC _ _ _ _ _ _
        rw [HEF.out]
        exact S5_5.out.keep WntC.holds (Keeps.setCells (show w.heap.size + 2 < w3.heap.size by omega) _ _ _) (by omega)
      have F6 : Hid (SliceC RnC 11 w.heap.size wf (some ⟨b6, 0, none⟩) x.runs) := by
        show SliceC _ _ _ _ _ _
        rw [HEF.out]
        exact S6_5.out.keep RnC.holds (Keeps.setCells (show w.heap.size + 2 < g5 by omega) _ _ _) (by omega)
      have F7 : Hid (SliceC AksC 4 w.heap.size wf (some ⟨b7, 0, none⟩) x.asks) := by
        show SliceC _ _ _ _ _ _
        rw [HEF.out]
        exact S7_5.out.keep AksC.holds (Keeps.setCells (show w.heap.size + 2 < g6 by omega) _ _ _) (by omega)
      have F8 : Hid (SliceC AksC 4 w.heap.size wf (some ⟨b8, 0, none⟩) x.gives) := by
        show SliceC _ _ _ _ _ _
        rw [HEF.out]
        exact S8_5.out.keep AksC.holds (Keeps.setCells (show w.heap.size + 2 < g7 by omega) _ _ _) (by omega)
      go_wp2_with (first | (refine wpList_load_mid rfl 35 _ rfl hc 0 (by first | rfl | (simp [go_sem]; done)) [.string x.name, .bool x.up, .int .i64 x.clock, .bool x.known, .int .i64 x.seen, .slice (some ⟨b5, 0, none⟩) x.wants.length q5, .slice (some ⟨b6, 0, none⟩) x.runs.length q6, .slice (some ⟨b7, 0, none⟩) x.asks.length q7, .slice (some ⟨b8, 0, none⟩) x.gives.length q8] _ HC5.out.rangeA Tryz.underlying35 rfl isz_Mte ?_) | (refine wpList_store_to rfl 35 _ _ rfl (w.heap.size + 2) 0 #[.string x.name, .bool x.up, .int .i64 x.clock, .bool x.known, .int .i64 x.seen, .slice (some ⟨b5, 0, none⟩) x.wants.length q5, .slice (some ⟨b6, 0, none⟩) x.runs.length q6, .slice (some ⟨b7, 0, none⟩) x.asks.length q7, .slice (some ⟨b8, 0, none⟩) x.gives.length q8] (by first | rfl | (simp [go_sem]; done)) rfl HTS.out isz_Mte (by simp [Value.oneCell']) wf HEF.out ?_))
      exact bodyPost_ret (results_cell_mid rfl _ _ (w.heap.size + 2) [.string x.name, .bool x.up, .int .i64 x.clock, .bool x.known, .int .i64 x.seen, .slice (some ⟨b5, 0, none⟩) x.wants.length q5, .slice (some ⟨b6, 0, none⟩) x.runs.length q6, .slice (some ⟨b7, 0, none⟩) x.asks.length q7, .slice (some ⟨b8, 0, none⟩) x.gives.length q8] _ rfl HRf.out Tryz.underlying35 rfl isz_Mte) rfl ⟨x, _, _, _, _, _, _, _, _, HXE.out, rfl, F5.out, F6.out, F7.out, F8.out, hBf⟩
    by_cases hn : q.berth = x.name
    case neg =>
      have HXE : Hid (x = takeM x q) := by show _ = _; unfold takeM; rw [hmv, hu, decide_eq_false hn]; rfl
      have hn2 : (q.berth.toList == x.name.toList) = false := bt_ne hn
      rw [hu] at k1
      clear hn
      have HTS := Hid.intro HZ5.out.there
      obtain ⟨wf, HEF⟩ : ∃ wf, Hid (wf = w5.setCells (w.heap.size + 2) 0 [.string x.name, .bool x.up, .int .i64 x.clock, .bool x.known, .int .i64 x.seen, .slice (some ⟨b5, 0, none⟩) x.wants.length q5, .slice (some ⟨b6, 0, none⟩) x.runs.length q6, .slice (some ⟨b7, 0, none⟩) x.asks.length q7, .slice (some ⟨b8, 0, none⟩) x.gives.length q8]) := ⟨_, rfl⟩
      have HRf : Hid (wf.rangeAt (w.heap.size + 2) 0 [.string x.name, .bool x.up, .int .i64 x.clock, .bool x.known, .int .i64 x.seen, .slice (some ⟨b5, 0, none⟩) x.wants.length q5, .slice (some ⟨b6, 0, none⟩) x.runs.length q6, .slice (some ⟨b7, 0, none⟩) x.asks.length q7, .slice (some ⟨b8, 0, none⟩) x.gives.length q8]) := by
        show World.rangeAt _ _ _ _
        rw [HEF.out]
        exact World.rangeAt_setCells_same _ _ _ _ HTS.out
      have hBf : Below w.heap.size w wf := by
        rw [HEF.out]
        exact below_setCells (by omega) _ _ _ hB5
      have F5 : Hid (SliceC WntC 7 w.heap.size wf (some ⟨b5, 0, none⟩) x.wants) := by
        show SliceC _ _ _ _ _ _
        rw [HEF.out]
        exact S5_5.out.keep WntC.holds (Keeps.setCells (show w.heap.size + 2 < w3.heap.size by omega) _ _ _) (by omega)
      have F6 : Hid (SliceC RnC 11 w.heap.size wf (some ⟨b6, 0, none⟩) x.runs) := by
        show SliceC _ _ _ _ _ _
        rw [HEF.out]
        exact S6_5.out.keep RnC.holds (Keeps.setCells (show w.heap.size + 2 < g5 by omega) _ _ _) (by omega)
      have F7 : Hid (SliceC AksC 4 w.heap.size wf (some ⟨b7, 0, none⟩) x.asks) := by
        show SliceC _ _ _ _ _ _
        rw [HEF.out]
        exact S7_5.out.keep AksC.holds (Keeps.setCells (show w.heap.size + 2 < g6 by omega) _ _ _) (by omega)
      have F8 : Hid (SliceC AksC 4 w.heap.size wf (some ⟨b8, 0, none⟩) x.gives) := by
        show SliceC _ _ _ _ _ _
        rw [HEF.out]
        exact S8_5.out.keep AksC.holds (Keeps.setCells (show w.heap.size + 2 < g7 by omega) _ _ _) (by omega)
      go_wp2_with (first | (refine wpList_load_mid rfl 35 _ rfl hc 0 (by first | rfl | (simp [go_sem]; done)) [.string x.name, .bool x.up, .int .i64 x.clock, .bool x.known, .int .i64 x.seen, .slice (some ⟨b5, 0, none⟩) x.wants.length q5, .slice (some ⟨b6, 0, none⟩) x.runs.length q6, .slice (some ⟨b7, 0, none⟩) x.asks.length q7, .slice (some ⟨b8, 0, none⟩) x.gives.length q8] _ HC5.out.rangeA Tryz.underlying35 rfl isz_Mte ?_) | (refine wpList_store_to rfl 35 _ _ rfl (w.heap.size + 2) 0 #[.string x.name, .bool x.up, .int .i64 x.clock, .bool x.known, .int .i64 x.seen, .slice (some ⟨b5, 0, none⟩) x.wants.length q5, .slice (some ⟨b6, 0, none⟩) x.runs.length q6, .slice (some ⟨b7, 0, none⟩) x.asks.length q7, .slice (some ⟨b8, 0, none⟩) x.gives.length q8] (by first | rfl | (simp [go_sem]; done)) rfl HTS.out isz_Mte (by simp [Value.oneCell']) wf HEF.out ?_))
      exact bodyPost_ret (results_cell_mid rfl _ _ (w.heap.size + 2) [.string x.name, .bool x.up, .int .i64 x.clock, .bool x.known, .int .i64 x.seen, .slice (some ⟨b5, 0, none⟩) x.wants.length q5, .slice (some ⟨b6, 0, none⟩) x.runs.length q6, .slice (some ⟨b7, 0, none⟩) x.asks.length q7, .slice (some ⟨b8, 0, none⟩) x.gives.length q8] _ rfl HRf.out Tryz.underlying35 rfl isz_Mte) rfl ⟨x, _, _, _, _, _, _, _, _, HXE.out, rfl, F5.out, F6.out, F7.out, F8.out, hBf⟩
    have HTM : Hid (takeM x q = takeP x q) := by show _ = _; unfold takeM; rw [hmv, hu, decide_eq_true hn]; rfl
    have hn2 : (q.berth.toList == x.name.toList) = true := by rw [hn]; simp
    rw [hu] at k1
    clear hu hn
    by_cases h1 : q.kind = 1
    case pos =>
      have b1 : (q.kind == 1) = true := by simp [h1]
      have HTP : Hid (takeM x q = hearM x q) := by show _ = _; rw [HTM.out]; unfold takeP; rw [if_pos h1]
      clear h1
      have k3 : w5.cell? ⟨w.heap.size, 3, none⟩ = some (.bool x.known) := HX5.out.cell rfl
      have k4 : w5.cell? ⟨w.heap.size, 4, none⟩ = some (.int .i64 x.seen) := HX5.out.cell rfl
      have e2 : w5.cell? ⟨w.heap.size + 1, 2, none⟩ = some (.int .i64 q.seen) := HQ5.out.cell rfl
      have e3 : w5.cell? ⟨w.heap.size + 1, 3, none⟩ = some (.slice b3 q.wants.length d3) := HQ5.out.cell rfl
      go_wp2_with fail
      refine (specWantsOk_any q.wants b3 d3 lo _ (HQI.out.s3.below WntC.holds hB5 (Nat.le_refl _)) HQI.out.l3).mono ?_
      rintro e w6 ⟨rfl, hb6⟩
      have HX6 := Hid.intro (HX5.out.below hb6 HX5.out.lt)
      have HQ6 := Hid.intro (HQ5.out.below hb6 HQ5.out.lt)
      have HZ6 := Hid.intro (HZ5.out.below hb6 HZ5.out.lt)
      have HC6 := Hid.intro (HC5.out.below hb6 HC5.out.lt)
      have hB6 := hB5.trans (hb6.mono hB5.size)
      have S5_6 := Hid.intro (S5_5.out.below WntC.holds hb6 (Nat.le_refl _))
      have S6_6 := Hid.intro (S6_5.out.below RnC.holds hb6 (Nat.le_refl _))
      have S7_6 := Hid.intro (S7_5.out.below AksC.holds hb6 (Nat.le_refl _))
      have S8_6 := Hid.intro (S8_5.out.below AksC.holds hb6 (Nat.le_refl _))
      clear hb6 HX5 HQ5 HZ5 HC5 hB5 S5_5 S6_5 S7_5 S8_5
      clear k0 k1 k3 k4 e0 e1 e2 e3
      have k3 : w6.cell? ⟨w.heap.size, 3, none⟩ = some (.bool x.known) := HX6.out.cell rfl
      have k4 : w6.cell? ⟨w.heap.size, 4, none⟩ = some (.int .i64 x.seen) := HX6.out.cell rfl
      have e2 : w6.cell? ⟨w.heap.size + 1, 2, none⟩ = some (.int .i64 q.seen) := HQ6.out.cell rfl
      have e3 : w6.cell? ⟨w.heap.size + 1, 3, none⟩ = some (.slice b3 q.wants.length d3) := HQ6.out.cell rfl
      cases g2 : wsB q.wants with
      | false =>
        have HXE : Hid (x = takeM x q) := by show _ = _; rw [HTP.out]; unfold hearM newerB; rw [g2]; simp
        go_upto_region 26 with fail
        have HTS := Hid.intro HZ6.out.there
        obtain ⟨wf, HEF⟩ : ∃ wf, Hid (wf = w6.setCells (w.heap.size + 2) 0 [.string x.name, .bool x.up, .int .i64 x.clock, .bool x.known, .int .i64 x.seen, .slice (some ⟨b5, 0, none⟩) x.wants.length q5, .slice (some ⟨b6, 0, none⟩) x.runs.length q6, .slice (some ⟨b7, 0, none⟩) x.asks.length q7, .slice (some ⟨b8, 0, none⟩) x.gives.length q8]) := ⟨_, rfl⟩
        have HRf : Hid (wf.rangeAt (w.heap.size + 2) 0 [.string x.name, .bool x.up, .int .i64 x.clock, .bool x.known, .int .i64 x.seen, .slice (some ⟨b5, 0, none⟩) x.wants.length q5, .slice (some ⟨b6, 0, none⟩) x.runs.length q6, .slice (some ⟨b7, 0, none⟩) x.asks.length q7, .slice (some ⟨b8, 0, none⟩) x.gives.length q8]) := by
          show World.rangeAt _ _ _ _
          rw [HEF.out]
          exact World.rangeAt_setCells_same _ _ _ _ HTS.out
        have hBf : Below w.heap.size w wf := by
          rw [HEF.out]
          exact below_setCells (by omega) _ _ _ hB6
        have F5 : Hid (SliceC WntC 7 w.heap.size wf (some ⟨b5, 0, none⟩) x.wants) := by
          show SliceC _ _ _ _ _ _
          rw [HEF.out]
          exact S5_6.out.keep WntC.holds (Keeps.setCells (show w.heap.size + 2 < w3.heap.size by omega) _ _ _) (by omega)
        have F6 : Hid (SliceC RnC 11 w.heap.size wf (some ⟨b6, 0, none⟩) x.runs) := by
          show SliceC _ _ _ _ _ _
          rw [HEF.out]
          exact S6_6.out.keep RnC.holds (Keeps.setCells (show w.heap.size + 2 < g5 by omega) _ _ _) (by omega)
        have F7 : Hid (SliceC AksC 4 w.heap.size wf (some ⟨b7, 0, none⟩) x.asks) := by
          show SliceC _ _ _ _ _ _
          rw [HEF.out]
          exact S7_6.out.keep AksC.holds (Keeps.setCells (show w.heap.size + 2 < g6 by omega) _ _ _) (by omega)
        have F8 : Hid (SliceC AksC 4 w.heap.size wf (some ⟨b8, 0, none⟩) x.gives) := by
          show SliceC _ _ _ _ _ _
          rw [HEF.out]
          exact S8_6.out.keep AksC.holds (Keeps.setCells (show w.heap.size + 2 < g7 by omega) _ _ _) (by omega)
        go_wp2_with (first | (refine wpList_load_mid rfl 35 _ rfl hc 0 (by first | rfl | (simp [go_sem]; done)) [.string x.name, .bool x.up, .int .i64 x.clock, .bool x.known, .int .i64 x.seen, .slice (some ⟨b5, 0, none⟩) x.wants.length q5, .slice (some ⟨b6, 0, none⟩) x.runs.length q6, .slice (some ⟨b7, 0, none⟩) x.asks.length q7, .slice (some ⟨b8, 0, none⟩) x.gives.length q8] _ HC6.out.rangeA Tryz.underlying35 rfl isz_Mte ?_) | (refine wpList_store_to rfl 35 _ _ rfl (w.heap.size + 2) 0 #[.string x.name, .bool x.up, .int .i64 x.clock, .bool x.known, .int .i64 x.seen, .slice (some ⟨b5, 0, none⟩) x.wants.length q5, .slice (some ⟨b6, 0, none⟩) x.runs.length q6, .slice (some ⟨b7, 0, none⟩) x.asks.length q7, .slice (some ⟨b8, 0, none⟩) x.gives.length q8] (by first | rfl | (simp [go_sem]; done)) rfl HTS.out isz_Mte (by simp [Value.oneCell']) wf HEF.out ?_))
        exact bodyPost_ret (results_cell_mid rfl _ _ (w.heap.size + 2) [.string x.name, .bool x.up, .int .i64 x.clock, .bool x.known, .int .i64 x.seen, .slice (some ⟨b5, 0, none⟩) x.wants.length q5, .slice (some ⟨b6, 0, none⟩) x.runs.length q6, .slice (some ⟨b7, 0, none⟩) x.asks.length q7, .slice (some ⟨b8, 0, none⟩) x.gives.length q8] _ rfl HRf.out Tryz.underlying35 rfl isz_Mte) rfl ⟨x, _, _, _, _, _, _, _, _, HXE.out, rfl, F5.out, F6.out, F7.out, F8.out, hBf⟩
      | true =>
        go_wp2_with fail
        refine (in10_any q.seen 1 1000000 _).mono ?_
        rintro e v1 ⟨rfl, rfl⟩
        cases g1 : inR q.seen 1 1000000 with
        | false =>
          have HXE : Hid (x = takeM x q) := by show _ = _; rw [HTP.out]; unfold hearM newerB; rw [g1]; simp
          go_upto_region 26 with fail
          have HTS := Hid.intro HZ6.out.there
          obtain ⟨wf, HEF⟩ : ∃ wf, Hid (wf = v1.setCells (w.heap.size + 2) 0 [.string x.name, .bool x.up, .int .i64 x.clock, .bool x.known, .int .i64 x.seen, .slice (some ⟨b5, 0, none⟩) x.wants.length q5, .slice (some ⟨b6, 0, none⟩) x.runs.length q6, .slice (some ⟨b7, 0, none⟩) x.asks.length q7, .slice (some ⟨b8, 0, none⟩) x.gives.length q8]) := ⟨_, rfl⟩
          have HRf : Hid (wf.rangeAt (w.heap.size + 2) 0 [.string x.name, .bool x.up, .int .i64 x.clock, .bool x.known, .int .i64 x.seen, .slice (some ⟨b5, 0, none⟩) x.wants.length q5, .slice (some ⟨b6, 0, none⟩) x.runs.length q6, .slice (some ⟨b7, 0, none⟩) x.asks.length q7, .slice (some ⟨b8, 0, none⟩) x.gives.length q8]) := by
            show World.rangeAt _ _ _ _
            rw [HEF.out]
            exact World.rangeAt_setCells_same _ _ _ _ HTS.out
          have hBf : Below w.heap.size w wf := by
            rw [HEF.out]
            exact below_setCells (by omega) _ _ _ hB6
          have F5 : Hid (SliceC WntC 7 w.heap.size wf (some ⟨b5, 0, none⟩) x.wants) := by
            show SliceC _ _ _ _ _ _
            rw [HEF.out]
            exact S5_6.out.keep WntC.holds (Keeps.setCells (show w.heap.size + 2 < w3.heap.size by omega) _ _ _) (by omega)
          have F6 : Hid (SliceC RnC 11 w.heap.size wf (some ⟨b6, 0, none⟩) x.runs) := by
            show SliceC _ _ _ _ _ _
            rw [HEF.out]
            exact S6_6.out.keep RnC.holds (Keeps.setCells (show w.heap.size + 2 < g5 by omega) _ _ _) (by omega)
          have F7 : Hid (SliceC AksC 4 w.heap.size wf (some ⟨b7, 0, none⟩) x.asks) := by
            show SliceC _ _ _ _ _ _
            rw [HEF.out]
            exact S7_6.out.keep AksC.holds (Keeps.setCells (show w.heap.size + 2 < g6 by omega) _ _ _) (by omega)
          have F8 : Hid (SliceC AksC 4 w.heap.size wf (some ⟨b8, 0, none⟩) x.gives) := by
            show SliceC _ _ _ _ _ _
            rw [HEF.out]
            exact S8_6.out.keep AksC.holds (Keeps.setCells (show w.heap.size + 2 < g7 by omega) _ _ _) (by omega)
          go_wp2_with (first | (refine wpList_load_mid rfl 35 _ rfl hc 0 (by first | rfl | (simp [go_sem]; done)) [.string x.name, .bool x.up, .int .i64 x.clock, .bool x.known, .int .i64 x.seen, .slice (some ⟨b5, 0, none⟩) x.wants.length q5, .slice (some ⟨b6, 0, none⟩) x.runs.length q6, .slice (some ⟨b7, 0, none⟩) x.asks.length q7, .slice (some ⟨b8, 0, none⟩) x.gives.length q8] _ HC6.out.rangeA Tryz.underlying35 rfl isz_Mte ?_) | (refine wpList_store_to rfl 35 _ _ rfl (w.heap.size + 2) 0 #[.string x.name, .bool x.up, .int .i64 x.clock, .bool x.known, .int .i64 x.seen, .slice (some ⟨b5, 0, none⟩) x.wants.length q5, .slice (some ⟨b6, 0, none⟩) x.runs.length q6, .slice (some ⟨b7, 0, none⟩) x.asks.length q7, .slice (some ⟨b8, 0, none⟩) x.gives.length q8] (by first | rfl | (simp [go_sem]; done)) rfl HTS.out isz_Mte (by simp [Value.oneCell']) wf HEF.out ?_))
          exact bodyPost_ret (results_cell_mid rfl _ _ (w.heap.size + 2) [.string x.name, .bool x.up, .int .i64 x.clock, .bool x.known, .int .i64 x.seen, .slice (some ⟨b5, 0, none⟩) x.wants.length q5, .slice (some ⟨b6, 0, none⟩) x.runs.length q6, .slice (some ⟨b7, 0, none⟩) x.asks.length q7, .slice (some ⟨b8, 0, none⟩) x.gives.length q8] _ rfl HRf.out Tryz.underlying35 rfl isz_Mte) rfl ⟨x, _, _, _, _, _, _, _, _, HXE.out, rfl, F5.out, F6.out, F7.out, F8.out, hBf⟩
        | true =>
          cases hk : x.known with
          | false =>
            have HY : Hid (({ x with known := true, seen := q.seen, wants := q.wants } : Mte) = takeM x q) := by show _ = _; rw [HTP.out]; unfold hearM newerB; rw [hk, g1, g2]; rfl
            have HKN := Hid.intro hk
            rw [hk] at k3
            clear hk g1 g2
            go_upto_region 9 with fail
            clear k3 k4 e2 e3
            have c3 : v1.cell? ⟨hc, 3, none⟩ = some (.bool x.known) := HC6.out.cell rfl
            have f3 : v1.frozen? ⟨hc, 3, none⟩ = false := HC6.out.frozen _
            go_upto_region 10 with fail
            have HC7 : Hid (Blk hc #[.string x.name, .bool x.up, .int .i64 x.clock, .bool true, .int .i64 x.seen, .slice (some ⟨b5, 0, none⟩) x.wants.length q5, .slice (some ⟨b6, 0, none⟩) x.runs.length q6, .slice (some ⟨b7, 0, none⟩) x.asks.length q7, .slice (some ⟨b8, 0, none⟩) x.gives.length q8] 35 (v1.setCell ⟨hc, 3, none⟩ (.bool true))) := HC6.out.set 3 _
            have HQ7 : Hid (Blk (w.heap.size + 1) #[.int .i64 q.kind, .string q.berth, .int .i64 q.seen, .slice b3 q.wants.length d3, .string q.hold, .string q.copy, .int .i64 q.at_] 39 (v1.setCell ⟨hc, 3, none⟩ (.bool true))) := HQ6.out.other (a := ⟨hc, 3, none⟩) (show w.heap.size + 1 ≠ hc by omega) _
            have HZ7 : Hid (Blk (w.heap.size + 2) #[.string ⟨#[]⟩, .bool false, .int .i64 0, .bool false, .int .i64 0, .slice none 0 0, .slice none 0 0, .slice none 0 0, .slice none 0 0] 35 (v1.setCell ⟨hc, 3, none⟩ (.bool true))) := HZ6.out.other (a := ⟨hc, 3, none⟩) (show w.heap.size + 2 ≠ hc by omega) _
            have hB7 : Below w.heap.size w (v1.setCell ⟨hc, 3, none⟩ (.bool true)) := hB6.setCell (p := ⟨hc, 3, none⟩) (show w.heap.size ≤ hc by omega) _
            have S5_7 : Hid (SliceC WntC 7 w3.heap.size (v1.setCell ⟨hc, 3, none⟩ (.bool true)) (some ⟨b5, 0, none⟩) x.wants) := setC flatW S5_6.out hc 3 _ (fun b o s e => by cases e; omega)
            have S6_7 : Hid (SliceC RnC 11 g5 (v1.setCell ⟨hc, 3, none⟩ (.bool true)) (some ⟨b6, 0, none⟩) x.runs) := setC flatR S6_6.out hc 3 _ (fun b o s e => by cases e; omega)
            have S7_7 : Hid (SliceC AksC 4 g6 (v1.setCell ⟨hc, 3, none⟩ (.bool true)) (some ⟨b7, 0, none⟩) x.asks) := setC flatA S7_6.out hc 3 _ (fun b o s e => by cases e; omega)
            have S8_7 : Hid (SliceC AksC 4 g7 (v1.setCell ⟨hc, 3, none⟩ (.bool true)) (some ⟨b8, 0, none⟩) x.gives) := setC flatA S8_6.out hc 3 _ (fun b o s e => by cases e; omega)
            clear c3 f3 HC6 HQ6 HZ6 hB6 S5_6 S6_6 S7_6 S8_6
            generalize (v1.setCell ⟨hc, 3, none⟩ (.bool true)) = w7 at *
            have e2 : w7.cell? ⟨w.heap.size + 1, 2, none⟩ = some (.int .i64 q.seen) := HQ7.out.cell rfl
            have c4 : w7.cell? ⟨hc, 4, none⟩ = some (.int .i64 x.seen) := HC7.out.cell rfl
            have f4 : w7.frozen? ⟨hc, 4, none⟩ = false := HC7.out.frozen _
            go_upto_region 11 with fail
            have HC8 : Hid (Blk hc #[.string x.name, .bool x.up, .int .i64 x.clock, .bool true, .int .i64 q.seen, .slice (some ⟨b5, 0, none⟩) x.wants.length q5, .slice (some ⟨b6, 0, none⟩) x.runs.length q6, .slice (some ⟨b7, 0, none⟩) x.asks.length q7, .slice (some ⟨b8, 0, none⟩) x.gives.length q8] 35 (w7.setCell ⟨hc, 4, none⟩ (.int .i64 q.seen))) := HC7.out.set 4 _
            have HQ8 : Hid (Blk (w.heap.size + 1) #[.int .i64 q.kind, .string q.berth, .int .i64 q.seen, .slice b3 q.wants.length d3, .string q.hold, .string q.copy, .int .i64 q.at_] 39 (w7.setCell ⟨hc, 4, none⟩ (.int .i64 q.seen))) := HQ7.out.other (a := ⟨hc, 4, none⟩) (show w.heap.size + 1 ≠ hc by omega) _
            have HZ8 : Hid (Blk (w.heap.size + 2) #[.string ⟨#[]⟩, .bool false, .int .i64 0, .bool false, .int .i64 0, .slice none 0 0, .slice none 0 0, .slice none 0 0, .slice none 0 0] 35 (w7.setCell ⟨hc, 4, none⟩ (.int .i64 q.seen))) := HZ7.out.other (a := ⟨hc, 4, none⟩) (show w.heap.size + 2 ≠ hc by omega) _
            have hB8 : Below w.heap.size w (w7.setCell ⟨hc, 4, none⟩ (.int .i64 q.seen)) := hB7.setCell (p := ⟨hc, 4, none⟩) (show w.heap.size ≤ hc by omega) _
            have S5_8 : Hid (SliceC WntC 7 w3.heap.size (w7.setCell ⟨hc, 4, none⟩ (.int .i64 q.seen)) (some ⟨b5, 0, none⟩) x.wants) := setC flatW S5_7.out hc 4 _ (fun b o s e => by cases e; omega)
            have S6_8 : Hid (SliceC RnC 11 g5 (w7.setCell ⟨hc, 4, none⟩ (.int .i64 q.seen)) (some ⟨b6, 0, none⟩) x.runs) := setC flatR S6_7.out hc 4 _ (fun b o s e => by cases e; omega)
            have S7_8 : Hid (SliceC AksC 4 g6 (w7.setCell ⟨hc, 4, none⟩ (.int .i64 q.seen)) (some ⟨b7, 0, none⟩) x.asks) := setC flatA S7_7.out hc 4 _ (fun b o s e => by cases e; omega)
            have S8_8 : Hid (SliceC AksC 4 g7 (w7.setCell ⟨hc, 4, none⟩ (.int .i64 q.seen)) (some ⟨b8, 0, none⟩) x.gives) := setC flatA S8_7.out hc 4 _ (fun b o s e => by cases e; omega)
            clear c4 f4 HC7 HQ7 HZ7 hB7 S5_7 S6_7 S7_7 S8_7
            generalize (w7.setCell ⟨hc, 4, none⟩ (.int .i64 q.seen)) = w8 at *
            clear e2
            have hl3 := HQI.out.l3
            have e3 : (w8.alloc (Obj.cells #[] 63)).cell? ⟨w.heap.size + 1, 3, none⟩ = some (.slice b3 q.wants.length d3) := (World.cell?_alloc_lt _ _ _ HQ8.out.lt).trans (HQ8.out.cell rfl)
            have hba : Below w8.heap.size w8 (w8.alloc (Obj.cells #[] 63)) := (Below.refl _ _).alloc (Nat.le_refl _) _
            have HS3 := Hid.intro (HQI.out.s3.below WntC.holds (hB8.trans (hba.mono hB8.size)) (Nat.le_refl _))
            have HNW : Hid (∀ ad, b3 = some ad → ∀ j u, (rvWnt q.wants)[j]? = some u → (w8.alloc (Obj.cells #[] 63)).cell? (ad.add j) = some u) := fun ad e j u hu => by
              obtain ⟨b, o, s⟩ := ad
              have hs := HQI.out.p3 b o s e
              subst hs
              exact newsWnt (e ▸ HS3.out) j u hu
            clear hba HS3
            go_upto_region 26 with (at_builtin; refine wpList_append_opt rfl _ _ 31 rfl w8.heap.size 63 iW _ 7 72 Tryz.underlying31 hiW hz0 hz1 hz2 rfl (by decide) _ _ _ rfl (World.ownsRow_made w8 #[] 0 (Nat.le_refl _) (Nat.zero_le _) rfl) b3 q.wants.length d3 (rvWnt q.wants) rfl HE3.out (by rw [rvWnt_len]) HNW.out (rvWnt_one q.wants) (by unfold maxLen; omega) (by omega) (by simp) ?_; intro v' w9 hown hgrow hnil; have hv : v' ≠ .slice none 0 0 := (fun e => by have h9 := (hnil.1 e).1; cases h9); have hown' : w9.ownsRow w8.heap.size 63 7 v' q.wants.length (rvWnt q.wants) := (by simpa using hown); obtain ⟨n5, s5, rfl⟩ := rowf hown' hv; have hb9 : Below w8.heap.size w8 w9 := ((Below.refl _ w8).alloc (Nat.le_refl _) _).grown hgrow (by simp) (by intro k hk; cases hk; exact Nat.le_refl _); have HOW := Hid.intro hown'; have HB9 := Hid.intro hb9; have HC9 := Hid.intro (HC8.out.below hb9 HC8.out.lt); have kx : w9.cell? ⟨hc, 5, none⟩ = some (.slice (some ⟨b5, 0, none⟩) x.wants.length q5) := HC9.out.cell rfl; have fx : w9.frozen? ⟨hc, 5, none⟩ = false := HC9.out.frozen _; clear hown hown' hgrow hnil hv hb9)
            clear kx fx e3 HNW
            have HQ9 := Hid.intro (HQ8.out.below HB9.out HQ8.out.lt)
            have HZ9 := Hid.intro (HZ8.out.below HB9.out HZ8.out.lt)
            have hB9 := hB8.trans (HB9.out.mono hB8.size)
            have S6_9 := Hid.intro (S6_8.out.below RnC.holds HB9.out (Nat.le_refl _))
            have S7_9 := Hid.intro (S7_8.out.below AksC.holds HB9.out (Nat.le_refl _))
            have S8_9 := Hid.intro (S8_8.out.below AksC.holds HB9.out (Nat.le_refl _))
            have hg8 : hc < w8.heap.size := HC8.out.lt
            obtain ⟨h8, hh8⟩ : ∃ h, h = w8.heap.size := ⟨_, rfl⟩
            have S5_9 : Hid (SliceC WntC 7 h8 w9 (some ⟨n5, 0, none⟩) q.wants) := by rw [hh8]; exact rowslWnt HOW.out HQI.out.l3 HQI.out.z3
            have hn5 : n5 ≠ hc := by have h1 := (HOW.out.lt n5 rfl).1; omega
            rw [← hh8] at hg8
            clear HOW HB9 HQ8 HZ8 hB8 HC8 S5_8 S6_8 S7_8 S8_8 hh8
            have HC10 : Hid (Blk hc #[.string x.name, .bool x.up, .int .i64 x.clock, .bool true, .int .i64 q.seen, .slice (some ⟨n5, 0, none⟩) q.wants.length s5, .slice (some ⟨b6, 0, none⟩) x.runs.length q6, .slice (some ⟨b7, 0, none⟩) x.asks.length q7, .slice (some ⟨b8, 0, none⟩) x.gives.length q8] 35 (w9.setCell ⟨hc, 5, none⟩ (.slice (some ⟨n5, 0, none⟩) q.wants.length s5))) := HC9.out.set 5 _
            have HQ10 : Hid (Blk (w.heap.size + 1) #[.int .i64 q.kind, .string q.berth, .int .i64 q.seen, .slice b3 q.wants.length d3, .string q.hold, .string q.copy, .int .i64 q.at_] 39 (w9.setCell ⟨hc, 5, none⟩ (.slice (some ⟨n5, 0, none⟩) q.wants.length s5))) := HQ9.out.other (a := ⟨hc, 5, none⟩) (show w.heap.size + 1 ≠ hc by omega) _
            have HZ10 : Hid (Blk (w.heap.size + 2) #[.string ⟨#[]⟩, .bool false, .int .i64 0, .bool false, .int .i64 0, .slice none 0 0, .slice none 0 0, .slice none 0 0, .slice none 0 0] 35 (w9.setCell ⟨hc, 5, none⟩ (.slice (some ⟨n5, 0, none⟩) q.wants.length s5))) := HZ9.out.other (a := ⟨hc, 5, none⟩) (show w.heap.size + 2 ≠ hc by omega) _
            have hB10 : Below w.heap.size w (w9.setCell ⟨hc, 5, none⟩ (.slice (some ⟨n5, 0, none⟩) q.wants.length s5)) := hB9.setCell (p := ⟨hc, 5, none⟩) (show w.heap.size ≤ hc by omega) _
            have S5_10 : Hid (SliceC WntC 7 h8 (w9.setCell ⟨hc, 5, none⟩ (.slice (some ⟨n5, 0, none⟩) q.wants.length s5)) (some ⟨n5, 0, none⟩) q.wants) := setC flatW S5_9.out hc 5 _ (fun b o s e => by cases e; omega)
            have S6_10 : Hid (SliceC RnC 11 g5 (w9.setCell ⟨hc, 5, none⟩ (.slice (some ⟨n5, 0, none⟩) q.wants.length s5)) (some ⟨b6, 0, none⟩) x.runs) := setC flatR S6_9.out hc 5 _ (fun b o s e => by cases e; omega)
            have S7_10 : Hid (SliceC AksC 4 g6 (w9.setCell ⟨hc, 5, none⟩ (.slice (some ⟨n5, 0, none⟩) q.wants.length s5)) (some ⟨b7, 0, none⟩) x.asks) := setC flatA S7_9.out hc 5 _ (fun b o s e => by cases e; omega)
            have S8_10 : Hid (SliceC AksC 4 g7 (w9.setCell ⟨hc, 5, none⟩ (.slice (some ⟨n5, 0, none⟩) q.wants.length s5)) (some ⟨b8, 0, none⟩) x.gives) := setC flatA S8_9.out hc 5 _ (fun b o s e => by cases e; omega)
            clear HC9 HQ9 HZ9 hB9 S5_9 S6_9 S7_9 S8_9
            generalize (w9.setCell ⟨hc, 5, none⟩ (.slice (some ⟨n5, 0, none⟩) q.wants.length s5)) = w10 at *
            have HTS := Hid.intro HZ10.out.there
            obtain ⟨wf, HEF⟩ : ∃ wf, Hid (wf = w10.setCells (w.heap.size + 2) 0 [.string x.name, .bool x.up, .int .i64 x.clock, .bool true, .int .i64 q.seen, .slice (some ⟨n5, 0, none⟩) q.wants.length s5, .slice (some ⟨b6, 0, none⟩) x.runs.length q6, .slice (some ⟨b7, 0, none⟩) x.asks.length q7, .slice (some ⟨b8, 0, none⟩) x.gives.length q8]) := ⟨_, rfl⟩
            have HRf : Hid (wf.rangeAt (w.heap.size + 2) 0 [.string x.name, .bool x.up, .int .i64 x.clock, .bool true, .int .i64 q.seen, .slice (some ⟨n5, 0, none⟩) q.wants.length s5, .slice (some ⟨b6, 0, none⟩) x.runs.length q6, .slice (some ⟨b7, 0, none⟩) x.asks.length q7, .slice (some ⟨b8, 0, none⟩) x.gives.length q8]) := by
              show World.rangeAt _ _ _ _
              rw [HEF.out]
              exact World.rangeAt_setCells_same _ _ _ _ HTS.out
            have hBf : Below w.heap.size w wf := by
              rw [HEF.out]
              exact below_setCells (by omega) _ _ _ hB10
            have F5 : Hid (SliceC WntC 7 w.heap.size wf (some ⟨n5, 0, none⟩) q.wants) := by
              show SliceC _ _ _ _ _ _
              rw [HEF.out]
              exact S5_10.out.keep WntC.holds (Keeps.setCells (show w.heap.size + 2 < h8 by omega) _ _ _) (by omega)
            have F6 : Hid (SliceC RnC 11 w.heap.size wf (some ⟨b6, 0, none⟩) x.runs) := by
              show SliceC _ _ _ _ _ _
              rw [HEF.out]
              exact S6_10.out.keep RnC.holds (Keeps.setCells (show w.heap.size + 2 < g5 by omega) _ _ _) (by omega)
            have F7 : Hid (SliceC AksC 4 w.heap.size wf (some ⟨b7, 0, none⟩) x.asks) := by
              show SliceC _ _ _ _ _ _
              rw [HEF.out]
              exact S7_10.out.keep AksC.holds (Keeps.setCells (show w.heap.size + 2 < g6 by omega) _ _ _) (by omega)
            have F8 : Hid (SliceC AksC 4 w.heap.size wf (some ⟨b8, 0, none⟩) x.gives) := by
              show SliceC _ _ _ _ _ _
              rw [HEF.out]
              exact S8_10.out.keep AksC.holds (Keeps.setCells (show w.heap.size + 2 < g7 by omega) _ _ _) (by omega)
            go_wp2_with (first | (refine wpList_load_mid rfl 35 _ rfl hc 0 (by first | rfl | (simp [go_sem]; done)) [.string x.name, .bool x.up, .int .i64 x.clock, .bool true, .int .i64 q.seen, .slice (some ⟨n5, 0, none⟩) q.wants.length s5, .slice (some ⟨b6, 0, none⟩) x.runs.length q6, .slice (some ⟨b7, 0, none⟩) x.asks.length q7, .slice (some ⟨b8, 0, none⟩) x.gives.length q8] _ HC10.out.rangeA Tryz.underlying35 rfl isz_Mte ?_) | (refine wpList_store_to rfl 35 _ _ rfl (w.heap.size + 2) 0 #[.string x.name, .bool x.up, .int .i64 x.clock, .bool true, .int .i64 q.seen, .slice (some ⟨n5, 0, none⟩) q.wants.length s5, .slice (some ⟨b6, 0, none⟩) x.runs.length q6, .slice (some ⟨b7, 0, none⟩) x.asks.length q7, .slice (some ⟨b8, 0, none⟩) x.gives.length q8] (by first | rfl | (simp [go_sem]; done)) rfl HTS.out isz_Mte (by simp [Value.oneCell']) wf HEF.out ?_))
            exact bodyPost_ret (results_cell_mid rfl _ _ (w.heap.size + 2) [.string x.name, .bool x.up, .int .i64 x.clock, .bool true, .int .i64 q.seen, .slice (some ⟨n5, 0, none⟩) q.wants.length s5, .slice (some ⟨b6, 0, none⟩) x.runs.length q6, .slice (some ⟨b7, 0, none⟩) x.asks.length q7, .slice (some ⟨b8, 0, none⟩) x.gives.length q8] _ rfl HRf.out Tryz.underlying35 rfl isz_Mte) rfl ⟨{ x with known := true, seen := q.seen, wants := q.wants }, _, _, _, _, _, _, _, _, HY.out, rfl, F5.out, F6.out, F7.out, F8.out, hBf⟩
          | true =>
            by_cases hs : x.seen < q.seen
            · have HY : Hid (({ x with known := true, seen := q.seen, wants := q.wants } : Mte) = takeM x q) := by show _ = _; rw [HTP.out]; unfold hearM newerB; rw [hk, g1, g2, decide_eq_true hs]; rfl
              rw [hk] at k3
              clear hk g1 g2
              go_upto_region 9 with fail
              clear k3 k4 e2 e3
              have c3 : v1.cell? ⟨hc, 3, none⟩ = some (.bool x.known) := HC6.out.cell rfl
              have f3 : v1.frozen? ⟨hc, 3, none⟩ = false := HC6.out.frozen _
              go_upto_region 10 with fail
              have HC7 : Hid (Blk hc #[.string x.name, .bool x.up, .int .i64 x.clock, .bool true, .int .i64 x.seen, .slice (some ⟨b5, 0, none⟩) x.wants.length q5, .slice (some ⟨b6, 0, none⟩) x.runs.length q6, .slice (some ⟨b7, 0, none⟩) x.asks.length q7, .slice (some ⟨b8, 0, none⟩) x.gives.length q8] 35 (v1.setCell ⟨hc, 3, none⟩ (.bool true))) := HC6.out.set 3 _
              have HQ7 : Hid (Blk (w.heap.size + 1) #[.int .i64 q.kind, .string q.berth, .int .i64 q.seen, .slice b3 q.wants.length d3, .string q.hold, .string q.copy, .int .i64 q.at_] 39 (v1.setCell ⟨hc, 3, none⟩ (.bool true))) := HQ6.out.other (a := ⟨hc, 3, none⟩) (show w.heap.size + 1 ≠ hc by omega) _
              have HZ7 : Hid (Blk (w.heap.size + 2) #[.string ⟨#[]⟩, .bool false, .int .i64 0, .bool false, .int .i64 0, .slice none 0 0, .slice none 0 0, .slice none 0 0, .slice none 0 0] 35 (v1.setCell ⟨hc, 3, none⟩ (.bool true))) := HZ6.out.other (a := ⟨hc, 3, none⟩) (show w.heap.size + 2 ≠ hc by omega) _
              have hB7 : Below w.heap.size w (v1.setCell ⟨hc, 3, none⟩ (.bool true)) := hB6.setCell (p := ⟨hc, 3, none⟩) (show w.heap.size ≤ hc by omega) _
              have S5_7 : Hid (SliceC WntC 7 w3.heap.size (v1.setCell ⟨hc, 3, none⟩ (.bool true)) (some ⟨b5, 0, none⟩) x.wants) := setC flatW S5_6.out hc 3 _ (fun b o s e => by cases e; omega)
              have S6_7 : Hid (SliceC RnC 11 g5 (v1.setCell ⟨hc, 3, none⟩ (.bool true)) (some ⟨b6, 0, none⟩) x.runs) := setC flatR S6_6.out hc 3 _ (fun b o s e => by cases e; omega)
              have S7_7 : Hid (SliceC AksC 4 g6 (v1.setCell ⟨hc, 3, none⟩ (.bool true)) (some ⟨b7, 0, none⟩) x.asks) := setC flatA S7_6.out hc 3 _ (fun b o s e => by cases e; omega)
              have S8_7 : Hid (SliceC AksC 4 g7 (v1.setCell ⟨hc, 3, none⟩ (.bool true)) (some ⟨b8, 0, none⟩) x.gives) := setC flatA S8_6.out hc 3 _ (fun b o s e => by cases e; omega)
              clear c3 f3 HC6 HQ6 HZ6 hB6 S5_6 S6_6 S7_6 S8_6
              generalize (v1.setCell ⟨hc, 3, none⟩ (.bool true)) = w7 at *
              have e2 : w7.cell? ⟨w.heap.size + 1, 2, none⟩ = some (.int .i64 q.seen) := HQ7.out.cell rfl
              have c4 : w7.cell? ⟨hc, 4, none⟩ = some (.int .i64 x.seen) := HC7.out.cell rfl
              have f4 : w7.frozen? ⟨hc, 4, none⟩ = false := HC7.out.frozen _
              go_upto_region 11 with fail
              have HC8 : Hid (Blk hc #[.string x.name, .bool x.up, .int .i64 x.clock, .bool true, .int .i64 q.seen, .slice (some ⟨b5, 0, none⟩) x.wants.length q5, .slice (some ⟨b6, 0, none⟩) x.runs.length q6, .slice (some ⟨b7, 0, none⟩) x.asks.length q7, .slice (some ⟨b8, 0, none⟩) x.gives.length q8] 35 (w7.setCell ⟨hc, 4, none⟩ (.int .i64 q.seen))) := HC7.out.set 4 _
              have HQ8 : Hid (Blk (w.heap.size + 1) #[.int .i64 q.kind, .string q.berth, .int .i64 q.seen, .slice b3 q.wants.length d3, .string q.hold, .string q.copy, .int .i64 q.at_] 39 (w7.setCell ⟨hc, 4, none⟩ (.int .i64 q.seen))) := HQ7.out.other (a := ⟨hc, 4, none⟩) (show w.heap.size + 1 ≠ hc by omega) _
              have HZ8 : Hid (Blk (w.heap.size + 2) #[.string ⟨#[]⟩, .bool false, .int .i64 0, .bool false, .int .i64 0, .slice none 0 0, .slice none 0 0, .slice none 0 0, .slice none 0 0] 35 (w7.setCell ⟨hc, 4, none⟩ (.int .i64 q.seen))) := HZ7.out.other (a := ⟨hc, 4, none⟩) (show w.heap.size + 2 ≠ hc by omega) _
              have hB8 : Below w.heap.size w (w7.setCell ⟨hc, 4, none⟩ (.int .i64 q.seen)) := hB7.setCell (p := ⟨hc, 4, none⟩) (show w.heap.size ≤ hc by omega) _
              have S5_8 : Hid (SliceC WntC 7 w3.heap.size (w7.setCell ⟨hc, 4, none⟩ (.int .i64 q.seen)) (some ⟨b5, 0, none⟩) x.wants) := setC flatW S5_7.out hc 4 _ (fun b o s e => by cases e; omega)
              have S6_8 : Hid (SliceC RnC 11 g5 (w7.setCell ⟨hc, 4, none⟩ (.int .i64 q.seen)) (some ⟨b6, 0, none⟩) x.runs) := setC flatR S6_7.out hc 4 _ (fun b o s e => by cases e; omega)
              have S7_8 : Hid (SliceC AksC 4 g6 (w7.setCell ⟨hc, 4, none⟩ (.int .i64 q.seen)) (some ⟨b7, 0, none⟩) x.asks) := setC flatA S7_7.out hc 4 _ (fun b o s e => by cases e; omega)
              have S8_8 : Hid (SliceC AksC 4 g7 (w7.setCell ⟨hc, 4, none⟩ (.int .i64 q.seen)) (some ⟨b8, 0, none⟩) x.gives) := setC flatA S8_7.out hc 4 _ (fun b o s e => by cases e; omega)
              clear c4 f4 HC7 HQ7 HZ7 hB7 S5_7 S6_7 S7_7 S8_7
              generalize (w7.setCell ⟨hc, 4, none⟩ (.int .i64 q.seen)) = w8 at *
              clear e2
              have hl3 := HQI.out.l3
              have e3 : (w8.alloc (Obj.cells #[] 63)).cell? ⟨w.heap.size + 1, 3, none⟩ = some (.slice b3 q.wants.length d3) := (World.cell?_alloc_lt _ _ _ HQ8.out.lt).trans (HQ8.out.cell rfl)
              have hba : Below w8.heap.size w8 (w8.alloc (Obj.cells #[] 63)) := (Below.refl _ _).alloc (Nat.le_refl _) _
              have HS3 := Hid.intro (HQI.out.s3.below WntC.holds (hB8.trans (hba.mono hB8.size)) (Nat.le_refl _))
              have HNW : Hid (∀ ad, b3 = some ad → ∀ j u, (rvWnt q.wants)[j]? = some u → (w8.alloc (Obj.cells #[] 63)).cell? (ad.add j) = some u) := fun ad e j u hu => by
                obtain ⟨b, o, s⟩ := ad
                have hs := HQI.out.p3 b o s e
                subst hs
                exact newsWnt (e ▸ HS3.out) j u hu
              clear hba HS3
              go_upto_region 26 with (at_builtin; refine wpList_append_opt rfl _ _ 31 rfl w8.heap.size 63 iW _ 7 72 Tryz.underlying31 hiW hz0 hz1 hz2 rfl (by decide) _ _ _ rfl (World.ownsRow_made w8 #[] 0 (Nat.le_refl _) (Nat.zero_le _) rfl) b3 q.wants.length d3 (rvWnt q.wants) rfl HE3.out (by rw [rvWnt_len]) HNW.out (rvWnt_one q.wants) (by unfold maxLen; omega) (by omega) (by simp) ?_; intro v' w9 hown hgrow hnil; have hv : v' ≠ .slice none 0 0 := (fun e => by have h9 := (hnil.1 e).1; cases h9); have hown' : w9.ownsRow w8.heap.size 63 7 v' q.wants.length (rvWnt q.wants) := (by simpa using hown); obtain ⟨n5, s5, rfl⟩ := rowf hown' hv; have hb9 : Below w8.heap.size w8 w9 := ((Below.refl _ w8).alloc (Nat.le_refl _) _).grown hgrow (by simp) (by intro k hk; cases hk; exact Nat.le_refl _); have HOW := Hid.intro hown'; have HB9 := Hid.intro hb9; have HC9 := Hid.intro (HC8.out.below hb9 HC8.out.lt); have kx : w9.cell? ⟨hc, 5, none⟩ = some (.slice (some ⟨b5, 0, none⟩) x.wants.length q5) := HC9.out.cell rfl; have fx : w9.frozen? ⟨hc, 5, none⟩ = false := HC9.out.frozen _; clear hown hown' hgrow hnil hv hb9)
              clear kx fx e3 HNW
              have HQ9 := Hid.intro (HQ8.out.below HB9.out HQ8.out.lt)
              have HZ9 := Hid.intro (HZ8.out.below HB9.out HZ8.out.lt)
              have hB9 := hB8.trans (HB9.out.mono hB8.size)
              have S6_9 := Hid.intro (S6_8.out.below RnC.holds HB9.out (Nat.le_refl _))
              have S7_9 := Hid.intro (S7_8.out.below AksC.holds HB9.out (Nat.le_refl _))
              have S8_9 := Hid.intro (S8_8.out.below AksC.holds HB9.out (Nat.le_refl _))
              have hg8 : hc < w8.heap.size := HC8.out.lt
              obtain ⟨h8, hh8⟩ : ∃ h, h = w8.heap.size := ⟨_, rfl⟩
              have S5_9 : Hid (SliceC WntC 7 h8 w9 (some ⟨n5, 0, none⟩) q.wants) := by rw [hh8]; exact rowslWnt HOW.out HQI.out.l3 HQI.out.z3
              have hn5 : n5 ≠ hc := by have h1 := (HOW.out.lt n5 rfl).1; omega
              rw [← hh8] at hg8
              clear HOW HB9 HQ8 HZ8 hB8 HC8 S5_8 S6_8 S7_8 S8_8 hh8
              have HC10 : Hid (Blk hc #[.string x.name, .bool x.up, .int .i64 x.clock, .bool true, .int .i64 q.seen, .slice (some ⟨n5, 0, none⟩) q.wants.length s5, .slice (some ⟨b6, 0, none⟩) x.runs.length q6, .slice (some ⟨b7, 0, none⟩) x.asks.length q7, .slice (some ⟨b8, 0, none⟩) x.gives.length q8] 35 (w9.setCell ⟨hc, 5, none⟩ (.slice (some ⟨n5, 0, none⟩) q.wants.length s5))) := HC9.out.set 5 _
              have HQ10 : Hid (Blk (w.heap.size + 1) #[.int .i64 q.kind, .string q.berth, .int .i64 q.seen, .slice b3 q.wants.length d3, .string q.hold, .string q.copy, .int .i64 q.at_] 39 (w9.setCell ⟨hc, 5, none⟩ (.slice (some ⟨n5, 0, none⟩) q.wants.length s5))) := HQ9.out.other (a := ⟨hc, 5, none⟩) (show w.heap.size + 1 ≠ hc by omega) _
              have HZ10 : Hid (Blk (w.heap.size + 2) #[.string ⟨#[]⟩, .bool false, .int .i64 0, .bool false, .int .i64 0, .slice none 0 0, .slice none 0 0, .slice none 0 0, .slice none 0 0] 35 (w9.setCell ⟨hc, 5, none⟩ (.slice (some ⟨n5, 0, none⟩) q.wants.length s5))) := HZ9.out.other (a := ⟨hc, 5, none⟩) (show w.heap.size + 2 ≠ hc by omega) _
              have hB10 : Below w.heap.size w (w9.setCell ⟨hc, 5, none⟩ (.slice (some ⟨n5, 0, none⟩) q.wants.length s5)) := hB9.setCell (p := ⟨hc, 5, none⟩) (show w.heap.size ≤ hc by omega) _
              have S5_10 : Hid (SliceC WntC 7 h8 (w9.setCell ⟨hc, 5, none⟩ (.slice (some ⟨n5, 0, none⟩) q.wants.length s5)) (some ⟨n5, 0, none⟩) q.wants) := setC flatW S5_9.out hc 5 _ (fun b o s e => by cases e; omega)
              have S6_10 : Hid (SliceC RnC 11 g5 (w9.setCell ⟨hc, 5, none⟩ (.slice (some ⟨n5, 0, none⟩) q.wants.length s5)) (some ⟨b6, 0, none⟩) x.runs) := setC flatR S6_9.out hc 5 _ (fun b o s e => by cases e; omega)
              have S7_10 : Hid (SliceC AksC 4 g6 (w9.setCell ⟨hc, 5, none⟩ (.slice (some ⟨n5, 0, none⟩) q.wants.length s5)) (some ⟨b7, 0, none⟩) x.asks) := setC flatA S7_9.out hc 5 _ (fun b o s e => by cases e; omega)
              have S8_10 : Hid (SliceC AksC 4 g7 (w9.setCell ⟨hc, 5, none⟩ (.slice (some ⟨n5, 0, none⟩) q.wants.length s5)) (some ⟨b8, 0, none⟩) x.gives) := setC flatA S8_9.out hc 5 _ (fun b o s e => by cases e; omega)
              clear HC9 HQ9 HZ9 hB9 S5_9 S6_9 S7_9 S8_9
              generalize (w9.setCell ⟨hc, 5, none⟩ (.slice (some ⟨n5, 0, none⟩) q.wants.length s5)) = w10 at *
              have HTS := Hid.intro HZ10.out.there
              obtain ⟨wf, HEF⟩ : ∃ wf, Hid (wf = w10.setCells (w.heap.size + 2) 0 [.string x.name, .bool x.up, .int .i64 x.clock, .bool true, .int .i64 q.seen, .slice (some ⟨n5, 0, none⟩) q.wants.length s5, .slice (some ⟨b6, 0, none⟩) x.runs.length q6, .slice (some ⟨b7, 0, none⟩) x.asks.length q7, .slice (some ⟨b8, 0, none⟩) x.gives.length q8]) := ⟨_, rfl⟩
              have HRf : Hid (wf.rangeAt (w.heap.size + 2) 0 [.string x.name, .bool x.up, .int .i64 x.clock, .bool true, .int .i64 q.seen, .slice (some ⟨n5, 0, none⟩) q.wants.length s5, .slice (some ⟨b6, 0, none⟩) x.runs.length q6, .slice (some ⟨b7, 0, none⟩) x.asks.length q7, .slice (some ⟨b8, 0, none⟩) x.gives.length q8]) := by
                show World.rangeAt _ _ _ _
                rw [HEF.out]
                exact World.rangeAt_setCells_same _ _ _ _ HTS.out
              have hBf : Below w.heap.size w wf := by
                rw [HEF.out]
                exact below_setCells (by omega) _ _ _ hB10
              have F5 : Hid (SliceC WntC 7 w.heap.size wf (some ⟨n5, 0, none⟩) q.wants) := by
                show SliceC _ _ _ _ _ _
                rw [HEF.out]
                exact S5_10.out.keep WntC.holds (Keeps.setCells (show w.heap.size + 2 < h8 by omega) _ _ _) (by omega)
              have F6 : Hid (SliceC RnC 11 w.heap.size wf (some ⟨b6, 0, none⟩) x.runs) := by
                show SliceC _ _ _ _ _ _
                rw [HEF.out]
                exact S6_10.out.keep RnC.holds (Keeps.setCells (show w.heap.size + 2 < g5 by omega) _ _ _) (by omega)
              have F7 : Hid (SliceC AksC 4 w.heap.size wf (some ⟨b7, 0, none⟩) x.asks) := by
                show SliceC _ _ _ _ _ _
                rw [HEF.out]
                exact S7_10.out.keep AksC.holds (Keeps.setCells (show w.heap.size + 2 < g6 by omega) _ _ _) (by omega)
              have F8 : Hid (SliceC AksC 4 w.heap.size wf (some ⟨b8, 0, none⟩) x.gives) := by
                show SliceC _ _ _ _ _ _
                rw [HEF.out]
                exact S8_10.out.keep AksC.holds (Keeps.setCells (show w.heap.size + 2 < g7 by omega) _ _ _) (by omega)
              go_wp2_with (first | (refine wpList_load_mid rfl 35 _ rfl hc 0 (by first | rfl | (simp [go_sem]; done)) [.string x.name, .bool x.up, .int .i64 x.clock, .bool true, .int .i64 q.seen, .slice (some ⟨n5, 0, none⟩) q.wants.length s5, .slice (some ⟨b6, 0, none⟩) x.runs.length q6, .slice (some ⟨b7, 0, none⟩) x.asks.length q7, .slice (some ⟨b8, 0, none⟩) x.gives.length q8] _ HC10.out.rangeA Tryz.underlying35 rfl isz_Mte ?_) | (refine wpList_store_to rfl 35 _ _ rfl (w.heap.size + 2) 0 #[.string x.name, .bool x.up, .int .i64 x.clock, .bool true, .int .i64 q.seen, .slice (some ⟨n5, 0, none⟩) q.wants.length s5, .slice (some ⟨b6, 0, none⟩) x.runs.length q6, .slice (some ⟨b7, 0, none⟩) x.asks.length q7, .slice (some ⟨b8, 0, none⟩) x.gives.length q8] (by first | rfl | (simp [go_sem]; done)) rfl HTS.out isz_Mte (by simp [Value.oneCell']) wf HEF.out ?_))
              exact bodyPost_ret (results_cell_mid rfl _ _ (w.heap.size + 2) [.string x.name, .bool x.up, .int .i64 x.clock, .bool true, .int .i64 q.seen, .slice (some ⟨n5, 0, none⟩) q.wants.length s5, .slice (some ⟨b6, 0, none⟩) x.runs.length q6, .slice (some ⟨b7, 0, none⟩) x.asks.length q7, .slice (some ⟨b8, 0, none⟩) x.gives.length q8] _ rfl HRf.out Tryz.underlying35 rfl isz_Mte) rfl ⟨{ x with known := true, seen := q.seen, wants := q.wants }, _, _, _, _, _, _, _, _, HY.out, rfl, F5.out, F6.out, F7.out, F8.out, hBf⟩
            · have HXE : Hid (x = takeM x q) := by show _ = _; rw [HTP.out]; unfold hearM newerB; rw [hk, decide_eq_false hs]; rfl
              have hs1 : q.seen ≤ x.seen := by omega
              rw [hk] at k3
              clear hk hs
              go_upto_region 26 with fail
              have HTS := Hid.intro HZ6.out.there
              obtain ⟨wf, HEF⟩ : ∃ wf, Hid (wf = v1.setCells (w.heap.size + 2) 0 [.string x.name, .bool x.up, .int .i64 x.clock, .bool x.known, .int .i64 x.seen, .slice (some ⟨b5, 0, none⟩) x.wants.length q5, .slice (some ⟨b6, 0, none⟩) x.runs.length q6, .slice (some ⟨b7, 0, none⟩) x.asks.length q7, .slice (some ⟨b8, 0, none⟩) x.gives.length q8]) := ⟨_, rfl⟩
              have HRf : Hid (wf.rangeAt (w.heap.size + 2) 0 [.string x.name, .bool x.up, .int .i64 x.clock, .bool x.known, .int .i64 x.seen, .slice (some ⟨b5, 0, none⟩) x.wants.length q5, .slice (some ⟨b6, 0, none⟩) x.runs.length q6, .slice (some ⟨b7, 0, none⟩) x.asks.length q7, .slice (some ⟨b8, 0, none⟩) x.gives.length q8]) := by
                show World.rangeAt _ _ _ _
                rw [HEF.out]
                exact World.rangeAt_setCells_same _ _ _ _ HTS.out
              have hBf : Below w.heap.size w wf := by
                rw [HEF.out]
                exact below_setCells (by omega) _ _ _ hB6
              have F5 : Hid (SliceC WntC 7 w.heap.size wf (some ⟨b5, 0, none⟩) x.wants) := by
                show SliceC _ _ _ _ _ _
                rw [HEF.out]
                exact S5_6.out.keep WntC.holds (Keeps.setCells (show w.heap.size + 2 < w3.heap.size by omega) _ _ _) (by omega)
              have F6 : Hid (SliceC RnC 11 w.heap.size wf (some ⟨b6, 0, none⟩) x.runs) := by
                show SliceC _ _ _ _ _ _
                rw [HEF.out]
                exact S6_6.out.keep RnC.holds (Keeps.setCells (show w.heap.size + 2 < g5 by omega) _ _ _) (by omega)
              have F7 : Hid (SliceC AksC 4 w.heap.size wf (some ⟨b7, 0, none⟩) x.asks) := by
                show SliceC _ _ _ _ _ _
                rw [HEF.out]
                exact S7_6.out.keep AksC.holds (Keeps.setCells (show w.heap.size + 2 < g6 by omega) _ _ _) (by omega)
              have F8 : Hid (SliceC AksC 4 w.heap.size wf (some ⟨b8, 0, none⟩) x.gives) := by
                show SliceC _ _ _ _ _ _
                rw [HEF.out]
                exact S8_6.out.keep AksC.holds (Keeps.setCells (show w.heap.size + 2 < g7 by omega) _ _ _) (by omega)
              go_wp2_with (first | (refine wpList_load_mid rfl 35 _ rfl hc 0 (by first | rfl | (simp [go_sem]; done)) [.string x.name, .bool x.up, .int .i64 x.clock, .bool x.known, .int .i64 x.seen, .slice (some ⟨b5, 0, none⟩) x.wants.length q5, .slice (some ⟨b6, 0, none⟩) x.runs.length q6, .slice (some ⟨b7, 0, none⟩) x.asks.length q7, .slice (some ⟨b8, 0, none⟩) x.gives.length q8] _ HC6.out.rangeA Tryz.underlying35 rfl isz_Mte ?_) | (refine wpList_store_to rfl 35 _ _ rfl (w.heap.size + 2) 0 #[.string x.name, .bool x.up, .int .i64 x.clock, .bool x.known, .int .i64 x.seen, .slice (some ⟨b5, 0, none⟩) x.wants.length q5, .slice (some ⟨b6, 0, none⟩) x.runs.length q6, .slice (some ⟨b7, 0, none⟩) x.asks.length q7, .slice (some ⟨b8, 0, none⟩) x.gives.length q8] (by first | rfl | (simp [go_sem]; done)) rfl HTS.out isz_Mte (by simp [Value.oneCell']) wf HEF.out ?_))
              exact bodyPost_ret (results_cell_mid rfl _ _ (w.heap.size + 2) [.string x.name, .bool x.up, .int .i64 x.clock, .bool x.known, .int .i64 x.seen, .slice (some ⟨b5, 0, none⟩) x.wants.length q5, .slice (some ⟨b6, 0, none⟩) x.runs.length q6, .slice (some ⟨b7, 0, none⟩) x.asks.length q7, .slice (some ⟨b8, 0, none⟩) x.gives.length q8] _ rfl HRf.out Tryz.underlying35 rfl isz_Mte) rfl ⟨x, _, _, _, _, _, _, _, _, HXE.out, rfl, F5.out, F6.out, F7.out, F8.out, hBf⟩
    have b1 : (q.kind == 1) = false := by simp [h1]
    by_cases h3 : q.kind = 3
    case pos =>
      have b3x : (q.kind == 3) = true := by simp [h3]
      have HTP : Hid (takeM x q = leaseM x q) := by show _ = _; rw [HTM.out]; unfold takeP; rw [if_neg h1, if_pos h3]
      clear h1 h3
      have k7 : w5.cell? ⟨w.heap.size, 7, none⟩ = some (.slice a7 x.asks.length c7) := HX5.out.cell rfl
      have e4 : w5.cell? ⟨w.heap.size + 1, 4, none⟩ = some (.string q.hold) := HQ5.out.cell rfl
      go_wp2_with fail
      refine (ask13_any q.hold x.asks a7 c7 lo _ (HI.out.s7.below AksC.holds hB5 (Nat.le_refl _)) HM.out.l7).mono ?_
      rintro e w6 ⟨rfl, hb6⟩
      have HX6 := Hid.intro (HX5.out.below hb6 HX5.out.lt)
      have HQ6 := Hid.intro (HQ5.out.below hb6 HQ5.out.lt)
      have HZ6 := Hid.intro (HZ5.out.below hb6 HZ5.out.lt)
      have HC6 := Hid.intro (HC5.out.below hb6 HC5.out.lt)
      have hB6 := hB5.trans (hb6.mono hB5.size)
      have S5_6 := Hid.intro (S5_5.out.below WntC.holds hb6 (Nat.le_refl _))
      have S6_6 := Hid.intro (S6_5.out.below RnC.holds hb6 (Nat.le_refl _))
      have S7_6 := Hid.intro (S7_5.out.below AksC.holds hb6 (Nat.le_refl _))
      have S8_6 := Hid.intro (S8_5.out.below AksC.holds hb6 (Nat.le_refl _))
      clear hb6 HX5 HQ5 HZ5 HC5 hB5 S5_5 S6_5 S7_5 S8_5
      clear k0 k1 k7 e0 e1 e4
      cases hq : akI q.hold x.asks with
      | none =>
        have HXE : Hid (x = takeM x q) := by show _ = _; rw [HTP.out]; unfold leaseM; rw [show okAsk x q = false by unfold okAsk; rw [ak_none hq]]; rfl
        clear hq
        rw [show akN none = (-1 : Int) from rfl]
        go_upto_region 14 with fail
        refine wp_region_held_drew (S := fun wy => Blk w.heap.size #[.string x.name, .bool x.up, .int .i64 x.clock, .bool x.known, .int .i64 x.seen, .slice a5 x.wants.length c5, .slice a6 x.runs.length c6, .slice a7 x.asks.length c7, .slice a8 x.gives.length c8] 35 wy ∧ Blk (w.heap.size + 1) #[.int .i64 q.kind, .string q.berth, .int .i64 q.seen, .slice b3 q.wants.length d3, .string q.hold, .string q.copy, .int .i64 q.at_] 39 wy) (by kernel_rfl) ⟨HX6.out.drew, HQ6.out.drew⟩ (fun hS => ?_)
        have hb7 : Below w6.heap.size w6 w6.drew := (Below.refl _ _).drew
        have HX7 := Hid.intro (HX6.out.below hb7 HX6.out.lt)
        have HQ7 := Hid.intro (HQ6.out.below hb7 HQ6.out.lt)
        have HZ7 := Hid.intro (HZ6.out.below hb7 HZ6.out.lt)
        have HC7 := Hid.intro (HC6.out.below hb7 HC6.out.lt)
        have hB7 := hB6.trans (hb7.mono hB6.size)
        have S5_7 := Hid.intro (S5_6.out.below WntC.holds hb7 (Nat.le_refl _))
        have S6_7 := Hid.intro (S6_6.out.below RnC.holds hb7 (Nat.le_refl _))
        have S7_7 := Hid.intro (S7_6.out.below AksC.holds hb7 (Nat.le_refl _))
        have S8_7 := Hid.intro (S8_6.out.below AksC.holds hb7 (Nat.le_refl _))
        clear hb7 HX6 HQ6 HZ6 HC6 hB6 S5_6 S6_6 S7_6 S8_6
        generalize w6.drew = w7 at *
        refine wpAnyH_take (i := 0) (oi := ⟨some 67, _, _, _, _, none⟩) (v := .int .i64 (-1)) rfl (by kernel_rfl) (by kernel_rfl) (by kernel_rfl) (fun _ _ _ h => h) (Or.inl ⟨by rfl, ?_⟩) hS ?_
        · intro wy hy
          clear hy
          go_simp
        simp only [Act.put, List.setIfInBounds_toArray, List.set_cons_zero, List.set_cons_succ]
        refine wpAnyH_take (i := 1) (oi := ⟨some 68, _, _, _, _, none⟩) (v := .bool true) rfl (by kernel_rfl) (by kernel_rfl) (by kernel_rfl) (fun _ _ _ h => h) (Or.inl ⟨by rfl, ?_⟩) hS ?_
        · intro wy hy
          clear hy
          first | (go_simp; done) | (go_simp; omega)
        simp only [Act.put, List.setIfInBounds_toArray, List.set_cons_zero, List.set_cons_succ]
        refine wpAnyH_take (i := 2) (oi := ⟨some 69, _, _, _, _, none⟩) (v := .bool true) rfl (by kernel_rfl) (by kernel_rfl) (by kernel_rfl) (fun _ _ _ h => h) (Or.inl ⟨by rfl, ?_⟩) hS ?_
        · intro wy hy
          clear hy
          go_simp
        simp only [Act.put, List.setIfInBounds_toArray, List.set_cons_zero, List.set_cons_succ]
        refine wpAnyH_take (i := 3) (oi := ⟨some 70, _, _, _, _, some (2, false)⟩) (v := undef) rfl (by kernel_rfl) (by kernel_rfl) (by kernel_rfl) (fun _ _ _ h => h) (Or.inr ⟨by rfl, rfl⟩) hS ?_
        simp only [Act.put, List.setIfInBounds_toArray, List.set_cons_zero, List.set_cons_succ]
        refine wpAnyH_take (i := 4) (oi := ⟨some 71, _, _, _, _, some (2, false)⟩) (v := undef) rfl (by kernel_rfl) (by kernel_rfl) (by kernel_rfl) (fun _ _ _ h => h) (Or.inr ⟨by rfl, rfl⟩) hS ?_
        simp only [Act.put, List.setIfInBounds_toArray, List.set_cons_zero, List.set_cons_succ]
        refine wpAnyH_take (i := 5) (oi := ⟨some 72, _, _, _, _, some (2, false)⟩) (v := undef) rfl (by kernel_rfl) (by kernel_rfl) (by kernel_rfl) (fun _ _ _ h => h) (Or.inr ⟨by rfl, rfl⟩) hS ?_
        simp only [Act.put, List.setIfInBounds_toArray, List.set_cons_zero, List.set_cons_succ]
        refine wpAnyH_take (i := 6) (oi := ⟨some 73, _, _, _, _, some (2, false)⟩) (v := undef) rfl (by kernel_rfl) (by kernel_rfl) (by kernel_rfl) (fun _ _ _ h => h) (Or.inr ⟨by rfl, rfl⟩) hS ?_
        simp only [Act.put, List.setIfInBounds_toArray, List.set_cons_zero, List.set_cons_succ]
        refine wpAnyH_take (i := 7) (oi := ⟨some 74, _, _, _, _, some (2, false)⟩) (v := undef) rfl (by kernel_rfl) (by kernel_rfl) (by kernel_rfl) (fun _ _ _ h => h) (Or.inr ⟨by rfl, rfl⟩) hS ?_
        simp only [Act.put, List.setIfInBounds_toArray, List.set_cons_zero, List.set_cons_succ]
        refine wpAnyH_take (i := 8) (oi := ⟨some 75, _, _, _, _, some (2, false)⟩) (v := undef) rfl (by kernel_rfl) (by kernel_rfl) (by kernel_rfl) (fun _ _ _ h => h) (Or.inr ⟨by rfl, rfl⟩) hS ?_
        simp only [Act.put, List.setIfInBounds_toArray, List.set_cons_zero, List.set_cons_succ]
        refine wpAnyH_take (i := 9) (oi := ⟨some 76, _, _, _, _, some (2, false)⟩) (v := undef) rfl (by kernel_rfl) (by kernel_rfl) (by kernel_rfl) (fun _ _ _ h => h) (Or.inr ⟨by rfl, rfl⟩) hS ?_
        simp only [Act.put, List.setIfInBounds_toArray, List.set_cons_zero, List.set_cons_succ]
        refine wpAnyH_take (i := 10) (oi := ⟨some 77, _, _, _, _, some (2, false)⟩) (v := undef) rfl (by kernel_rfl) (by kernel_rfl) (by kernel_rfl) (fun _ _ _ h => h) (Or.inr ⟨by rfl, rfl⟩) hS ?_
        simp only [Act.put, List.setIfInBounds_toArray, List.set_cons_zero, List.set_cons_succ]
        refine wpAnyH_take (i := 11) (oi := ⟨some 78, _, _, _, _, some (2, false)⟩) (v := undef) rfl (by kernel_rfl) (by kernel_rfl) (by kernel_rfl) (fun _ _ _ h => h) (Or.inr ⟨by rfl, rfl⟩) hS ?_
        simp only [Act.put, List.setIfInBounds_toArray, List.set_cons_zero, List.set_cons_succ]
        refine wpAnyH_take (i := 12) (oi := ⟨some 79, _, _, _, _, none⟩) (v := .bool true) rfl (by kernel_rfl) (by kernel_rfl) (by kernel_rfl) (fun _ _ _ h => h) (Or.inl ⟨by rfl, ?_⟩) hS ?_
        · intro wy hy
          clear hy
          go_simp
        simp only [Act.put, List.setIfInBounds_toArray, List.set_cons_zero, List.set_cons_succ]
        refine wpAnyH_take (i := 13) (oi := ⟨some 80, _, _, _, _, none⟩) (v := .bool true) rfl (by kernel_rfl) (by kernel_rfl) (by kernel_rfl) (fun _ _ _ h => h) (Or.inl ⟨by rfl, ?_⟩) hS ?_
        · intro wy hy
          clear hy
          go_simp
        simp only [Act.put, List.setIfInBounds_toArray, List.set_cons_zero, List.set_cons_succ]
        refine wpAnyH_take (i := 14) (oi := ⟨some 81, _, _, _, _, some (13, false)⟩) (v := undef) rfl (by kernel_rfl) (by kernel_rfl) (by kernel_rfl) (fun _ _ _ h => h) (Or.inr ⟨by rfl, rfl⟩) hS ?_
        simp only [Act.put, List.setIfInBounds_toArray, List.set_cons_zero, List.set_cons_succ]
        refine wpAnyH_take (i := 15) (oi := ⟨some 82, _, _, _, _, some (13, false)⟩) (v := undef) rfl (by kernel_rfl) (by kernel_rfl) (by kernel_rfl) (fun _ _ _ h => h) (Or.inr ⟨by rfl, rfl⟩) hS ?_
        simp only [Act.put, List.setIfInBounds_toArray, List.set_cons_zero, List.set_cons_succ]
        refine wpAnyH_take (i := 16) (oi := ⟨some 83, _, _, _, _, some (13, false)⟩) (v := undef) rfl (by kernel_rfl) (by kernel_rfl) (by kernel_rfl) (fun _ _ _ h => h) (Or.inr ⟨by rfl, rfl⟩) hS ?_
        simp only [Act.put, List.setIfInBounds_toArray, List.set_cons_zero, List.set_cons_succ]
        refine wpAnyH_take (i := 17) (oi := ⟨some 84, _, _, _, _, some (13, false)⟩) (v := undef) rfl (by kernel_rfl) (by kernel_rfl) (by kernel_rfl) (fun _ _ _ h => h) (Or.inr ⟨by rfl, rfl⟩) hS ?_
        simp only [Act.put, List.setIfInBounds_toArray, List.set_cons_zero, List.set_cons_succ]
        refine wpAnyH_take (i := 18) (oi := ⟨some 85, _, _, _, _, some (13, false)⟩) (v := undef) rfl (by kernel_rfl) (by kernel_rfl) (by kernel_rfl) (fun _ _ _ h => h) (Or.inr ⟨by rfl, rfl⟩) hS ?_
        simp only [Act.put, List.setIfInBounds_toArray, List.set_cons_zero, List.set_cons_succ]
        refine wpAnyH_take (i := 19) (oi := ⟨some 86, _, _, _, _, some (13, false)⟩) (v := undef) rfl (by kernel_rfl) (by kernel_rfl) (by kernel_rfl) (fun _ _ _ h => h) (Or.inr ⟨by rfl, rfl⟩) hS ?_
        simp only [Act.put, List.setIfInBounds_toArray, List.set_cons_zero, List.set_cons_succ]
        refine wpAnyH_take (i := 20) (oi := ⟨some 87, _, _, _, _, some (13, false)⟩) (v := undef) rfl (by kernel_rfl) (by kernel_rfl) (by kernel_rfl) (fun _ _ _ h => h) (Or.inr ⟨by rfl, rfl⟩) hS ?_
        simp only [Act.put, List.setIfInBounds_toArray, List.set_cons_zero, List.set_cons_succ]
        refine wpAnyH_take (i := 21) (oi := ⟨some 88, _, _, _, _, some (13, false)⟩) (v := undef) rfl (by kernel_rfl) (by kernel_rfl) (by kernel_rfl) (fun _ _ _ h => h) (Or.inr ⟨by rfl, rfl⟩) hS ?_
        simp only [Act.put, List.setIfInBounds_toArray, List.set_cons_zero, List.set_cons_succ]
        refine wpAnyH_take (i := 22) (oi := ⟨some 89, _, _, _, _, some (13, false)⟩) (v := undef) rfl (by kernel_rfl) (by kernel_rfl) (by kernel_rfl) (fun _ _ _ h => h) (Or.inr ⟨by rfl, rfl⟩) hS ?_
        simp only [Act.put, List.setIfInBounds_toArray, List.set_cons_zero, List.set_cons_succ]
        refine wpAnyH_take (i := 23) (oi := ⟨some 90, _, _, _, _, some (13, false)⟩) (v := undef) rfl (by kernel_rfl) (by kernel_rfl) (by kernel_rfl) (fun _ _ _ h => h) (Or.inr ⟨by rfl, rfl⟩) hS ?_
        simp only [Act.put, List.setIfInBounds_toArray, List.set_cons_zero, List.set_cons_succ]
        refine wpAnyH_take (i := 24) (oi := ⟨some 91, _, _, _, _, some (13, false)⟩) (v := undef) rfl (by kernel_rfl) (by kernel_rfl) (by kernel_rfl) (fun _ _ _ h => h) (Or.inr ⟨by rfl, rfl⟩) hS ?_
        simp only [Act.put, List.setIfInBounds_toArray, List.set_cons_zero, List.set_cons_succ]
        refine wpAnyH_take (i := 25) (oi := ⟨some 92, _, _, _, _, some (13, false)⟩) (v := undef) rfl (by kernel_rfl) (by kernel_rfl) (by kernel_rfl) (fun _ _ _ h => h) (Or.inr ⟨by rfl, rfl⟩) hS ?_
        simp only [Act.put, List.setIfInBounds_toArray, List.set_cons_zero, List.set_cons_succ]
        refine wpAnyH_take (i := 26) (oi := ⟨some 93, _, _, _, _, some (13, false)⟩) (v := undef) rfl (by kernel_rfl) (by kernel_rfl) (by kernel_rfl) (fun _ _ _ h => h) (Or.inr ⟨by rfl, rfl⟩) hS ?_
        simp only [Act.put, List.setIfInBounds_toArray, List.set_cons_zero, List.set_cons_succ]
        refine wpAnyH_take (i := 27) (oi := ⟨some 94, _, _, _, _, some (13, false)⟩) (v := undef) rfl (by kernel_rfl) (by kernel_rfl) (by kernel_rfl) (fun _ _ _ h => h) (Or.inr ⟨by rfl, rfl⟩) hS ?_
        simp only [Act.put, List.setIfInBounds_toArray, List.set_cons_zero, List.set_cons_succ]
        refine wpAnyH_take (i := 28) (oi := ⟨some 95, _, _, _, _, some (13, false)⟩) (v := undef) rfl (by kernel_rfl) (by kernel_rfl) (by kernel_rfl) (fun _ _ _ h => h) (Or.inr ⟨by rfl, rfl⟩) hS ?_
        simp only [Act.put, List.setIfInBounds_toArray, List.set_cons_zero, List.set_cons_succ]
        refine wpAnyH_take (i := 29) (oi := ⟨some 96, _, _, _, _, some (13, false)⟩) (v := undef) rfl (by kernel_rfl) (by kernel_rfl) (by kernel_rfl) (fun _ _ _ h => h) (Or.inr ⟨by rfl, rfl⟩) hS ?_
        simp only [Act.put, List.setIfInBounds_toArray, List.set_cons_zero, List.set_cons_succ]
        refine wpAnyH_take (i := 30) (oi := ⟨some 97, _, _, _, _, none⟩) (v := .bool true) rfl (by kernel_rfl) (by kernel_rfl) (by kernel_rfl) (fun _ _ _ h => h) (Or.inl ⟨by rfl, ?_⟩) hS ?_
        · intro wy hy
          clear hy
          go_simp
        simp only [Act.put, List.setIfInBounds_toArray, List.set_cons_zero, List.set_cons_succ]
        refine wpAnyH_done (by kernel_rfl) ?_ _
        clear hS
        have HTS := Hid.intro HZ7.out.there
        obtain ⟨wf, HEF⟩ : ∃ wf, Hid (wf = w7.setCells (w.heap.size + 2) 0 [.string x.name, .bool x.up, .int .i64 x.clock, .bool x.known, .int .i64 x.seen, .slice (some ⟨b5, 0, none⟩) x.wants.length q5, .slice (some ⟨b6, 0, none⟩) x.runs.length q6, .slice (some ⟨b7, 0, none⟩) x.asks.length q7, .slice (some ⟨b8, 0, none⟩) x.gives.length q8]) := ⟨_, rfl⟩
        have HRf : Hid (wf.rangeAt (w.heap.size + 2) 0 [.string x.name, .bool x.up, .int .i64 x.clock, .bool x.known, .int .i64 x.seen, .slice (some ⟨b5, 0, none⟩) x.wants.length q5, .slice (some ⟨b6, 0, none⟩) x.runs.length q6, .slice (some ⟨b7, 0, none⟩) x.asks.length q7, .slice (some ⟨b8, 0, none⟩) x.gives.length q8]) := by
          show World.rangeAt _ _ _ _
          rw [HEF.out]
          exact World.rangeAt_setCells_same _ _ _ _ HTS.out
        have hBf : Below w.heap.size w wf := by
          rw [HEF.out]
          exact below_setCells (by omega) _ _ _ hB7
        have F5 : Hid (SliceC WntC 7 w.heap.size wf (some ⟨b5, 0, none⟩) x.wants) := by
          show SliceC _ _ _ _ _ _
          rw [HEF.out]
          exact S5_7.out.keep WntC.holds (Keeps.setCells (show w.heap.size + 2 < w3.heap.size by omega) _ _ _) (by omega)
        have F6 : Hid (SliceC RnC 11 w.heap.size wf (some ⟨b6, 0, none⟩) x.runs) := by
          show SliceC _ _ _ _ _ _
          rw [HEF.out]
          exact S6_7.out.keep RnC.holds (Keeps.setCells (show w.heap.size + 2 < g5 by omega) _ _ _) (by omega)
        have F7 : Hid (SliceC AksC 4 w.heap.size wf (some ⟨b7, 0, none⟩) x.asks) := by
          show SliceC _ _ _ _ _ _
          rw [HEF.out]
          exact S7_7.out.keep AksC.holds (Keeps.setCells (show w.heap.size + 2 < g6 by omega) _ _ _) (by omega)
        have F8 : Hid (SliceC AksC 4 w.heap.size wf (some ⟨b8, 0, none⟩) x.gives) := by
          show SliceC _ _ _ _ _ _
          rw [HEF.out]
          exact S8_7.out.keep AksC.holds (Keeps.setCells (show w.heap.size + 2 < g7 by omega) _ _ _) (by omega)
        go_wp2_with (first | (refine wpList_load_mid rfl 35 _ rfl hc 0 (by first | rfl | (simp [go_sem]; done)) [.string x.name, .bool x.up, .int .i64 x.clock, .bool x.known, .int .i64 x.seen, .slice (some ⟨b5, 0, none⟩) x.wants.length q5, .slice (some ⟨b6, 0, none⟩) x.runs.length q6, .slice (some ⟨b7, 0, none⟩) x.asks.length q7, .slice (some ⟨b8, 0, none⟩) x.gives.length q8] _ HC7.out.rangeA Tryz.underlying35 rfl isz_Mte ?_) | (refine wpList_store_to rfl 35 _ _ rfl (w.heap.size + 2) 0 #[.string x.name, .bool x.up, .int .i64 x.clock, .bool x.known, .int .i64 x.seen, .slice (some ⟨b5, 0, none⟩) x.wants.length q5, .slice (some ⟨b6, 0, none⟩) x.runs.length q6, .slice (some ⟨b7, 0, none⟩) x.asks.length q7, .slice (some ⟨b8, 0, none⟩) x.gives.length q8] (by first | rfl | (simp [go_sem]; done)) rfl HTS.out isz_Mte (by simp [Value.oneCell']) wf HEF.out ?_))
        exact bodyPost_ret (results_cell_mid rfl _ _ (w.heap.size + 2) [.string x.name, .bool x.up, .int .i64 x.clock, .bool x.known, .int .i64 x.seen, .slice (some ⟨b5, 0, none⟩) x.wants.length q5, .slice (some ⟨b6, 0, none⟩) x.runs.length q6, .slice (some ⟨b7, 0, none⟩) x.asks.length q7, .slice (some ⟨b8, 0, none⟩) x.gives.length q8] _ rfl HRf.out Tryz.underlying35 rfl isz_Mte) rfl ⟨x, _, _, _, _, _, _, _, _, HXE.out, rfl, F5.out, F6.out, F7.out, F8.out, hBf⟩
      | some j =>
        rw [show akN (some j) = (j : Int) from rfl]
        obtain ⟨a, haj, haf⟩ := ak_some hq
        have hjl : (j : Int) < (x.asks.length : Int) := by have := lt_of_some haj; omega
        have hla := HM.out.l7
        obtain ⟨ba, oa, ea, _, hba, hca⟩ := (HI.out.s7.below AksC.holds hB6 (Nat.le_refl _)).at haj
        subst ea
        have HRA := Hid.intro (aks_range hca)
        have HAF := Hid.intro haf
        clear hq haj haf hca
        by_cases hc : a.copy = q.copy
        case neg =>
          have HXE : Hid (x = takeM x q) := by show _ = _; rw [HTP.out]; unfold leaseM; rw [show okAsk x q = false by unfold okAsk; rw [HAF.out]; simp [hc]]; rfl
          have hc2 : (a.copy.toList == q.copy.toList) = false := bt_ne hc
          clear hc
          go_upto_region 14 with fail
          refine wp_region_held_drew (S := fun wy => Blk w.heap.size #[.string x.name, .bool x.up, .int .i64 x.clock, .bool x.known, .int .i64 x.seen, .slice a5 x.wants.length c5, .slice a6 x.runs.length c6, .slice (some ⟨ba, oa, none⟩) x.asks.length c7, .slice a8 x.gives.length c8] 35 wy ∧ Blk (w.heap.size + 1) #[.int .i64 q.kind, .string q.berth, .int .i64 q.seen, .slice b3 q.wants.length d3, .string q.hold, .string q.copy, .int .i64 q.at_] 39 wy ∧ wy.rangeAt ba (oa + j * 4) [.string a.hold, .string a.copy, .int .i64 a.first, .int .i64 a.at_]) (by kernel_rfl) ⟨HX6.out.drew, HQ6.out.drew, range_drew HRA.out⟩ (fun hS => ?_)
          have hb7 : Below w6.heap.size w6 w6.drew := (Below.refl _ _).drew
          have HX7 := Hid.intro (HX6.out.below hb7 HX6.out.lt)
          have HQ7 := Hid.intro (HQ6.out.below hb7 HQ6.out.lt)
          have HZ7 := Hid.intro (HZ6.out.below hb7 HZ6.out.lt)
          have HC7 := Hid.intro (HC6.out.below hb7 HC6.out.lt)
          have hB7 := hB6.trans (hb7.mono hB6.size)
          have S5_7 := Hid.intro (S5_6.out.below WntC.holds hb7 (Nat.le_refl _))
          have S6_7 := Hid.intro (S6_6.out.below RnC.holds hb7 (Nat.le_refl _))
          have S7_7 := Hid.intro (S7_6.out.below AksC.holds hb7 (Nat.le_refl _))
          have S8_7 := Hid.intro (S8_6.out.below AksC.holds hb7 (Nat.le_refl _))
          clear hb7 HX6 HQ6 HZ6 HC6 hB6 S5_6 S6_6 S7_6 S8_6
          generalize w6.drew = w7 at *
          refine wpAnyH_take (i := 0) (oi := ⟨some 67, _, _, _, _, none⟩) (v := .int .i64 (j : Int)) rfl (by kernel_rfl) (by kernel_rfl) (by kernel_rfl) (fun _ _ _ h => h) (Or.inl ⟨by rfl, ?_⟩) hS ?_
          · intro wy hy
            clear hy
            go_simp
          simp only [Act.put, List.setIfInBounds_toArray, List.set_cons_zero, List.set_cons_succ]
          refine wpAnyH_take (i := 1) (oi := ⟨some 68, _, _, _, _, none⟩) (v := .bool false) rfl (by kernel_rfl) (by kernel_rfl) (by kernel_rfl) (fun _ _ _ h => h) (Or.inl ⟨by rfl, ?_⟩) hS ?_
          · intro wy hy
            clear hy
            first | (go_simp; done) | (go_simp; omega)
          simp only [Act.put, List.setIfInBounds_toArray, List.set_cons_zero, List.set_cons_succ]
          refine wpAnyH_take (i := 2) (oi := ⟨some 69, _, _, _, _, none⟩) (v := .bool false) rfl (by kernel_rfl) (by kernel_rfl) (by kernel_rfl) (fun _ _ _ h => h) (Or.inl ⟨by rfl, ?_⟩) hS ?_
          · intro wy hy
            clear hy
            go_simp
          simp only [Act.put, List.setIfInBounds_toArray, List.set_cons_zero, List.set_cons_succ]
          refine wpAnyH_take (i := 3) (oi := ⟨some 70, _, _, _, _, some (2, false)⟩) (v := .pointer (some ⟨w.heap.size, 7, none⟩)) rfl (by kernel_rfl) (by kernel_rfl) (by kernel_rfl) (fun _ _ _ h => h) (Or.inl ⟨by rfl, ?_⟩) hS ?_
          · intro wy hy
            clear hy
            go_simp
          simp only [Act.put, List.setIfInBounds_toArray, List.set_cons_zero, List.set_cons_succ]
          refine wpAnyH_take (i := 4) (oi := ⟨some 71, _, _, _, _, some (2, false)⟩) (v := .slice (some ⟨ba, oa, none⟩) x.asks.length c7) rfl (by kernel_rfl) (by kernel_rfl) (by kernel_rfl) (fun _ _ _ h => h) (Or.inl ⟨by rfl, ?_⟩) hS ?_
          · intro wy hy
            have h0 : wy.cell? ⟨w.heap.size, 7, none⟩ = some (.slice (some ⟨ba, oa, none⟩) x.asks.length c7) := hy.1.cell rfl
            clear hy
            go_simp
          simp only [Act.put, List.setIfInBounds_toArray, List.set_cons_zero, List.set_cons_succ]
          refine wpAnyH_take (i := 5) (oi := ⟨some 72, _, _, _, _, some (2, false)⟩) (v := .int .i64 (j : Int)) rfl (by kernel_rfl) (by kernel_rfl) (by kernel_rfl) (fun _ _ _ h => h) (Or.inl ⟨by rfl, ?_⟩) hS ?_
          · intro wy hy
            clear hy
            go_simp
          simp only [Act.put, List.setIfInBounds_toArray, List.set_cons_zero, List.set_cons_succ]
          refine wpAnyH_take (i := 6) (oi := ⟨some 73, _, _, _, _, some (2, false)⟩) (v := .pointer (some ⟨ba, oa + j * 4, none⟩)) rfl (by kernel_rfl) (by kernel_rfl) (by kernel_rfl) (fun _ _ _ h => h) (Or.inl ⟨by rfl, ?_⟩) hS ?_
          · intro wy hy
            clear hy
            first | (go_simp; done) | (go_simp; intro hh; omega)
          simp only [Act.put, List.setIfInBounds_toArray, List.set_cons_zero, List.set_cons_succ]
          refine wpAnyH_take (i := 7) (oi := ⟨some 74, _, _, _, _, some (2, false)⟩) (v := .pointer (some ⟨ba, oa + j * 4 + 1, none⟩)) rfl (by kernel_rfl) (by kernel_rfl) (by kernel_rfl) (fun _ _ _ h => h) (Or.inl ⟨by rfl, ?_⟩) hS ?_
          · intro wy hy
            clear hy
            go_simp
          simp only [Act.put, List.setIfInBounds_toArray, List.set_cons_zero, List.set_cons_succ]
          refine wpAnyH_take (i := 8) (oi := ⟨some 75, _, _, _, _, some (2, false)⟩) (v := .string a.copy) rfl (by kernel_rfl) (by kernel_rfl) (by kernel_rfl) (fun _ _ _ h => h) (Or.inl ⟨by rfl, ?_⟩) hS ?_
          · intro wy hy
            have h0 := hy.2.2 1 _ rfl
            clear hy
            go_simp
          simp only [Act.put, List.setIfInBounds_toArray, List.set_cons_zero, List.set_cons_succ]
          refine wpAnyH_take (i := 9) (oi := ⟨some 76, _, _, _, _, some (2, false)⟩) (v := .pointer (some ⟨w.heap.size + 1, 5, none⟩)) rfl (by kernel_rfl) (by kernel_rfl) (by kernel_rfl) (fun _ _ _ h => h) (Or.inl ⟨by rfl, ?_⟩) hS ?_
          · intro wy hy
            clear hy
            go_simp
          simp only [Act.put, List.setIfInBounds_toArray, List.set_cons_zero, List.set_cons_succ]
          refine wpAnyH_take (i := 10) (oi := ⟨some 77, _, _, _, _, some (2, false)⟩) (v := .string q.copy) rfl (by kernel_rfl) (by kernel_rfl) (by kernel_rfl) (fun _ _ _ h => h) (Or.inl ⟨by rfl, ?_⟩) hS ?_
          · intro wy hy
            have h0 : wy.cell? ⟨w.heap.size + 1, 5, none⟩ = some (.string q.copy) := hy.2.1.cell rfl
            clear hy
            go_simp
          simp only [Act.put, List.setIfInBounds_toArray, List.set_cons_zero, List.set_cons_succ]
          refine wpAnyH_take (i := 11) (oi := ⟨some 78, _, _, _, _, some (2, false)⟩) (v := .bool true) rfl (by kernel_rfl) (by kernel_rfl) (by kernel_rfl) (fun _ _ _ h => h) (Or.inl ⟨by rfl, ?_⟩) hS ?_
          · intro wy hy
            clear hy
            first | (go_simp; done) | (go_simp; simpa using hc2) | (simp [go_sem, hc2]; done)
          simp only [Act.put, List.setIfInBounds_toArray, List.set_cons_zero, List.set_cons_succ]
          refine wpAnyH_take (i := 12) (oi := ⟨some 79, _, _, _, _, none⟩) (v := .bool true) rfl (by kernel_rfl) (by kernel_rfl) (by kernel_rfl) (fun _ _ _ h => h) (Or.inl ⟨by rfl, ?_⟩) hS ?_
          · intro wy hy
            clear hy
            go_simp
          simp only [Act.put, List.setIfInBounds_toArray, List.set_cons_zero, List.set_cons_succ]
          refine wpAnyH_take (i := 13) (oi := ⟨some 80, _, _, _, _, none⟩) (v := .bool true) rfl (by kernel_rfl) (by kernel_rfl) (by kernel_rfl) (fun _ _ _ h => h) (Or.inl ⟨by rfl, ?_⟩) hS ?_
          · intro wy hy
            clear hy
            go_simp
          simp only [Act.put, List.setIfInBounds_toArray, List.set_cons_zero, List.set_cons_succ]
          refine wpAnyH_take (i := 14) (oi := ⟨some 81, _, _, _, _, some (13, false)⟩) (v := undef) rfl (by kernel_rfl) (by kernel_rfl) (by kernel_rfl) (fun _ _ _ h => h) (Or.inr ⟨by rfl, rfl⟩) hS ?_
          simp only [Act.put, List.setIfInBounds_toArray, List.set_cons_zero, List.set_cons_succ]
          refine wpAnyH_take (i := 15) (oi := ⟨some 82, _, _, _, _, some (13, false)⟩) (v := undef) rfl (by kernel_rfl) (by kernel_rfl) (by kernel_rfl) (fun _ _ _ h => h) (Or.inr ⟨by rfl, rfl⟩) hS ?_
          simp only [Act.put, List.setIfInBounds_toArray, List.set_cons_zero, List.set_cons_succ]
          refine wpAnyH_take (i := 16) (oi := ⟨some 83, _, _, _, _, some (13, false)⟩) (v := undef) rfl (by kernel_rfl) (by kernel_rfl) (by kernel_rfl) (fun _ _ _ h => h) (Or.inr ⟨by rfl, rfl⟩) hS ?_
          simp only [Act.put, List.setIfInBounds_toArray, List.set_cons_zero, List.set_cons_succ]
          refine wpAnyH_take (i := 17) (oi := ⟨some 84, _, _, _, _, some (13, false)⟩) (v := undef) rfl (by kernel_rfl) (by kernel_rfl) (by kernel_rfl) (fun _ _ _ h => h) (Or.inr ⟨by rfl, rfl⟩) hS ?_
          simp only [Act.put, List.setIfInBounds_toArray, List.set_cons_zero, List.set_cons_succ]
          refine wpAnyH_take (i := 18) (oi := ⟨some 85, _, _, _, _, some (13, false)⟩) (v := undef) rfl (by kernel_rfl) (by kernel_rfl) (by kernel_rfl) (fun _ _ _ h => h) (Or.inr ⟨by rfl, rfl⟩) hS ?_
          simp only [Act.put, List.setIfInBounds_toArray, List.set_cons_zero, List.set_cons_succ]
          refine wpAnyH_take (i := 19) (oi := ⟨some 86, _, _, _, _, some (13, false)⟩) (v := undef) rfl (by kernel_rfl) (by kernel_rfl) (by kernel_rfl) (fun _ _ _ h => h) (Or.inr ⟨by rfl, rfl⟩) hS ?_
          simp only [Act.put, List.setIfInBounds_toArray, List.set_cons_zero, List.set_cons_succ]
          refine wpAnyH_take (i := 20) (oi := ⟨some 87, _, _, _, _, some (13, false)⟩) (v := undef) rfl (by kernel_rfl) (by kernel_rfl) (by kernel_rfl) (fun _ _ _ h => h) (Or.inr ⟨by rfl, rfl⟩) hS ?_
          simp only [Act.put, List.setIfInBounds_toArray, List.set_cons_zero, List.set_cons_succ]
          refine wpAnyH_take (i := 21) (oi := ⟨some 88, _, _, _, _, some (13, false)⟩) (v := undef) rfl (by kernel_rfl) (by kernel_rfl) (by kernel_rfl) (fun _ _ _ h => h) (Or.inr ⟨by rfl, rfl⟩) hS ?_
          simp only [Act.put, List.setIfInBounds_toArray, List.set_cons_zero, List.set_cons_succ]
          refine wpAnyH_take (i := 22) (oi := ⟨some 89, _, _, _, _, some (13, false)⟩) (v := undef) rfl (by kernel_rfl) (by kernel_rfl) (by kernel_rfl) (fun _ _ _ h => h) (Or.inr ⟨by rfl, rfl⟩) hS ?_
          simp only [Act.put, List.setIfInBounds_toArray, List.set_cons_zero, List.set_cons_succ]
          refine wpAnyH_take (i := 23) (oi := ⟨some 90, _, _, _, _, some (13, false)⟩) (v := undef) rfl (by kernel_rfl) (by kernel_rfl) (by kernel_rfl) (fun _ _ _ h => h) (Or.inr ⟨by rfl, rfl⟩) hS ?_
          simp only [Act.put, List.setIfInBounds_toArray, List.set_cons_zero, List.set_cons_succ]
          refine wpAnyH_take (i := 24) (oi := ⟨some 91, _, _, _, _, some (13, false)⟩) (v := undef) rfl (by kernel_rfl) (by kernel_rfl) (by kernel_rfl) (fun _ _ _ h => h) (Or.inr ⟨by rfl, rfl⟩) hS ?_
          simp only [Act.put, List.setIfInBounds_toArray, List.set_cons_zero, List.set_cons_succ]
          refine wpAnyH_take (i := 25) (oi := ⟨some 92, _, _, _, _, some (13, false)⟩) (v := undef) rfl (by kernel_rfl) (by kernel_rfl) (by kernel_rfl) (fun _ _ _ h => h) (Or.inr ⟨by rfl, rfl⟩) hS ?_
          simp only [Act.put, List.setIfInBounds_toArray, List.set_cons_zero, List.set_cons_succ]
          refine wpAnyH_take (i := 26) (oi := ⟨some 93, _, _, _, _, some (13, false)⟩) (v := undef) rfl (by kernel_rfl) (by kernel_rfl) (by kernel_rfl) (fun _ _ _ h => h) (Or.inr ⟨by rfl, rfl⟩) hS ?_
          simp only [Act.put, List.setIfInBounds_toArray, List.set_cons_zero, List.set_cons_succ]
          refine wpAnyH_take (i := 27) (oi := ⟨some 94, _, _, _, _, some (13, false)⟩) (v := undef) rfl (by kernel_rfl) (by kernel_rfl) (by kernel_rfl) (fun _ _ _ h => h) (Or.inr ⟨by rfl, rfl⟩) hS ?_
          simp only [Act.put, List.setIfInBounds_toArray, List.set_cons_zero, List.set_cons_succ]
          refine wpAnyH_take (i := 28) (oi := ⟨some 95, _, _, _, _, some (13, false)⟩) (v := undef) rfl (by kernel_rfl) (by kernel_rfl) (by kernel_rfl) (fun _ _ _ h => h) (Or.inr ⟨by rfl, rfl⟩) hS ?_
          simp only [Act.put, List.setIfInBounds_toArray, List.set_cons_zero, List.set_cons_succ]
          refine wpAnyH_take (i := 29) (oi := ⟨some 96, _, _, _, _, some (13, false)⟩) (v := undef) rfl (by kernel_rfl) (by kernel_rfl) (by kernel_rfl) (fun _ _ _ h => h) (Or.inr ⟨by rfl, rfl⟩) hS ?_
          simp only [Act.put, List.setIfInBounds_toArray, List.set_cons_zero, List.set_cons_succ]
          refine wpAnyH_take (i := 30) (oi := ⟨some 97, _, _, _, _, none⟩) (v := .bool true) rfl (by kernel_rfl) (by kernel_rfl) (by kernel_rfl) (fun _ _ _ h => h) (Or.inl ⟨by rfl, ?_⟩) hS ?_
          · intro wy hy
            clear hy
            go_simp
          simp only [Act.put, List.setIfInBounds_toArray, List.set_cons_zero, List.set_cons_succ]
          refine wpAnyH_done (by kernel_rfl) ?_ _
          clear hS
          have HTS := Hid.intro HZ7.out.there
          obtain ⟨wf, HEF⟩ : ∃ wf, Hid (wf = w7.setCells (w.heap.size + 2) 0 [.string x.name, .bool x.up, .int .i64 x.clock, .bool x.known, .int .i64 x.seen, .slice (some ⟨b5, 0, none⟩) x.wants.length q5, .slice (some ⟨b6, 0, none⟩) x.runs.length q6, .slice (some ⟨b7, 0, none⟩) x.asks.length q7, .slice (some ⟨b8, 0, none⟩) x.gives.length q8]) := ⟨_, rfl⟩
          have HRf : Hid (wf.rangeAt (w.heap.size + 2) 0 [.string x.name, .bool x.up, .int .i64 x.clock, .bool x.known, .int .i64 x.seen, .slice (some ⟨b5, 0, none⟩) x.wants.length q5, .slice (some ⟨b6, 0, none⟩) x.runs.length q6, .slice (some ⟨b7, 0, none⟩) x.asks.length q7, .slice (some ⟨b8, 0, none⟩) x.gives.length q8]) := by
            show World.rangeAt _ _ _ _
            rw [HEF.out]
            exact World.rangeAt_setCells_same _ _ _ _ HTS.out
          have hBf : Below w.heap.size w wf := by
            rw [HEF.out]
            exact below_setCells (by omega) _ _ _ hB7
          have F5 : Hid (SliceC WntC 7 w.heap.size wf (some ⟨b5, 0, none⟩) x.wants) := by
            show SliceC _ _ _ _ _ _
            rw [HEF.out]
            exact S5_7.out.keep WntC.holds (Keeps.setCells (show w.heap.size + 2 < w3.heap.size by omega) _ _ _) (by omega)
          have F6 : Hid (SliceC RnC 11 w.heap.size wf (some ⟨b6, 0, none⟩) x.runs) := by
            show SliceC _ _ _ _ _ _
            rw [HEF.out]
            exact S6_7.out.keep RnC.holds (Keeps.setCells (show w.heap.size + 2 < g5 by omega) _ _ _) (by omega)
          have F7 : Hid (SliceC AksC 4 w.heap.size wf (some ⟨b7, 0, none⟩) x.asks) := by
            show SliceC _ _ _ _ _ _
            rw [HEF.out]
            exact S7_7.out.keep AksC.holds (Keeps.setCells (show w.heap.size + 2 < g6 by omega) _ _ _) (by omega)
          have F8 : Hid (SliceC AksC 4 w.heap.size wf (some ⟨b8, 0, none⟩) x.gives) := by
            show SliceC _ _ _ _ _ _
            rw [HEF.out]
            exact S8_7.out.keep AksC.holds (Keeps.setCells (show w.heap.size + 2 < g7 by omega) _ _ _) (by omega)
          go_wp2_with (first | (refine wpList_load_mid rfl 35 _ rfl hc 0 (by first | rfl | (simp [go_sem]; done)) [.string x.name, .bool x.up, .int .i64 x.clock, .bool x.known, .int .i64 x.seen, .slice (some ⟨b5, 0, none⟩) x.wants.length q5, .slice (some ⟨b6, 0, none⟩) x.runs.length q6, .slice (some ⟨b7, 0, none⟩) x.asks.length q7, .slice (some ⟨b8, 0, none⟩) x.gives.length q8] _ HC7.out.rangeA Tryz.underlying35 rfl isz_Mte ?_) | (refine wpList_store_to rfl 35 _ _ rfl (w.heap.size + 2) 0 #[.string x.name, .bool x.up, .int .i64 x.clock, .bool x.known, .int .i64 x.seen, .slice (some ⟨b5, 0, none⟩) x.wants.length q5, .slice (some ⟨b6, 0, none⟩) x.runs.length q6, .slice (some ⟨b7, 0, none⟩) x.asks.length q7, .slice (some ⟨b8, 0, none⟩) x.gives.length q8] (by first | rfl | (simp [go_sem]; done)) rfl HTS.out isz_Mte (by simp [Value.oneCell']) wf HEF.out ?_))
          exact bodyPost_ret (results_cell_mid rfl _ _ (w.heap.size + 2) [.string x.name, .bool x.up, .int .i64 x.clock, .bool x.known, .int .i64 x.seen, .slice (some ⟨b5, 0, none⟩) x.wants.length q5, .slice (some ⟨b6, 0, none⟩) x.runs.length q6, .slice (some ⟨b7, 0, none⟩) x.asks.length q7, .slice (some ⟨b8, 0, none⟩) x.gives.length q8] _ rfl HRf.out Tryz.underlying35 rfl isz_Mte) rfl ⟨x, _, _, _, _, _, _, _, _, HXE.out, rfl, F5.out, F6.out, F7.out, F8.out, hBf⟩
        have hc2 : (a.copy.toList == q.copy.toList) = true := by rw [hc]; simp
        cases gi : inR q.at_ a.first a.at_ with
        | false =>
          have HXE : Hid (x = takeM x q) := by show _ = _; rw [HTP.out]; unfold leaseM; rw [show okAsk x q = false by unfold okAsk; rw [HAF.out]; simp [gi]]; rfl
          have GI := Hid.intro gi
          clear hc gi
          go_upto_region 14 with fail
          refine wp_region_held_drew (S := fun wy => Blk w.heap.size #[.string x.name, .bool x.up, .int .i64 x.clock, .bool x.known, .int .i64 x.seen, .slice a5 x.wants.length c5, .slice a6 x.runs.length c6, .slice (some ⟨ba, oa, none⟩) x.asks.length c7, .slice a8 x.gives.length c8] 35 wy ∧ Blk (w.heap.size + 1) #[.int .i64 q.kind, .string q.berth, .int .i64 q.seen, .slice b3 q.wants.length d3, .string q.hold, .string q.copy, .int .i64 q.at_] 39 wy ∧ wy.rangeAt ba (oa + j * 4) [.string a.hold, .string a.copy, .int .i64 a.first, .int .i64 a.at_]) (by kernel_rfl) ⟨HX6.out.drew, HQ6.out.drew, range_drew HRA.out⟩ (fun hS => ?_)
          have hb7 : Below w6.heap.size w6 w6.drew := (Below.refl _ _).drew
          have HX7 := Hid.intro (HX6.out.below hb7 HX6.out.lt)
          have HQ7 := Hid.intro (HQ6.out.below hb7 HQ6.out.lt)
          have HZ7 := Hid.intro (HZ6.out.below hb7 HZ6.out.lt)
          have HC7 := Hid.intro (HC6.out.below hb7 HC6.out.lt)
          have hB7 := hB6.trans (hb7.mono hB6.size)
          have S5_7 := Hid.intro (S5_6.out.below WntC.holds hb7 (Nat.le_refl _))
          have S6_7 := Hid.intro (S6_6.out.below RnC.holds hb7 (Nat.le_refl _))
          have S7_7 := Hid.intro (S7_6.out.below AksC.holds hb7 (Nat.le_refl _))
          have S8_7 := Hid.intro (S8_6.out.below AksC.holds hb7 (Nat.le_refl _))
          clear hb7 HX6 HQ6 HZ6 HC6 hB6 S5_6 S6_6 S7_6 S8_6
          generalize w6.drew = w7 at *
          refine wpAnyH_take (i := 0) (oi := ⟨some 67, _, _, _, _, none⟩) (v := .int .i64 (j : Int)) rfl (by kernel_rfl) (by kernel_rfl) (by kernel_rfl) (fun _ _ _ h => h) (Or.inl ⟨by rfl, ?_⟩) hS ?_
          · intro wy hy
            clear hy
            go_simp
          simp only [Act.put, List.setIfInBounds_toArray, List.set_cons_zero, List.set_cons_succ]
          refine wpAnyH_take (i := 1) (oi := ⟨some 68, _, _, _, _, none⟩) (v := .bool false) rfl (by kernel_rfl) (by kernel_rfl) (by kernel_rfl) (fun _ _ _ h => h) (Or.inl ⟨by rfl, ?_⟩) hS ?_
          · intro wy hy
            clear hy
            first | (go_simp; done) | (go_simp; omega)
          simp only [Act.put, List.setIfInBounds_toArray, List.set_cons_zero, List.set_cons_succ]
          refine wpAnyH_take (i := 2) (oi := ⟨some 69, _, _, _, _, none⟩) (v := .bool false) rfl (by kernel_rfl) (by kernel_rfl) (by kernel_rfl) (fun _ _ _ h => h) (Or.inl ⟨by rfl, ?_⟩) hS ?_
          · intro wy hy
            clear hy
            go_simp
          simp only [Act.put, List.setIfInBounds_toArray, List.set_cons_zero, List.set_cons_succ]
          refine wpAnyH_take (i := 3) (oi := ⟨some 70, _, _, _, _, some (2, false)⟩) (v := .pointer (some ⟨w.heap.size, 7, none⟩)) rfl (by kernel_rfl) (by kernel_rfl) (by kernel_rfl) (fun _ _ _ h => h) (Or.inl ⟨by rfl, ?_⟩) hS ?_
          · intro wy hy
            clear hy
            go_simp
          simp only [Act.put, List.setIfInBounds_toArray, List.set_cons_zero, List.set_cons_succ]
          refine wpAnyH_take (i := 4) (oi := ⟨some 71, _, _, _, _, some (2, false)⟩) (v := .slice (some ⟨ba, oa, none⟩) x.asks.length c7) rfl (by kernel_rfl) (by kernel_rfl) (by kernel_rfl) (fun _ _ _ h => h) (Or.inl ⟨by rfl, ?_⟩) hS ?_
          · intro wy hy
            have h0 : wy.cell? ⟨w.heap.size, 7, none⟩ = some (.slice (some ⟨ba, oa, none⟩) x.asks.length c7) := hy.1.cell rfl
            clear hy
            go_simp
          simp only [Act.put, List.setIfInBounds_toArray, List.set_cons_zero, List.set_cons_succ]
          refine wpAnyH_take (i := 5) (oi := ⟨some 72, _, _, _, _, some (2, false)⟩) (v := .int .i64 (j : Int)) rfl (by kernel_rfl) (by kernel_rfl) (by kernel_rfl) (fun _ _ _ h => h) (Or.inl ⟨by rfl, ?_⟩) hS ?_
          · intro wy hy
            clear hy
            go_simp
          simp only [Act.put, List.setIfInBounds_toArray, List.set_cons_zero, List.set_cons_succ]
          refine wpAnyH_take (i := 6) (oi := ⟨some 73, _, _, _, _, some (2, false)⟩) (v := .pointer (some ⟨ba, oa + j * 4, none⟩)) rfl (by kernel_rfl) (by kernel_rfl) (by kernel_rfl) (fun _ _ _ h => h) (Or.inl ⟨by rfl, ?_⟩) hS ?_
          · intro wy hy
            clear hy
            first | (go_simp; done) | (go_simp; intro hh; omega)
          simp only [Act.put, List.setIfInBounds_toArray, List.set_cons_zero, List.set_cons_succ]
          refine wpAnyH_take (i := 7) (oi := ⟨some 74, _, _, _, _, some (2, false)⟩) (v := .pointer (some ⟨ba, oa + j * 4 + 1, none⟩)) rfl (by kernel_rfl) (by kernel_rfl) (by kernel_rfl) (fun _ _ _ h => h) (Or.inl ⟨by rfl, ?_⟩) hS ?_
          · intro wy hy
            clear hy
            go_simp
          simp only [Act.put, List.setIfInBounds_toArray, List.set_cons_zero, List.set_cons_succ]
          refine wpAnyH_take (i := 8) (oi := ⟨some 75, _, _, _, _, some (2, false)⟩) (v := .string a.copy) rfl (by kernel_rfl) (by kernel_rfl) (by kernel_rfl) (fun _ _ _ h => h) (Or.inl ⟨by rfl, ?_⟩) hS ?_
          · intro wy hy
            have h0 := hy.2.2 1 _ rfl
            clear hy
            go_simp
          simp only [Act.put, List.setIfInBounds_toArray, List.set_cons_zero, List.set_cons_succ]
          refine wpAnyH_take (i := 9) (oi := ⟨some 76, _, _, _, _, some (2, false)⟩) (v := .pointer (some ⟨w.heap.size + 1, 5, none⟩)) rfl (by kernel_rfl) (by kernel_rfl) (by kernel_rfl) (fun _ _ _ h => h) (Or.inl ⟨by rfl, ?_⟩) hS ?_
          · intro wy hy
            clear hy
            go_simp
          simp only [Act.put, List.setIfInBounds_toArray, List.set_cons_zero, List.set_cons_succ]
          refine wpAnyH_take (i := 10) (oi := ⟨some 77, _, _, _, _, some (2, false)⟩) (v := .string q.copy) rfl (by kernel_rfl) (by kernel_rfl) (by kernel_rfl) (fun _ _ _ h => h) (Or.inl ⟨by rfl, ?_⟩) hS ?_
          · intro wy hy
            have h0 : wy.cell? ⟨w.heap.size + 1, 5, none⟩ = some (.string q.copy) := hy.2.1.cell rfl
            clear hy
            go_simp
          simp only [Act.put, List.setIfInBounds_toArray, List.set_cons_zero, List.set_cons_succ]
          refine wpAnyH_take (i := 11) (oi := ⟨some 78, _, _, _, _, some (2, false)⟩) (v := .bool false) rfl (by kernel_rfl) (by kernel_rfl) (by kernel_rfl) (fun _ _ _ h => h) (Or.inl ⟨by rfl, ?_⟩) hS ?_
          · intro wy hy
            clear hy
            first | (go_simp; done) | (go_simp; simpa using hc2) | (simp [go_sem, hc2]; done)
          simp only [Act.put, List.setIfInBounds_toArray, List.set_cons_zero, List.set_cons_succ]
          refine wpAnyH_take (i := 12) (oi := ⟨some 79, _, _, _, _, none⟩) (v := .bool false) rfl (by kernel_rfl) (by kernel_rfl) (by kernel_rfl) (fun _ _ _ h => h) (Or.inl ⟨by rfl, ?_⟩) hS ?_
          · intro wy hy
            clear hy
            go_simp
          simp only [Act.put, List.setIfInBounds_toArray, List.set_cons_zero, List.set_cons_succ]
          refine wpAnyH_take (i := 13) (oi := ⟨some 80, _, _, _, _, none⟩) (v := .bool false) rfl (by kernel_rfl) (by kernel_rfl) (by kernel_rfl) (fun _ _ _ h => h) (Or.inl ⟨by rfl, ?_⟩) hS ?_
          · intro wy hy
            clear hy
            go_simp
          simp only [Act.put, List.setIfInBounds_toArray, List.set_cons_zero, List.set_cons_succ]
          refine wpAnyH_take (i := 14) (oi := ⟨some 81, _, _, _, _, some (13, false)⟩) (v := .pointer (some ⟨w.heap.size + 1, 6, none⟩)) rfl (by kernel_rfl) (by kernel_rfl) (by kernel_rfl) (fun _ _ _ h => h) (Or.inl ⟨by rfl, ?_⟩) hS ?_
          · intro wy hy
            clear hy
            go_simp
          simp only [Act.put, List.setIfInBounds_toArray, List.set_cons_zero, List.set_cons_succ]
          refine wpAnyH_take (i := 15) (oi := ⟨some 82, _, _, _, _, some (13, false)⟩) (v := .int .i64 q.at_) rfl (by kernel_rfl) (by kernel_rfl) (by kernel_rfl) (fun _ _ _ h => h) (Or.inl ⟨by rfl, ?_⟩) hS ?_
          · intro wy hy
            have h0 : wy.cell? ⟨w.heap.size + 1, 6, none⟩ = some (.int .i64 q.at_) := hy.2.1.cell rfl
            clear hy
            go_simp
          simp only [Act.put, List.setIfInBounds_toArray, List.set_cons_zero, List.set_cons_succ]
          refine wpAnyH_take (i := 16) (oi := ⟨some 83, _, _, _, _, some (13, false)⟩) (v := .pointer (some ⟨w.heap.size, 7, none⟩)) rfl (by kernel_rfl) (by kernel_rfl) (by kernel_rfl) (fun _ _ _ h => h) (Or.inl ⟨by rfl, ?_⟩) hS ?_
          · intro wy hy
            clear hy
            go_simp
          simp only [Act.put, List.setIfInBounds_toArray, List.set_cons_zero, List.set_cons_succ]
          refine wpAnyH_take (i := 17) (oi := ⟨some 84, _, _, _, _, some (13, false)⟩) (v := .slice (some ⟨ba, oa, none⟩) x.asks.length c7) rfl (by kernel_rfl) (by kernel_rfl) (by kernel_rfl) (fun _ _ _ h => h) (Or.inl ⟨by rfl, ?_⟩) hS ?_
          · intro wy hy
            have h0 : wy.cell? ⟨w.heap.size, 7, none⟩ = some (.slice (some ⟨ba, oa, none⟩) x.asks.length c7) := hy.1.cell rfl
            clear hy
            go_simp
          simp only [Act.put, List.setIfInBounds_toArray, List.set_cons_zero, List.set_cons_succ]
          refine wpAnyH_take (i := 18) (oi := ⟨some 85, _, _, _, _, some (13, false)⟩) (v := .int .i64 (j : Int)) rfl (by kernel_rfl) (by kernel_rfl) (by kernel_rfl) (fun _ _ _ h => h) (Or.inl ⟨by rfl, ?_⟩) hS ?_
          · intro wy hy
            clear hy
            go_simp
          simp only [Act.put, List.setIfInBounds_toArray, List.set_cons_zero, List.set_cons_succ]
          refine wpAnyH_take (i := 19) (oi := ⟨some 86, _, _, _, _, some (13, false)⟩) (v := .pointer (some ⟨ba, oa + j * 4, none⟩)) rfl (by kernel_rfl) (by kernel_rfl) (by kernel_rfl) (fun _ _ _ h => h) (Or.inl ⟨by rfl, ?_⟩) hS ?_
          · intro wy hy
            clear hy
            first | (go_simp; done) | (go_simp; intro hh; omega)
          simp only [Act.put, List.setIfInBounds_toArray, List.set_cons_zero, List.set_cons_succ]
          refine wpAnyH_take (i := 20) (oi := ⟨some 87, _, _, _, _, some (13, false)⟩) (v := .pointer (some ⟨ba, oa + j * 4 + 2, none⟩)) rfl (by kernel_rfl) (by kernel_rfl) (by kernel_rfl) (fun _ _ _ h => h) (Or.inl ⟨by rfl, ?_⟩) hS ?_
          · intro wy hy
            clear hy
            go_simp
          simp only [Act.put, List.setIfInBounds_toArray, List.set_cons_zero, List.set_cons_succ]
          refine wpAnyH_take (i := 21) (oi := ⟨some 88, _, _, _, _, some (13, false)⟩) (v := .int .i64 a.first) rfl (by kernel_rfl) (by kernel_rfl) (by kernel_rfl) (fun _ _ _ h => h) (Or.inl ⟨by rfl, ?_⟩) hS ?_
          · intro wy hy
            have h0 := hy.2.2 2 _ rfl
            clear hy
            go_simp
          simp only [Act.put, List.setIfInBounds_toArray, List.set_cons_zero, List.set_cons_succ]
          refine wpAnyH_take (i := 22) (oi := ⟨some 89, _, _, _, _, some (13, false)⟩) (v := .pointer (some ⟨w.heap.size, 7, none⟩)) rfl (by kernel_rfl) (by kernel_rfl) (by kernel_rfl) (fun _ _ _ h => h) (Or.inl ⟨by rfl, ?_⟩) hS ?_
          · intro wy hy
            clear hy
            go_simp
          simp only [Act.put, List.setIfInBounds_toArray, List.set_cons_zero, List.set_cons_succ]
          refine wpAnyH_take (i := 23) (oi := ⟨some 90, _, _, _, _, some (13, false)⟩) (v := .slice (some ⟨ba, oa, none⟩) x.asks.length c7) rfl (by kernel_rfl) (by kernel_rfl) (by kernel_rfl) (fun _ _ _ h => h) (Or.inl ⟨by rfl, ?_⟩) hS ?_
          · intro wy hy
            have h0 : wy.cell? ⟨w.heap.size, 7, none⟩ = some (.slice (some ⟨ba, oa, none⟩) x.asks.length c7) := hy.1.cell rfl
            clear hy
            go_simp
          simp only [Act.put, List.setIfInBounds_toArray, List.set_cons_zero, List.set_cons_succ]
          refine wpAnyH_take (i := 24) (oi := ⟨some 91, _, _, _, _, some (13, false)⟩) (v := .int .i64 (j : Int)) rfl (by kernel_rfl) (by kernel_rfl) (by kernel_rfl) (fun _ _ _ h => h) (Or.inl ⟨by rfl, ?_⟩) hS ?_
          · intro wy hy
            clear hy
            go_simp
          simp only [Act.put, List.setIfInBounds_toArray, List.set_cons_zero, List.set_cons_succ]
          refine wpAnyH_take (i := 25) (oi := ⟨some 92, _, _, _, _, some (13, false)⟩) (v := .pointer (some ⟨ba, oa + j * 4, none⟩)) rfl (by kernel_rfl) (by kernel_rfl) (by kernel_rfl) (fun _ _ _ h => h) (Or.inl ⟨by rfl, ?_⟩) hS ?_
          · intro wy hy
            clear hy
            first | (go_simp; done) | (go_simp; intro hh; omega)
          simp only [Act.put, List.setIfInBounds_toArray, List.set_cons_zero, List.set_cons_succ]
          refine wpAnyH_take (i := 26) (oi := ⟨some 93, _, _, _, _, some (13, false)⟩) (v := .pointer (some ⟨ba, oa + j * 4 + 3, none⟩)) rfl (by kernel_rfl) (by kernel_rfl) (by kernel_rfl) (fun _ _ _ h => h) (Or.inl ⟨by rfl, ?_⟩) hS ?_
          · intro wy hy
            clear hy
            go_simp
          simp only [Act.put, List.setIfInBounds_toArray, List.set_cons_zero, List.set_cons_succ]
          refine wpAnyH_take (i := 27) (oi := ⟨some 94, _, _, _, _, some (13, false)⟩) (v := .int .i64 a.at_) rfl (by kernel_rfl) (by kernel_rfl) (by kernel_rfl) (fun _ _ _ h => h) (Or.inl ⟨by rfl, ?_⟩) hS ?_
          · intro wy hy
            have h0 := hy.2.2 3 _ rfl
            clear hy
            go_simp
          simp only [Act.put, List.setIfInBounds_toArray, List.set_cons_zero, List.set_cons_succ]
          refine wpAnyH_ready (rs := [28]) (by kernel_rfl) (by simp) (AllReadyH.cons (o := ⟨some 95, _, _, _, _, some (13, false)⟩) rfl (fun K hK => ?_) AllReadyH.nil)
          go_simp
          refine (in10_any q.at_ a.first a.at_ _).mono ?_
          rintro e v1 ⟨rfl, rfl⟩
          refine hK.out _ _ hS (fun hS => ?_)
          clear hK K
          rw [GI.out]
          refine wpAnyH_take (i := 29) (oi := ⟨some 96, _, _, _, _, some (13, false)⟩) (v := .bool true) rfl (by kernel_rfl) (by kernel_rfl) (by kernel_rfl) (fun _ _ _ h => h) (Or.inl ⟨by rfl, ?_⟩) hS ?_
          · intro wy hy
            clear hy
            go_simp
          simp only [Act.put, List.setIfInBounds_toArray, List.set_cons_zero, List.set_cons_succ]
          refine wpAnyH_take (i := 30) (oi := ⟨some 97, _, _, _, _, none⟩) (v := .bool true) rfl (by kernel_rfl) (by kernel_rfl) (by kernel_rfl) (fun _ _ _ h => h) (Or.inl ⟨by rfl, ?_⟩) hS ?_
          · intro wy hy
            clear hy
            go_simp
          simp only [Act.put, List.setIfInBounds_toArray, List.set_cons_zero, List.set_cons_succ]
          refine wpAnyH_done (by kernel_rfl) ?_ _
          clear hS
          have HTS := Hid.intro HZ7.out.there
          obtain ⟨wf, HEF⟩ : ∃ wf, Hid (wf = v1.setCells (w.heap.size + 2) 0 [.string x.name, .bool x.up, .int .i64 x.clock, .bool x.known, .int .i64 x.seen, .slice (some ⟨b5, 0, none⟩) x.wants.length q5, .slice (some ⟨b6, 0, none⟩) x.runs.length q6, .slice (some ⟨b7, 0, none⟩) x.asks.length q7, .slice (some ⟨b8, 0, none⟩) x.gives.length q8]) := ⟨_, rfl⟩
          have HRf : Hid (wf.rangeAt (w.heap.size + 2) 0 [.string x.name, .bool x.up, .int .i64 x.clock, .bool x.known, .int .i64 x.seen, .slice (some ⟨b5, 0, none⟩) x.wants.length q5, .slice (some ⟨b6, 0, none⟩) x.runs.length q6, .slice (some ⟨b7, 0, none⟩) x.asks.length q7, .slice (some ⟨b8, 0, none⟩) x.gives.length q8]) := by
            show World.rangeAt _ _ _ _
            rw [HEF.out]
            exact World.rangeAt_setCells_same _ _ _ _ HTS.out
          have hBf : Below w.heap.size w wf := by
            rw [HEF.out]
            exact below_setCells (by omega) _ _ _ hB7
          have F5 : Hid (SliceC WntC 7 w.heap.size wf (some ⟨b5, 0, none⟩) x.wants) := by
            show SliceC _ _ _ _ _ _
            rw [HEF.out]
            exact S5_7.out.keep WntC.holds (Keeps.setCells (show w.heap.size + 2 < w3.heap.size by omega) _ _ _) (by omega)
          have F6 : Hid (SliceC RnC 11 w.heap.size wf (some ⟨b6, 0, none⟩) x.runs) := by
            show SliceC _ _ _ _ _ _
            rw [HEF.out]
            exact S6_7.out.keep RnC.holds (Keeps.setCells (show w.heap.size + 2 < g5 by omega) _ _ _) (by omega)
          have F7 : Hid (SliceC AksC 4 w.heap.size wf (some ⟨b7, 0, none⟩) x.asks) := by
            show SliceC _ _ _ _ _ _
            rw [HEF.out]
            exact S7_7.out.keep AksC.holds (Keeps.setCells (show w.heap.size + 2 < g6 by omega) _ _ _) (by omega)
          have F8 : Hid (SliceC AksC 4 w.heap.size wf (some ⟨b8, 0, none⟩) x.gives) := by
            show SliceC _ _ _ _ _ _
            rw [HEF.out]
            exact S8_7.out.keep AksC.holds (Keeps.setCells (show w.heap.size + 2 < g7 by omega) _ _ _) (by omega)
          go_wp2_with (first | (refine wpList_load_mid rfl 35 _ rfl hc 0 (by first | rfl | (simp [go_sem]; done)) [.string x.name, .bool x.up, .int .i64 x.clock, .bool x.known, .int .i64 x.seen, .slice (some ⟨b5, 0, none⟩) x.wants.length q5, .slice (some ⟨b6, 0, none⟩) x.runs.length q6, .slice (some ⟨b7, 0, none⟩) x.asks.length q7, .slice (some ⟨b8, 0, none⟩) x.gives.length q8] _ HC7.out.rangeA Tryz.underlying35 rfl isz_Mte ?_) | (refine wpList_store_to rfl 35 _ _ rfl (w.heap.size + 2) 0 #[.string x.name, .bool x.up, .int .i64 x.clock, .bool x.known, .int .i64 x.seen, .slice (some ⟨b5, 0, none⟩) x.wants.length q5, .slice (some ⟨b6, 0, none⟩) x.runs.length q6, .slice (some ⟨b7, 0, none⟩) x.asks.length q7, .slice (some ⟨b8, 0, none⟩) x.gives.length q8] (by first | rfl | (simp [go_sem]; done)) rfl HTS.out isz_Mte (by simp [Value.oneCell']) wf HEF.out ?_))
          exact bodyPost_ret (results_cell_mid rfl _ _ (w.heap.size + 2) [.string x.name, .bool x.up, .int .i64 x.clock, .bool x.known, .int .i64 x.seen, .slice (some ⟨b5, 0, none⟩) x.wants.length q5, .slice (some ⟨b6, 0, none⟩) x.runs.length q6, .slice (some ⟨b7, 0, none⟩) x.asks.length q7, .slice (some ⟨b8, 0, none⟩) x.gives.length q8] _ rfl HRf.out Tryz.underlying35 rfl isz_Mte) rfl ⟨x, _, _, _, _, _, _, _, _, HXE.out, rfl, F5.out, F6.out, F7.out, F8.out, hBf⟩
        | true =>
          have HY : Hid (({ x with runs := x.runs.map (updR q) } : Mte) = takeM x q) := by show _ = _; rw [HTP.out]; unfold leaseM; rw [show okAsk x q = true by unfold okAsk; rw [HAF.out]; simp [hc, gi]]; rfl
          have hat : 0 ≤ q.at_ ∧ q.at_ ≤ 1000000 := by
            have h1 := (mv_parts hmv).2.2.2 a (List.mem_of_find?_eq_some HAF.out)
            have h2 := gi
            unfold inR at h2
            simp at h2
            omega
          have GI := Hid.intro gi
          clear hc gi
          go_upto_region 14 with fail
          refine wp_region_held_drew (S := fun wy => Blk w.heap.size #[.string x.name, .bool x.up, .int .i64 x.clock, .bool x.known, .int .i64 x.seen, .slice a5 x.wants.length c5, .slice a6 x.runs.length c6, .slice (some ⟨ba, oa, none⟩) x.asks.length c7, .slice a8 x.gives.length c8] 35 wy ∧ Blk (w.heap.size + 1) #[.int .i64 q.kind, .string q.berth, .int .i64 q.seen, .slice b3 q.wants.length d3, .string q.hold, .string q.copy, .int .i64 q.at_] 39 wy ∧ wy.rangeAt ba (oa + j * 4) [.string a.hold, .string a.copy, .int .i64 a.first, .int .i64 a.at_]) (by kernel_rfl) ⟨HX6.out.drew, HQ6.out.drew, range_drew HRA.out⟩ (fun hS => ?_)
          have hb7 : Below w6.heap.size w6 w6.drew := (Below.refl _ _).drew
          have HX7 := Hid.intro (HX6.out.below hb7 HX6.out.lt)
          have HQ7 := Hid.intro (HQ6.out.below hb7 HQ6.out.lt)
          have HZ7 := Hid.intro (HZ6.out.below hb7 HZ6.out.lt)
          have HC7 := Hid.intro (HC6.out.below hb7 HC6.out.lt)
          have hB7 := hB6.trans (hb7.mono hB6.size)
          have S5_7 := Hid.intro (S5_6.out.below WntC.holds hb7 (Nat.le_refl _))
          have S6_7 := Hid.intro (S6_6.out.below RnC.holds hb7 (Nat.le_refl _))
          have S7_7 := Hid.intro (S7_6.out.below AksC.holds hb7 (Nat.le_refl _))
          have S8_7 := Hid.intro (S8_6.out.below AksC.holds hb7 (Nat.le_refl _))
          clear hb7 HX6 HQ6 HZ6 HC6 hB6 S5_6 S6_6 S7_6 S8_6
          generalize w6.drew = w7 at *
          refine wpAnyH_take (i := 0) (oi := ⟨some 67, _, _, _, _, none⟩) (v := .int .i64 (j : Int)) rfl (by kernel_rfl) (by kernel_rfl) (by kernel_rfl) (fun _ _ _ h => h) (Or.inl ⟨by rfl, ?_⟩) hS ?_
          · intro wy hy
            clear hy
            go_simp
          simp only [Act.put, List.setIfInBounds_toArray, List.set_cons_zero, List.set_cons_succ]
          refine wpAnyH_take (i := 1) (oi := ⟨some 68, _, _, _, _, none⟩) (v := .bool false) rfl (by kernel_rfl) (by kernel_rfl) (by kernel_rfl) (fun _ _ _ h => h) (Or.inl ⟨by rfl, ?_⟩) hS ?_
          · intro wy hy
            clear hy
            first | (go_simp; done) | (go_simp; omega)
          simp only [Act.put, List.setIfInBounds_toArray, List.set_cons_zero, List.set_cons_succ]
          refine wpAnyH_take (i := 2) (oi := ⟨some 69, _, _, _, _, none⟩) (v := .bool false) rfl (by kernel_rfl) (by kernel_rfl) (by kernel_rfl) (fun _ _ _ h => h) (Or.inl ⟨by rfl, ?_⟩) hS ?_
          · intro wy hy
            clear hy
            go_simp
          simp only [Act.put, List.setIfInBounds_toArray, List.set_cons_zero, List.set_cons_succ]
          refine wpAnyH_take (i := 3) (oi := ⟨some 70, _, _, _, _, some (2, false)⟩) (v := .pointer (some ⟨w.heap.size, 7, none⟩)) rfl (by kernel_rfl) (by kernel_rfl) (by kernel_rfl) (fun _ _ _ h => h) (Or.inl ⟨by rfl, ?_⟩) hS ?_
          · intro wy hy
            clear hy
            go_simp
          simp only [Act.put, List.setIfInBounds_toArray, List.set_cons_zero, List.set_cons_succ]
          refine wpAnyH_take (i := 4) (oi := ⟨some 71, _, _, _, _, some (2, false)⟩) (v := .slice (some ⟨ba, oa, none⟩) x.asks.length c7) rfl (by kernel_rfl) (by kernel_rfl) (by kernel_rfl) (fun _ _ _ h => h) (Or.inl ⟨by rfl, ?_⟩) hS ?_
          · intro wy hy
            have h0 : wy.cell? ⟨w.heap.size, 7, none⟩ = some (.slice (some ⟨ba, oa, none⟩) x.asks.length c7) := hy.1.cell rfl
            clear hy
            go_simp
          simp only [Act.put, List.setIfInBounds_toArray, List.set_cons_zero, List.set_cons_succ]
          refine wpAnyH_take (i := 5) (oi := ⟨some 72, _, _, _, _, some (2, false)⟩) (v := .int .i64 (j : Int)) rfl (by kernel_rfl) (by kernel_rfl) (by kernel_rfl) (fun _ _ _ h => h) (Or.inl ⟨by rfl, ?_⟩) hS ?_
          · intro wy hy
            clear hy
            go_simp
          simp only [Act.put, List.setIfInBounds_toArray, List.set_cons_zero, List.set_cons_succ]
          refine wpAnyH_take (i := 6) (oi := ⟨some 73, _, _, _, _, some (2, false)⟩) (v := .pointer (some ⟨ba, oa + j * 4, none⟩)) rfl (by kernel_rfl) (by kernel_rfl) (by kernel_rfl) (fun _ _ _ h => h) (Or.inl ⟨by rfl, ?_⟩) hS ?_
          · intro wy hy
            clear hy
            first | (go_simp; done) | (go_simp; intro hh; omega)
          simp only [Act.put, List.setIfInBounds_toArray, List.set_cons_zero, List.set_cons_succ]
          refine wpAnyH_take (i := 7) (oi := ⟨some 74, _, _, _, _, some (2, false)⟩) (v := .pointer (some ⟨ba, oa + j * 4 + 1, none⟩)) rfl (by kernel_rfl) (by kernel_rfl) (by kernel_rfl) (fun _ _ _ h => h) (Or.inl ⟨by rfl, ?_⟩) hS ?_
          · intro wy hy
            clear hy
            go_simp
          simp only [Act.put, List.setIfInBounds_toArray, List.set_cons_zero, List.set_cons_succ]
          refine wpAnyH_take (i := 8) (oi := ⟨some 75, _, _, _, _, some (2, false)⟩) (v := .string a.copy) rfl (by kernel_rfl) (by kernel_rfl) (by kernel_rfl) (fun _ _ _ h => h) (Or.inl ⟨by rfl, ?_⟩) hS ?_
          · intro wy hy
            have h0 := hy.2.2 1 _ rfl
            clear hy
            go_simp
          simp only [Act.put, List.setIfInBounds_toArray, List.set_cons_zero, List.set_cons_succ]
          refine wpAnyH_take (i := 9) (oi := ⟨some 76, _, _, _, _, some (2, false)⟩) (v := .pointer (some ⟨w.heap.size + 1, 5, none⟩)) rfl (by kernel_rfl) (by kernel_rfl) (by kernel_rfl) (fun _ _ _ h => h) (Or.inl ⟨by rfl, ?_⟩) hS ?_
          · intro wy hy
            clear hy
            go_simp
          simp only [Act.put, List.setIfInBounds_toArray, List.set_cons_zero, List.set_cons_succ]
          refine wpAnyH_take (i := 10) (oi := ⟨some 77, _, _, _, _, some (2, false)⟩) (v := .string q.copy) rfl (by kernel_rfl) (by kernel_rfl) (by kernel_rfl) (fun _ _ _ h => h) (Or.inl ⟨by rfl, ?_⟩) hS ?_
          · intro wy hy
            have h0 : wy.cell? ⟨w.heap.size + 1, 5, none⟩ = some (.string q.copy) := hy.2.1.cell rfl
            clear hy
            go_simp
          simp only [Act.put, List.setIfInBounds_toArray, List.set_cons_zero, List.set_cons_succ]
          refine wpAnyH_take (i := 11) (oi := ⟨some 78, _, _, _, _, some (2, false)⟩) (v := .bool false) rfl (by kernel_rfl) (by kernel_rfl) (by kernel_rfl) (fun _ _ _ h => h) (Or.inl ⟨by rfl, ?_⟩) hS ?_
          · intro wy hy
            clear hy
            first | (go_simp; done) | (go_simp; simpa using hc2) | (simp [go_sem, hc2]; done)
          simp only [Act.put, List.setIfInBounds_toArray, List.set_cons_zero, List.set_cons_succ]
          refine wpAnyH_take (i := 12) (oi := ⟨some 79, _, _, _, _, none⟩) (v := .bool false) rfl (by kernel_rfl) (by kernel_rfl) (by kernel_rfl) (fun _ _ _ h => h) (Or.inl ⟨by rfl, ?_⟩) hS ?_
          · intro wy hy
            clear hy
            go_simp
          simp only [Act.put, List.setIfInBounds_toArray, List.set_cons_zero, List.set_cons_succ]
          refine wpAnyH_take (i := 13) (oi := ⟨some 80, _, _, _, _, none⟩) (v := .bool false) rfl (by kernel_rfl) (by kernel_rfl) (by kernel_rfl) (fun _ _ _ h => h) (Or.inl ⟨by rfl, ?_⟩) hS ?_
          · intro wy hy
            clear hy
            go_simp
          simp only [Act.put, List.setIfInBounds_toArray, List.set_cons_zero, List.set_cons_succ]
          refine wpAnyH_take (i := 14) (oi := ⟨some 81, _, _, _, _, some (13, false)⟩) (v := .pointer (some ⟨w.heap.size + 1, 6, none⟩)) rfl (by kernel_rfl) (by kernel_rfl) (by kernel_rfl) (fun _ _ _ h => h) (Or.inl ⟨by rfl, ?_⟩) hS ?_
          · intro wy hy
            clear hy
            go_simp
          simp only [Act.put, List.setIfInBounds_toArray, List.set_cons_zero, List.set_cons_succ]
          refine wpAnyH_take (i := 15) (oi := ⟨some 82, _, _, _, _, some (13, false)⟩) (v := .int .i64 q.at_) rfl (by kernel_rfl) (by kernel_rfl) (by kernel_rfl) (fun _ _ _ h => h) (Or.inl ⟨by rfl, ?_⟩) hS ?_
          · intro wy hy
            have h0 : wy.cell? ⟨w.heap.size + 1, 6, none⟩ = some (.int .i64 q.at_) := hy.2.1.cell rfl
            clear hy
            go_simp
          simp only [Act.put, List.setIfInBounds_toArray, List.set_cons_zero, List.set_cons_succ]
          refine wpAnyH_take (i := 16) (oi := ⟨some 83, _, _, _, _, some (13, false)⟩) (v := .pointer (some ⟨w.heap.size, 7, none⟩)) rfl (by kernel_rfl) (by kernel_rfl) (by kernel_rfl) (fun _ _ _ h => h) (Or.inl ⟨by rfl, ?_⟩) hS ?_
          · intro wy hy
            clear hy
            go_simp
          simp only [Act.put, List.setIfInBounds_toArray, List.set_cons_zero, List.set_cons_succ]
          refine wpAnyH_take (i := 17) (oi := ⟨some 84, _, _, _, _, some (13, false)⟩) (v := .slice (some ⟨ba, oa, none⟩) x.asks.length c7) rfl (by kernel_rfl) (by kernel_rfl) (by kernel_rfl) (fun _ _ _ h => h) (Or.inl ⟨by rfl, ?_⟩) hS ?_
          · intro wy hy
            have h0 : wy.cell? ⟨w.heap.size, 7, none⟩ = some (.slice (some ⟨ba, oa, none⟩) x.asks.length c7) := hy.1.cell rfl
            clear hy
            go_simp
          simp only [Act.put, List.setIfInBounds_toArray, List.set_cons_zero, List.set_cons_succ]
          refine wpAnyH_take (i := 18) (oi := ⟨some 85, _, _, _, _, some (13, false)⟩) (v := .int .i64 (j : Int)) rfl (by kernel_rfl) (by kernel_rfl) (by kernel_rfl) (fun _ _ _ h => h) (Or.inl ⟨by rfl, ?_⟩) hS ?_
          · intro wy hy
            clear hy
            go_simp
          simp only [Act.put, List.setIfInBounds_toArray, List.set_cons_zero, List.set_cons_succ]
          refine wpAnyH_take (i := 19) (oi := ⟨some 86, _, _, _, _, some (13, false)⟩) (v := .pointer (some ⟨ba, oa + j * 4, none⟩)) rfl (by kernel_rfl) (by kernel_rfl) (by kernel_rfl) (fun _ _ _ h => h) (Or.inl ⟨by rfl, ?_⟩) hS ?_
          · intro wy hy
            clear hy
            first | (go_simp; done) | (go_simp; intro hh; omega)
          simp only [Act.put, List.setIfInBounds_toArray, List.set_cons_zero, List.set_cons_succ]
          refine wpAnyH_take (i := 20) (oi := ⟨some 87, _, _, _, _, some (13, false)⟩) (v := .pointer (some ⟨ba, oa + j * 4 + 2, none⟩)) rfl (by kernel_rfl) (by kernel_rfl) (by kernel_rfl) (fun _ _ _ h => h) (Or.inl ⟨by rfl, ?_⟩) hS ?_
          · intro wy hy
            clear hy
            go_simp
          simp only [Act.put, List.setIfInBounds_toArray, List.set_cons_zero, List.set_cons_succ]
          refine wpAnyH_take (i := 21) (oi := ⟨some 88, _, _, _, _, some (13, false)⟩) (v := .int .i64 a.first) rfl (by kernel_rfl) (by kernel_rfl) (by kernel_rfl) (fun _ _ _ h => h) (Or.inl ⟨by rfl, ?_⟩) hS ?_
          · intro wy hy
            have h0 := hy.2.2 2 _ rfl
            clear hy
            go_simp
          simp only [Act.put, List.setIfInBounds_toArray, List.set_cons_zero, List.set_cons_succ]
          refine wpAnyH_take (i := 22) (oi := ⟨some 89, _, _, _, _, some (13, false)⟩) (v := .pointer (some ⟨w.heap.size, 7, none⟩)) rfl (by kernel_rfl) (by kernel_rfl) (by kernel_rfl) (fun _ _ _ h => h) (Or.inl ⟨by rfl, ?_⟩) hS ?_
          · intro wy hy
            clear hy
            go_simp
          simp only [Act.put, List.setIfInBounds_toArray, List.set_cons_zero, List.set_cons_succ]
          refine wpAnyH_take (i := 23) (oi := ⟨some 90, _, _, _, _, some (13, false)⟩) (v := .slice (some ⟨ba, oa, none⟩) x.asks.length c7) rfl (by kernel_rfl) (by kernel_rfl) (by kernel_rfl) (fun _ _ _ h => h) (Or.inl ⟨by rfl, ?_⟩) hS ?_
          · intro wy hy
            have h0 : wy.cell? ⟨w.heap.size, 7, none⟩ = some (.slice (some ⟨ba, oa, none⟩) x.asks.length c7) := hy.1.cell rfl
            clear hy
            go_simp
          simp only [Act.put, List.setIfInBounds_toArray, List.set_cons_zero, List.set_cons_succ]
          refine wpAnyH_take (i := 24) (oi := ⟨some 91, _, _, _, _, some (13, false)⟩) (v := .int .i64 (j : Int)) rfl (by kernel_rfl) (by kernel_rfl) (by kernel_rfl) (fun _ _ _ h => h) (Or.inl ⟨by rfl, ?_⟩) hS ?_
          · intro wy hy
            clear hy
            go_simp
          simp only [Act.put, List.setIfInBounds_toArray, List.set_cons_zero, List.set_cons_succ]
          refine wpAnyH_take (i := 25) (oi := ⟨some 92, _, _, _, _, some (13, false)⟩) (v := .pointer (some ⟨ba, oa + j * 4, none⟩)) rfl (by kernel_rfl) (by kernel_rfl) (by kernel_rfl) (fun _ _ _ h => h) (Or.inl ⟨by rfl, ?_⟩) hS ?_
          · intro wy hy
            clear hy
            first | (go_simp; done) | (go_simp; intro hh; omega)
          simp only [Act.put, List.setIfInBounds_toArray, List.set_cons_zero, List.set_cons_succ]
          refine wpAnyH_take (i := 26) (oi := ⟨some 93, _, _, _, _, some (13, false)⟩) (v := .pointer (some ⟨ba, oa + j * 4 + 3, none⟩)) rfl (by kernel_rfl) (by kernel_rfl) (by kernel_rfl) (fun _ _ _ h => h) (Or.inl ⟨by rfl, ?_⟩) hS ?_
          · intro wy hy
            clear hy
            go_simp
          simp only [Act.put, List.setIfInBounds_toArray, List.set_cons_zero, List.set_cons_succ]
          refine wpAnyH_take (i := 27) (oi := ⟨some 94, _, _, _, _, some (13, false)⟩) (v := .int .i64 a.at_) rfl (by kernel_rfl) (by kernel_rfl) (by kernel_rfl) (fun _ _ _ h => h) (Or.inl ⟨by rfl, ?_⟩) hS ?_
          · intro wy hy
            have h0 := hy.2.2 3 _ rfl
            clear hy
            go_simp
          simp only [Act.put, List.setIfInBounds_toArray, List.set_cons_zero, List.set_cons_succ]
          refine wpAnyH_ready (rs := [28]) (by kernel_rfl) (by simp) (AllReadyH.cons (o := ⟨some 95, _, _, _, _, some (13, false)⟩) rfl (fun K hK => ?_) AllReadyH.nil)
          go_simp
          refine (in10_any q.at_ a.first a.at_ _).mono ?_
          rintro e v1 ⟨rfl, rfl⟩
          refine hK.out _ _ hS (fun hS => ?_)
          clear hK K
          rw [GI.out]
          refine wpAnyH_take (i := 29) (oi := ⟨some 96, _, _, _, _, some (13, false)⟩) (v := .bool false) rfl (by kernel_rfl) (by kernel_rfl) (by kernel_rfl) (fun _ _ _ h => h) (Or.inl ⟨by rfl, ?_⟩) hS ?_
          · intro wy hy
            clear hy
            go_simp
          simp only [Act.put, List.setIfInBounds_toArray, List.set_cons_zero, List.set_cons_succ]
          refine wpAnyH_take (i := 30) (oi := ⟨some 97, _, _, _, _, none⟩) (v := .bool false) rfl (by kernel_rfl) (by kernel_rfl) (by kernel_rfl) (fun _ _ _ h => h) (Or.inl ⟨by rfl, ?_⟩) hS ?_
          · intro wy hy
            clear hy
            go_simp
          simp only [Act.put, List.setIfInBounds_toArray, List.set_cons_zero, List.set_cons_succ]
          refine wpAnyH_done (by kernel_rfl) ?_ _
          clear hS
          have hl6 := HM.out.l6
          clear hla HRA HAF
          go_wp2_with fail
          clear hc2
          go_loopw [7] (fun i wr => ∃ k : Nat, k ≤ x.runs.length ∧ i = .int .i64 k ∧ Hid (Blk hc #[.string x.name, .bool x.up, .int .i64 x.clock, .bool x.known, .int .i64 x.seen, .slice (some ⟨b5, 0, none⟩) x.wants.length q5, .slice (some ⟨b6, 0, none⟩) x.runs.length q6, .slice (some ⟨b7, 0, none⟩) x.asks.length q7, .slice (some ⟨b8, 0, none⟩) x.gives.length q8] 35 wr) ∧ Hid (Blk (w.heap.size + 1) #[.int .i64 q.kind, .string q.berth, .int .i64 q.seen, .slice b3 q.wants.length d3, .string q.hold, .string q.copy, .int .i64 q.at_] 39 wr) ∧ Hid (Blk (w.heap.size + 2) #[.string ⟨#[]⟩, .bool false, .int .i64 0, .bool false, .int .i64 0, .slice none 0 0, .slice none 0 0, .slice none 0 0, .slice none 0 0] 35 wr) ∧ Hid (SliceC WntC 7 w3.heap.size wr (some ⟨b5, 0, none⟩) x.wants) ∧ Hid (SliceC RnC 11 g5 wr (some ⟨b6, 0, none⟩) (mixR q x.runs k)) ∧ Hid (SliceC AksC 4 g6 wr (some ⟨b7, 0, none⟩) x.asks) ∧ Hid (SliceC AksC 4 g7 wr (some ⟨b8, 0, none⟩) x.gives) ∧ Below w.heap.size w wr) (fun i _ => x.runs.length - (intOf i).toNat)
          case atStart => exact ⟨0, Nat.zero_le _, rfl, HC7, HQ7, HZ7, S5_7, S6_7, S7_7, S8_7, hB7⟩
          case round =>
            clear HX7 HQ7 HZ7 HC7 hB7 S5_7 S6_7 S7_7 S8_7
            obtain ⟨k, hk, rfl, HC8, HQ8, HZ8, S5_8, S6_8, S7_8, S8_8, hB8⟩ := hrel
            have c6 : wr.cell? ⟨hc, 6, none⟩ = some (.slice (some ⟨b6, 0, none⟩) x.runs.length q6) := HC8.out.cell rfl
            by_cases hlt : k < x.runs.length
            case neg =>
              have hke : k = x.runs.length := by omega
              subst hke
              replace S6_8 : Hid (SliceC RnC 11 g5 wr (some ⟨b6, 0, none⟩) (x.runs.map (updR q))) := by have h9 := S6_8.out; rw [mix_end] at h9; exact h9
              have HRL : Hid ((x.runs.map (updR q)).length = x.runs.length) := List.length_map _
              have HTS := Hid.intro HZ8.out.there
              obtain ⟨wf, HEF⟩ : ∃ wf, Hid (wf = wr.setCells (w.heap.size + 2) 0 [.string x.name, .bool x.up, .int .i64 x.clock, .bool x.known, .int .i64 x.seen, .slice (some ⟨b5, 0, none⟩) x.wants.length q5, .slice (some ⟨b6, 0, none⟩) x.runs.length q6, .slice (some ⟨b7, 0, none⟩) x.asks.length q7, .slice (some ⟨b8, 0, none⟩) x.gives.length q8]) := ⟨_, rfl⟩
              have HRf : Hid (wf.rangeAt (w.heap.size + 2) 0 [.string x.name, .bool x.up, .int .i64 x.clock, .bool x.known, .int .i64 x.seen, .slice (some ⟨b5, 0, none⟩) x.wants.length q5, .slice (some ⟨b6, 0, none⟩) x.runs.length q6, .slice (some ⟨b7, 0, none⟩) x.asks.length q7, .slice (some ⟨b8, 0, none⟩) x.gives.length q8]) := by
                show World.rangeAt _ _ _ _
                rw [HEF.out]
                exact World.rangeAt_setCells_same _ _ _ _ HTS.out
              have hBf : Below w.heap.size w wf := by
                rw [HEF.out]
                exact below_setCells (by omega) _ _ _ hB8
              have F5 : Hid (SliceC WntC 7 w.heap.size wf (some ⟨b5, 0, none⟩) x.wants) := by
                show SliceC _ _ _ _ _ _
                rw [HEF.out]
                exact S5_8.out.keep WntC.holds (Keeps.setCells (show w.heap.size + 2 < w3.heap.size by omega) _ _ _) (by omega)
              have F6 : Hid (SliceC RnC 11 w.heap.size wf (some ⟨b6, 0, none⟩) (x.runs.map (updR q))) := by
                show SliceC _ _ _ _ _ _
                rw [HEF.out]
                exact S6_8.out.keep RnC.holds (Keeps.setCells (show w.heap.size + 2 < g5 by omega) _ _ _) (by omega)
              have F7 : Hid (SliceC AksC 4 w.heap.size wf (some ⟨b7, 0, none⟩) x.asks) := by
                show SliceC _ _ _ _ _ _
                rw [HEF.out]
                exact S7_8.out.keep AksC.holds (Keeps.setCells (show w.heap.size + 2 < g6 by omega) _ _ _) (by omega)
              have F8 : Hid (SliceC AksC 4 w.heap.size wf (some ⟨b8, 0, none⟩) x.gives) := by
                show SliceC _ _ _ _ _ _
                rw [HEF.out]
                exact S8_8.out.keep AksC.holds (Keeps.setCells (show w.heap.size + 2 < g7 by omega) _ _ _) (by omega)
              go_wp2_with (first | (refine wpList_load_mid rfl 35 _ rfl hc 0 (by first | rfl | (simp [go_sem]; done)) [.string x.name, .bool x.up, .int .i64 x.clock, .bool x.known, .int .i64 x.seen, .slice (some ⟨b5, 0, none⟩) x.wants.length q5, .slice (some ⟨b6, 0, none⟩) x.runs.length q6, .slice (some ⟨b7, 0, none⟩) x.asks.length q7, .slice (some ⟨b8, 0, none⟩) x.gives.length q8] _ HC8.out.rangeA Tryz.underlying35 rfl isz_Mte ?_) | (refine wpList_store_to rfl 35 _ _ rfl (w.heap.size + 2) 0 #[.string x.name, .bool x.up, .int .i64 x.clock, .bool x.known, .int .i64 x.seen, .slice (some ⟨b5, 0, none⟩) x.wants.length q5, .slice (some ⟨b6, 0, none⟩) x.runs.length q6, .slice (some ⟨b7, 0, none⟩) x.asks.length q7, .slice (some ⟨b8, 0, none⟩) x.gives.length q8] (by first | rfl | (simp [go_sem]; done)) rfl HTS.out isz_Mte (by simp [Value.oneCell']) wf HEF.out ?_))
              exact bodyPost_ret (results_cell_mid rfl _ _ (w.heap.size + 2) [.string x.name, .bool x.up, .int .i64 x.clock, .bool x.known, .int .i64 x.seen, .slice (some ⟨b5, 0, none⟩) x.wants.length q5, .slice (some ⟨b6, 0, none⟩) x.runs.length q6, .slice (some ⟨b7, 0, none⟩) x.asks.length q7, .slice (some ⟨b8, 0, none⟩) x.gives.length q8] _ rfl HRf.out Tryz.underlying35 rfl isz_Mte) rfl ⟨{ x with runs := x.runs.map (updR q) }, _, _, _, _, _, _, _, _, HY.out, (by rw [HRL.out]), F5.out, F6.out, F7.out, F8.out, hBf⟩
            obtain ⟨r, hr⟩ : ∃ r, x.runs[k]? = some r := ⟨x.runs[k], List.getElem?_eq_getElem hlt⟩
            have hmr := mix_at (q := q) hr
            obtain ⟨b6x, o6x, e6x, hlo6, hb6l, hcr⟩ := S6_8.out.at hmr
            cases e6x
            have HRR := Hid.intro (range_of_cells hcr)
            have hfz : wr.frozen? ⟨b6, k * 11 + 10, none⟩ = false := sl_frozen S6_8.out (by omega) hmr _
            have HMS := Hid.intro (mix_step (q := q) hr)
            have HML := Hid.intro (mix_len q x.runs k)
            have HXR := Hid.intro hr
            clear hcr hmr hr
            have hb9 : Below wr.heap.size wr (wr.alloc (Obj.cells #[.string r.want.copy, .int .i64 r.want.version, .string r.want.hold, .int .i64 r.want.pull, .int .i64 r.want.start, .int .i64 r.want.dies, .int .i64 r.want.grace, .int .i64 r.state, .int .i64 r.left, .int .i64 r.falls, .int .i64 r.until_] 65)) := (Below.refl _ _).alloc (Nat.le_refl _) _
            have HR9 : Hid (Blk wr.heap.size #[.string r.want.copy, .int .i64 r.want.version, .string r.want.hold, .int .i64 r.want.pull, .int .i64 r.want.start, .int .i64 r.want.dies, .int .i64 r.want.grace, .int .i64 r.state, .int .i64 r.left, .int .i64 r.falls, .int .i64 r.until_] 65 (wr.alloc (Obj.cells #[.string r.want.copy, .int .i64 r.want.version, .string r.want.hold, .int .i64 r.want.pull, .int .i64 r.want.start, .int .i64 r.want.dies, .int .i64 r.want.grace, .int .i64 r.state, .int .i64 r.left, .int .i64 r.falls, .int .i64 r.until_] 65))) := Blk.alloc _ _ _
            have hrl : b6 < wr.heap.size := hb6l
            have HQ9 := Hid.intro (HQ8.out.below hb9 HQ8.out.lt)
            have HZ9 := Hid.intro (HZ8.out.below hb9 HZ8.out.lt)
            have HC9 := Hid.intro (HC8.out.below hb9 HC8.out.lt)
            have hB9 := hB8.trans (hb9.mono hB8.size)
            have S5_9 := Hid.intro (S5_8.out.below WntC.holds hb9 (Nat.le_refl _))
            have S6_9 := Hid.intro (S6_8.out.below RnC.holds hb9 (Nat.le_refl _))
            have S7_9 := Hid.intro (S7_8.out.below AksC.holds hb9 (Nat.le_refl _))
            have S8_9 := Hid.intro (S8_8.out.below AksC.holds hb9 (Nat.le_refl _))
            clear hb9 HQ8 HZ8 HC8 hB8 S5_8 S6_8 S7_8 S8_8
            replace hfz : (wr.alloc (Obj.cells #[.string r.want.copy, .int .i64 r.want.version, .string r.want.hold, .int .i64 r.want.pull, .int .i64 r.want.start, .int .i64 r.want.dies, .int .i64 r.want.grace, .int .i64 r.state, .int .i64 r.left, .int .i64 r.falls, .int .i64 r.until_] 65)).frozen? ⟨b6, k * 11 + 10, none⟩ = false := by have h9 := sl_frozen S6_9.out (by omega) (mix_at (q := q) HXR.out) (k * 11 + 10); exact h9
            go_upto_region 20 with (refine wpList_load_mid rfl 65 _ rfl b6 (0 + k * 11) (by first | rfl | (simp [go_sem]; done)) [.string r.want.copy, .int .i64 r.want.version, .string r.want.hold, .int .i64 r.want.pull, .int .i64 r.want.start, .int .i64 r.want.dies, .int .i64 r.want.grace, .int .i64 r.state, .int .i64 r.left, .int .i64 r.falls, .int .i64 r.until_] _ HRR.out Tryz.underlying65 rfl isz_Rn ?_)
            clear c6 HRR
            generalize wr.alloc (Obj.cells #[.string r.want.copy, .int .i64 r.want.version, .string r.want.hold, .int .i64 r.want.pull, .int .i64 r.want.start, .int .i64 r.want.dies, .int .i64 r.want.grace, .int .i64 r.state, .int .i64 r.left, .int .i64 r.falls, .int .i64 r.until_] 65) = w9 at *
            generalize wr.heap.size = gr at *
            have d0 : w9.cell? ⟨gr, 0, none⟩ = some (.string r.want.copy) := HR9.out.cell rfl
            have d2 : w9.cell? ⟨gr, 2, none⟩ = some (.string r.want.hold) := HR9.out.cell rfl
            have d10 : w9.cell? ⟨gr, 10, none⟩ = some (.int .i64 r.until_) := HR9.out.cell rfl
            have e4 : w9.cell? ⟨w.heap.size + 1, 4, none⟩ = some (.string q.hold) := HQ9.out.cell rfl
            have e5 : w9.cell? ⟨w.heap.size + 1, 5, none⟩ = some (.string q.copy) := HQ9.out.cell rfl
            have e6 : w9.cell? ⟨w.heap.size + 1, 6, none⟩ = some (.int .i64 q.at_) := HQ9.out.cell rfl
            by_cases hh : r.want.hold = q.hold
            case neg =>
              have S6N : Hid (SliceC RnC 11 g5 w9 (some ⟨b6, 0, none⟩) (mixR q x.runs (k + 1))) := by show SliceC _ _ _ _ _ _; rw [HMS.out, show updR q r = r from upd_other (fun e => hh e.1), mix_same HXR.out]; exact S6_9.out
              have hh2 : (r.want.hold.toList == q.hold.toList) = false := bt_ne hh
              clear hh hfz
              go_wp2_with fail
              go_roundw
              case rel => first | exact ⟨k + 1, by omega, by go_num, HC9, HQ9, HZ9, S5_9, S6N, S7_9, S8_9, hB9⟩ | ((repeat apply Exists.intro); exact ⟨⟨k + 1, by omega, by go_num, HC9, HQ9, HZ9, S5_9, S6N, S7_9, S8_9, hB9⟩, rfl⟩)
              case measure => simp [intOf]; omega
            have hh2 : (r.want.hold.toList == q.hold.toList) = true := by rw [hh]; simp
            by_cases hcc : r.want.copy = q.copy
            case neg =>
              have S6N : Hid (SliceC RnC 11 g5 w9 (some ⟨b6, 0, none⟩) (mixR q x.runs (k + 1))) := by show SliceC _ _ _ _ _ _; rw [HMS.out, show updR q r = r from upd_other (fun e => hcc e.2), mix_same HXR.out]; exact S6_9.out
              have hc3 : (r.want.copy.toList == q.copy.toList) = false := bt_ne hcc
              clear hh hcc hfz
              go_wp2_with fail
              go_roundw
              case rel => first | exact ⟨k + 1, by omega, by go_num, HC9, HQ9, HZ9, S5_9, S6N, S7_9, S8_9, hB9⟩ | ((repeat apply Exists.intro); exact ⟨⟨k + 1, by omega, by go_num, HC9, HQ9, HZ9, S5_9, S6N, S7_9, S8_9, hB9⟩, rfl⟩)
              case measure => simp [intOf]; omega
            have hc3 : (r.want.copy.toList == q.copy.toList) = true := by rw [hcc]; simp
            by_cases hul : r.until_ < q.at_ + 16
            case neg =>
              have S6N : Hid (SliceC RnC 11 g5 w9 (some ⟨b6, 0, none⟩) (mixR q x.runs (k + 1))) := by show SliceC _ _ _ _ _ _; rw [HMS.out, show updR q r = r from upd_late hul, mix_same HXR.out]; exact S6_9.out
              have hul2 : q.at_ + 16 ≤ r.until_ := by omega
              clear hh hcc hfz hul
              go_wp2_with fail
              go_roundw
              case rel => first | exact ⟨k + 1, by omega, by go_num, HC9, HQ9, HZ9, S5_9, S6N, S7_9, S8_9, hB9⟩ | ((repeat apply Exists.intro); exact ⟨⟨k + 1, by omega, by go_num, HC9, HQ9, HZ9, S5_9, S6N, S7_9, S8_9, hB9⟩, rfl⟩)
              case measure => simp [intOf]; omega
            have HUP : Hid (updR q r = { r with until_ := q.at_ + 16 }) := by show _ = _; unfold updR; rw [if_pos ⟨hh, hcc, hul⟩]
            clear hh hcc
            have c6 : w9.cell? ⟨hc, 6, none⟩ = some (.slice (some ⟨b6, 0, none⟩) x.runs.length q6) := HC9.out.cell rfl
            have cu : w9.cell? ⟨b6, k * 11 + 10, none⟩ = some (.int .i64 r.until_) := rn_cell S6_9.out (mix_at (q := q) HXR.out)
            have hbc : b6 < hc := by omega
            have S6N : Hid (SliceC RnC 11 g5 (w9.setCell ⟨b6, k * 11 + 10, none⟩ (.int .i64 (q.at_ + 16))) (some ⟨b6, 0, none⟩) (mixR q x.runs (k + 1))) := by show SliceC _ _ _ _ _ _; rw [HMS.out, HUP.out]; exact rn_until S6_9.out (mix_at (q := q) HXR.out) _
            have HC10 : Hid (Blk hc #[.string x.name, .bool x.up, .int .i64 x.clock, .bool x.known, .int .i64 x.seen, .slice (some ⟨b5, 0, none⟩) x.wants.length q5, .slice (some ⟨b6, 0, none⟩) x.runs.length q6, .slice (some ⟨b7, 0, none⟩) x.asks.length q7, .slice (some ⟨b8, 0, none⟩) x.gives.length q8] 35 (w9.setCell ⟨b6, k * 11 + 10, none⟩ (.int .i64 (q.at_ + 16)))) := HC9.out.other (a := ⟨b6, k * 11 + 10, none⟩) (show hc ≠ b6 by omega) _
            have HQ10 : Hid (Blk (w.heap.size + 1) #[.int .i64 q.kind, .string q.berth, .int .i64 q.seen, .slice b3 q.wants.length d3, .string q.hold, .string q.copy, .int .i64 q.at_] 39 (w9.setCell ⟨b6, k * 11 + 10, none⟩ (.int .i64 (q.at_ + 16)))) := HQ9.out.other (a := ⟨b6, k * 11 + 10, none⟩) (show w.heap.size + 1 ≠ b6 by omega) _
            have HZ10 : Hid (Blk (w.heap.size + 2) #[.string ⟨#[]⟩, .bool false, .int .i64 0, .bool false, .int .i64 0, .slice none 0 0, .slice none 0 0, .slice none 0 0, .slice none 0 0] 35 (w9.setCell ⟨b6, k * 11 + 10, none⟩ (.int .i64 (q.at_ + 16)))) := HZ9.out.other (a := ⟨b6, k * 11 + 10, none⟩) (show w.heap.size + 2 ≠ b6 by omega) _
            have hB10 : Below w.heap.size w (w9.setCell ⟨b6, k * 11 + 10, none⟩ (.int .i64 (q.at_ + 16))) := hB9.setCell (p := ⟨b6, k * 11 + 10, none⟩) (show w.heap.size ≤ b6 by omega) _
            have S5_10 : Hid (SliceC WntC 7 w3.heap.size (w9.setCell ⟨b6, k * 11 + 10, none⟩ (.int .i64 (q.at_ + 16))) (some ⟨b5, 0, none⟩) x.wants) := setC flatW S5_9.out b6 (k * 11 + 10) _ (fun b o s e => by cases e; omega)
            have S7_10 : Hid (SliceC AksC 4 g6 (w9.setCell ⟨b6, k * 11 + 10, none⟩ (.int .i64 (q.at_ + 16))) (some ⟨b7, 0, none⟩) x.asks) := S7_9.out.keep AksC.holds (Keeps.set (a := ⟨b6, k * 11 + 10, none⟩) (show b6 < g6 by omega) _) (Nat.le_refl _)
            have S8_10 : Hid (SliceC AksC 4 g7 (w9.setCell ⟨b6, k * 11 + 10, none⟩ (.int .i64 (q.at_ + 16))) (some ⟨b8, 0, none⟩) x.gives) := S8_9.out.keep AksC.holds (Keeps.set (a := ⟨b6, k * 11 + 10, none⟩) (show b6 < g7 by omega) _) (Nat.le_refl _)
            go_upto_region 18 with fail
            clear c6 cu hfz d0 d2 d10 e4 e5 e6 HC9 HQ9 HZ9 hB9 S5_9 S6_9 S7_9 S8_9
            generalize (w9.setCell ⟨b6, k * 11 + 10, none⟩ (.int .i64 (q.at_ + 16))) = w10 at *
            go_wp2_with fail
            go_roundw
            case rel => first | exact ⟨k + 1, by omega, by go_num, HC10, HQ10, HZ10, S5_10, S6N, S7_10, S8_10, hB10⟩ | ((repeat apply Exists.intro); exact ⟨⟨k + 1, by omega, by go_num, HC10, HQ10, HZ10, S5_10, S6N, S7_10, S8_10, hB10⟩, rfl⟩)
            case measure => simp [intOf]; omega
    have b3x : (q.kind == 3) = false := by simp [h3]
    by_cases h5 : q.kind = 5
    case pos =>
      have b5x : (q.kind == 5) = true := by simp [h5]
      have HTP : Hid (takeM x q = forgetM x q) := by show _ = _; rw [HTM.out]; unfold takeP; rw [if_neg h1, if_neg h3, if_pos h5]
      clear h1 h3 h5
      have k8 : w5.cell? ⟨w.heap.size, 8, none⟩ = some (.slice a8 x.gives.length c8) := HX5.out.cell rfl
      have e4 : w5.cell? ⟨w.heap.size + 1, 4, none⟩ = some (.string q.hold) := HQ5.out.cell rfl
      go_wp2_with fail
      refine (ask13_any q.hold x.gives a8 c8 lo _ (HI.out.s8.below AksC.holds hB5 (Nat.le_refl _)) HM.out.l8).mono ?_
      rintro e w6 ⟨rfl, hb6⟩
      have HX6 := Hid.intro (HX5.out.below hb6 HX5.out.lt)
      have HQ6 := Hid.intro (HQ5.out.below hb6 HQ5.out.lt)
      have HZ6 := Hid.intro (HZ5.out.below hb6 HZ5.out.lt)
      have HC6 := Hid.intro (HC5.out.below hb6 HC5.out.lt)
      have hB6 := hB5.trans (hb6.mono hB5.size)
      have S5_6 := Hid.intro (S5_5.out.below WntC.holds hb6 (Nat.le_refl _))
      have S6_6 := Hid.intro (S6_5.out.below RnC.holds hb6 (Nat.le_refl _))
      have S7_6 := Hid.intro (S7_5.out.below AksC.holds hb6 (Nat.le_refl _))
      have S8_6 := Hid.intro (S8_5.out.below AksC.holds hb6 (Nat.le_refl _))
      clear hb6 HX5 HQ5 HZ5 HC5 hB5 S5_5 S6_5 S7_5 S8_5
      clear k0 k1 k8 e0 e1 e4
      cases hq : akI q.hold x.gives with
      | none =>
        have HXE : Hid (x = takeM x q) := by show _ = _; rw [HTP.out]; unfold forgetM; rw [show okGive x q = false by unfold okGive; rw [ak_none hq]]; rfl
        clear hq
        rw [show akN none = (-1 : Int) from rfl]
        go_upto_region 24 with fail
        refine wp_region_held_drew (S := fun wy => Blk w.heap.size #[.string x.name, .bool x.up, .int .i64 x.clock, .bool x.known, .int .i64 x.seen, .slice a5 x.wants.length c5, .slice a6 x.runs.length c6, .slice a7 x.asks.length c7, .slice a8 x.gives.length c8] 35 wy ∧ Blk (w.heap.size + 1) #[.int .i64 q.kind, .string q.berth, .int .i64 q.seen, .slice b3 q.wants.length d3, .string q.hold, .string q.copy, .int .i64 q.at_] 39 wy) (by kernel_rfl) ⟨HX6.out.drew, HQ6.out.drew⟩ (fun hS => ?_)
        have hb7 : Below w6.heap.size w6 w6.drew := (Below.refl _ _).drew
        have HX7 := Hid.intro (HX6.out.below hb7 HX6.out.lt)
        have HQ7 := Hid.intro (HQ6.out.below hb7 HQ6.out.lt)
        have HZ7 := Hid.intro (HZ6.out.below hb7 HZ6.out.lt)
        have HC7 := Hid.intro (HC6.out.below hb7 HC6.out.lt)
        have hB7 := hB6.trans (hb7.mono hB6.size)
        have S5_7 := Hid.intro (S5_6.out.below WntC.holds hb7 (Nat.le_refl _))
        have S6_7 := Hid.intro (S6_6.out.below RnC.holds hb7 (Nat.le_refl _))
        have S7_7 := Hid.intro (S7_6.out.below AksC.holds hb7 (Nat.le_refl _))
        have S8_7 := Hid.intro (S8_6.out.below AksC.holds hb7 (Nat.le_refl _))
        clear hb7 HX6 HQ6 HZ6 HC6 hB6 S5_6 S6_6 S7_6 S8_6
        generalize w6.drew = w7 at *
        refine wpAnyH_take (i := 0) (oi := ⟨some 148, _, _, _, _, none⟩) (v := .int .i64 (-1)) rfl (by kernel_rfl) (by kernel_rfl) (by kernel_rfl) (fun _ _ _ h => h) (Or.inl ⟨by rfl, ?_⟩) hS ?_
        · intro wy hy
          clear hy
          go_simp
        simp only [Act.put, List.setIfInBounds_toArray, List.set_cons_zero, List.set_cons_succ]
        refine wpAnyH_take (i := 1) (oi := ⟨some 149, _, _, _, _, none⟩) (v := .bool false) rfl (by kernel_rfl) (by kernel_rfl) (by kernel_rfl) (fun _ _ _ h => h) (Or.inl ⟨by rfl, ?_⟩) hS ?_
        · intro wy hy
          clear hy
          first | (go_simp; done) | (go_simp; omega)
        simp only [Act.put, List.setIfInBounds_toArray, List.set_cons_zero, List.set_cons_succ]
        refine wpAnyH_take (i := 2) (oi := ⟨some 150, _, _, _, _, none⟩) (v := .bool false) rfl (by kernel_rfl) (by kernel_rfl) (by kernel_rfl) (fun _ _ _ h => h) (Or.inl ⟨by rfl, ?_⟩) hS ?_
        · intro wy hy
          clear hy
          go_simp
        simp only [Act.put, List.setIfInBounds_toArray, List.set_cons_zero, List.set_cons_succ]
        refine wpAnyH_take (i := 3) (oi := ⟨some 151, _, _, _, _, some (2, true)⟩) (v := undef) rfl (by kernel_rfl) (by kernel_rfl) (by kernel_rfl) (fun _ _ _ h => h) (Or.inr ⟨by rfl, rfl⟩) hS ?_
        simp only [Act.put, List.setIfInBounds_toArray, List.set_cons_zero, List.set_cons_succ]
        refine wpAnyH_take (i := 4) (oi := ⟨some 152, _, _, _, _, some (2, true)⟩) (v := undef) rfl (by kernel_rfl) (by kernel_rfl) (by kernel_rfl) (fun _ _ _ h => h) (Or.inr ⟨by rfl, rfl⟩) hS ?_
        simp only [Act.put, List.setIfInBounds_toArray, List.set_cons_zero, List.set_cons_succ]
        refine wpAnyH_take (i := 5) (oi := ⟨some 153, _, _, _, _, some (2, true)⟩) (v := undef) rfl (by kernel_rfl) (by kernel_rfl) (by kernel_rfl) (fun _ _ _ h => h) (Or.inr ⟨by rfl, rfl⟩) hS ?_
        simp only [Act.put, List.setIfInBounds_toArray, List.set_cons_zero, List.set_cons_succ]
        refine wpAnyH_take (i := 6) (oi := ⟨some 154, _, _, _, _, some (2, true)⟩) (v := undef) rfl (by kernel_rfl) (by kernel_rfl) (by kernel_rfl) (fun _ _ _ h => h) (Or.inr ⟨by rfl, rfl⟩) hS ?_
        simp only [Act.put, List.setIfInBounds_toArray, List.set_cons_zero, List.set_cons_succ]
        refine wpAnyH_take (i := 7) (oi := ⟨some 155, _, _, _, _, some (2, true)⟩) (v := undef) rfl (by kernel_rfl) (by kernel_rfl) (by kernel_rfl) (fun _ _ _ h => h) (Or.inr ⟨by rfl, rfl⟩) hS ?_
        simp only [Act.put, List.setIfInBounds_toArray, List.set_cons_zero, List.set_cons_succ]
        refine wpAnyH_take (i := 8) (oi := ⟨some 156, _, _, _, _, some (2, true)⟩) (v := undef) rfl (by kernel_rfl) (by kernel_rfl) (by kernel_rfl) (fun _ _ _ h => h) (Or.inr ⟨by rfl, rfl⟩) hS ?_
        simp only [Act.put, List.setIfInBounds_toArray, List.set_cons_zero, List.set_cons_succ]
        refine wpAnyH_take (i := 9) (oi := ⟨some 157, _, _, _, _, some (2, true)⟩) (v := undef) rfl (by kernel_rfl) (by kernel_rfl) (by kernel_rfl) (fun _ _ _ h => h) (Or.inr ⟨by rfl, rfl⟩) hS ?_
        simp only [Act.put, List.setIfInBounds_toArray, List.set_cons_zero, List.set_cons_succ]
        refine wpAnyH_take (i := 10) (oi := ⟨some 158, _, _, _, _, some (2, true)⟩) (v := undef) rfl (by kernel_rfl) (by kernel_rfl) (by kernel_rfl) (fun _ _ _ h => h) (Or.inr ⟨by rfl, rfl⟩) hS ?_
        simp only [Act.put, List.setIfInBounds_toArray, List.set_cons_zero, List.set_cons_succ]
        refine wpAnyH_take (i := 11) (oi := ⟨some 159, _, _, _, _, some (2, true)⟩) (v := undef) rfl (by kernel_rfl) (by kernel_rfl) (by kernel_rfl) (fun _ _ _ h => h) (Or.inr ⟨by rfl, rfl⟩) hS ?_
        simp only [Act.put, List.setIfInBounds_toArray, List.set_cons_zero, List.set_cons_succ]
        refine wpAnyH_take (i := 12) (oi := ⟨some 160, _, _, _, _, none⟩) (v := .bool false) rfl (by kernel_rfl) (by kernel_rfl) (by kernel_rfl) (fun _ _ _ h => h) (Or.inl ⟨by rfl, ?_⟩) hS ?_
        · intro wy hy
          clear hy
          go_simp
        simp only [Act.put, List.setIfInBounds_toArray, List.set_cons_zero, List.set_cons_succ]
        refine wpAnyH_done (by kernel_rfl) ?_ _
        clear hS
        have HTS := Hid.intro HZ7.out.there
        obtain ⟨wf, HEF⟩ : ∃ wf, Hid (wf = w7.setCells (w.heap.size + 2) 0 [.string x.name, .bool x.up, .int .i64 x.clock, .bool x.known, .int .i64 x.seen, .slice (some ⟨b5, 0, none⟩) x.wants.length q5, .slice (some ⟨b6, 0, none⟩) x.runs.length q6, .slice (some ⟨b7, 0, none⟩) x.asks.length q7, .slice (some ⟨b8, 0, none⟩) x.gives.length q8]) := ⟨_, rfl⟩
        have HRf : Hid (wf.rangeAt (w.heap.size + 2) 0 [.string x.name, .bool x.up, .int .i64 x.clock, .bool x.known, .int .i64 x.seen, .slice (some ⟨b5, 0, none⟩) x.wants.length q5, .slice (some ⟨b6, 0, none⟩) x.runs.length q6, .slice (some ⟨b7, 0, none⟩) x.asks.length q7, .slice (some ⟨b8, 0, none⟩) x.gives.length q8]) := by
          show World.rangeAt _ _ _ _
          rw [HEF.out]
          exact World.rangeAt_setCells_same _ _ _ _ HTS.out
        have hBf : Below w.heap.size w wf := by
          rw [HEF.out]
          exact below_setCells (by omega) _ _ _ hB7
        have F5 : Hid (SliceC WntC 7 w.heap.size wf (some ⟨b5, 0, none⟩) x.wants) := by
          show SliceC _ _ _ _ _ _
          rw [HEF.out]
          exact S5_7.out.keep WntC.holds (Keeps.setCells (show w.heap.size + 2 < w3.heap.size by omega) _ _ _) (by omega)
        have F6 : Hid (SliceC RnC 11 w.heap.size wf (some ⟨b6, 0, none⟩) x.runs) := by
          show SliceC _ _ _ _ _ _
          rw [HEF.out]
          exact S6_7.out.keep RnC.holds (Keeps.setCells (show w.heap.size + 2 < g5 by omega) _ _ _) (by omega)
        have F7 : Hid (SliceC AksC 4 w.heap.size wf (some ⟨b7, 0, none⟩) x.asks) := by
          show SliceC _ _ _ _ _ _
          rw [HEF.out]
          exact S7_7.out.keep AksC.holds (Keeps.setCells (show w.heap.size + 2 < g6 by omega) _ _ _) (by omega)
        have F8 : Hid (SliceC AksC 4 w.heap.size wf (some ⟨b8, 0, none⟩) x.gives) := by
          show SliceC _ _ _ _ _ _
          rw [HEF.out]
          exact S8_7.out.keep AksC.holds (Keeps.setCells (show w.heap.size + 2 < g7 by omega) _ _ _) (by omega)
        go_wp2_with (first | (refine wpList_load_mid rfl 35 _ rfl hc 0 (by first | rfl | (simp [go_sem]; done)) [.string x.name, .bool x.up, .int .i64 x.clock, .bool x.known, .int .i64 x.seen, .slice (some ⟨b5, 0, none⟩) x.wants.length q5, .slice (some ⟨b6, 0, none⟩) x.runs.length q6, .slice (some ⟨b7, 0, none⟩) x.asks.length q7, .slice (some ⟨b8, 0, none⟩) x.gives.length q8] _ HC7.out.rangeA Tryz.underlying35 rfl isz_Mte ?_) | (refine wpList_store_to rfl 35 _ _ rfl (w.heap.size + 2) 0 #[.string x.name, .bool x.up, .int .i64 x.clock, .bool x.known, .int .i64 x.seen, .slice (some ⟨b5, 0, none⟩) x.wants.length q5, .slice (some ⟨b6, 0, none⟩) x.runs.length q6, .slice (some ⟨b7, 0, none⟩) x.asks.length q7, .slice (some ⟨b8, 0, none⟩) x.gives.length q8] (by first | rfl | (simp [go_sem]; done)) rfl HTS.out isz_Mte (by simp [Value.oneCell']) wf HEF.out ?_))
        exact bodyPost_ret (results_cell_mid rfl _ _ (w.heap.size + 2) [.string x.name, .bool x.up, .int .i64 x.clock, .bool x.known, .int .i64 x.seen, .slice (some ⟨b5, 0, none⟩) x.wants.length q5, .slice (some ⟨b6, 0, none⟩) x.runs.length q6, .slice (some ⟨b7, 0, none⟩) x.asks.length q7, .slice (some ⟨b8, 0, none⟩) x.gives.length q8] _ rfl HRf.out Tryz.underlying35 rfl isz_Mte) rfl ⟨x, _, _, _, _, _, _, _, _, HXE.out, rfl, F5.out, F6.out, F7.out, F8.out, hBf⟩
      | some j =>
        rw [show akN (some j) = (j : Int) from rfl]
        obtain ⟨a, haj, haf⟩ := ak_some hq
        have hjl : (j : Int) < (x.gives.length : Int) := by have := lt_of_some haj; omega
        have hla := HM.out.l8
        obtain ⟨ba, oa, ea, _, hba, hca⟩ := (HI.out.s8.below AksC.holds hB6 (Nat.le_refl _)).at haj
        subst ea
        have HRA := Hid.intro (aks_range hca)
        have HAF := Hid.intro haf
        clear hq haj haf hca
        cases hat0 : (a.at_ == q.at_) with
        | false =>
          have HXE : Hid (x = takeM x q) := by show _ = _; rw [HTP.out]; unfold forgetM; rw [show okGive x q = false by unfold okGive; rw [HAF.out]; exact hat0]; rfl
          go_upto_region 24 with fail
          refine wp_region_held_drew (S := fun wy => Blk w.heap.size #[.string x.name, .bool x.up, .int .i64 x.clock, .bool x.known, .int .i64 x.seen, .slice a5 x.wants.length c5, .slice a6 x.runs.length c6, .slice a7 x.asks.length c7, .slice (some ⟨ba, oa, none⟩) x.gives.length c8] 35 wy ∧ Blk (w.heap.size + 1) #[.int .i64 q.kind, .string q.berth, .int .i64 q.seen, .slice b3 q.wants.length d3, .string q.hold, .string q.copy, .int .i64 q.at_] 39 wy ∧ wy.rangeAt ba (oa + j * 4) [.string a.hold, .string a.copy, .int .i64 a.first, .int .i64 a.at_]) (by kernel_rfl) ⟨HX6.out.drew, HQ6.out.drew, range_drew HRA.out⟩ (fun hS => ?_)
          have hb7 : Below w6.heap.size w6 w6.drew := (Below.refl _ _).drew
          have HX7 := Hid.intro (HX6.out.below hb7 HX6.out.lt)
          have HQ7 := Hid.intro (HQ6.out.below hb7 HQ6.out.lt)
          have HZ7 := Hid.intro (HZ6.out.below hb7 HZ6.out.lt)
          have HC7 := Hid.intro (HC6.out.below hb7 HC6.out.lt)
          have hB7 := hB6.trans (hb7.mono hB6.size)
          have S5_7 := Hid.intro (S5_6.out.below WntC.holds hb7 (Nat.le_refl _))
          have S6_7 := Hid.intro (S6_6.out.below RnC.holds hb7 (Nat.le_refl _))
          have S7_7 := Hid.intro (S7_6.out.below AksC.holds hb7 (Nat.le_refl _))
          have S8_7 := Hid.intro (S8_6.out.below AksC.holds hb7 (Nat.le_refl _))
          clear hb7 HX6 HQ6 HZ6 HC6 hB6 S5_6 S6_6 S7_6 S8_6
          generalize w6.drew = w7 at *
          refine wpAnyH_take (i := 0) (oi := ⟨some 148, _, _, _, _, none⟩) (v := .int .i64 (j : Int)) rfl (by kernel_rfl) (by kernel_rfl) (by kernel_rfl) (fun _ _ _ h => h) (Or.inl ⟨by rfl, ?_⟩) hS ?_
          · intro wy hy
            clear hy
            go_simp
          simp only [Act.put, List.setIfInBounds_toArray, List.set_cons_zero, List.set_cons_succ]
          refine wpAnyH_take (i := 1) (oi := ⟨some 149, _, _, _, _, none⟩) (v := .bool true) rfl (by kernel_rfl) (by kernel_rfl) (by kernel_rfl) (fun _ _ _ h => h) (Or.inl ⟨by rfl, ?_⟩) hS ?_
          · intro wy hy
            clear hy
            first | (go_simp; done) | (go_simp; omega)
          simp only [Act.put, List.setIfInBounds_toArray, List.set_cons_zero, List.set_cons_succ]
          refine wpAnyH_take (i := 2) (oi := ⟨some 150, _, _, _, _, none⟩) (v := .bool true) rfl (by kernel_rfl) (by kernel_rfl) (by kernel_rfl) (fun _ _ _ h => h) (Or.inl ⟨by rfl, ?_⟩) hS ?_
          · intro wy hy
            clear hy
            go_simp
          simp only [Act.put, List.setIfInBounds_toArray, List.set_cons_zero, List.set_cons_succ]
          refine wpAnyH_take (i := 3) (oi := ⟨some 151, _, _, _, _, some (2, true)⟩) (v := .pointer (some ⟨w.heap.size, 8, none⟩)) rfl (by kernel_rfl) (by kernel_rfl) (by kernel_rfl) (fun _ _ _ h => h) (Or.inl ⟨by rfl, ?_⟩) hS ?_
          · intro wy hy
            clear hy
            go_simp
          simp only [Act.put, List.setIfInBounds_toArray, List.set_cons_zero, List.set_cons_succ]
          refine wpAnyH_take (i := 4) (oi := ⟨some 152, _, _, _, _, some (2, true)⟩) (v := .slice (some ⟨ba, oa, none⟩) x.gives.length c8) rfl (by kernel_rfl) (by kernel_rfl) (by kernel_rfl) (fun _ _ _ h => h) (Or.inl ⟨by rfl, ?_⟩) hS ?_
          · intro wy hy
            have h0 : wy.cell? ⟨w.heap.size, 8, none⟩ = some (.slice (some ⟨ba, oa, none⟩) x.gives.length c8) := hy.1.cell rfl
            clear hy
            go_simp
          simp only [Act.put, List.setIfInBounds_toArray, List.set_cons_zero, List.set_cons_succ]
          refine wpAnyH_take (i := 5) (oi := ⟨some 153, _, _, _, _, some (2, true)⟩) (v := .int .i64 (j : Int)) rfl (by kernel_rfl) (by kernel_rfl) (by kernel_rfl) (fun _ _ _ h => h) (Or.inl ⟨by rfl, ?_⟩) hS ?_
          · intro wy hy
            clear hy
            go_simp
          simp only [Act.put, List.setIfInBounds_toArray, List.set_cons_zero, List.set_cons_succ]
          refine wpAnyH_take (i := 6) (oi := ⟨some 154, _, _, _, _, some (2, true)⟩) (v := .pointer (some ⟨ba, oa + j * 4, none⟩)) rfl (by kernel_rfl) (by kernel_rfl) (by kernel_rfl) (fun _ _ _ h => h) (Or.inl ⟨by rfl, ?_⟩) hS ?_
          · intro wy hy
            clear hy
            first | (go_simp; done) | (go_simp; intro hh; omega)
          simp only [Act.put, List.setIfInBounds_toArray, List.set_cons_zero, List.set_cons_succ]
          refine wpAnyH_take (i := 7) (oi := ⟨some 155, _, _, _, _, some (2, true)⟩) (v := .pointer (some ⟨ba, oa + j * 4 + 3, none⟩)) rfl (by kernel_rfl) (by kernel_rfl) (by kernel_rfl) (fun _ _ _ h => h) (Or.inl ⟨by rfl, ?_⟩) hS ?_
          · intro wy hy
            clear hy
            go_simp
          simp only [Act.put, List.setIfInBounds_toArray, List.set_cons_zero, List.set_cons_succ]
          refine wpAnyH_take (i := 8) (oi := ⟨some 156, _, _, _, _, some (2, true)⟩) (v := .int .i64 a.at_) rfl (by kernel_rfl) (by kernel_rfl) (by kernel_rfl) (fun _ _ _ h => h) (Or.inl ⟨by rfl, ?_⟩) hS ?_
          · intro wy hy
            have h0 := hy.2.2 3 _ rfl
            clear hy
            go_simp
          simp only [Act.put, List.setIfInBounds_toArray, List.set_cons_zero, List.set_cons_succ]
          refine wpAnyH_take (i := 9) (oi := ⟨some 157, _, _, _, _, some (2, true)⟩) (v := .pointer (some ⟨w.heap.size + 1, 6, none⟩)) rfl (by kernel_rfl) (by kernel_rfl) (by kernel_rfl) (fun _ _ _ h => h) (Or.inl ⟨by rfl, ?_⟩) hS ?_
          · intro wy hy
            clear hy
            go_simp
          simp only [Act.put, List.setIfInBounds_toArray, List.set_cons_zero, List.set_cons_succ]
          refine wpAnyH_take (i := 10) (oi := ⟨some 158, _, _, _, _, some (2, true)⟩) (v := .int .i64 q.at_) rfl (by kernel_rfl) (by kernel_rfl) (by kernel_rfl) (fun _ _ _ h => h) (Or.inl ⟨by rfl, ?_⟩) hS ?_
          · intro wy hy
            have h0 : wy.cell? ⟨w.heap.size + 1, 6, none⟩ = some (.int .i64 q.at_) := hy.2.1.cell rfl
            clear hy
            go_simp
          simp only [Act.put, List.setIfInBounds_toArray, List.set_cons_zero, List.set_cons_succ]
          refine wpAnyH_take (i := 11) (oi := ⟨some 159, _, _, _, _, some (2, true)⟩) (v := .bool false) rfl (by kernel_rfl) (by kernel_rfl) (by kernel_rfl) (fun _ _ _ h => h) (Or.inl ⟨by rfl, ?_⟩) hS ?_
          · intro wy hy
            clear hy
            first | (go_simp; done) | (go_simp; exact hat0) | (go_simp; simpa using hat0)
          simp only [Act.put, List.setIfInBounds_toArray, List.set_cons_zero, List.set_cons_succ]
          refine wpAnyH_take (i := 12) (oi := ⟨some 160, _, _, _, _, none⟩) (v := .bool false) rfl (by kernel_rfl) (by kernel_rfl) (by kernel_rfl) (fun _ _ _ h => h) (Or.inl ⟨by rfl, ?_⟩) hS ?_
          · intro wy hy
            clear hy
            go_simp
          simp only [Act.put, List.setIfInBounds_toArray, List.set_cons_zero, List.set_cons_succ]
          refine wpAnyH_done (by kernel_rfl) ?_ _
          clear hS
          have HTS := Hid.intro HZ7.out.there
          obtain ⟨wf, HEF⟩ : ∃ wf, Hid (wf = w7.setCells (w.heap.size + 2) 0 [.string x.name, .bool x.up, .int .i64 x.clock, .bool x.known, .int .i64 x.seen, .slice (some ⟨b5, 0, none⟩) x.wants.length q5, .slice (some ⟨b6, 0, none⟩) x.runs.length q6, .slice (some ⟨b7, 0, none⟩) x.asks.length q7, .slice (some ⟨b8, 0, none⟩) x.gives.length q8]) := ⟨_, rfl⟩
          have HRf : Hid (wf.rangeAt (w.heap.size + 2) 0 [.string x.name, .bool x.up, .int .i64 x.clock, .bool x.known, .int .i64 x.seen, .slice (some ⟨b5, 0, none⟩) x.wants.length q5, .slice (some ⟨b6, 0, none⟩) x.runs.length q6, .slice (some ⟨b7, 0, none⟩) x.asks.length q7, .slice (some ⟨b8, 0, none⟩) x.gives.length q8]) := by
            show World.rangeAt _ _ _ _
            rw [HEF.out]
            exact World.rangeAt_setCells_same _ _ _ _ HTS.out
          have hBf : Below w.heap.size w wf := by
            rw [HEF.out]
            exact below_setCells (by omega) _ _ _ hB7
          have F5 : Hid (SliceC WntC 7 w.heap.size wf (some ⟨b5, 0, none⟩) x.wants) := by
            show SliceC _ _ _ _ _ _
            rw [HEF.out]
            exact S5_7.out.keep WntC.holds (Keeps.setCells (show w.heap.size + 2 < w3.heap.size by omega) _ _ _) (by omega)
          have F6 : Hid (SliceC RnC 11 w.heap.size wf (some ⟨b6, 0, none⟩) x.runs) := by
            show SliceC _ _ _ _ _ _
            rw [HEF.out]
            exact S6_7.out.keep RnC.holds (Keeps.setCells (show w.heap.size + 2 < g5 by omega) _ _ _) (by omega)
          have F7 : Hid (SliceC AksC 4 w.heap.size wf (some ⟨b7, 0, none⟩) x.asks) := by
            show SliceC _ _ _ _ _ _
            rw [HEF.out]
            exact S7_7.out.keep AksC.holds (Keeps.setCells (show w.heap.size + 2 < g6 by omega) _ _ _) (by omega)
          have F8 : Hid (SliceC AksC 4 w.heap.size wf (some ⟨b8, 0, none⟩) x.gives) := by
            show SliceC _ _ _ _ _ _
            rw [HEF.out]
            exact S8_7.out.keep AksC.holds (Keeps.setCells (show w.heap.size + 2 < g7 by omega) _ _ _) (by omega)
          go_wp2_with (first | (refine wpList_load_mid rfl 35 _ rfl hc 0 (by first | rfl | (simp [go_sem]; done)) [.string x.name, .bool x.up, .int .i64 x.clock, .bool x.known, .int .i64 x.seen, .slice (some ⟨b5, 0, none⟩) x.wants.length q5, .slice (some ⟨b6, 0, none⟩) x.runs.length q6, .slice (some ⟨b7, 0, none⟩) x.asks.length q7, .slice (some ⟨b8, 0, none⟩) x.gives.length q8] _ HC7.out.rangeA Tryz.underlying35 rfl isz_Mte ?_) | (refine wpList_store_to rfl 35 _ _ rfl (w.heap.size + 2) 0 #[.string x.name, .bool x.up, .int .i64 x.clock, .bool x.known, .int .i64 x.seen, .slice (some ⟨b5, 0, none⟩) x.wants.length q5, .slice (some ⟨b6, 0, none⟩) x.runs.length q6, .slice (some ⟨b7, 0, none⟩) x.asks.length q7, .slice (some ⟨b8, 0, none⟩) x.gives.length q8] (by first | rfl | (simp [go_sem]; done)) rfl HTS.out isz_Mte (by simp [Value.oneCell']) wf HEF.out ?_))
          exact bodyPost_ret (results_cell_mid rfl _ _ (w.heap.size + 2) [.string x.name, .bool x.up, .int .i64 x.clock, .bool x.known, .int .i64 x.seen, .slice (some ⟨b5, 0, none⟩) x.wants.length q5, .slice (some ⟨b6, 0, none⟩) x.runs.length q6, .slice (some ⟨b7, 0, none⟩) x.asks.length q7, .slice (some ⟨b8, 0, none⟩) x.gives.length q8] _ rfl HRf.out Tryz.underlying35 rfl isz_Mte) rfl ⟨x, _, _, _, _, _, _, _, _, HXE.out, rfl, F5.out, F6.out, F7.out, F8.out, hBf⟩
        | true =>
          have HY : Hid (({ x with gives := x.gives.filter (fun g => !decide (g.hold = q.hold)) } : Mte) = takeM x q) := by show _ = _; rw [HTP.out]; unfold forgetM; rw [show okGive x q = true by unfold okGive; rw [HAF.out]; exact hat0]; rfl
          go_upto_region 24 with fail
          refine wp_region_held_drew (S := fun wy => Blk w.heap.size #[.string x.name, .bool x.up, .int .i64 x.clock, .bool x.known, .int .i64 x.seen, .slice a5 x.wants.length c5, .slice a6 x.runs.length c6, .slice a7 x.asks.length c7, .slice (some ⟨ba, oa, none⟩) x.gives.length c8] 35 wy ∧ Blk (w.heap.size + 1) #[.int .i64 q.kind, .string q.berth, .int .i64 q.seen, .slice b3 q.wants.length d3, .string q.hold, .string q.copy, .int .i64 q.at_] 39 wy ∧ wy.rangeAt ba (oa + j * 4) [.string a.hold, .string a.copy, .int .i64 a.first, .int .i64 a.at_]) (by kernel_rfl) ⟨HX6.out.drew, HQ6.out.drew, range_drew HRA.out⟩ (fun hS => ?_)
          have hb7 : Below w6.heap.size w6 w6.drew := (Below.refl _ _).drew
          have HX7 := Hid.intro (HX6.out.below hb7 HX6.out.lt)
          have HQ7 := Hid.intro (HQ6.out.below hb7 HQ6.out.lt)
          have HZ7 := Hid.intro (HZ6.out.below hb7 HZ6.out.lt)
          have HC7 := Hid.intro (HC6.out.below hb7 HC6.out.lt)
          have hB7 := hB6.trans (hb7.mono hB6.size)
          have S5_7 := Hid.intro (S5_6.out.below WntC.holds hb7 (Nat.le_refl _))
          have S6_7 := Hid.intro (S6_6.out.below RnC.holds hb7 (Nat.le_refl _))
          have S7_7 := Hid.intro (S7_6.out.below AksC.holds hb7 (Nat.le_refl _))
          have S8_7 := Hid.intro (S8_6.out.below AksC.holds hb7 (Nat.le_refl _))
          clear hb7 HX6 HQ6 HZ6 HC6 hB6 S5_6 S6_6 S7_6 S8_6
          generalize w6.drew = w7 at *
          refine wpAnyH_take (i := 0) (oi := ⟨some 148, _, _, _, _, none⟩) (v := .int .i64 (j : Int)) rfl (by kernel_rfl) (by kernel_rfl) (by kernel_rfl) (fun _ _ _ h => h) (Or.inl ⟨by rfl, ?_⟩) hS ?_
          · intro wy hy
            clear hy
            go_simp
          simp only [Act.put, List.setIfInBounds_toArray, List.set_cons_zero, List.set_cons_succ]
          refine wpAnyH_take (i := 1) (oi := ⟨some 149, _, _, _, _, none⟩) (v := .bool true) rfl (by kernel_rfl) (by kernel_rfl) (by kernel_rfl) (fun _ _ _ h => h) (Or.inl ⟨by rfl, ?_⟩) hS ?_
          · intro wy hy
            clear hy
            first | (go_simp; done) | (go_simp; omega)
          simp only [Act.put, List.setIfInBounds_toArray, List.set_cons_zero, List.set_cons_succ]
          refine wpAnyH_take (i := 2) (oi := ⟨some 150, _, _, _, _, none⟩) (v := .bool true) rfl (by kernel_rfl) (by kernel_rfl) (by kernel_rfl) (fun _ _ _ h => h) (Or.inl ⟨by rfl, ?_⟩) hS ?_
          · intro wy hy
            clear hy
            go_simp
          simp only [Act.put, List.setIfInBounds_toArray, List.set_cons_zero, List.set_cons_succ]
          refine wpAnyH_take (i := 3) (oi := ⟨some 151, _, _, _, _, some (2, true)⟩) (v := .pointer (some ⟨w.heap.size, 8, none⟩)) rfl (by kernel_rfl) (by kernel_rfl) (by kernel_rfl) (fun _ _ _ h => h) (Or.inl ⟨by rfl, ?_⟩) hS ?_
          · intro wy hy
            clear hy
            go_simp
          simp only [Act.put, List.setIfInBounds_toArray, List.set_cons_zero, List.set_cons_succ]
          refine wpAnyH_take (i := 4) (oi := ⟨some 152, _, _, _, _, some (2, true)⟩) (v := .slice (some ⟨ba, oa, none⟩) x.gives.length c8) rfl (by kernel_rfl) (by kernel_rfl) (by kernel_rfl) (fun _ _ _ h => h) (Or.inl ⟨by rfl, ?_⟩) hS ?_
          · intro wy hy
            have h0 : wy.cell? ⟨w.heap.size, 8, none⟩ = some (.slice (some ⟨ba, oa, none⟩) x.gives.length c8) := hy.1.cell rfl
            clear hy
            go_simp
          simp only [Act.put, List.setIfInBounds_toArray, List.set_cons_zero, List.set_cons_succ]
          refine wpAnyH_take (i := 5) (oi := ⟨some 153, _, _, _, _, some (2, true)⟩) (v := .int .i64 (j : Int)) rfl (by kernel_rfl) (by kernel_rfl) (by kernel_rfl) (fun _ _ _ h => h) (Or.inl ⟨by rfl, ?_⟩) hS ?_
          · intro wy hy
            clear hy
            go_simp
          simp only [Act.put, List.setIfInBounds_toArray, List.set_cons_zero, List.set_cons_succ]
          refine wpAnyH_take (i := 6) (oi := ⟨some 154, _, _, _, _, some (2, true)⟩) (v := .pointer (some ⟨ba, oa + j * 4, none⟩)) rfl (by kernel_rfl) (by kernel_rfl) (by kernel_rfl) (fun _ _ _ h => h) (Or.inl ⟨by rfl, ?_⟩) hS ?_
          · intro wy hy
            clear hy
            first | (go_simp; done) | (go_simp; intro hh; omega)
          simp only [Act.put, List.setIfInBounds_toArray, List.set_cons_zero, List.set_cons_succ]
          refine wpAnyH_take (i := 7) (oi := ⟨some 155, _, _, _, _, some (2, true)⟩) (v := .pointer (some ⟨ba, oa + j * 4 + 3, none⟩)) rfl (by kernel_rfl) (by kernel_rfl) (by kernel_rfl) (fun _ _ _ h => h) (Or.inl ⟨by rfl, ?_⟩) hS ?_
          · intro wy hy
            clear hy
            go_simp
          simp only [Act.put, List.setIfInBounds_toArray, List.set_cons_zero, List.set_cons_succ]
          refine wpAnyH_take (i := 8) (oi := ⟨some 156, _, _, _, _, some (2, true)⟩) (v := .int .i64 a.at_) rfl (by kernel_rfl) (by kernel_rfl) (by kernel_rfl) (fun _ _ _ h => h) (Or.inl ⟨by rfl, ?_⟩) hS ?_
          · intro wy hy
            have h0 := hy.2.2 3 _ rfl
            clear hy
            go_simp
          simp only [Act.put, List.setIfInBounds_toArray, List.set_cons_zero, List.set_cons_succ]
          refine wpAnyH_take (i := 9) (oi := ⟨some 157, _, _, _, _, some (2, true)⟩) (v := .pointer (some ⟨w.heap.size + 1, 6, none⟩)) rfl (by kernel_rfl) (by kernel_rfl) (by kernel_rfl) (fun _ _ _ h => h) (Or.inl ⟨by rfl, ?_⟩) hS ?_
          · intro wy hy
            clear hy
            go_simp
          simp only [Act.put, List.setIfInBounds_toArray, List.set_cons_zero, List.set_cons_succ]
          refine wpAnyH_take (i := 10) (oi := ⟨some 158, _, _, _, _, some (2, true)⟩) (v := .int .i64 q.at_) rfl (by kernel_rfl) (by kernel_rfl) (by kernel_rfl) (fun _ _ _ h => h) (Or.inl ⟨by rfl, ?_⟩) hS ?_
          · intro wy hy
            have h0 : wy.cell? ⟨w.heap.size + 1, 6, none⟩ = some (.int .i64 q.at_) := hy.2.1.cell rfl
            clear hy
            go_simp
          simp only [Act.put, List.setIfInBounds_toArray, List.set_cons_zero, List.set_cons_succ]
          refine wpAnyH_take (i := 11) (oi := ⟨some 159, _, _, _, _, some (2, true)⟩) (v := .bool true) rfl (by kernel_rfl) (by kernel_rfl) (by kernel_rfl) (fun _ _ _ h => h) (Or.inl ⟨by rfl, ?_⟩) hS ?_
          · intro wy hy
            clear hy
            first | (go_simp; done) | (go_simp; exact hat0) | (go_simp; simpa using hat0)
          simp only [Act.put, List.setIfInBounds_toArray, List.set_cons_zero, List.set_cons_succ]
          refine wpAnyH_take (i := 12) (oi := ⟨some 160, _, _, _, _, none⟩) (v := .bool true) rfl (by kernel_rfl) (by kernel_rfl) (by kernel_rfl) (fun _ _ _ h => h) (Or.inl ⟨by rfl, ?_⟩) hS ?_
          · intro wy hy
            clear hy
            go_simp
          simp only [Act.put, List.setIfInBounds_toArray, List.set_cons_zero, List.set_cons_succ]
          refine wpAnyH_done (by kernel_rfl) ?_ _
          clear hS
          have k8 : w7.cell? ⟨w.heap.size, 8, none⟩ = some (.slice (some ⟨ba, oa, none⟩) x.gives.length c8) := HX7.out.cell rfl
          have e4 : w7.cell? ⟨w.heap.size + 1, 4, none⟩ = some (.string q.hold) := HQ7.out.cell rfl
          clear HRA HAF hat0
          go_wp2_with fail
          refine (drop13_any q.hold x.gives (some ⟨ba, oa, none⟩) c8 lo _ (HI.out.s8.below AksC.holds hB7 (Nat.le_refl _)) HM.out.l8).mono ?_
          rintro e w8 ⟨n8, s8, rfl, ho8, hb8⟩
          obtain ⟨h7, hh7⟩ : ∃ h, h = w7.heap.size := ⟨_, rfl⟩
          have hg7 : hc < h7 := by rw [hh7]; exact HC7.out.lt
          have hn8 := (own_ne ho8 (show hc < w7.heap.size by rw [← hh7]; exact hg7))
          have SN : Hid (SliceC AksC 4 h7 w8 n8 (x.gives.filter (fun g => !decide (g.hold = q.hold)))) := by rw [hh7]; exact rowslAks ho8 (Nat.le_trans (List.length_filter_le _ _) HM.out.l8) (fun z hz => HM.out.z8 z (List.mem_filter.1 hz).1)
          clear ho8 hh7
          have HX8 := Hid.intro (HX7.out.below hb8 HX7.out.lt)
          have HQ8 := Hid.intro (HQ7.out.below hb8 HQ7.out.lt)
          have HZ8 := Hid.intro (HZ7.out.below hb8 HZ7.out.lt)
          have HC8 := Hid.intro (HC7.out.below hb8 HC7.out.lt)
          have hB8 := hB7.trans (hb8.mono hB7.size)
          have S5_8 := Hid.intro (S5_7.out.below WntC.holds hb8 (Nat.le_refl _))
          have S6_8 := Hid.intro (S6_7.out.below RnC.holds hb8 (Nat.le_refl _))
          have S7_8 := Hid.intro (S7_7.out.below AksC.holds hb8 (Nat.le_refl _))
          have S8_8 := Hid.intro (S8_7.out.below AksC.holds hb8 (Nat.le_refl _))
          clear hb8 HX7 HQ7 HZ7 HC7 hB7 S5_7 S6_7 S7_7 S8_7
          clear k8 e4
          obtain ⟨G, hG⟩ : ∃ G, G = x.gives.filter (fun g => !decide (g.hold = q.hold)) := ⟨_, rfl⟩
          rw [← hG] at SN HY
          rw [← hG]
          clear hG
          have c8 : w8.cell? ⟨hc, 8, none⟩ = some (.slice (some ⟨b8, 0, none⟩) x.gives.length q8) := HC8.out.cell rfl
          have f8 : w8.frozen? ⟨hc, 8, none⟩ = false := HC8.out.frozen _
          go_upto_region 26 with fail
          have HC9 : Hid (Blk hc #[.string x.name, .bool x.up, .int .i64 x.clock, .bool x.known, .int .i64 x.seen, .slice (some ⟨b5, 0, none⟩) x.wants.length q5, .slice (some ⟨b6, 0, none⟩) x.runs.length q6, .slice (some ⟨b7, 0, none⟩) x.asks.length q7, .slice n8 G.length s8] 35 (w8.setCell ⟨hc, 8, none⟩ (.slice n8 G.length s8))) := HC8.out.set 8 _
          have HQ9 : Hid (Blk (w.heap.size + 1) #[.int .i64 q.kind, .string q.berth, .int .i64 q.seen, .slice b3 q.wants.length d3, .string q.hold, .string q.copy, .int .i64 q.at_] 39 (w8.setCell ⟨hc, 8, none⟩ (.slice n8 G.length s8))) := HQ8.out.other (a := ⟨hc, 8, none⟩) (show w.heap.size + 1 ≠ hc by omega) _
          have HZ9 : Hid (Blk (w.heap.size + 2) #[.string ⟨#[]⟩, .bool false, .int .i64 0, .bool false, .int .i64 0, .slice none 0 0, .slice none 0 0, .slice none 0 0, .slice none 0 0] 35 (w8.setCell ⟨hc, 8, none⟩ (.slice n8 G.length s8))) := HZ8.out.other (a := ⟨hc, 8, none⟩) (show w.heap.size + 2 ≠ hc by omega) _
          have hB9 : Below w.heap.size w (w8.setCell ⟨hc, 8, none⟩ (.slice n8 G.length s8)) := hB8.setCell (p := ⟨hc, 8, none⟩) (show w.heap.size ≤ hc by omega) _
          have S8_9 : Hid (SliceC AksC 4 h7 (w8.setCell ⟨hc, 8, none⟩ (.slice n8 G.length s8)) n8 G) := setC flatA SN.out hc 8 _ hn8
          have S5_9 : Hid (SliceC WntC 7 w3.heap.size (w8.setCell ⟨hc, 8, none⟩ (.slice n8 G.length s8)) (some ⟨b5, 0, none⟩) x.wants) := setC flatW S5_8.out hc 8 _ (fun b o s e => by cases e; omega)
          have S6_9 : Hid (SliceC RnC 11 g5 (w8.setCell ⟨hc, 8, none⟩ (.slice n8 G.length s8)) (some ⟨b6, 0, none⟩) x.runs) := setC flatR S6_8.out hc 8 _ (fun b o s e => by cases e; omega)
          have S7_9 : Hid (SliceC AksC 4 g6 (w8.setCell ⟨hc, 8, none⟩ (.slice n8 G.length s8)) (some ⟨b7, 0, none⟩) x.asks) := setC flatA S7_8.out hc 8 _ (fun b o s e => by cases e; omega)
          clear c8 f8 HC8 HQ8 HZ8 hB8 S5_8 S6_8 S7_8
          generalize (w8.setCell ⟨hc, 8, none⟩ (.slice n8 G.length s8)) = w9 at *
          have HTS := Hid.intro HZ9.out.there
          obtain ⟨wf, HEF⟩ : ∃ wf, Hid (wf = w9.setCells (w.heap.size + 2) 0 [.string x.name, .bool x.up, .int .i64 x.clock, .bool x.known, .int .i64 x.seen, .slice (some ⟨b5, 0, none⟩) x.wants.length q5, .slice (some ⟨b6, 0, none⟩) x.runs.length q6, .slice (some ⟨b7, 0, none⟩) x.asks.length q7, .slice n8 G.length s8]) := ⟨_, rfl⟩
          have HRf : Hid (wf.rangeAt (w.heap.size + 2) 0 [.string x.name, .bool x.up, .int .i64 x.clock, .bool x.known, .int .i64 x.seen, .slice (some ⟨b5, 0, none⟩) x.wants.length q5, .slice (some ⟨b6, 0, none⟩) x.runs.length q6, .slice (some ⟨b7, 0, none⟩) x.asks.length q7, .slice n8 G.length s8]) := by
            show World.rangeAt _ _ _ _
            rw [HEF.out]
            exact World.rangeAt_setCells_same _ _ _ _ HTS.out
          have hBf : Below w.heap.size w wf := by
            rw [HEF.out]
            exact below_setCells (by omega) _ _ _ hB9
          have F5 : Hid (SliceC WntC 7 w.heap.size wf (some ⟨b5, 0, none⟩) x.wants) := by
            show SliceC _ _ _ _ _ _
            rw [HEF.out]
            exact S5_9.out.keep WntC.holds (Keeps.setCells (show w.heap.size + 2 < w3.heap.size by omega) _ _ _) (by omega)
          have F6 : Hid (SliceC RnC 11 w.heap.size wf (some ⟨b6, 0, none⟩) x.runs) := by
            show SliceC _ _ _ _ _ _
            rw [HEF.out]
            exact S6_9.out.keep RnC.holds (Keeps.setCells (show w.heap.size + 2 < g5 by omega) _ _ _) (by omega)
          have F7 : Hid (SliceC AksC 4 w.heap.size wf (some ⟨b7, 0, none⟩) x.asks) := by
            show SliceC _ _ _ _ _ _
            rw [HEF.out]
            exact S7_9.out.keep AksC.holds (Keeps.setCells (show w.heap.size + 2 < g6 by omega) _ _ _) (by omega)
          have F8 : Hid (SliceC AksC 4 w.heap.size wf (n8) G) := by
            show SliceC _ _ _ _ _ _
            rw [HEF.out]
            exact S8_9.out.keep AksC.holds (Keeps.setCells (show w.heap.size + 2 < h7 by omega) _ _ _) (by omega)
          go_wp2_with (first | (refine wpList_load_mid rfl 35 _ rfl hc 0 (by first | rfl | (simp [go_sem]; done)) [.string x.name, .bool x.up, .int .i64 x.clock, .bool x.known, .int .i64 x.seen, .slice (some ⟨b5, 0, none⟩) x.wants.length q5, .slice (some ⟨b6, 0, none⟩) x.runs.length q6, .slice (some ⟨b7, 0, none⟩) x.asks.length q7, .slice n8 G.length s8] _ HC9.out.rangeA Tryz.underlying35 rfl isz_Mte ?_) | (refine wpList_store_to rfl 35 _ _ rfl (w.heap.size + 2) 0 #[.string x.name, .bool x.up, .int .i64 x.clock, .bool x.known, .int .i64 x.seen, .slice (some ⟨b5, 0, none⟩) x.wants.length q5, .slice (some ⟨b6, 0, none⟩) x.runs.length q6, .slice (some ⟨b7, 0, none⟩) x.asks.length q7, .slice n8 G.length s8] (by first | rfl | (simp [go_sem]; done)) rfl HTS.out isz_Mte (by simp [Value.oneCell']) wf HEF.out ?_))
          exact bodyPost_ret (results_cell_mid rfl _ _ (w.heap.size + 2) [.string x.name, .bool x.up, .int .i64 x.clock, .bool x.known, .int .i64 x.seen, .slice (some ⟨b5, 0, none⟩) x.wants.length q5, .slice (some ⟨b6, 0, none⟩) x.runs.length q6, .slice (some ⟨b7, 0, none⟩) x.asks.length q7, .slice n8 G.length s8] _ rfl HRf.out Tryz.underlying35 rfl isz_Mte) rfl ⟨{ x with gives := G }, _, _, _, _, _, _, _, _, HY.out, rfl, F5.out, F6.out, F7.out, F8.out, hBf⟩
    have b5x : (q.kind == 5) = false := by simp [h5]
    have HXE : Hid (x = takeM x q) := by show _ = _; rw [HTM.out]; unfold takeP; rw [if_neg h1, if_neg h3, if_neg h5]
    clear h1 h3 h5
    have HTS := Hid.intro HZ5.out.there
    obtain ⟨wf, HEF⟩ : ∃ wf, Hid (wf = w5.setCells (w.heap.size + 2) 0 [.string x.name, .bool x.up, .int .i64 x.clock, .bool x.known, .int .i64 x.seen, .slice (some ⟨b5, 0, none⟩) x.wants.length q5, .slice (some ⟨b6, 0, none⟩) x.runs.length q6, .slice (some ⟨b7, 0, none⟩) x.asks.length q7, .slice (some ⟨b8, 0, none⟩) x.gives.length q8]) := ⟨_, rfl⟩
    have HRf : Hid (wf.rangeAt (w.heap.size + 2) 0 [.string x.name, .bool x.up, .int .i64 x.clock, .bool x.known, .int .i64 x.seen, .slice (some ⟨b5, 0, none⟩) x.wants.length q5, .slice (some ⟨b6, 0, none⟩) x.runs.length q6, .slice (some ⟨b7, 0, none⟩) x.asks.length q7, .slice (some ⟨b8, 0, none⟩) x.gives.length q8]) := by
      show World.rangeAt _ _ _ _
      rw [HEF.out]
      exact World.rangeAt_setCells_same _ _ _ _ HTS.out
    have hBf : Below w.heap.size w wf := by
      rw [HEF.out]
      exact below_setCells (by omega) _ _ _ hB5
    have F5 : Hid (SliceC WntC 7 w.heap.size wf (some ⟨b5, 0, none⟩) x.wants) := by
      show SliceC _ _ _ _ _ _
      rw [HEF.out]
      exact S5_5.out.keep WntC.holds (Keeps.setCells (show w.heap.size + 2 < w3.heap.size by omega) _ _ _) (by omega)
    have F6 : Hid (SliceC RnC 11 w.heap.size wf (some ⟨b6, 0, none⟩) x.runs) := by
      show SliceC _ _ _ _ _ _
      rw [HEF.out]
      exact S6_5.out.keep RnC.holds (Keeps.setCells (show w.heap.size + 2 < g5 by omega) _ _ _) (by omega)
    have F7 : Hid (SliceC AksC 4 w.heap.size wf (some ⟨b7, 0, none⟩) x.asks) := by
      show SliceC _ _ _ _ _ _
      rw [HEF.out]
      exact S7_5.out.keep AksC.holds (Keeps.setCells (show w.heap.size + 2 < g6 by omega) _ _ _) (by omega)
    have F8 : Hid (SliceC AksC 4 w.heap.size wf (some ⟨b8, 0, none⟩) x.gives) := by
      show SliceC _ _ _ _ _ _
      rw [HEF.out]
      exact S8_5.out.keep AksC.holds (Keeps.setCells (show w.heap.size + 2 < g7 by omega) _ _ _) (by omega)
    go_wp2_with (first | (refine wpList_load_mid rfl 35 _ rfl hc 0 (by first | rfl | (simp [go_sem]; done)) [.string x.name, .bool x.up, .int .i64 x.clock, .bool x.known, .int .i64 x.seen, .slice (some ⟨b5, 0, none⟩) x.wants.length q5, .slice (some ⟨b6, 0, none⟩) x.runs.length q6, .slice (some ⟨b7, 0, none⟩) x.asks.length q7, .slice (some ⟨b8, 0, none⟩) x.gives.length q8] _ HC5.out.rangeA Tryz.underlying35 rfl isz_Mte ?_) | (refine wpList_store_to rfl 35 _ _ rfl (w.heap.size + 2) 0 #[.string x.name, .bool x.up, .int .i64 x.clock, .bool x.known, .int .i64 x.seen, .slice (some ⟨b5, 0, none⟩) x.wants.length q5, .slice (some ⟨b6, 0, none⟩) x.runs.length q6, .slice (some ⟨b7, 0, none⟩) x.asks.length q7, .slice (some ⟨b8, 0, none⟩) x.gives.length q8] (by first | rfl | (simp [go_sem]; done)) rfl HTS.out isz_Mte (by simp [Value.oneCell']) wf HEF.out ?_))
    exact bodyPost_ret (results_cell_mid rfl _ _ (w.heap.size + 2) [.string x.name, .bool x.up, .int .i64 x.clock, .bool x.known, .int .i64 x.seen, .slice (some ⟨b5, 0, none⟩) x.wants.length q5, .slice (some ⟨b6, 0, none⟩) x.runs.length q6, .slice (some ⟨b7, 0, none⟩) x.asks.length q7, .slice (some ⟨b8, 0, none⟩) x.gives.length q8] _ rfl HRf.out Tryz.underlying35 rfl isz_Mte) rfl ⟨x, _, _, _, _, _, _, _, _, HXE.out, rfl, F5.out, F6.out, F7.out, F8.out, hBf⟩

end Go.Proofs.YtlangcodelcncaaGreat
