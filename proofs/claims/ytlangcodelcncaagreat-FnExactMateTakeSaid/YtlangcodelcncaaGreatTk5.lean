import Derived.Test.YtlangcodelcncaaGreatTk2
import Derived.Test.YtlangcodelcncaaGreatTk3
import Derived.Test.YtlangcodelcncaaGreatTk4
import Derived.Test.YtlangcodelcncaaGreatTol
import Derived.Test.YtlangcodelcncaaGreatBof
import Derived.Maps.OwnSet
namespace Go.Proofs.YtlangcodelcncaaGreat
open Go.RowKit Go.WideMaps Go.Maps

theorem Bth.below {y : Mte} {p lo kb : Nat} {W0 w w' : World} (h : Bth y p lo kb W0 w) (hb : Below w.heap.size w w') : Bth y p lo kb W0 w' := by
  obtain ⟨a5, c5, o6, k6, j6, o7, k7, j7, o8, k8, j8, m1, m2, n2, m3, n3, m4, n4, D2, D3, D4, h⟩ := h
  exact ⟨a5, c5, o6, k6, j6, o7, k7, j7, o8, k8, j8, m1, m2, n2, m3, n3, m4, n4, D2, D3, D4, h.below hb⟩

theorem Bth.more {y : Mte} {p lo kb : Nat} {W0 w : World} (h : Bth y p lo kb W0 w) : Bth y p lo (kb + 1) W0 w := by
  obtain ⟨a5, c5, o6, k6, j6, o7, k7, j7, o8, k8, j8, m1, m2, n2, m3, n3, m4, n4, D2, D3, D4, h⟩ := h
  exact ⟨a5, c5, o6, k6, j6, o7, k7, j7, o8, k8, j8, m1, m2, n2, m3, n3, m4, n4, D2, D3, D4, h.more⟩

theorem Bth.hB {y : Mte} {p lo kb : Nat} {W0 w : World} (h : Bth y p lo kb W0 w) : Below W0.heap.size W0 w := by
  obtain ⟨a5, c5, o6, k6, j6, o7, k7, j7, o8, k8, j8, m1, m2, n2, m3, n3, m4, n4, D2, D3, D4, h⟩ := h
  exact h.hB

set_option maxHeartbeats 4000000 in
set_option maxRecDepth 100000 in
theorem take_any (y : Mte) (q : Pcl) (b3 : Option Addr) (d3 p lo kb : Nat) (W0 w : World) (h : Bth y p lo kb W0 w) (hq : QIn q b3 lo W0) (hkb : kb ≤ 2000000) :
    Calls Tryz.prog 35 #[.pointer (some ⟨p, 0, none⟩), .agg #[.int .i64 q.kind, .string q.berth, .int .i64 q.seen, .slice b3 q.wants.length d3, .string q.hold, .string q.copy, .int .i64 q.at_]] w fun e w' => e = .returned (.tuple #[]) ∧ Bth (takeP y q) p lo (kb + 1) W0 w' := by
  have hb1 : Below w.heap.size w (w.alloc (Obj.cells #[.int .i64 q.kind, .string q.berth, .int .i64 q.seen, .slice b3 q.wants.length d3, .string q.hold, .string q.copy, .int .i64 q.at_] 39)) := (Below.refl _ w).alloc (Nat.le_refl _) _
  have HK1 : Hid (Blk w.heap.size #[.int .i64 q.kind, .string q.berth, .int .i64 q.seen, .slice b3 q.wants.length d3, .string q.hold, .string q.copy, .int .i64 q.at_] 39 (w.alloc (Obj.cells #[.int .i64 q.kind, .string q.berth, .int .i64 q.seen, .slice b3 q.wants.length d3, .string q.hold, .string q.copy, .int .i64 q.at_] 39))) := Blk.alloc _ _ _
  have HH := Hid.intro (h.below hb1)
  have HQ := Hid.intro hq
  clear h hb1 hq
  go_enter Tryz.func35, Tryz.ntmps35
  go_upto_region 1 with fail
  generalize w.alloc (Obj.cells #[.int .i64 q.kind, .string q.berth, .int .i64 q.seen, .slice b3 q.wants.length d3, .string q.hold, .string q.copy, .int .i64 q.at_] 39) = w1 at *
  generalize w.heap.size = g at *
  have e0 : w1.cell? ⟨g, 0, none⟩ = some (.int .i64 q.kind) := HK1.out.cell rfl
  by_cases h1 : q.kind = 1
  · have b1 : (q.kind == 1) = true := by simp [h1]
    have HE : Hid (takeP y q = hearM y q) := by show _ = _; unfold takeP; rw [if_pos h1]
    clear h1
    go_wp2_with (refine wpList_load_mid rfl 39 _ rfl g 0 (by first | rfl | (simp [go_sem]; done)) [.int .i64 q.kind, .string q.berth, .int .i64 q.seen, .slice b3 q.wants.length d3, .string q.hold, .string q.copy, .int .i64 q.at_] _ HK1.out.rangeA Tryz.underlying39 rfl isz_Pcl ?_)
    refine (hear_any y q b3 d3 p lo kb W0 _ HH.out HQ.out).mono ?_
    rintro e w2 ⟨rfl, hn⟩
    have HN := Hid.intro hn
    clear hn
    go_wp2_with fail
    first | go_end0 | ((try simp only [Exit.inBlock, Exit.then]); refine bodyPost_ret (results_none rfl _ _ _) rfl ?_)
    refine ⟨rfl, ?_⟩
    rw [HE.out]
    exact HN.out.more
  · have b1 : (q.kind == 1) = false := by simp [h1]
    by_cases h3 : q.kind = 3
    · have b3x : (q.kind == 3) = true := by simp [h3]
      have HE : Hid (takeP y q = leaseM y q) := by show _ = _; unfold takeP; rw [if_neg h1, if_pos h3]
      clear h1 h3
      go_wp2_with (refine wpList_load_mid rfl 39 _ rfl g 0 (by first | rfl | (simp [go_sem]; done)) [.int .i64 q.kind, .string q.berth, .int .i64 q.seen, .slice b3 q.wants.length d3, .string q.hold, .string q.copy, .int .i64 q.at_] _ HK1.out.rangeA Tryz.underlying39 rfl isz_Pcl ?_)
      refine (lease_any y q b3 d3 p lo kb W0 _ HH.out HQ.out hkb).mono ?_
      rintro e w2 ⟨rfl, hn⟩
      have HN := Hid.intro hn
      clear hn
      go_wp2_with fail
      first | go_end0 | ((try simp only [Exit.inBlock, Exit.then]); refine bodyPost_ret (results_none rfl _ _ _) rfl ?_)
      refine ⟨rfl, ?_⟩
      rw [HE.out]
      exact HN.out
    · have b3x : (q.kind == 3) = false := by simp [h3]
      by_cases h5 : q.kind = 5
      · have b5x : (q.kind == 5) = true := by simp [h5]
        have HE : Hid (takeP y q = forgetM y q) := by show _ = _; unfold takeP; rw [if_neg h1, if_neg h3, if_pos h5]
        clear h1 h3 h5
        go_wp2_with (refine wpList_load_mid rfl 39 _ rfl g 0 (by first | rfl | (simp [go_sem]; done)) [.int .i64 q.kind, .string q.berth, .int .i64 q.seen, .slice b3 q.wants.length d3, .string q.hold, .string q.copy, .int .i64 q.at_] _ HK1.out.rangeA Tryz.underlying39 rfl isz_Pcl ?_)
        refine (forget_any y q b3 d3 p lo kb W0 _ HH.out HQ.out).mono ?_
        rintro e w2 ⟨rfl, hn⟩
        have HN := Hid.intro hn
        clear hn
        go_wp2_with fail
        first | go_end0 | ((try simp only [Exit.inBlock, Exit.then]); refine bodyPost_ret (results_none rfl _ _ _) rfl ?_)
        refine ⟨rfl, ?_⟩
        rw [HE.out]
        exact HN.out.more
      · have b5x : (q.kind == 5) = false := by simp [h5]
        have HE : Hid (takeP y q = y) := by show _ = _; unfold takeP; rw [if_neg h1, if_neg h3, if_neg h5]
        clear h1 h3 h5
        go_wp2_with fail
        first | go_end0 | ((try simp only [Exit.inBlock, Exit.then]); refine bodyPost_ret (results_none rfl _ _ _) rfl ?_)
        refine ⟨rfl, ?_⟩
        rw [HE.out]
        exact HH.out.more

theorem mv_parts {x : Mte} (h : mvB x = true) : ascTo (x.runs.map (·.want.copy)) x.runs.length = true ∧ ascTo (x.asks.map (·.hold)) x.asks.length = true ∧ ascTo (x.gives.map (·.hold)) x.gives.length = true ∧ (∀ a ∈ x.asks, 0 ≤ a.first ∧ a.at_ ≤ 1000000) := by
  unfold mvB at h
  simp only [Bool.and_eq_true] at h
  obtain ⟨⟨⟨_, hc⟩, _⟩, _, hr, ⟨⟨ha, hg⟩, _⟩, _⟩ := h
  unfold rsB at hr
  unfold aksB at ha hg
  simp only [Bool.and_eq_true, List.all_eq_true] at hr ha hg
  refine ⟨hr.2.1, ha.2.1, hg.2.1, fun a hm => ?_⟩
  have := ha.2.2 a hm
  unfold akB inR at this
  unfold inR at hc
  simp at this hc
  omega

def takeY (x : Mte) (q : Pcl) : Mte := if (x.up && decide (q.berth = x.name)) = true then takeP x q else x

set_option maxHeartbeats 8000000 in
set_option maxRecDepth 100000 in
theorem implTake_any (x : Mte) (a5 : Option Addr) (c5 : Nat) (a6 : Option Addr) (c6 : Nat) (a7 : Option Addr) (c7 : Nat) (a8 : Option Addr) (c8 : Nat) (q : Pcl) (b3 : Option Addr) (d3 lo : Nat) (w : World) (hin : MSv x lo a5 a6 a7 a8 w) (hm : MSz x) (hq : QIn q b3 lo w) :
    Calls Tryz.prog 10 #[.agg #[.string x.name, .bool x.up, .int .i64 x.clock, .bool x.known, .int .i64 x.seen, .slice a5 x.wants.length c5, .slice a6 x.runs.length c6, .slice a7 x.asks.length c7, .slice a8 x.gives.length c8], .agg #[.int .i64 q.kind, .string q.berth, .int .i64 q.seen, .slice b3 q.wants.length d3, .string q.hold, .string q.copy, .int .i64 q.at_]] w fun e w' => ∃ (y : Mte) (b5 : Option Addr) (q5 : Nat) (b6 : Option Addr) (q6 : Nat) (b7 : Option Addr) (q7 : Nat) (b8 : Option Addr) (q8 : Nat), y = takeM x q ∧ e = .returned (.agg #[.string y.name, .bool y.up, .int .i64 y.clock, .bool y.known, .int .i64 y.seen, .slice b5 y.wants.length q5, .slice b6 y.runs.length q6, .slice b7 y.asks.length q7, .slice b8 y.gives.length q8]) ∧ G4 y w.heap.size w'.heap.size b5 b6 b7 b8 w' ∧ Below w.heap.size w w' := by
  have HI := Hid.intro hin
  have HQ := Hid.intro hq
  have HM := Hid.intro hm
  clear hin hm hq
  have HXa : Blk w.heap.size #[.string x.name, .bool x.up, .int .i64 x.clock, .bool x.known, .int .i64 x.seen, .slice a5 x.wants.length c5, .slice a6 x.runs.length c6, .slice a7 x.asks.length c7, .slice a8 x.gives.length c8] 35 (w.alloc (.cells #[.string x.name, .bool x.up, .int .i64 x.clock, .bool x.known, .int .i64 x.seen, .slice a5 x.wants.length c5, .slice a6 x.runs.length c6, .slice a7 x.asks.length c7, .slice a8 x.gives.length c8] 35)) := Blk.alloc _ _ _
  have HQa : Blk (w.heap.size + 1) #[.int .i64 q.kind, .string q.berth, .int .i64 q.seen, .slice b3 q.wants.length d3, .string q.hold, .string q.copy, .int .i64 q.at_] 39 ((w.alloc (.cells #[.string x.name, .bool x.up, .int .i64 x.clock, .bool x.known, .int .i64 x.seen, .slice a5 x.wants.length c5, .slice a6 x.runs.length c6, .slice a7 x.asks.length c7, .slice a8 x.gives.length c8] 35)).alloc (.cells #[.int .i64 q.kind, .string q.berth, .int .i64 q.seen, .slice b3 q.wants.length d3, .string q.hold, .string q.copy, .int .i64 q.at_] 39)) := by
    have := Blk.alloc (w.alloc (.cells #[.string x.name, .bool x.up, .int .i64 x.clock, .bool x.known, .int .i64 x.seen, .slice a5 x.wants.length c5, .slice a6 x.runs.length c6, .slice a7 x.asks.length c7, .slice a8 x.gives.length c8] 35)) #[.int .i64 q.kind, .string q.berth, .int .i64 q.seen, .slice b3 q.wants.length d3, .string q.hold, .string q.copy, .int .i64 q.at_] 39
    simpa using this
  have HZ2 : Hid (Blk (w.heap.size + 2) #[.string ⟨#[]⟩, .bool false, .int .i64 0, .bool false, .int .i64 0, .slice none 0 0, .slice none 0 0, .slice none 0 0, .slice none 0 0] 35 (((w.alloc (.cells #[.string x.name, .bool x.up, .int .i64 x.clock, .bool x.known, .int .i64 x.seen, .slice a5 x.wants.length c5, .slice a6 x.runs.length c6, .slice a7 x.asks.length c7, .slice a8 x.gives.length c8] 35)).alloc (.cells #[.int .i64 q.kind, .string q.berth, .int .i64 q.seen, .slice b3 q.wants.length d3, .string q.hold, .string q.copy, .int .i64 q.at_] 39)).alloc (.cells #[.string ⟨#[]⟩, .bool false, .int .i64 0, .bool false, .int .i64 0, .slice none 0 0, .slice none 0 0, .slice none 0 0, .slice none 0 0] 35))) := by
    have := Blk.alloc ((w.alloc (.cells #[.string x.name, .bool x.up, .int .i64 x.clock, .bool x.known, .int .i64 x.seen, .slice a5 x.wants.length c5, .slice a6 x.runs.length c6, .slice a7 x.asks.length c7, .slice a8 x.gives.length c8] 35)).alloc (.cells #[.int .i64 q.kind, .string q.berth, .int .i64 q.seen, .slice b3 q.wants.length d3, .string q.hold, .string q.copy, .int .i64 q.at_] 39)) #[.string ⟨#[]⟩, .bool false, .int .i64 0, .bool false, .int .i64 0, .slice none 0 0, .slice none 0 0, .slice none 0 0, .slice none 0 0] 35
    show Blk _ _ _ _
    simpa using this
  have HX2 : Hid (Blk w.heap.size #[.string x.name, .bool x.up, .int .i64 x.clock, .bool x.known, .int .i64 x.seen, .slice a5 x.wants.length c5, .slice a6 x.runs.length c6, .slice a7 x.asks.length c7, .slice a8 x.gives.length c8] 35 (((w.alloc (.cells #[.string x.name, .bool x.up, .int .i64 x.clock, .bool x.known, .int .i64 x.seen, .slice a5 x.wants.length c5, .slice a6 x.runs.length c6, .slice a7 x.asks.length c7, .slice a8 x.gives.length c8] 35)).alloc (.cells #[.int .i64 q.kind, .string q.berth, .int .i64 q.seen, .slice b3 q.wants.length d3, .string q.hold, .string q.copy, .int .i64 q.at_] 39)).alloc (.cells #[.string ⟨#[]⟩, .bool false, .int .i64 0, .bool false, .int .i64 0, .slice none 0 0, .slice none 0 0, .slice none 0 0, .slice none 0 0] 35))) := (HXa.below ((Below.refl _ _).alloc (Nat.le_refl _) _) HXa.lt).below ((Below.refl _ _).alloc (Nat.le_refl _) _) (by simp; omega)
  have HQ2 : Hid (Blk (w.heap.size + 1) #[.int .i64 q.kind, .string q.berth, .int .i64 q.seen, .slice b3 q.wants.length d3, .string q.hold, .string q.copy, .int .i64 q.at_] 39 (((w.alloc (.cells #[.string x.name, .bool x.up, .int .i64 x.clock, .bool x.known, .int .i64 x.seen, .slice a5 x.wants.length c5, .slice a6 x.runs.length c6, .slice a7 x.asks.length c7, .slice a8 x.gives.length c8] 35)).alloc (.cells #[.int .i64 q.kind, .string q.berth, .int .i64 q.seen, .slice b3 q.wants.length d3, .string q.hold, .string q.copy, .int .i64 q.at_] 39)).alloc (.cells #[.string ⟨#[]⟩, .bool false, .int .i64 0, .bool false, .int .i64 0, .slice none 0 0, .slice none 0 0, .slice none 0 0, .slice none 0 0] 35))) := HQa.below ((Below.refl _ _).alloc (Nat.le_refl _) _) HQa.lt
  have hB2 : Below w.heap.size w (((w.alloc (.cells #[.string x.name, .bool x.up, .int .i64 x.clock, .bool x.known, .int .i64 x.seen, .slice a5 x.wants.length c5, .slice a6 x.runs.length c6, .slice a7 x.asks.length c7, .slice a8 x.gives.length c8] 35)).alloc (.cells #[.int .i64 q.kind, .string q.berth, .int .i64 q.seen, .slice b3 q.wants.length d3, .string q.hold, .string q.copy, .int .i64 q.at_] 39)).alloc (.cells #[.string ⟨#[]⟩, .bool false, .int .i64 0, .bool false, .int .i64 0, .slice none 0 0, .slice none 0 0, .slice none 0 0, .slice none 0 0] 35)) := by go_grown
  clear HXa HQa
  go_enter Tryz.func10, Tryz.ntmps10
  go_upto_region 1 with fail
  generalize ((w.alloc (Obj.cells #[.string x.name, .bool x.up, .int .i64 x.clock, .bool x.known, .int .i64 x.seen, .slice a5 x.wants.length c5, .slice a6 x.runs.length c6, .slice a7 x.asks.length c7, .slice a8 x.gives.length c8] 35)).alloc (Obj.cells #[.int .i64 q.kind, .string q.berth, .int .i64 q.seen, .slice b3 q.wants.length d3, .string q.hold, .string q.copy, .int .i64 q.at_] 39)).alloc (Obj.cells #[.string ⟨#[]⟩, .bool false, .int .i64 0, .bool false, .int .i64 0, .slice none 0 0, .slice none 0 0, .slice none 0 0, .slice none 0 0] 35) = w2 at *
  go_wp2_with (refine wpList_load_mid rfl 35 _ rfl w.heap.size 0 (by first | rfl | (simp [go_sem]; done)) [.string x.name, .bool x.up, .int .i64 x.clock, .bool x.known, .int .i64 x.seen, .slice a5 x.wants.length c5, .slice a6 x.runs.length c6, .slice a7 x.asks.length c7, .slice a8 x.gives.length c8] _ HX2.out.rangeA Tryz.underlying35 rfl isz_Mte ?_)
  refine (implValid_any x a5 c5 a6 c6 a7 c7 a8 c8 lo _ (ms_all HM.out (HI.out.below hB2 (Nat.le_refl _)))).mono ?_
  rintro e w3 ⟨rfl, hb3⟩
  have HX3 := Hid.intro (HX2.out.below hb3 HX2.out.lt)
  have HQ3 := Hid.intro (HQ2.out.below hb3 HQ2.out.lt)
  have HZ3 := Hid.intro (HZ2.out.below hb3 HZ2.out.lt)
  have hB3 := hB2.trans (hb3.mono hB2.size)
  clear hb3 HX2 HQ2 HZ2 hB2
  cases hmv : mvB x with
  | false =>
    have HTS := Hid.intro HZ3.out.there
    have hy : noMte = takeM x q := by unfold takeM; rw [hmv]; rfl
    obtain ⟨wf, HE⟩ : ∃ wf, Hid (wf = w3.setCells (w.heap.size + 2) 0 [.string ⟨#[]⟩, .bool false, .int .i64 0, .bool false, .int .i64 0, .slice none 0 0, .slice none 0 0, .slice none 0 0, .slice none 0 0]) := ⟨_, rfl⟩
    have HRf : Hid (wf.rangeAt (w.heap.size + 2) 0 [.string ⟨#[]⟩, .bool false, .int .i64 0, .bool false, .int .i64 0, .slice none 0 0, .slice none 0 0, .slice none 0 0, .slice none 0 0]) := by
      show World.rangeAt _ _ _ _
      rw [HE.out]
      exact World.rangeAt_setCells_same _ _ _ _ HTS.out
    have hBf : Below w.heap.size w wf := by
      rw [HE.out]
      exact below_setCells (by omega) _ _ _ hB3
    have HYY := Hid.intro hy
    clear hB3 hmv hy
    go_wp2_with (refine wpList_store_to rfl 35 _ _ rfl (w.heap.size + 2) 0 #[.string ⟨#[]⟩, .bool false, .int .i64 0, .bool false, .int .i64 0, .slice none 0 0, .slice none 0 0, .slice none 0 0, .slice none 0 0] (by first | rfl | (simp [go_sem]; done)) rfl HTS.out isz_Mte (by simp [Value.oneCell']) wf HE.out ?_)
    exact bodyPost_ret (results_cell_mid rfl _ _ (w.heap.size + 2) [.string ⟨#[]⟩, .bool false, .int .i64 0, .bool false, .int .i64 0, .slice none 0 0, .slice none 0 0, .slice none 0 0, .slice none 0 0] _ rfl HRf.out Tryz.underlying35 rfl isz_Mte) rfl ⟨noMte, none, 0, none, 0, none, 0, none, 0, HYY.out, rfl, ⟨w.heap.size, w.heap.size, w.heap.size, Nat.le_refl _, Nat.le_refl _, Nat.le_refl _, hBf.size, Nat.le_refl _, und_none, und_none, und_none, und_none, SliceC.nil, SliceC.nil, SliceC.nil, SliceC.nil⟩, hBf⟩
  | true =>
    have HYY : Hid (takeY x q = takeM x q) := by show _ = _; unfold takeM takeY; rw [hmv]; rfl
    have HPT := Hid.intro (mv_parts hmv)
    clear hmv
    go_wp2_with (refine wpList_load_mid rfl 35 _ rfl w.heap.size 0 (by first | rfl | (simp [go_sem]; done)) [.string x.name, .bool x.up, .int .i64 x.clock, .bool x.known, .int .i64 x.seen, .slice a5 x.wants.length c5, .slice a6 x.runs.length c6, .slice a7 x.asks.length c7, .slice a8 x.gives.length c8] _ HX3.out.rangeA Tryz.underlying35 rfl isz_Mte ?_)
    refine (berthOf_any x a5 c5 a6 c6 a7 c7 a8 c8 lo _ (ms_all HM.out (HI.out.below hB3 (Nat.le_refl _)))).mono ?_
    rintro e w4 ⟨p, m1, n1, m2, n2, m3, n3, m4, n4, rfl, hP, hM1, hM2, hM3, hM4, hnn, hord, hb4⟩
    have HT4 : Hid (Bth x p lo 1048576 w3 w4) := ⟨a5, c5, a6, x.runs.length, c6, a7, x.asks.length, c7, a8, x.gives.length, c8, some m1, m2, n2, m3, n3, m4, n4, _, _, _, ⟨hP, hM2, hM3, hM4, ⟨Nat.le_trans hnn.2.1 HM.out.l6, Nat.le_trans hnn.2.2.1 HM.out.l7, Nat.le_trans hnn.2.2.2 HM.out.l8⟩, tabR_of HPT.out.1, tabA_of HPT.out.2.1, tabA_of HPT.out.2.2.1, HPT.out.1, HPT.out.2.1, HPT.out.2.2.1, (HI.out.below hB3 (Nat.le_refl _)).s5, HI.out.p5, HM.out, HPT.out.2.2.2, ⟨by omega, hord.2.2.1, hord.2.2.2.1, hord.2.2.2.2⟩, hb4⟩⟩
    have HX4 := Hid.intro (HX3.out.below hb4 HX3.out.lt)
    have HQ4 := Hid.intro (HQ3.out.below hb4 HQ3.out.lt)
    have hz3 : w.heap.size + 2 < w3.heap.size := HZ3.out.lt
    have HQI : Hid (QIn q b3 lo w3) := ⟨HQ.out.s3.below WntC.holds hB3 (Nat.le_refl _), HQ.out.p3, HQ.out.z3, HQ.out.l3, HQ.out.zb, HQ.out.zh, HQ.out.zc⟩
    clear hP hM1 hM2 hM3 hM4 hnn hord hb4 HX3 HQ3
    have k0 : w4.cell? ⟨w.heap.size, 0, none⟩ = some (.string x.name) := HX4.out.cell rfl
    have k1 : w4.cell? ⟨w.heap.size, 1, none⟩ = some (.bool x.up) := HX4.out.cell rfl
    have e1 : w4.cell? ⟨w.heap.size + 1, 1, none⟩ = some (.string q.berth) := HQ4.out.cell rfl
    go_upto_region 4 with fail
    have hor : x.up = true ∨ x.up = false := by cases x.up <;> simp
    rcases hor with hu | hu
    · rw [hu] at k1
      by_cases hn : q.berth = x.name
      · have HE : Hid (takeY x q = takeP x q) := by show _ = _; unfold takeY; rw [hu, decide_eq_true hn]; rfl
        have hn2 : (q.berth.toList == x.name.toList) = true := by rw [hn]; simp
        clear hn hu
        go_wp2_with (refine wpList_load_mid rfl 39 _ rfl (w.heap.size + 1) 0 (by first | rfl | (simp [go_sem]; done)) [.int .i64 q.kind, .string q.berth, .int .i64 q.seen, .slice b3 q.wants.length d3, .string q.hold, .string q.copy, .int .i64 q.at_] _ HQ4.out.rangeA Tryz.underlying39 rfl isz_Pcl ?_)
        refine (take_any x q b3 d3 p lo 1048576 w3 _ HT4.out HQI.out (by omega)).mono ?_
        rintro e w5 ⟨rfl, hn5⟩
        have HC : Hid (Bth (takeY x q) p lo 1048577 w3 w5) := by rw [HE.out]; exact hn5
        clear hn5 hn2 HE
        skip
        obtain ⟨Y, hY⟩ : ∃ Y, Y = takeY x q := ⟨_, rfl⟩
        rw [← hY] at HC HYY
        have HYQ := Hid.intro HYY.out
        clear hY HYY
        obtain ⟨a5, c5, o6, k6, j6, o7, k7, j7, o8, k8, j8, m1, m2, n2, m3, n3, m4, n4, D2, D3, D4, hT⟩ := HC.out
        have HT := Hid.intro hT
        clear HC hT
        have hs5 := HT.out.s5.below WntC.holds HT.out.hB (Nat.le_refl _)
        have hnn := HT.out.nn
        go_wp2_with fail
        refine (told_any Y p a5 c5 o6 k6 j6 o7 k7 j7 o8 k8 j8 m1 m2 n2 m3 n3 m4 n4 lo D2 D3 D4 _ HT.out.hP HT.out.M2 HT.out.M3 HT.out.M4 (by omega) (by omega) (by omega) HT.out.T2 HT.out.T3 HT.out.T4 HT.out.A6 HT.out.A7 HT.out.A8 (fun a ha => by have := (HT.out.sz.z6 a ha).1; unfold maxLen; omega) (fun a ha => by have := (HT.out.sz.z7 a ha).1; unfold maxLen; omega) (fun a ha => by have := (HT.out.sz.z8 a ha).1; unfold maxLen; omega) hs5 HT.out.p5 HT.out.sz).mono ?_
        rintro e w6 ⟨d5, r5, d6, r6, d7, r7, d8, r8, rfl, hg, hb6⟩
        have hBc : Below w.heap.size w w5 := hB3.trans (HT.out.hB.mono hB3.size)
        have hz : w.heap.size + 2 < w5.heap.size := Nat.lt_of_lt_of_le hz3 HT.out.hB.size
        have HZ6 := Hid.intro ((HZ3.out.below HT.out.hB HZ3.out.lt).below hb6 hz)
        have hB6 := hBc.trans (hb6.mono hBc.size)
        have HG6 := Hid.intro hg
        have HTS := Hid.intro HZ6.out.there
        clear HT hs5 hnn hg hB3 HZ3 hBc
        obtain ⟨wf, HE⟩ : ∃ wf, Hid (wf = w6.setCells (w.heap.size + 2) 0 [.string Y.name, .bool Y.up, .int .i64 Y.clock, .bool Y.known, .int .i64 Y.seen, .slice d5 Y.wants.length r5, .slice d6 Y.runs.length r6, .slice d7 Y.asks.length r7, .slice d8 Y.gives.length r8]) := ⟨_, rfl⟩
        have HRf : Hid (wf.rangeAt (w.heap.size + 2) 0 [.string Y.name, .bool Y.up, .int .i64 Y.clock, .bool Y.known, .int .i64 Y.seen, .slice d5 Y.wants.length r5, .slice d6 Y.runs.length r6, .slice d7 Y.asks.length r7, .slice d8 Y.gives.length r8]) := by
          show World.rangeAt _ _ _ _
          rw [HE.out]
          exact World.rangeAt_setCells_same _ _ _ _ HTS.out
        have hBf : Below w.heap.size w wf := by
          rw [HE.out]
          exact below_setCells (by omega) _ _ _ hB6
        have hsz : w6.heap.size ≤ wf.heap.size := by
          rw [HE.out]
          exact (Keeps.setCells (show w.heap.size + 2 < w.heap.size + 3 by omega) _ _ _).1
        have HGf : Hid (G4 Y w.heap.size wf.heap.size d5 d6 d7 d8 wf) := by
          have h1 : G4 Y w5.heap.size w6.heap.size d5 d6 d7 d8 wf := by
            rw [HE.out]
            exact HG6.out.keep (Keeps.setCells (show w.heap.size + 2 < w5.heap.size by omega) _ _ _)
          exact h1.widen (by omega) (by omega) (by omega)
        clear hB6 HG6 hb6
        go_wp2_with (refine wpList_store_to rfl 35 _ _ rfl (w.heap.size + 2) 0 #[.string Y.name, .bool Y.up, .int .i64 Y.clock, .bool Y.known, .int .i64 Y.seen, .slice d5 Y.wants.length r5, .slice d6 Y.runs.length r6, .slice d7 Y.asks.length r7, .slice d8 Y.gives.length r8] (by first | rfl | (simp [go_sem]; done)) rfl HTS.out isz_Mte (by simp [Value.oneCell']) wf HE.out ?_)
        exact bodyPost_ret (results_cell_mid rfl _ _ (w.heap.size + 2) [.string Y.name, .bool Y.up, .int .i64 Y.clock, .bool Y.known, .int .i64 Y.seen, .slice d5 Y.wants.length r5, .slice d6 Y.runs.length r6, .slice d7 Y.asks.length r7, .slice d8 Y.gives.length r8] _ rfl HRf.out Tryz.underlying35 rfl isz_Mte) rfl ⟨Y, d5, r5, d6, r6, d7, r7, d8, r8, HYQ.out, rfl, HGf.out, hBf⟩
      · have HE : Hid (takeY x q = x) := by show _ = _; unfold takeY; rw [hu, decide_eq_false hn]; rfl
        have hn2 : (q.berth.toList == x.name.toList) = false := bt_ne hn
        have HC : Hid (Bth (takeY x q) p lo 1048577 w3 w4) := by rw [HE.out]; exact HT4.out.more
        clear hn hu HE
        skip
        obtain ⟨Y, hY⟩ : ∃ Y, Y = takeY x q := ⟨_, rfl⟩
        rw [← hY] at HC HYY
        have HYQ := Hid.intro HYY.out
        clear hY HYY
        obtain ⟨a5, c5, o6, k6, j6, o7, k7, j7, o8, k8, j8, m1, m2, n2, m3, n3, m4, n4, D2, D3, D4, hT⟩ := HC.out
        have HT := Hid.intro hT
        clear HC hT
        have hs5 := HT.out.s5.below WntC.holds HT.out.hB (Nat.le_refl _)
        have hnn := HT.out.nn
        go_wp2_with fail
        refine (told_any Y p a5 c5 o6 k6 j6 o7 k7 j7 o8 k8 j8 m1 m2 n2 m3 n3 m4 n4 lo D2 D3 D4 _ HT.out.hP HT.out.M2 HT.out.M3 HT.out.M4 (by omega) (by omega) (by omega) HT.out.T2 HT.out.T3 HT.out.T4 HT.out.A6 HT.out.A7 HT.out.A8 (fun a ha => by have := (HT.out.sz.z6 a ha).1; unfold maxLen; omega) (fun a ha => by have := (HT.out.sz.z7 a ha).1; unfold maxLen; omega) (fun a ha => by have := (HT.out.sz.z8 a ha).1; unfold maxLen; omega) hs5 HT.out.p5 HT.out.sz).mono ?_
        rintro e w6 ⟨d5, r5, d6, r6, d7, r7, d8, r8, rfl, hg, hb6⟩
        have hBc : Below w.heap.size w w4 := hB3.trans (HT.out.hB.mono hB3.size)
        have hz : w.heap.size + 2 < w4.heap.size := Nat.lt_of_lt_of_le hz3 HT.out.hB.size
        have HZ6 := Hid.intro ((HZ3.out.below HT.out.hB HZ3.out.lt).below hb6 hz)
        have hB6 := hBc.trans (hb6.mono hBc.size)
        have HG6 := Hid.intro hg
        have HTS := Hid.intro HZ6.out.there
        clear HT hs5 hnn hg hB3 HZ3 hBc
        obtain ⟨wf, HE⟩ : ∃ wf, Hid (wf = w6.setCells (w.heap.size + 2) 0 [.string Y.name, .bool Y.up, .int .i64 Y.clock, .bool Y.known, .int .i64 Y.seen, .slice d5 Y.wants.length r5, .slice d6 Y.runs.length r6, .slice d7 Y.asks.length r7, .slice d8 Y.gives.length r8]) := ⟨_, rfl⟩
        have HRf : Hid (wf.rangeAt (w.heap.size + 2) 0 [.string Y.name, .bool Y.up, .int .i64 Y.clock, .bool Y.known, .int .i64 Y.seen, .slice d5 Y.wants.length r5, .slice d6 Y.runs.length r6, .slice d7 Y.asks.length r7, .slice d8 Y.gives.length r8]) := by
          show World.rangeAt _ _ _ _
          rw [HE.out]
          exact World.rangeAt_setCells_same _ _ _ _ HTS.out
        have hBf : Below w.heap.size w wf := by
          rw [HE.out]
          exact below_setCells (by omega) _ _ _ hB6
        have hsz : w6.heap.size ≤ wf.heap.size := by
          rw [HE.out]
          exact (Keeps.setCells (show w.heap.size + 2 < w.heap.size + 3 by omega) _ _ _).1
        have HGf : Hid (G4 Y w.heap.size wf.heap.size d5 d6 d7 d8 wf) := by
          have h1 : G4 Y w4.heap.size w6.heap.size d5 d6 d7 d8 wf := by
            rw [HE.out]
            exact HG6.out.keep (Keeps.setCells (show w.heap.size + 2 < w4.heap.size by omega) _ _ _)
          exact h1.widen (by omega) (by omega) (by omega)
        clear hB6 HG6 hb6
        go_wp2_with (refine wpList_store_to rfl 35 _ _ rfl (w.heap.size + 2) 0 #[.string Y.name, .bool Y.up, .int .i64 Y.clock, .bool Y.known, .int .i64 Y.seen, .slice d5 Y.wants.length r5, .slice d6 Y.runs.length r6, .slice d7 Y.asks.length r7, .slice d8 Y.gives.length r8] (by first | rfl | (simp [go_sem]; done)) rfl HTS.out isz_Mte (by simp [Value.oneCell']) wf HE.out ?_)
        exact bodyPost_ret (results_cell_mid rfl _ _ (w.heap.size + 2) [.string Y.name, .bool Y.up, .int .i64 Y.clock, .bool Y.known, .int .i64 Y.seen, .slice d5 Y.wants.length r5, .slice d6 Y.runs.length r6, .slice d7 Y.asks.length r7, .slice d8 Y.gives.length r8] _ rfl HRf.out Tryz.underlying35 rfl isz_Mte) rfl ⟨Y, d5, r5, d6, r6, d7, r7, d8, r8, HYQ.out, rfl, HGf.out, hBf⟩
    · have HE : Hid (takeY x q = x) := by show _ = _; unfold takeY; rw [hu]; rfl
      have HC : Hid (Bth (takeY x q) p lo 1048577 w3 w4) := by rw [HE.out]; exact HT4.out.more
      rw [hu] at k1
      clear hu HE
      skip
      obtain ⟨Y, hY⟩ : ∃ Y, Y = takeY x q := ⟨_, rfl⟩
      rw [← hY] at HC HYY
      have HYQ := Hid.intro HYY.out
      clear hY HYY
      obtain ⟨a5, c5, o6, k6, j6, o7, k7, j7, o8, k8, j8, m1, m2, n2, m3, n3, m4, n4, D2, D3, D4, hT⟩ := HC.out
      have HT := Hid.intro hT
      clear HC hT
      have hs5 := HT.out.s5.below WntC.holds HT.out.hB (Nat.le_refl _)
      have hnn := HT.out.nn
      go_wp2_with fail
      refine (told_any Y p a5 c5 o6 k6 j6 o7 k7 j7 o8 k8 j8 m1 m2 n2 m3 n3 m4 n4 lo D2 D3 D4 _ HT.out.hP HT.out.M2 HT.out.M3 HT.out.M4 (by omega) (by omega) (by omega) HT.out.T2 HT.out.T3 HT.out.T4 HT.out.A6 HT.out.A7 HT.out.A8 (fun a ha => by have := (HT.out.sz.z6 a ha).1; unfold maxLen; omega) (fun a ha => by have := (HT.out.sz.z7 a ha).1; unfold maxLen; omega) (fun a ha => by have := (HT.out.sz.z8 a ha).1; unfold maxLen; omega) hs5 HT.out.p5 HT.out.sz).mono ?_
      rintro e w6 ⟨d5, r5, d6, r6, d7, r7, d8, r8, rfl, hg, hb6⟩
      have hBc : Below w.heap.size w w4 := hB3.trans (HT.out.hB.mono hB3.size)
      have hz : w.heap.size + 2 < w4.heap.size := Nat.lt_of_lt_of_le hz3 HT.out.hB.size
      have HZ6 := Hid.intro ((HZ3.out.below HT.out.hB HZ3.out.lt).below hb6 hz)
      have hB6 := hBc.trans (hb6.mono hBc.size)
      have HG6 := Hid.intro hg
      have HTS := Hid.intro HZ6.out.there
      clear HT hs5 hnn hg hB3 HZ3 hBc
      obtain ⟨wf, HE⟩ : ∃ wf, Hid (wf = w6.setCells (w.heap.size + 2) 0 [.string Y.name, .bool Y.up, .int .i64 Y.clock, .bool Y.known, .int .i64 Y.seen, .slice d5 Y.wants.length r5, .slice d6 Y.runs.length r6, .slice d7 Y.asks.length r7, .slice d8 Y.gives.length r8]) := ⟨_, rfl⟩
      have HRf : Hid (wf.rangeAt (w.heap.size + 2) 0 [.string Y.name, .bool Y.up, .int .i64 Y.clock, .bool Y.known, .int .i64 Y.seen, .slice d5 Y.wants.length r5, .slice d6 Y.runs.length r6, .slice d7 Y.asks.length r7, .slice d8 Y.gives.length r8]) := by
        show World.rangeAt _ _ _ _
        rw [HE.out]
        exact World.rangeAt_setCells_same _ _ _ _ HTS.out
      have hBf : Below w.heap.size w wf := by
        rw [HE.out]
        exact below_setCells (by omega) _ _ _ hB6
      have hsz : w6.heap.size ≤ wf.heap.size := by
        rw [HE.out]
        exact (Keeps.setCells (show w.heap.size + 2 < w.heap.size + 3 by omega) _ _ _).1
      have HGf : Hid (G4 Y w.heap.size wf.heap.size d5 d6 d7 d8 wf) := by
        have h1 : G4 Y w4.heap.size w6.heap.size d5 d6 d7 d8 wf := by
          rw [HE.out]
          exact HG6.out.keep (Keeps.setCells (show w.heap.size + 2 < w4.heap.size by omega) _ _ _)
        exact h1.widen (by omega) (by omega) (by omega)
      clear hB6 HG6 hb6
      go_wp2_with (refine wpList_store_to rfl 35 _ _ rfl (w.heap.size + 2) 0 #[.string Y.name, .bool Y.up, .int .i64 Y.clock, .bool Y.known, .int .i64 Y.seen, .slice d5 Y.wants.length r5, .slice d6 Y.runs.length r6, .slice d7 Y.asks.length r7, .slice d8 Y.gives.length r8] (by first | rfl | (simp [go_sem]; done)) rfl HTS.out isz_Mte (by simp [Value.oneCell']) wf HE.out ?_)
      exact bodyPost_ret (results_cell_mid rfl _ _ (w.heap.size + 2) [.string Y.name, .bool Y.up, .int .i64 Y.clock, .bool Y.known, .int .i64 Y.seen, .slice d5 Y.wants.length r5, .slice d6 Y.runs.length r6, .slice d7 Y.asks.length r7, .slice d8 Y.gives.length r8] _ rfl HRf.out Tryz.underlying35 rfl isz_Mte) rfl ⟨Y, d5, r5, d6, r6, d7, r7, d8, r8, HYQ.out, rfl, HGf.out, hBf⟩

end Go.Proofs.YtlangcodelcncaaGreat
