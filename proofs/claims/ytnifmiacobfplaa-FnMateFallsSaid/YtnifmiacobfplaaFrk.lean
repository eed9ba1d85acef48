import Derived.Test.YtnifmiacobfplaaNcq
import Derived.Test.YtnifmiacobfplaaJ35
namespace Go.Proofs.Ytnifmiacobfplaa
open Go.RowKit

set_option maxHeartbeats 8000000 in
set_option maxRecDepth 100000 in
theorem specRise_ok (x : Mte) (a5 : Option Addr) (c5 : Nat) (a6 : Option Addr) (c6 : Nat) (a7 : Option Addr) (c7 : Nat) (a8 : Option Addr) (c8 : Nat) (lo : Nat) (w : World) (hin : MSv x lo a5 a6 a7 a8 w) (hv : MNil a5 x.wants.length c5 a6 x.runs.length c6 a7 x.asks.length c7 a8 x.gives.length c8) (hm : MSz x) :
  Calls Try.prog 9 #[.agg #[.string x.name, .bool x.up, .int .i64 x.clock, .bool x.known, .int .i64 x.seen, .slice a5 x.wants.length c5, .slice a6 x.runs.length c6, .slice a7 x.asks.length c7, .slice a8 x.gives.length c8]] w fun e w' => ∃ (y : Mte) (b5 : Option Addr) (q5 : Nat) (b6 : Option Addr) (q6 : Nat) (b7 : Option Addr) (q7 : Nat) (b8 : Option Addr) (q8 : Nat), y = rise x ∧ e = .returned (.agg #[.string y.name, .bool y.up, .int .i64 y.clock, .bool y.known, .int .i64 y.seen, .slice b5 y.wants.length q5, .slice b6 y.runs.length q6, .slice b7 y.asks.length q7, .slice b8 y.gives.length q8]) ∧ SliceC WntC 7 w.heap.size w' b5 y.wants ∧ SliceC RnC 11 w.heap.size w' b6 y.runs ∧ SliceC AksC 4 w.heap.size w' b7 y.asks ∧ SliceC AksC 4 w.heap.size w' b8 y.gives ∧ Below w.heap.size w w' ∧ MOk b5 y.wants.length q5 b6 y.runs.length q6 b7 y.asks.length q7 b8 y.gives.length q8 := by
 have HI := Hid.intro hin
 have HV := Hid.intro hv
 have HM := Hid.intro hm
 clear hin hm hv
 have HKa : Blk w.heap.size #[.string x.name, .bool x.up, .int .i64 x.clock, .bool x.known, .int .i64 x.seen, .slice a5 x.wants.length c5, .slice a6 x.runs.length c6, .slice a7 x.asks.length c7, .slice a8 x.gives.length c8] 27 (w.alloc (.cells #[.string x.name, .bool x.up, .int .i64 x.clock, .bool x.known, .int .i64 x.seen, .slice a5 x.wants.length c5, .slice a6 x.runs.length c6, .slice a7 x.asks.length c7, .slice a8 x.gives.length c8] 27)) := Blk.alloc _ _ _
 have HZ2 : Hid (Blk (w.heap.size + 1) #[.string ⟨#[]⟩, .bool false, .int .i64 0, .bool false, .int .i64 0, .slice none 0 0, .slice none 0 0, .slice none 0 0, .slice none 0 0] 27 ((w.alloc (.cells #[.string x.name, .bool x.up, .int .i64 x.clock, .bool x.known, .int .i64 x.seen, .slice a5 x.wants.length c5, .slice a6 x.runs.length c6, .slice a7 x.asks.length c7, .slice a8 x.gives.length c8] 27)).alloc (.cells #[.string ⟨#[]⟩, .bool false, .int .i64 0, .bool false, .int .i64 0, .slice none 0 0, .slice none 0 0, .slice none 0 0, .slice none 0 0] 27))) := by
  have := Blk.alloc (w.alloc (.cells #[.string x.name, .bool x.up, .int .i64 x.clock, .bool x.known, .int .i64 x.seen, .slice a5 x.wants.length c5, .slice a6 x.runs.length c6, .slice a7 x.asks.length c7, .slice a8 x.gives.length c8] 27)) #[.string ⟨#[]⟩, .bool false, .int .i64 0, .bool false, .int .i64 0, .slice none 0 0, .slice none 0 0, .slice none 0 0, .slice none 0 0] 27
  show Blk _ _ _ _
  simpa using this
 have HK2 : Hid (Blk w.heap.size #[.string x.name, .bool x.up, .int .i64 x.clock, .bool x.known, .int .i64 x.seen, .slice a5 x.wants.length c5, .slice a6 x.runs.length c6, .slice a7 x.asks.length c7, .slice a8 x.gives.length c8] 27 ((w.alloc (.cells #[.string x.name, .bool x.up, .int .i64 x.clock, .bool x.known, .int .i64 x.seen, .slice a5 x.wants.length c5, .slice a6 x.runs.length c6, .slice a7 x.asks.length c7, .slice a8 x.gives.length c8] 27)).alloc (.cells #[.string ⟨#[]⟩, .bool false, .int .i64 0, .bool false, .int .i64 0, .slice none 0 0, .slice none 0 0, .slice none 0 0, .slice none 0 0] 27))) := HKa.below ((Below.refl _ _).alloc (Nat.le_refl _) _) HKa.lt
 have hB2 : Below w.heap.size w ((w.alloc (.cells #[.string x.name, .bool x.up, .int .i64 x.clock, .bool x.known, .int .i64 x.seen, .slice a5 x.wants.length c5, .slice a6 x.runs.length c6, .slice a7 x.asks.length c7, .slice a8 x.gives.length c8] 27)).alloc (.cells #[.string ⟨#[]⟩, .bool false, .int .i64 0, .bool false, .int .i64 0, .slice none 0 0, .slice none 0 0, .slice none 0 0, .slice none 0 0] 27)) := by go_grown
 clear HKa
 go_enter Try.func9, Try.ntmps9
 go_upto_region 1 with fail
 generalize (w.alloc (Obj.cells #[.string x.name, .bool x.up, .int .i64 x.clock, .bool x.known, .int .i64 x.seen, .slice a5 x.wants.length c5, .slice a6 x.runs.length c6, .slice a7 x.asks.length c7, .slice a8 x.gives.length c8] 27)).alloc (Obj.cells #[.string ⟨#[]⟩, .bool false, .int .i64 0, .bool false, .int .i64 0, .slice none 0 0, .slice none 0 0, .slice none 0 0, .slice none 0 0] 27) = w2 at *
 go_wp2_with (refine wpList_load_mid rfl 27 _ rfl w.heap.size 0 (by first | rfl | (simp [go_sem]; done)) [.string x.name, .bool x.up, .int .i64 x.clock, .bool x.known, .int .i64 x.seen, .slice a5 x.wants.length c5, .slice a6 x.runs.length c6, .slice a7 x.asks.length c7, .slice a8 x.gives.length c8] _ HK2.out.rangeA Try.underlying27 rfl isz_Mte ?_)
 refine (specValid_any x a5 c5 a6 c6 a7 c7 a8 c8 lo _ (ms_all HM.out (HI.out.below hB2 (Nat.le_refl _)))).mono ?_
 rintro e w3 ⟨rfl, hb3⟩
 have HK3 := Hid.intro (HK2.out.below hb3 HK2.out.lt)
 have HZ3 := Hid.intro (HZ2.out.below hb3 HZ2.out.lt)
 have hB3 := hB2.trans (hb3.mono hB2.size)
 clear hb3 HK2 HZ2 hB2
 have HTS := Hid.intro HZ3.out.there
 cases hmv : mvB x with
 | false =>
  have hy : noMte = rise x := by unfold rise; rw [hmv]; rfl
  obtain ⟨wf, HE⟩ : ∃ wf, Hid (wf = w3.setCells (w.heap.size + 1) 0 [.string ⟨#[]⟩, .bool false, .int .i64 0, .bool false, .int .i64 0, .slice none 0 0, .slice none 0 0, .slice none 0 0, .slice none 0 0]) := ⟨_, rfl⟩
  have HRf : Hid (wf.rangeAt (w.heap.size + 1) 0 [.string ⟨#[]⟩, .bool false, .int .i64 0, .bool false, .int .i64 0, .slice none 0 0, .slice none 0 0, .slice none 0 0, .slice none 0 0]) := by
   show World.rangeAt _ _ _ _
   rw [HE.out]
   exact World.rangeAt_setCells_same _ _ _ _ HTS.out
  have hBf : Below w.heap.size w wf := by
   rw [HE.out]
   exact below_setCells (by omega) _ _ _ hB3
  have HYY := Hid.intro hy
  clear hB3 hmv hy
  go_wp2_with (refine wpList_store_to rfl 27 _ _ rfl (w.heap.size + 1) 0 #[.string ⟨#[]⟩, .bool false, .int .i64 0, .bool false, .int .i64 0, .slice none 0 0, .slice none 0 0, .slice none 0 0, .slice none 0 0] (by first | rfl | (simp [go_sem]; done)) rfl HTS.out isz_Mte (by simp [Value.oneCell']) wf HE.out ?_)
  exact bodyPost_ret (results_cell_mid rfl _ _ (w.heap.size + 1) [.string ⟨#[]⟩, .bool false, .int .i64 0, .bool false, .int .i64 0, .slice none 0 0, .slice none 0 0, .slice none 0 0, .slice none 0 0] _ rfl HRf.out Try.underlying27 rfl isz_Mte) rfl ⟨noMte, none, 0, none, 0, none, 0, none, 0, HYY.out, rfl, SliceC.nil, SliceC.nil, SliceC.nil, SliceC.nil, hBf, ⟨fun _ => ⟨rfl, rfl⟩, fun _ => ⟨rfl, rfl⟩, fun _ => ⟨rfl, rfl⟩, fun _ => ⟨rfl, rfl⟩, fun _ _ _ e => (by cases e), fun _ _ _ e => (by cases e), fun _ _ _ e => (by cases e), fun _ _ _ e => (by cases e)⟩⟩
 | true =>
  have HMV := Hid.intro hmv
  clear hmv HTS
  go_wp2_with (refine wpList_load_mid rfl 27 _ rfl w.heap.size 0 (by first | rfl | (simp [go_sem]; done)) [.string x.name, .bool x.up, .int .i64 x.clock, .bool x.known, .int .i64 x.seen, .slice a5 x.wants.length c5, .slice a6 x.runs.length c6, .slice a7 x.asks.length c7, .slice a8 x.gives.length c8] _ HK3.out.rangeA Try.underlying27 rfl isz_Mte ?_)
  refine (copy13_any x a5 c5 a6 c6 a7 c7 a8 c8 lo _ (HI.out.below hB3 (Nat.le_refl _)) HV.out HM.out).mono ?_
  rintro e w4 ⟨b5, q5, b6, q6, b7, q7, b8, q8, rfl, p5, p6, p7, p8, hb4⟩
  have hgl : w.heap.size + 1 < w3.heap.size := HZ3.out.lt
  have HK4 := Hid.intro (HK3.out.below hb4 HK3.out.lt)
  have HZ4 := Hid.intro (HZ3.out.below hb4 HZ3.out.lt)
  have hB4 := hB3.trans (hb4.mono hB3.size)
  have hs4 := hb4.size
  have hba : Below w4.heap.size w4 (w4.alloc (Obj.cells #[.string x.name, .bool x.up, .int .i64 x.clock, .bool x.known, .int .i64 x.seen, .slice (some ⟨b5, 0, none⟩) x.wants.length q5, .slice (some ⟨b6, 0, none⟩) x.runs.length q6, .slice (some ⟨b7, 0, none⟩) x.asks.length q7, .slice (some ⟨b8, 0, none⟩) x.gives.length q8] 27)) := (Below.refl _ _).alloc (Nat.le_refl _) _
  have HX5 : Hid (Blk w4.heap.size #[.string x.name, .bool x.up, .int .i64 x.clock, .bool x.known, .int .i64 x.seen, .slice (some ⟨b5, 0, none⟩) x.wants.length q5, .slice (some ⟨b6, 0, none⟩) x.runs.length q6, .slice (some ⟨b7, 0, none⟩) x.asks.length q7, .slice (some ⟨b8, 0, none⟩) x.gives.length q8] 27 (w4.alloc (Obj.cells #[.string x.name, .bool x.up, .int .i64 x.clock, .bool x.known, .int .i64 x.seen, .slice (some ⟨b5, 0, none⟩) x.wants.length q5, .slice (some ⟨b6, 0, none⟩) x.runs.length q6, .slice (some ⟨b7, 0, none⟩) x.asks.length q7, .slice (some ⟨b8, 0, none⟩) x.gives.length q8] 27))) := Blk.alloc _ _ _
  have HK5 := Hid.intro (HK4.out.below hba HK4.out.lt)
  have HZ5 := Hid.intro (HZ4.out.below hba HZ4.out.lt)
  have hB5 := hB4.trans (hba.mono hB4.size)
  have P5 : Hid (SliceC WntC 7 w3.heap.size (w4.alloc (Obj.cells #[.string x.name, .bool x.up, .int .i64 x.clock, .bool x.known, .int .i64 x.seen, .slice (some ⟨b5, 0, none⟩) x.wants.length q5, .slice (some ⟨b6, 0, none⟩) x.runs.length q6, .slice (some ⟨b7, 0, none⟩) x.asks.length q7, .slice (some ⟨b8, 0, none⟩) x.gives.length q8] 27)) (some ⟨b5, 0, none⟩) x.wants) := p5.below WntC.holds hba (Nat.le_refl _)
  have P6 : Hid (SliceC RnC 11 w3.heap.size (w4.alloc (Obj.cells #[.string x.name, .bool x.up, .int .i64 x.clock, .bool x.known, .int .i64 x.seen, .slice (some ⟨b5, 0, none⟩) x.wants.length q5, .slice (some ⟨b6, 0, none⟩) x.runs.length q6, .slice (some ⟨b7, 0, none⟩) x.asks.length q7, .slice (some ⟨b8, 0, none⟩) x.gives.length q8] 27)) (some ⟨b6, 0, none⟩) x.runs) := p6.below RnC.holds hba (Nat.le_refl _)
  have P7 : Hid (SliceC AksC 4 w3.heap.size (w4.alloc (Obj.cells #[.string x.name, .bool x.up, .int .i64 x.clock, .bool x.known, .int .i64 x.seen, .slice (some ⟨b5, 0, none⟩) x.wants.length q5, .slice (some ⟨b6, 0, none⟩) x.runs.length q6, .slice (some ⟨b7, 0, none⟩) x.asks.length q7, .slice (some ⟨b8, 0, none⟩) x.gives.length q8] 27)) (some ⟨b7, 0, none⟩) x.asks) := p7.below AksC.holds hba (Nat.le_refl _)
  have P8 : Hid (SliceC AksC 4 w3.heap.size (w4.alloc (Obj.cells #[.string x.name, .bool x.up, .int .i64 x.clock, .bool x.known, .int .i64 x.seen, .slice (some ⟨b5, 0, none⟩) x.wants.length q5, .slice (some ⟨b6, 0, none⟩) x.runs.length q6, .slice (some ⟨b7, 0, none⟩) x.asks.length q7, .slice (some ⟨b8, 0, none⟩) x.gives.length q8] 27)) (some ⟨b8, 0, none⟩) x.gives) := p8.below AksC.holds hba (Nat.le_refl _)
  have hbq := hba
  have PB5 := Hid.intro p5
  have PB6 := Hid.intro p6
  have PB7 := Hid.intro p7
  have PB8 := Hid.intro p8
  clear hb4 hba HK3 HZ3 hB3 HK4 HZ4 hB4 p5 p6 p7 p8
  go_upto_region 4 with fail
  generalize w4.alloc (Obj.cells #[.string x.name, .bool x.up, .int .i64 x.clock, .bool x.known, .int .i64 x.seen, .slice (some ⟨b5, 0, none⟩) x.wants.length q5, .slice (some ⟨b6, 0, none⟩) x.runs.length q6, .slice (some ⟨b7, 0, none⟩) x.asks.length q7, .slice (some ⟨b8, 0, none⟩) x.gives.length q8] 27) = w5 at *
  generalize hq4 : w4.heap.size = q at *
  have HQ4 := Hid.intro hq4
  clear hq4
  have k2 : w5.cell? ⟨w.heap.size, 2, none⟩ = some (.int .i64 x.clock) := HK5.out.cell rfl
  by_cases hc : x.clock < 1000000
  ·have HYY : Hid ({ x with up := true } = rise x) := by show _ = _; unfold rise riU; rw [HMV.out, decide_eq_true hc]; simp
   have kx : w5.cell? ⟨q, 1, none⟩ = some (.bool x.up) := HX5.out.cell rfl
   have fx : w5.frozen? ⟨q, 1, none⟩ = false := HX5.out.frozen _
   have HX6 : Hid (Blk q #[.string x.name, .bool true, .int .i64 x.clock, .bool x.known, .int .i64 x.seen, .slice (some ⟨b5, 0, none⟩) x.wants.length q5, .slice (some ⟨b6, 0, none⟩) x.runs.length q6, .slice (some ⟨b7, 0, none⟩) x.asks.length q7, .slice (some ⟨b8, 0, none⟩) x.gives.length q8] 27 (w5.setCell ⟨q, 1, none⟩ (.bool true))) := HX5.out.set 1 _
   have HZ6 : Hid (Blk (w.heap.size + 1) #[.string ⟨#[]⟩, .bool false, .int .i64 0, .bool false, .int .i64 0, .slice none 0 0, .slice none 0 0, .slice none 0 0, .slice none 0 0] 27 (w5.setCell ⟨q, 1, none⟩ (.bool true))) := HZ5.out.other (a := ⟨q, 1, none⟩) (show w.heap.size + 1 ≠ q by omega) _
   have hB6 : Below w.heap.size w (w5.setCell ⟨q, 1, none⟩ (.bool true)) := hB5.setCell (p := ⟨q, 1, none⟩) (show w.heap.size ≤ q by omega) _
   replace P5 : Hid (SliceC WntC 7 w3.heap.size (w5.setCell ⟨q, 1, none⟩ (.bool true)) (some ⟨b5, 0, none⟩) x.wants) := PB5.out.below WntC.holds (hbq.setCell (p := ⟨q, 1, none⟩) (Nat.le_refl _) _) (Nat.le_of_eq HQ4.out)
   replace P6 : Hid (SliceC RnC 11 w3.heap.size (w5.setCell ⟨q, 1, none⟩ (.bool true)) (some ⟨b6, 0, none⟩) x.runs) := PB6.out.below RnC.holds (hbq.setCell (p := ⟨q, 1, none⟩) (Nat.le_refl _) _) (Nat.le_of_eq HQ4.out)
   replace P7 : Hid (SliceC AksC 4 w3.heap.size (w5.setCell ⟨q, 1, none⟩ (.bool true)) (some ⟨b7, 0, none⟩) x.asks) := PB7.out.below AksC.holds (hbq.setCell (p := ⟨q, 1, none⟩) (Nat.le_refl _) _) (Nat.le_of_eq HQ4.out)
   replace P8 : Hid (SliceC AksC 4 w3.heap.size (w5.setCell ⟨q, 1, none⟩ (.bool true)) (some ⟨b8, 0, none⟩) x.gives) := PB8.out.below AksC.holds (hbq.setCell (p := ⟨q, 1, none⟩) (Nat.le_refl _) _) (Nat.le_of_eq HQ4.out)
   clear HX5 HZ5 hB5 HK5
   go_upto_region 6 with fail
   clear kx fx k2
   generalize w5.setCell ⟨q, 1, none⟩ (.bool true) = w6 at *
   obtain ⟨wf, HE⟩ : ∃ wf, Hid (wf = w6.setCells (w.heap.size + 1) 0 [.string x.name, .bool true, .int .i64 x.clock, .bool x.known, .int .i64 x.seen, .slice (some ⟨b5, 0, none⟩) x.wants.length q5, .slice (some ⟨b6, 0, none⟩) x.runs.length q6, .slice (some ⟨b7, 0, none⟩) x.asks.length q7, .slice (some ⟨b8, 0, none⟩) x.gives.length q8]) := ⟨_, rfl⟩
   have HTZ := Hid.intro HZ6.out.there
   have HRf : Hid (wf.rangeAt (w.heap.size + 1) 0 [.string x.name, .bool true, .int .i64 x.clock, .bool x.known, .int .i64 x.seen, .slice (some ⟨b5, 0, none⟩) x.wants.length q5, .slice (some ⟨b6, 0, none⟩) x.runs.length q6, .slice (some ⟨b7, 0, none⟩) x.asks.length q7, .slice (some ⟨b8, 0, none⟩) x.gives.length q8]) := by
    show World.rangeAt _ _ _ _
    rw [HE.out]
    exact World.rangeAt_setCells_same _ _ _ _ HTZ.out
   have hBf : Below w.heap.size w wf := by
    rw [HE.out]
    exact below_setCells (by omega) _ _ _ hB6
   replace P5 : Hid (SliceC WntC 7 w3.heap.size wf (some ⟨b5, 0, none⟩) x.wants) := by
    show SliceC _ _ _ _ _ _
    rw [HE.out]
    exact P5.out.keep WntC.holds (Keeps.setCells hgl _ _ _) (Nat.le_refl _)
   replace P6 : Hid (SliceC RnC 11 w3.heap.size wf (some ⟨b6, 0, none⟩) x.runs) := by
    show SliceC _ _ _ _ _ _
    rw [HE.out]
    exact P6.out.keep RnC.holds (Keeps.setCells hgl _ _ _) (Nat.le_refl _)
   replace P7 : Hid (SliceC AksC 4 w3.heap.size wf (some ⟨b7, 0, none⟩) x.asks) := by
    show SliceC _ _ _ _ _ _
    rw [HE.out]
    exact P7.out.keep AksC.holds (Keeps.setCells hgl _ _ _) (Nat.le_refl _)
   replace P8 : Hid (SliceC AksC 4 w3.heap.size wf (some ⟨b8, 0, none⟩) x.gives) := by
    show SliceC _ _ _ _ _ _
    rw [HE.out]
    exact P8.out.keep AksC.holds (Keeps.setCells hgl _ _ _) (Nat.le_refl _)
   clear hB6
   go_wp2_with (first | (refine wpList_load_mid rfl 27 _ rfl q 0 (by first | rfl | (simp [go_sem]; done)) [.string x.name, .bool true, .int .i64 x.clock, .bool x.known, .int .i64 x.seen, .slice (some ⟨b5, 0, none⟩) x.wants.length q5, .slice (some ⟨b6, 0, none⟩) x.runs.length q6, .slice (some ⟨b7, 0, none⟩) x.asks.length q7, .slice (some ⟨b8, 0, none⟩) x.gives.length q8] _ HX6.out.rangeA Try.underlying27 rfl isz_Mte ?_) | (refine wpList_store_to rfl 27 _ _ rfl (w.heap.size + 1) 0 #[.string x.name, .bool true, .int .i64 x.clock, .bool x.known, .int .i64 x.seen, .slice (some ⟨b5, 0, none⟩) x.wants.length q5, .slice (some ⟨b6, 0, none⟩) x.runs.length q6, .slice (some ⟨b7, 0, none⟩) x.asks.length q7, .slice (some ⟨b8, 0, none⟩) x.gives.length q8] (by first | rfl | (simp [go_sem]; done)) rfl HTZ.out isz_Mte (by simp [Value.oneCell']) wf HE.out ?_))
   exact bodyPost_ret (results_cell_mid rfl _ _ (w.heap.size + 1) [.string x.name, .bool true, .int .i64 x.clock, .bool x.known, .int .i64 x.seen, .slice (some ⟨b5, 0, none⟩) x.wants.length q5, .slice (some ⟨b6, 0, none⟩) x.runs.length q6, .slice (some ⟨b7, 0, none⟩) x.asks.length q7, .slice (some ⟨b8, 0, none⟩) x.gives.length q8] _ rfl HRf.out Try.underlying27 rfl isz_Mte) rfl ⟨{ x with up := true }, _, q5, _, q6, _, q7, _, q8, HYY.out, rfl, P5.out.keep WntC.holds (Keeps.refl _ _) (by omega), P6.out.keep RnC.holds (Keeps.refl _ _) (by omega), P7.out.keep AksC.holds (Keeps.refl _ _) (by omega), P8.out.keep AksC.holds (Keeps.refl _ _) (by omega), hBf, ⟨fun e => (by cases e), fun e => (by cases e), fun e => (by cases e), fun e => (by cases e), fun _ _ _ e => (by cases e; rfl), fun _ _ _ e => (by cases e; rfl), fun _ _ _ e => (by cases e; rfl), fun _ _ _ e => (by cases e; rfl)⟩⟩
  ·have HYY : Hid ({ x with up := x.up } = rise x) := by show _ = _; unfold rise riU; rw [HMV.out, decide_eq_false hc]; simp
   have hc2 : 1000000 ≤ x.clock := by omega
   clear hc HK5
   go_upto_region 6 with fail
   clear k2
   obtain ⟨wf, HE⟩ : ∃ wf, Hid (wf = w5.setCells (w.heap.size + 1) 0 [.string x.name, .bool x.up, .int .i64 x.clock, .bool x.known, .int .i64 x.seen, .slice (some ⟨b5, 0, none⟩) x.wants.length q5, .slice (some ⟨b6, 0, none⟩) x.runs.length q6, .slice (some ⟨b7, 0, none⟩) x.asks.length q7, .slice (some ⟨b8, 0, none⟩) x.gives.length q8]) := ⟨_, rfl⟩
   have HTZ := Hid.intro HZ5.out.there
   have HRf : Hid (wf.rangeAt (w.heap.size + 1) 0 [.string x.name, .bool x.up, .int .i64 x.clock, .bool x.known, .int .i64 x.seen, .slice (some ⟨b5, 0, none⟩) x.wants.length q5, .slice (some ⟨b6, 0, none⟩) x.runs.length q6, .slice (some ⟨b7, 0, none⟩) x.asks.length q7, .slice (some ⟨b8, 0, none⟩) x.gives.length q8]) := by
    show World.rangeAt _ _ _ _
    rw [HE.out]
    exact World.rangeAt_setCells_same _ _ _ _ HTZ.out
   have hBf : Below w.heap.size w wf := by
    rw [HE.out]
    exact below_setCells (by omega) _ _ _ hB5
   replace P5 : Hid (SliceC WntC 7 w3.heap.size wf (some ⟨b5, 0, none⟩) x.wants) := by
    show SliceC _ _ _ _ _ _
    rw [HE.out]
    exact P5.out.keep WntC.holds (Keeps.setCells hgl _ _ _) (Nat.le_refl _)
   replace P6 : Hid (SliceC RnC 11 w3.heap.size wf (some ⟨b6, 0, none⟩) x.runs) := by
    show SliceC _ _ _ _ _ _
    rw [HE.out]
    exact P6.out.keep RnC.holds (Keeps.setCells hgl _ _ _) (Nat.le_refl _)
   replace P7 : Hid (SliceC AksC 4 w3.heap.size wf (some ⟨b7, 0, none⟩) x.asks) := by
    show SliceC _ _ _ _ _ _
    rw [HE.out]
    exact P7.out.keep AksC.holds (Keeps.setCells hgl _ _ _) (Nat.le_refl _)
   replace P8 : Hid (SliceC AksC 4 w3.heap.size wf (some ⟨b8, 0, none⟩) x.gives) := by
    show SliceC _ _ _ _ _ _
    rw [HE.out]
    exact P8.out.keep AksC.holds (Keeps.setCells hgl _ _ _) (Nat.le_refl _)
   clear hB5
   go_wp2_with (first | (refine wpList_load_mid rfl 27 _ rfl q 0 (by first | rfl | (simp [go_sem]; done)) [.string x.name, .bool x.up, .int .i64 x.clock, .bool x.known, .int .i64 x.seen, .slice (some ⟨b5, 0, none⟩) x.wants.length q5, .slice (some ⟨b6, 0, none⟩) x.runs.length q6, .slice (some ⟨b7, 0, none⟩) x.asks.length q7, .slice (some ⟨b8, 0, none⟩) x.gives.length q8] _ HX5.out.rangeA Try.underlying27 rfl isz_Mte ?_) | (refine wpList_store_to rfl 27 _ _ rfl (w.heap.size + 1) 0 #[.string x.name, .bool x.up, .int .i64 x.clock, .bool x.known, .int .i64 x.seen, .slice (some ⟨b5, 0, none⟩) x.wants.length q5, .slice (some ⟨b6, 0, none⟩) x.runs.length q6, .slice (some ⟨b7, 0, none⟩) x.asks.length q7, .slice (some ⟨b8, 0, none⟩) x.gives.length q8] (by first | rfl | (simp [go_sem]; done)) rfl HTZ.out isz_Mte (by simp [Value.oneCell']) wf HE.out ?_))
   exact bodyPost_ret (results_cell_mid rfl _ _ (w.heap.size + 1) [.string x.name, .bool x.up, .int .i64 x.clock, .bool x.known, .int .i64 x.seen, .slice (some ⟨b5, 0, none⟩) x.wants.length q5, .slice (some ⟨b6, 0, none⟩) x.runs.length q6, .slice (some ⟨b7, 0, none⟩) x.asks.length q7, .slice (some ⟨b8, 0, none⟩) x.gives.length q8] _ rfl HRf.out Try.underlying27 rfl isz_Mte) rfl ⟨{ x with up := x.up }, _, q5, _, q6, _, q7, _, q8, HYY.out, rfl, P5.out.keep WntC.holds (Keeps.refl _ _) (by omega), P6.out.keep RnC.holds (Keeps.refl _ _) (by omega), P7.out.keep AksC.holds (Keeps.refl _ _) (by omega), P8.out.keep AksC.holds (Keeps.refl _ _) (by omega), hBf, ⟨fun e => (by cases e), fun e => (by cases e), fun e => (by cases e), fun e => (by cases e), fun _ _ _ e => (by cases e; rfl), fun _ _ _ e => (by cases e; rfl), fun _ _ _ e => (by cases e; rfl), fun _ _ _ e => (by cases e; rfl)⟩⟩

set_option maxHeartbeats 8000000 in
set_option maxRecDepth 100000 in
theorem implRise_ok (x : Mte) (a5 : Option Addr) (c5 : Nat) (a6 : Option Addr) (c6 : Nat) (a7 : Option Addr) (c7 : Nat) (a8 : Option Addr) (c8 : Nat) (lo : Nat) (w : World) (hin : MSv x lo a5 a6 a7 a8 w) (hv : MNil a5 x.wants.length c5 a6 x.runs.length c6 a7 x.asks.length c7 a8 x.gives.length c8) (hm : MSz x) :
  Calls Try.prog 6 #[.agg #[.string x.name, .bool x.up, .int .i64 x.clock, .bool x.known, .int .i64 x.seen, .slice a5 x.wants.length c5, .slice a6 x.runs.length c6, .slice a7 x.asks.length c7, .slice a8 x.gives.length c8]] w fun e w' => ∃ (y : Mte) (b5 : Option Addr) (q5 : Nat) (b6 : Option Addr) (q6 : Nat) (b7 : Option Addr) (q7 : Nat) (b8 : Option Addr) (q8 : Nat), y = rise x ∧ e = .returned (.agg #[.string y.name, .bool y.up, .int .i64 y.clock, .bool y.known, .int .i64 y.seen, .slice b5 y.wants.length q5, .slice b6 y.runs.length q6, .slice b7 y.asks.length q7, .slice b8 y.gives.length q8]) ∧ G4 y w.heap.size w'.heap.size b5 b6 b7 b8 w' ∧ Below w.heap.size w w' ∧ MOk b5 y.wants.length q5 b6 y.runs.length q6 b7 y.asks.length q7 b8 y.gives.length q8 := by
 have HI := Hid.intro hin
 have HV := Hid.intro hv
 have HM := Hid.intro hm
 clear hin hm hv
 have HKa : Blk w.heap.size #[.string x.name, .bool x.up, .int .i64 x.clock, .bool x.known, .int .i64 x.seen, .slice a5 x.wants.length c5, .slice a6 x.runs.length c6, .slice a7 x.asks.length c7, .slice a8 x.gives.length c8] 27 (w.alloc (.cells #[.string x.name, .bool x.up, .int .i64 x.clock, .bool x.known, .int .i64 x.seen, .slice a5 x.wants.length c5, .slice a6 x.runs.length c6, .slice a7 x.asks.length c7, .slice a8 x.gives.length c8] 27)) := Blk.alloc _ _ _
 have HZ2 : Hid (Blk (w.heap.size + 1) #[.string ⟨#[]⟩, .bool false, .int .i64 0, .bool false, .int .i64 0, .slice none 0 0, .slice none 0 0, .slice none 0 0, .slice none 0 0] 27 ((w.alloc (.cells #[.string x.name, .bool x.up, .int .i64 x.clock, .bool x.known, .int .i64 x.seen, .slice a5 x.wants.length c5, .slice a6 x.runs.length c6, .slice a7 x.asks.length c7, .slice a8 x.gives.length c8] 27)).alloc (.cells #[.string ⟨#[]⟩, .bool false, .int .i64 0, .bool false, .int .i64 0, .slice none 0 0, .slice none 0 0, .slice none 0 0, .slice none 0 0] 27))) := by
  have := Blk.alloc (w.alloc (.cells #[.string x.name, .bool x.up, .int .i64 x.clock, .bool x.known, .int .i64 x.seen, .slice a5 x.wants.length c5, .slice a6 x.runs.length c6, .slice a7 x.asks.length c7, .slice a8 x.gives.length c8] 27)) #[.string ⟨#[]⟩, .bool false, .int .i64 0, .bool false, .int .i64 0, .slice none 0 0, .slice none 0 0, .slice none 0 0, .slice none 0 0] 27
  show Blk _ _ _ _
  simpa using this
 have HK2 : Hid (Blk w.heap.size #[.string x.name, .bool x.up, .int .i64 x.clock, .bool x.known, .int .i64 x.seen, .slice a5 x.wants.length c5, .slice a6 x.runs.length c6, .slice a7 x.asks.length c7, .slice a8 x.gives.length c8] 27 ((w.alloc (.cells #[.string x.name, .bool x.up, .int .i64 x.clock, .bool x.known, .int .i64 x.seen, .slice a5 x.wants.length c5, .slice a6 x.runs.length c6, .slice a7 x.asks.length c7, .slice a8 x.gives.length c8] 27)).alloc (.cells #[.string ⟨#[]⟩, .bool false, .int .i64 0, .bool false, .int .i64 0, .slice none 0 0, .slice none 0 0, .slice none 0 0, .slice none 0 0] 27))) := HKa.below ((Below.refl _ _).alloc (Nat.le_refl _) _) HKa.lt
 have hB2 : Below w.heap.size w ((w.alloc (.cells #[.string x.name, .bool x.up, .int .i64 x.clock, .bool x.known, .int .i64 x.seen, .slice a5 x.wants.length c5, .slice a6 x.runs.length c6, .slice a7 x.asks.length c7, .slice a8 x.gives.length c8] 27)).alloc (.cells #[.string ⟨#[]⟩, .bool false, .int .i64 0, .bool false, .int .i64 0, .slice none 0 0, .slice none 0 0, .slice none 0 0, .slice none 0 0] 27)) := by go_grown
 clear HKa
 go_enter Try.func6, Try.ntmps6
 go_upto_region 1 with fail
 generalize (w.alloc (Obj.cells #[.string x.name, .bool x.up, .int .i64 x.clock, .bool x.known, .int .i64 x.seen, .slice a5 x.wants.length c5, .slice a6 x.runs.length c6, .slice a7 x.asks.length c7, .slice a8 x.gives.length c8] 27)).alloc (Obj.cells #[.string ⟨#[]⟩, .bool false, .int .i64 0, .bool false, .int .i64 0, .slice none 0 0, .slice none 0 0, .slice none 0 0, .slice none 0 0] 27) = w2 at *
 go_wp2_with (refine wpList_load_mid rfl 27 _ rfl w.heap.size 0 (by first | rfl | (simp [go_sem]; done)) [.string x.name, .bool x.up, .int .i64 x.clock, .bool x.known, .int .i64 x.seen, .slice a5 x.wants.length c5, .slice a6 x.runs.length c6, .slice a7 x.asks.length c7, .slice a8 x.gives.length c8] _ HK2.out.rangeA Try.underlying27 rfl isz_Mte ?_)
 refine (implValid_any x a5 c5 a6 c6 a7 c7 a8 c8 lo _ (ms_all HM.out (HI.out.below hB2 (Nat.le_refl _)))).mono ?_
 rintro e w3 ⟨rfl, hb3⟩
 have HK3 := Hid.intro (HK2.out.below hb3 HK2.out.lt)
 have HZ3 := Hid.intro (HZ2.out.below hb3 HZ2.out.lt)
 have hB3 := hB2.trans (hb3.mono hB2.size)
 clear hb3 HK2 HZ2 hB2
 have HTS := Hid.intro HZ3.out.there
 cases hmv : mvB x with
 | false =>
  have hy : noMte = rise x := by unfold rise; rw [hmv]; rfl
  obtain ⟨wf, HE⟩ : ∃ wf, Hid (wf = w3.setCells (w.heap.size + 1) 0 [.string ⟨#[]⟩, .bool false, .int .i64 0, .bool false, .int .i64 0, .slice none 0 0, .slice none 0 0, .slice none 0 0, .slice none 0 0]) := ⟨_, rfl⟩
  have HRf : Hid (wf.rangeAt (w.heap.size + 1) 0 [.string ⟨#[]⟩, .bool false, .int .i64 0, .bool false, .int .i64 0, .slice none 0 0, .slice none 0 0, .slice none 0 0, .slice none 0 0]) := by
   show World.rangeAt _ _ _ _
   rw [HE.out]
   exact World.rangeAt_setCells_same _ _ _ _ HTS.out
  have hBf : Below w.heap.size w wf := by
   rw [HE.out]
   exact below_setCells (by omega) _ _ _ hB3
  have HYY := Hid.intro hy
  clear hB3 hmv hy
  go_wp2_with (refine wpList_store_to rfl 27 _ _ rfl (w.heap.size + 1) 0 #[.string ⟨#[]⟩, .bool false, .int .i64 0, .bool false, .int .i64 0, .slice none 0 0, .slice none 0 0, .slice none 0 0, .slice none 0 0] (by first | rfl | (simp [go_sem]; done)) rfl HTS.out isz_Mte (by simp [Value.oneCell']) wf HE.out ?_)
  exact bodyPost_ret (results_cell_mid rfl _ _ (w.heap.size + 1) [.string ⟨#[]⟩, .bool false, .int .i64 0, .bool false, .int .i64 0, .slice none 0 0, .slice none 0 0, .slice none 0 0, .slice none 0 0] _ rfl HRf.out Try.underlying27 rfl isz_Mte) rfl ⟨noMte, none, 0, none, 0, none, 0, none, 0, HYY.out, rfl, ⟨w.heap.size, w.heap.size, w.heap.size, Nat.le_refl _, Nat.le_refl _, Nat.le_refl _, hBf.size, Nat.le_refl _, und_none, und_none, und_none, und_none, SliceC.nil, SliceC.nil, SliceC.nil, SliceC.nil⟩, hBf, ⟨fun _ => ⟨rfl, rfl⟩, fun _ => ⟨rfl, rfl⟩, fun _ => ⟨rfl, rfl⟩, fun _ => ⟨rfl, rfl⟩, fun _ _ _ e => (by cases e), fun _ _ _ e => (by cases e), fun _ _ _ e => (by cases e), fun _ _ _ e => (by cases e)⟩⟩
 | true =>
  have HYY : Hid ({ x with up := riU x } = rise x) := by show _ = _; unfold rise; rw [hmv]; rfl
  clear hmv HTS
  have k1 : w3.cell? ⟨w.heap.size, 1, none⟩ = some (.bool x.up) := HK3.out.cell rfl
  have k2 : w3.cell? ⟨w.heap.size, 2, none⟩ = some (.int .i64 x.clock) := HK3.out.cell rfl
  have fx : w3.frozen? ⟨w.heap.size, 1, none⟩ = false := HK3.out.frozen _
  go_upto_region 3 with fail
  go_cut [] (fun wz => wz = w3.setCell ⟨w.heap.size, 1, none⟩ (.bool (riU x)))
  case first =>
   have hor : x.up = true ∨ x.up = false := by cases x.up <;> simp
   rcases hor with hu | hu
   ·have HE9 : Hid (riU x = true) := by show _ = _; unfold riU; rw [hu]; rfl
    rw [hu] at k1
    clear hu
    go_wp2_with fail
    go_meet
    rw [HE9.out]
   ·have HE9 : Hid (riU x = decide (x.clock < 1000000)) := by show _ = _; unfold riU; rw [hu]; rfl
    rw [hu] at k1
    clear hu
    go_wp2_with fail
    go_meet
    rw [HE9.out]
  case rest =>
   have HK4 : Hid (Blk w.heap.size #[.string x.name, .bool (riU x), .int .i64 x.clock, .bool x.known, .int .i64 x.seen, .slice a5 x.wants.length c5, .slice a6 x.runs.length c6, .slice a7 x.asks.length c7, .slice a8 x.gives.length c8] 27 (w3.setCell ⟨w.heap.size, 1, none⟩ (.bool (riU x)))) := HK3.out.set 1 _
   have HZ4 : Hid (Blk (w.heap.size + 1) #[.string ⟨#[]⟩, .bool false, .int .i64 0, .bool false, .int .i64 0, .slice none 0 0, .slice none 0 0, .slice none 0 0, .slice none 0 0] 27 (w3.setCell ⟨w.heap.size, 1, none⟩ (.bool (riU x)))) := HZ3.out.other (a := ⟨w.heap.size, 1, none⟩) (show w.heap.size + 1 ≠ w.heap.size by omega) _
   have hB4 : Below w.heap.size w (w3.setCell ⟨w.heap.size, 1, none⟩ (.bool (riU x))) := hB3.setCell (p := ⟨w.heap.size, 1, none⟩) (Nat.le_refl _) _
   rw [← hcut] at HK4 HZ4 hB4
   clear hcut k1 k2 fx HK3 HZ3 hB3
   go_wp2_with (refine wpList_load_mid rfl 27 _ rfl w.heap.size 0 (by first | rfl | (simp [go_sem]; done)) [.string x.name, .bool (riU x), .int .i64 x.clock, .bool x.known, .int .i64 x.seen, .slice a5 x.wants.length c5, .slice a6 x.runs.length c6, .slice a7 x.asks.length c7, .slice a8 x.gives.length c8] _ HK4.out.rangeA Try.underlying27 rfl isz_Mte ?_)
   refine (newMate_ok { x with up := riU x } a5 c5 a6 c6 a7 c7 a8 c8 lo _ (HI.out.below hB4 (Nat.le_refl _)).upd HM.out.upd).mono ?_
   rintro e w5 ⟨b5, q5, b6, q6, b7, q7, b8, q8, rfl, hg, hb5, hok⟩
   have HOK := Hid.intro hok
   clear hok
   have hgl : w.heap.size + 1 < wc.heap.size := HZ4.out.lt
   have HZ5 := Hid.intro (HZ4.out.below hb5 HZ4.out.lt)
   have hB5 := hB4.trans (hb5.mono hB4.size)
   have HG := Hid.intro hg
   have HTZ := Hid.intro HZ5.out.there
   obtain ⟨wf, HE⟩ : ∃ wf, Hid (wf = w5.setCells (w.heap.size + 1) 0 [.string x.name, .bool (riU x), .int .i64 x.clock, .bool x.known, .int .i64 x.seen, .slice b5 x.wants.length q5, .slice b6 x.runs.length q6, .slice b7 x.asks.length q7, .slice b8 x.gives.length q8]) := ⟨_, rfl⟩
   have HRf : Hid (wf.rangeAt (w.heap.size + 1) 0 [.string x.name, .bool (riU x), .int .i64 x.clock, .bool x.known, .int .i64 x.seen, .slice b5 x.wants.length q5, .slice b6 x.runs.length q6, .slice b7 x.asks.length q7, .slice b8 x.gives.length q8]) := by
    show World.rangeAt _ _ _ _
    rw [HE.out]
    exact World.rangeAt_setCells_same _ _ _ _ HTZ.out
   have hBf : Below w.heap.size w wf := by
    rw [HE.out]
    exact below_setCells (by omega) _ _ _ hB5
   replace HG : Hid (G4 { x with up := riU x } w.heap.size wf.heap.size b5 b6 b7 b8 wf) := by
    have hk : Keeps wc.heap.size w5 wf := by rw [HE.out]; exact Keeps.setCells hgl _ _ _
    exact (HG.out.keep hk).widen (by omega) hk.1 (Nat.le_refl _)
   clear hb5 hg hB4 hB5 HK4 HZ4 HZ5
   go_wp2_with (refine wpList_store_to rfl 27 _ _ rfl (w.heap.size + 1) 0 #[.string x.name, .bool (riU x), .int .i64 x.clock, .bool x.known, .int .i64 x.seen, .slice b5 x.wants.length q5, .slice b6 x.runs.length q6, .slice b7 x.asks.length q7, .slice b8 x.gives.length q8] (by first | rfl | (simp [go_sem]; done)) rfl HTZ.out isz_Mte (by simp [Value.oneCell']) wf HE.out ?_)
   exact bodyPost_ret (results_cell_mid rfl _ _ (w.heap.size + 1) [.string x.name, .bool (riU x), .int .i64 x.clock, .bool x.known, .int .i64 x.seen, .slice b5 x.wants.length q5, .slice b6 x.runs.length q6, .slice b7 x.asks.length q7, .slice b8 x.gives.length q8] _ rfl HRf.out Try.underlying27 rfl isz_Mte) rfl ⟨{ x with up := riU x }, b5, q5, b6, q6, b7, q7, b8, q8, HYY.out, rfl, HG.out, hBf, HOK.out⟩

set_option maxHeartbeats 8000000 in
set_option maxRecDepth 100000 in
theorem implFall_ok (x : Mte) (a5 : Option Addr) (c5 : Nat) (a6 : Option Addr) (c6 : Nat) (a7 : Option Addr) (c7 : Nat) (a8 : Option Addr) (c8 : Nat) (mach : Bool) (lo : Nat) (w : World) (hin : MSv x lo a5 a6 a7 a8 w) (hv : MNil a5 x.wants.length c5 a6 x.runs.length c6 a7 x.asks.length c7 a8 x.gives.length c8) (hm : MSz x) :
  Calls Try.prog 5 #[.agg #[.string x.name, .bool x.up, .int .i64 x.clock, .bool x.known, .int .i64 x.seen, .slice a5 x.wants.length c5, .slice a6 x.runs.length c6, .slice a7 x.asks.length c7, .slice a8 x.gives.length c8], .bool mach] w fun e w' => ∃ (y : Mte) (b5 : Option Addr) (q5 : Nat) (b6 : Option Addr) (q6 : Nat) (b7 : Option Addr) (q7 : Nat) (b8 : Option Addr) (q8 : Nat), y = fall x mach ∧ e = .returned (.agg #[.string y.name, .bool y.up, .int .i64 y.clock, .bool y.known, .int .i64 y.seen, .slice b5 y.wants.length q5, .slice b6 y.runs.length q6, .slice b7 y.asks.length q7, .slice b8 y.gives.length q8]) ∧ G4 y w.heap.size w'.heap.size b5 b6 b7 b8 w' ∧ Below w.heap.size w w' ∧ MOk b5 y.wants.length q5 b6 y.runs.length q6 b7 y.asks.length q7 b8 y.gives.length q8 := by
 have HI := Hid.intro hin
 have HV := Hid.intro hv
 have HM := Hid.intro hm
 clear hin hm hv
 have HKa : Blk w.heap.size #[.string x.name, .bool x.up, .int .i64 x.clock, .bool x.known, .int .i64 x.seen, .slice a5 x.wants.length c5, .slice a6 x.runs.length c6, .slice a7 x.asks.length c7, .slice a8 x.gives.length c8] 27 (w.alloc (.cells #[.string x.name, .bool x.up, .int .i64 x.clock, .bool x.known, .int .i64 x.seen, .slice a5 x.wants.length c5, .slice a6 x.runs.length c6, .slice a7 x.asks.length c7, .slice a8 x.gives.length c8] 27)) := Blk.alloc _ _ _
 have HZ2 : Hid (Blk (w.heap.size + 1) #[.string ⟨#[]⟩, .bool false, .int .i64 0, .bool false, .int .i64 0, .slice none 0 0, .slice none 0 0, .slice none 0 0, .slice none 0 0] 27 ((w.alloc (.cells #[.string x.name, .bool x.up, .int .i64 x.clock, .bool x.known, .int .i64 x.seen, .slice a5 x.wants.length c5, .slice a6 x.runs.length c6, .slice a7 x.asks.length c7, .slice a8 x.gives.length c8] 27)).alloc (.cells #[.string ⟨#[]⟩, .bool false, .int .i64 0, .bool false, .int .i64 0, .slice none 0 0, .slice none 0 0, .slice none 0 0, .slice none 0 0] 27))) := by
  have := Blk.alloc (w.alloc (.cells #[.string x.name, .bool x.up, .int .i64 x.clock, .bool x.known, .int .i64 x.seen, .slice a5 x.wants.length c5, .slice a6 x.runs.length c6, .slice a7 x.asks.length c7, .slice a8 x.gives.length c8] 27)) #[.string ⟨#[]⟩, .bool false, .int .i64 0, .bool false, .int .i64 0, .slice none 0 0, .slice none 0 0, .slice none 0 0, .slice none 0 0] 27
  show Blk _ _ _ _
  simpa using this
 have HK2 : Hid (Blk w.heap.size #[.string x.name, .bool x.up, .int .i64 x.clock, .bool x.known, .int .i64 x.seen, .slice a5 x.wants.length c5, .slice a6 x.runs.length c6, .slice a7 x.asks.length c7, .slice a8 x.gives.length c8] 27 ((w.alloc (.cells #[.string x.name, .bool x.up, .int .i64 x.clock, .bool x.known, .int .i64 x.seen, .slice a5 x.wants.length c5, .slice a6 x.runs.length c6, .slice a7 x.asks.length c7, .slice a8 x.gives.length c8] 27)).alloc (.cells #[.string ⟨#[]⟩, .bool false, .int .i64 0, .bool false, .int .i64 0, .slice none 0 0, .slice none 0 0, .slice none 0 0, .slice none 0 0] 27))) := HKa.below ((Below.refl _ _).alloc (Nat.le_refl _) _) HKa.lt
 have hB2 : Below w.heap.size w ((w.alloc (.cells #[.string x.name, .bool x.up, .int .i64 x.clock, .bool x.known, .int .i64 x.seen, .slice a5 x.wants.length c5, .slice a6 x.runs.length c6, .slice a7 x.asks.length c7, .slice a8 x.gives.length c8] 27)).alloc (.cells #[.string ⟨#[]⟩, .bool false, .int .i64 0, .bool false, .int .i64 0, .slice none 0 0, .slice none 0 0, .slice none 0 0, .slice none 0 0] 27)) := by go_grown
 clear HKa
 go_enter Try.func5, Try.ntmps5
 go_upto_region 1 with fail
 generalize (w.alloc (Obj.cells #[.string x.name, .bool x.up, .int .i64 x.clock, .bool x.known, .int .i64 x.seen, .slice a5 x.wants.length c5, .slice a6 x.runs.length c6, .slice a7 x.asks.length c7, .slice a8 x.gives.length c8] 27)).alloc (Obj.cells #[.string ⟨#[]⟩, .bool false, .int .i64 0, .bool false, .int .i64 0, .slice none 0 0, .slice none 0 0, .slice none 0 0, .slice none 0 0] 27) = w2 at *
 go_wp2_with (refine wpList_load_mid rfl 27 _ rfl w.heap.size 0 (by first | rfl | (simp [go_sem]; done)) [.string x.name, .bool x.up, .int .i64 x.clock, .bool x.known, .int .i64 x.seen, .slice a5 x.wants.length c5, .slice a6 x.runs.length c6, .slice a7 x.asks.length c7, .slice a8 x.gives.length c8] _ HK2.out.rangeA Try.underlying27 rfl isz_Mte ?_)
 refine (implValid_any x a5 c5 a6 c6 a7 c7 a8 c8 lo _ (ms_all HM.out (HI.out.below hB2 (Nat.le_refl _)))).mono ?_
 rintro e w3 ⟨rfl, hb3⟩
 have HK3 := Hid.intro (HK2.out.below hb3 HK2.out.lt)
 have HZ3 := Hid.intro (HZ2.out.below hb3 HZ2.out.lt)
 have hB3 := hB2.trans (hb3.mono hB2.size)
 clear hb3 HK2 HZ2 hB2
 have HTS := Hid.intro HZ3.out.there
 cases hmv : mvB x with
 | false =>
  have hy : noMte = fall x mach := by unfold fall; rw [hmv]; rfl
  obtain ⟨wf, HE⟩ : ∃ wf, Hid (wf = w3.setCells (w.heap.size + 1) 0 [.string ⟨#[]⟩, .bool false, .int .i64 0, .bool false, .int .i64 0, .slice none 0 0, .slice none 0 0, .slice none 0 0, .slice none 0 0]) := ⟨_, rfl⟩
  have HRf : Hid (wf.rangeAt (w.heap.size + 1) 0 [.string ⟨#[]⟩, .bool false, .int .i64 0, .bool false, .int .i64 0, .slice none 0 0, .slice none 0 0, .slice none 0 0, .slice none 0 0]) := by
   show World.rangeAt _ _ _ _
   rw [HE.out]
   exact World.rangeAt_setCells_same _ _ _ _ HTS.out
  have hBf : Below w.heap.size w wf := by
   rw [HE.out]
   exact below_setCells (by omega) _ _ _ hB3
  have HYY := Hid.intro hy
  clear hB3 hmv hy
  go_wp2_with (refine wpList_store_to rfl 27 _ _ rfl (w.heap.size + 1) 0 #[.string ⟨#[]⟩, .bool false, .int .i64 0, .bool false, .int .i64 0, .slice none 0 0, .slice none 0 0, .slice none 0 0, .slice none 0 0] (by first | rfl | (simp [go_sem]; done)) rfl HTS.out isz_Mte (by simp [Value.oneCell']) wf HE.out ?_)
  exact bodyPost_ret (results_cell_mid rfl _ _ (w.heap.size + 1) [.string ⟨#[]⟩, .bool false, .int .i64 0, .bool false, .int .i64 0, .slice none 0 0, .slice none 0 0, .slice none 0 0, .slice none 0 0] _ rfl HRf.out Try.underlying27 rfl isz_Mte) rfl ⟨noMte, none, 0, none, 0, none, 0, none, 0, HYY.out, rfl, ⟨w.heap.size, w.heap.size, w.heap.size, Nat.le_refl _, Nat.le_refl _, Nat.le_refl _, hBf.size, Nat.le_refl _, und_none, und_none, und_none, und_none, SliceC.nil, SliceC.nil, SliceC.nil, SliceC.nil⟩, hBf, ⟨fun _ => ⟨rfl, rfl⟩, fun _ => ⟨rfl, rfl⟩, fun _ => ⟨rfl, rfl⟩, fun _ => ⟨rfl, rfl⟩, fun _ _ _ e => (by cases e), fun _ _ _ e => (by cases e), fun _ _ _ e => (by cases e), fun _ _ _ e => (by cases e)⟩⟩
 | true =>
  have HMV := Hid.intro hmv
  clear hmv HTS
  have k6 : w3.cell? ⟨w.heap.size, 6, none⟩ = some (.slice a6 x.runs.length c6) := HK3.out.cell rfl
  have HLA := Hid.intro (kept_len (P := fun r => alB r.state) HM.out.l6 HM.out.z6)
  go_wp2_with fail
  clear k6
  refine (only_any 13 (fun r => alB r.state) x.runs a6 c6 lo _ (HI.out.s6.below RnC.holds hB3 (Nat.le_refl _)) HM.out.l6 (fun r v => implAlive_any r v) (enters_of Try.func13 (by kernel_rfl) rfl)).mono ?_
  rintro e w4 ⟨b1, q1, rfl, ho4, hb4⟩
  have HK4 := Hid.intro (HK3.out.below hb4 HK3.out.lt)
  have HZ4 := Hid.intro (HZ3.out.below hb4 HZ3.out.lt)
  have hB4 := hB3.trans (hb4.mono hB3.size)
  have HO4 := Hid.intro ho4
  have hs4 := hb4.size
  clear hb4 ho4 HK3 HZ3 hB3
  cases mach with
  | false =>
   have HYY : Hid (⟨x.name, false, x.clock, false, 0, [], x.runs.filter (fun r => alB r.state), [], []⟩ = fall x false) := by show _ = _; unfold fall; rw [HMV.out]; rfl
   generalize x.runs.filter (fun r => alB r.state) = L at *
   have k0 : w4.cell? ⟨w.heap.size, 0, none⟩ = some (.string x.name) := HK4.out.cell rfl
   have k2 : w4.cell? ⟨w.heap.size, 2, none⟩ = some (.int .i64 x.clock) := HK4.out.cell rfl
   have HSL := Hid.intro (rowslRn HO4.out HLA.out.1 HLA.out.2)
   have HSP := Hid.intro (own_spot HO4.out)
   have hgl : w.heap.size + 1 < w4.heap.size := HZ4.out.lt
   go_wp2_with fail
   clear k0 k2
   refine (newMate_ok ⟨x.name, false, x.clock, false, 0, [], L, [], []⟩ none 0 b1 q1 none 0 none 0 _ _ ⟨SliceC.nil, HSL.out, SliceC.nil, SliceC.nil, fun _ _ _ e => (by cases e), HSP.out, fun _ _ _ e => (by cases e), fun _ _ _ e => (by cases e)⟩ ⟨HM.out.nm, fun _ h => (by cases h), HLA.out.2, fun _ h => (by cases h), fun _ h => (by cases h), Nat.zero_le _, HLA.out.1, Nat.zero_le _, Nat.zero_le _⟩).mono ?_
   rintro e wn ⟨b5, q5, b6, q6, b7, q7, b8, q8, rfl, hg, hbn, hok⟩
   have HOK := Hid.intro hok
   clear hok
   have HZn := Hid.intro (HZ4.out.below hbn HZ4.out.lt)
   have hBn := hB4.trans (hbn.mono hB4.size)
   have HG := Hid.intro hg
   have HTZ := Hid.intro HZn.out.there
   obtain ⟨wf, HE⟩ : ∃ wf, Hid (wf = wn.setCells (w.heap.size + 1) 0 [.string x.name, .bool false, .int .i64 x.clock, .bool false, .int .i64 0, .slice b5 0 q5, .slice b6 (L).length q6, .slice b7 0 q7, .slice b8 0 q8]) := ⟨_, rfl⟩
   have HRf : Hid (wf.rangeAt (w.heap.size + 1) 0 [.string x.name, .bool false, .int .i64 x.clock, .bool false, .int .i64 0, .slice b5 0 q5, .slice b6 (L).length q6, .slice b7 0 q7, .slice b8 0 q8]) := by
    show World.rangeAt _ _ _ _
    rw [HE.out]
    exact World.rangeAt_setCells_same _ _ _ _ HTZ.out
   have hBf : Below w.heap.size w wf := by
    rw [HE.out]
    exact below_setCells (by omega) _ _ _ hBn
   replace HG : Hid (G4 ⟨x.name, false, x.clock, false, 0, [], L, [], []⟩ w.heap.size wf.heap.size b5 b6 b7 b8 wf) := by
    have hk : Keeps w4.heap.size wn wf := by rw [HE.out]; exact Keeps.setCells hgl _ _ _
    exact (HG.out.keep hk).widen (by omega) hk.1 (Nat.le_refl _)
   clear hbn hg hBn HZn
   go_wp2_with (refine wpList_store_to rfl 27 _ _ rfl (w.heap.size + 1) 0 #[.string x.name, .bool false, .int .i64 x.clock, .bool false, .int .i64 0, .slice b5 0 q5, .slice b6 (L).length q6, .slice b7 0 q7, .slice b8 0 q8] (by first | rfl | (simp [go_sem]; done)) rfl HTZ.out isz_Mte (by simp [Value.oneCell']) wf HE.out ?_)
   exact bodyPost_ret (results_cell_mid rfl _ _ (w.heap.size + 1) [.string x.name, .bool false, .int .i64 x.clock, .bool false, .int .i64 0, .slice b5 0 q5, .slice b6 (L).length q6, .slice b7 0 q7, .slice b8 0 q8] _ rfl HRf.out Try.underlying27 rfl isz_Mte) rfl ⟨⟨x.name, false, x.clock, false, 0, [], L, [], []⟩, b5, q5, b6, q6, b7, q7, b8, q8, HYY.out, rfl, HG.out, hBf, HOK.out⟩
  | true =>
   have HYY : Hid (⟨x.name, false, x.clock, false, 0, [], ((x.runs.filter (fun r => alB r.state)).filter (fun r => !(r.want.hold.toList == []))).map killR, [], []⟩ = fall x true) := by show _ = _; unfold fall; rw [HMV.out]; rfl
   have HLB := Hid.intro (kept_len (P := fun r => !(r.want.hold.toList == [])) HLA.out.1 HLA.out.2)
   go_wp2_with fail
   refine (only_any 20 (fun r => !(r.want.hold.toList == [])) (x.runs.filter (fun r => alB r.state)) b1 q1 w3.heap.size _ (rowslRn HO4.out HLA.out.1 HLA.out.2) HLA.out.1 (fun r v => hasHold_any r v) (enters_of Try.func20 (by kernel_rfl) rfl)).mono ?_
   rintro e w5 ⟨b2, q2, rfl, ho5, hb5⟩
   have HK5 := Hid.intro (HK4.out.below hb5 HK4.out.lt)
   have HZ5 := Hid.intro (HZ4.out.below hb5 HZ4.out.lt)
   have hB5 := hB4.trans (hb5.mono hB4.size)
   have HO5 := Hid.intro ho5
   clear hb5 ho5 HK4 HZ4 hB4 HO4
   have HLC := Hid.intro (kill_len HLB.out.1 HLB.out.2)
   generalize (x.runs.filter (fun r => alB r.state)).filter (fun r => !(r.want.hold.toList == [])) = L2 at *
   go_wp2_with fail
   refine (eagK_any L2 b2 q2 w4.heap.size _ (rowslRn HO5.out HLB.out.1 HLB.out.2) HLB.out.1 (own_spot HO5.out)).mono ?_
   rintro e w6 ⟨b3, q3, rfl, ho6, hb6⟩
   generalize L2.map killR = L at *
   have HK6 := Hid.intro (HK5.out.below hb6 HK5.out.lt)
   have HZ6 := Hid.intro (HZ5.out.below hb6 HZ5.out.lt)
   have hB6 := hB5.trans (hb6.mono hB5.size)
   have HO6 := Hid.intro ho6
   clear hb6 ho6 HK5 HZ5 hB5 HO5
   have k0 : w6.cell? ⟨w.heap.size, 0, none⟩ = some (.string x.name) := HK6.out.cell rfl
   have k2 : w6.cell? ⟨w.heap.size, 2, none⟩ = some (.int .i64 x.clock) := HK6.out.cell rfl
   have HSL := Hid.intro (rowslRn HO6.out HLC.out.1 HLC.out.2)
   have HSP := Hid.intro (own_spot HO6.out)
   have hgl : w.heap.size + 1 < w6.heap.size := HZ6.out.lt
   go_wp2_with fail
   clear k0 k2
   refine (newMate_ok ⟨x.name, false, x.clock, false, 0, [], L, [], []⟩ none 0 b3 q3 none 0 none 0 _ _ ⟨SliceC.nil, HSL.out, SliceC.nil, SliceC.nil, fun _ _ _ e => (by cases e), HSP.out, fun _ _ _ e => (by cases e), fun _ _ _ e => (by cases e)⟩ ⟨HM.out.nm, fun _ h => (by cases h), HLC.out.2, fun _ h => (by cases h), fun _ h => (by cases h), Nat.zero_le _, HLC.out.1, Nat.zero_le _, Nat.zero_le _⟩).mono ?_
   rintro e wn ⟨b5, q5, b6, q6, b7, q7, b8, q8, rfl, hg, hbn, hok⟩
   have HOK := Hid.intro hok
   clear hok
   have HZn := Hid.intro (HZ6.out.below hbn HZ6.out.lt)
   have hBn := hB6.trans (hbn.mono hB6.size)
   have HG := Hid.intro hg
   have HTZ := Hid.intro HZn.out.there
   obtain ⟨wf, HE⟩ : ∃ wf, Hid (wf = wn.setCells (w.heap.size + 1) 0 [.string x.name, .bool false, .int .i64 x.clock, .bool false, .int .i64 0, .slice b5 0 q5, .slice b6 (L).length q6, .slice b7 0 q7, .slice b8 0 q8]) := ⟨_, rfl⟩
   have HRf : Hid (wf.rangeAt (w.heap.size + 1) 0 [.string x.name, .bool false, .int .i64 x.clock, .bool false, .int .i64 0, .slice b5 0 q5, .slice b6 (L).length q6, .slice b7 0 q7, .slice b8 0 q8]) := by
    show World.rangeAt _ _ _ _
    rw [HE.out]
    exact World.rangeAt_setCells_same _ _ _ _ HTZ.out
   have hBf : Below w.heap.size w wf := by
    rw [HE.out]
    exact below_setCells (by omega) _ _ _ hBn
   replace HG : Hid (G4 ⟨x.name, false, x.clock, false, 0, [], L, [], []⟩ w.heap.size wf.heap.size b5 b6 b7 b8 wf) := by
    have hk : Keeps w6.heap.size wn wf := by rw [HE.out]; exact Keeps.setCells hgl _ _ _
    exact (HG.out.keep hk).widen (by omega) hk.1 (Nat.le_refl _)
   clear hbn hg hBn HZn
   go_wp2_with (refine wpList_store_to rfl 27 _ _ rfl (w.heap.size + 1) 0 #[.string x.name, .bool false, .int .i64 x.clock, .bool false, .int .i64 0, .slice b5 0 q5, .slice b6 (L).length q6, .slice b7 0 q7, .slice b8 0 q8] (by first | rfl | (simp [go_sem]; done)) rfl HTZ.out isz_Mte (by simp [Value.oneCell']) wf HE.out ?_)
   exact bodyPost_ret (results_cell_mid rfl _ _ (w.heap.size + 1) [.string x.name, .bool false, .int .i64 x.clock, .bool false, .int .i64 0, .slice b5 0 q5, .slice b6 (L).length q6, .slice b7 0 q7, .slice b8 0 q8] _ rfl HRf.out Try.underlying27 rfl isz_Mte) rfl ⟨⟨x.name, false, x.clock, false, 0, [], L, [], []⟩, b5, q5, b6, q6, b7, q7, b8, q8, HYY.out, rfl, HG.out, hBf, HOK.out⟩

end Go.Proofs.Ytnifmiacobfplaa
