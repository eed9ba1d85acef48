/-
  What a mate tells of itself, by the program. Made by mkrp.py.
-/
import Derived.Test.YtlegklkbmifdeaaRpp
namespace Go.Proofs.Ytlegklkbmifdeaa
open Go.RowKit

set_option maxHeartbeats 4000000 in
set_option maxRecDepth 100000 in
theorem newRep_any (y : Rep) (a : Option Addr) (c lo : Nat) (w : World) (hin : SliceC RanC 3 lo w a y.runs) (hn : y.berth.size ≤ 1048576) (hl : y.runs.length ≤ 1048576) (hz : SzRan y.runs 1048576) (ha : ∀ b o s, a = some ⟨b, o, s⟩ → s = none) :
    Calls Try.prog 21 #[.agg #[.string y.berth, .int .i64 y.seen, .slice a y.runs.length c]] w fun e w' => ∃ (b : Option Addr) (q : Nat), e = .returned (.agg #[.string y.berth, .int .i64 y.seen, .slice b y.runs.length q]) ∧ SliceC RanC 3 w.heap.size w' b y.runs ∧ Und b w'.heap.size ∧ Below w.heap.size w w' := by
  have HI := Hid.intro hin
  have HZS := Hid.intro hz
  have HAA := Hid.intro ha
  clear hin hz ha
  have hB3 : Below w.heap.size w ((w.alloc (Obj.cells #[.string y.berth, .int .i64 y.seen, .slice a y.runs.length c] 30)).alloc (Obj.cells #[.string ⟨#[]⟩, .int .i64 0, .slice none 0 0] 30)) := by go_grown
  have h1 : Blk w.heap.size #[.string y.berth, .int .i64 y.seen, .slice a y.runs.length c] 30 (w.alloc (Obj.cells #[.string y.berth, .int .i64 y.seen, .slice a y.runs.length c] 30)) := Blk.alloc _ _ _
  have HX : Hid (Blk w.heap.size #[.string y.berth, .int .i64 y.seen, .slice a y.runs.length c] 30 ((w.alloc (Obj.cells #[.string y.berth, .int .i64 y.seen, .slice a y.runs.length c] 30)).alloc (Obj.cells #[.string ⟨#[]⟩, .int .i64 0, .slice none 0 0] 30))) := h1.below ((Below.refl _ _).alloc (Nat.le_refl _) _) h1.lt
  have HZ : Hid (Blk (w.heap.size + 1) #[.string ⟨#[]⟩, .int .i64 0, .slice none 0 0] 30 ((w.alloc (Obj.cells #[.string y.berth, .int .i64 y.seen, .slice a y.runs.length c] 30)).alloc (Obj.cells #[.string ⟨#[]⟩, .int .i64 0, .slice none 0 0] 30))) := by
    have := Blk.alloc (w.alloc (Obj.cells #[.string y.berth, .int .i64 y.seen, .slice a y.runs.length c] 30)) #[.string ⟨#[]⟩, .int .i64 0, .slice none 0 0] 30
    show Blk _ _ _ _
    simpa using this
  clear h1
  go_enter Try.func21, Try.ntmps21
  go_upto_region 1 with fail
  generalize ((w.alloc (Obj.cells #[.string y.berth, .int .i64 y.seen, .slice a y.runs.length c] 30)).alloc (Obj.cells #[.string ⟨#[]⟩, .int .i64 0, .slice none 0 0] 30)) = w3 at *
  have k0 : w3.cell? ⟨w.heap.size, 0, none⟩ = some (.string y.berth) := HX.out.cell rfl
  go_wp2_with fail
  refine (cl3_any y.berth _ hn).mono ?_
  rintro e w4 ⟨rfl, hb4⟩
  have HX4 := Hid.intro (HX.out.below hb4 HX.out.lt)
  have HZ4 := Hid.intro (HZ.out.below hb4 HZ.out.lt)
  have hB4 := hB3.trans (hb4.mono hB3.size)
  have c0 : w4.cell? ⟨w.heap.size, 0, none⟩ = some (.string y.berth) := HX4.out.cell rfl
  have f0 := HX4.out.frozen 0
  have HX5 : Hid (Blk w.heap.size #[.string y.berth, .int .i64 y.seen, .slice a y.runs.length c] 30 (w4.setCell ⟨w.heap.size, 0, none⟩ (.string y.berth))) := HX4.out.set 0 _
  have HZ5 : Hid (Blk (w.heap.size + 1) #[.string ⟨#[]⟩, .int .i64 0, .slice none 0 0] 30 (w4.setCell ⟨w.heap.size, 0, none⟩ (.string y.berth))) := HZ4.out.other (a := ⟨w.heap.size, 0, none⟩) (show w.heap.size + 1 ≠ w.heap.size by omega) _
  have hB5 : Below w.heap.size w (w4.setCell ⟨w.heap.size, 0, none⟩ (.string y.berth)) := hB4.setCell (p := ⟨w.heap.size, 0, none⟩) (Nat.le_refl _) _
  clear HX HZ hB3 hb4 k0
  go_upto_region 2 with fail
  clear c0 f0 HX4 HZ4 hB4
  generalize w4.setCell ⟨w.heap.size, 0, none⟩ (.string y.berth) = w5 at *
  have k2 : w5.cell? ⟨w.heap.size, 2, none⟩ = some (.slice a y.runs.length c) := HX5.out.cell rfl
  have hgl : w.heap.size + 1 < w5.heap.size := HZ5.out.lt
  go_wp2_with fail
  clear k2
  refine (eagRan_any y.runs a c lo _ (HI.out.below RanC.holds hB5 (Nat.le_refl _)) hl HZS.out HAA.out).mono ?_
  rintro e w6 ⟨b, q, rfl, ho, hb6⟩
  have HU := Hid.intro (row_und ho)
  have HS : Hid (SliceC RanC 3 w5.heap.size w6 b y.runs) := rowslRan ho hl HZS.out
  have HX6 := Hid.intro (HX5.out.below hb6 HX5.out.lt)
  have HZ6 := Hid.intro (HZ5.out.below hb6 HZ5.out.lt)
  have hB6 := hB5.trans (hb6.mono hB5.size)
  have c2 : w6.cell? ⟨w.heap.size, 2, none⟩ = some (.slice a y.runs.length c) := HX6.out.cell rfl
  have f2 := HX6.out.frozen 2
  have HX7 : Hid (Blk w.heap.size #[.string y.berth, .int .i64 y.seen, .slice b y.runs.length q] 30 (w6.setCell ⟨w.heap.size, 2, none⟩ (.slice b y.runs.length q))) := HX6.out.set 2 _
  have HZ7 : Hid (Blk (w.heap.size + 1) #[.string ⟨#[]⟩, .int .i64 0, .slice none 0 0] 30 (w6.setCell ⟨w.heap.size, 2, none⟩ (.slice b y.runs.length q))) := HZ6.out.other (a := ⟨w.heap.size, 2, none⟩) (show w.heap.size + 1 ≠ w.heap.size by omega) _
  have hB7 : Below w.heap.size w (w6.setCell ⟨w.heap.size, 2, none⟩ (.slice b y.runs.length q)) := hB6.setCell (p := ⟨w.heap.size, 2, none⟩) (Nat.le_refl _) _
  have HS7 : Hid (SliceC RanC 3 w5.heap.size (w6.setCell ⟨w.heap.size, 2, none⟩ (.slice b y.runs.length q)) b y.runs) := HS.out.keep RanC.holds (Keeps.set (a := ⟨w.heap.size, 2, none⟩) (show w.heap.size < w5.heap.size by omega) _) (Nat.le_refl _)
  have HU7 : Hid (Und b (w6.setCell ⟨w.heap.size, 2, none⟩ (.slice b y.runs.length q)).heap.size) := HU.out.mono (by simp)
  clear ho hb6 HX5 HZ5 hB5 HS HU
  go_upto_region 3 with fail
  clear c2 f2 HX6 HZ6 hB6
  generalize w6.setCell ⟨w.heap.size, 2, none⟩ (.slice b y.runs.length q) = w7 at *
  obtain ⟨w8, HW8⟩ : ∃ w8, Hid (w8 = w7.setCells (w.heap.size + 1) 0 [.string y.berth, .int .i64 y.seen, .slice b y.runs.length q]) := ⟨_, rfl⟩
  have HT : Hid (w7.there (w.heap.size + 1) 0 3) := HZ7.out.there
  have HR8 : Hid (w8.rangeAt (w.heap.size + 1) 0 [.string y.berth, .int .i64 y.seen, .slice b y.runs.length q]) := by
    show World.rangeAt _ _ _ _
    rw [HW8.out]
    exact World.rangeAt_setCells_same _ _ _ _ HT.out
  have hB8 : Below w.heap.size w w8 := by
    rw [HW8.out]
    exact below_setCells (by omega) _ _ _ hB7
  have HS8 := Hid.intro (show SliceC RanC 3 w.heap.size w8 b y.runs by rw [HW8.out]; exact HS7.out.keep RanC.holds (Keeps.setCells hgl _ _ _) (by omega))
  have HU8 : Hid (Und b w8.heap.size) := HU7.out.mono (by rw [HW8.out]; exact (below_setCells (Nat.zero_le _) _ _ _ (Below.refl 0 _)).size)
  go_wp2_with (first | (refine wpList_load_mid rfl 30 _ rfl w.heap.size 0 rfl [.string y.berth, .int .i64 y.seen, .slice b y.runs.length q] _ HX7.out.rangeA Try.underlying30 rfl isz_Rep ?_) | (refine wpList_store_to rfl 30 _ _ rfl (w.heap.size + 1) 0 #[.string y.berth, .int .i64 y.seen, .slice b y.runs.length q] rfl rfl HT.out isz_Rep (by simp [Value.oneCell']) w8 HW8.out ?_))
  exact bodyPost_ret (results_cell_mid rfl _ _ (w.heap.size + 1) [.string y.berth, .int .i64 y.seen, .slice b y.runs.length q] _ rfl HR8.out Try.underlying30 rfl isz_Rep) rfl ⟨b, q, rfl, HS8.out, HU8.out, hB8⟩

set_option maxHeartbeats 8000000 in
set_option maxRecDepth 100000 in
theorem implRep_any (x : Mte) (a5 : Option Addr) (c5 : Nat) (a6 : Option Addr) (c6 : Nat) (a7 : Option Addr) (c7 : Nat) (a8 : Option Addr) (c8 : Nat) (lo : Nat) (w : World) (hin : MSv x lo a5 a6 a7 a8 w) (hm : MSz x) :
    Calls Try.prog 7 #[.agg #[.string x.name, .bool x.up, .int .i64 x.clock, .bool x.known, .int .i64 x.seen, .slice a5 x.wants.length c5, .slice a6 x.runs.length c6, .slice a7 x.asks.length c7, .slice a8 x.gives.length c8]] w fun e w' => ∃ (y : Rep) (b : Option Addr) (q : Nat), y = repOf x ∧ e = .returned (.agg #[.string y.berth, .int .i64 y.seen, .slice b y.runs.length q]) ∧ SliceC RanC 3 w.heap.size w' b y.runs ∧ Und b w'.heap.size ∧ Below w.heap.size w w' := by
  have HI := Hid.intro hin
  have HM := Hid.intro hm
  clear hin hm
  obtain ⟨i0, hi, hz0, hz1, hz2⟩ := info_parts info_Ran
  have HKa : Blk w.heap.size #[.string x.name, .bool x.up, .int .i64 x.clock, .bool x.known, .int .i64 x.seen, .slice a5 x.wants.length c5, .slice a6 x.runs.length c6, .slice a7 x.asks.length c7, .slice a8 x.gives.length c8] 36 (w.alloc (.cells #[.string x.name, .bool x.up, .int .i64 x.clock, .bool x.known, .int .i64 x.seen, .slice a5 x.wants.length c5, .slice a6 x.runs.length c6, .slice a7 x.asks.length c7, .slice a8 x.gives.length c8] 36)) := Blk.alloc _ _ _
  have HZ2 : Hid (Blk (w.heap.size + 1) #[.string ⟨#[]⟩, .int .i64 0, .slice none 0 0] 30 ((w.alloc (.cells #[.string x.name, .bool x.up, .int .i64 x.clock, .bool x.known, .int .i64 x.seen, .slice a5 x.wants.length c5, .slice a6 x.runs.length c6, .slice a7 x.asks.length c7, .slice a8 x.gives.length c8] 36)).alloc (.cells #[.string ⟨#[]⟩, .int .i64 0, .slice none 0 0] 30))) := by
    have := Blk.alloc (w.alloc (.cells #[.string x.name, .bool x.up, .int .i64 x.clock, .bool x.known, .int .i64 x.seen, .slice a5 x.wants.length c5, .slice a6 x.runs.length c6, .slice a7 x.asks.length c7, .slice a8 x.gives.length c8] 36)) #[.string ⟨#[]⟩, .int .i64 0, .slice none 0 0] 30
    show Blk _ _ _ _
    simpa using this
  have HK2 : Hid (Blk w.heap.size #[.string x.name, .bool x.up, .int .i64 x.clock, .bool x.known, .int .i64 x.seen, .slice a5 x.wants.length c5, .slice a6 x.runs.length c6, .slice a7 x.asks.length c7, .slice a8 x.gives.length c8] 36 ((w.alloc (.cells #[.string x.name, .bool x.up, .int .i64 x.clock, .bool x.known, .int .i64 x.seen, .slice a5 x.wants.length c5, .slice a6 x.runs.length c6, .slice a7 x.asks.length c7, .slice a8 x.gives.length c8] 36)).alloc (.cells #[.string ⟨#[]⟩, .int .i64 0, .slice none 0 0] 30))) := HKa.below ((Below.refl _ _).alloc (Nat.le_refl _) _) HKa.lt
  have hB2 : Below w.heap.size w ((w.alloc (.cells #[.string x.name, .bool x.up, .int .i64 x.clock, .bool x.known, .int .i64 x.seen, .slice a5 x.wants.length c5, .slice a6 x.runs.length c6, .slice a7 x.asks.length c7, .slice a8 x.gives.length c8] 36)).alloc (.cells #[.string ⟨#[]⟩, .int .i64 0, .slice none 0 0] 30)) := by go_grown
  clear HKa
  go_enter Try.func7, Try.ntmps7
  go_upto_region 1 with fail
  generalize (w.alloc (Obj.cells #[.string x.name, .bool x.up, .int .i64 x.clock, .bool x.known, .int .i64 x.seen, .slice a5 x.wants.length c5, .slice a6 x.runs.length c6, .slice a7 x.asks.length c7, .slice a8 x.gives.length c8] 36)).alloc (Obj.cells #[.string ⟨#[]⟩, .int .i64 0, .slice none 0 0] 30) = w2 at *
  go_wp2_with (refine wpList_load_mid rfl 36 _ rfl w.heap.size 0 (by first | rfl | (simp [go_sem]; done)) [.string x.name, .bool x.up, .int .i64 x.clock, .bool x.known, .int .i64 x.seen, .slice a5 x.wants.length c5, .slice a6 x.runs.length c6, .slice a7 x.asks.length c7, .slice a8 x.gives.length c8] _ HK2.out.rangeA Try.underlying36 rfl isz_Mte ?_)
  refine (implValid_any x a5 c5 a6 c6 a7 c7 a8 c8 lo _ (ms_all HM.out (HI.out.below hB2 (Nat.le_refl _)))).mono ?_
  rintro e w4 ⟨rfl, hb4⟩
  have HK4 := Hid.intro (HK2.out.below hb4 HK2.out.lt)
  have HZ4 := Hid.intro (HZ2.out.below hb4 HZ2.out.lt)
  have hB4 := hB2.trans (hb4.mono hB2.size)
  clear hb4 HK2 HZ2 hB2
  have hgw : w.heap.size + 1 < w4.heap.size := HZ4.out.lt
  by_cases hmv : mvB x = true
  case neg =>
    replace hmv : mvB x = false := by simpa using hmv
    rw [hmv]
    have HYY : Hid (repN = repOf x) := (repOf_inv hmv).symm
    have HTS := Hid.intro HZ4.out.there
    obtain ⟨wf, HE⟩ : ∃ wf, Hid (wf = w4.setCells (w.heap.size + 1) 0 [.string ⟨#[]⟩, .int .i64 0, .slice none 0 0]) := ⟨_, rfl⟩
    have HRf : Hid (wf.rangeAt (w.heap.size + 1) 0 [.string ⟨#[]⟩, .int .i64 0, .slice none 0 0]) := by
      show World.rangeAt _ _ _ _
      rw [HE.out]
      exact World.rangeAt_setCells_same _ _ _ _ HTS.out
    have hBf : Below w.heap.size w wf := by
      rw [HE.out]
      exact below_setCells (by omega) _ _ _ hB4
    go_wp2_with (refine wpList_store_to rfl 30 _ _ rfl (w.heap.size + 1) 0 #[.string ⟨#[]⟩, .int .i64 0, .slice none 0 0] (by first | rfl | (simp [go_sem]; done)) rfl HTS.out isz_Rep (by simp [Value.oneCell']) wf HE.out ?_)
    exact bodyPost_ret (results_cell_mid rfl _ _ (w.heap.size + 1) [.string ⟨#[]⟩, .int .i64 0, .slice none 0 0] _ rfl HRf.out Try.underlying30 rfl isz_Rep) rfl ⟨repN, none, 0, HYY.out, rfl, SliceC.nil, (fun _ _ _ e => by cases e), hBf⟩
  rw [hmv]
  have HMV := Hid.intro hmv
  clear hmv
  by_cases hup : x.up = true
  case neg =>
    replace hup : x.up = false := by simpa using hup
    have k1 : w4.cell? ⟨w.heap.size, 1, none⟩ = some (.bool false) := by rw [HK4.out.cell (v := .bool x.up) rfl, hup]
    have HYY : Hid (repN = repOf x) := (repOf_down hup).symm
    have HTS := Hid.intro HZ4.out.there
    obtain ⟨wf, HE⟩ : ∃ wf, Hid (wf = w4.setCells (w.heap.size + 1) 0 [.string ⟨#[]⟩, .int .i64 0, .slice none 0 0]) := ⟨_, rfl⟩
    have HRf : Hid (wf.rangeAt (w.heap.size + 1) 0 [.string ⟨#[]⟩, .int .i64 0, .slice none 0 0]) := by
      show World.rangeAt _ _ _ _
      rw [HE.out]
      exact World.rangeAt_setCells_same _ _ _ _ HTS.out
    have hBf : Below w.heap.size w wf := by
      rw [HE.out]
      exact below_setCells (by omega) _ _ _ hB4
    go_wp2_with (refine wpList_store_to rfl 30 _ _ rfl (w.heap.size + 1) 0 #[.string ⟨#[]⟩, .int .i64 0, .slice none 0 0] (by first | rfl | (simp [go_sem]; done)) rfl HTS.out isz_Rep (by simp [Value.oneCell']) wf HE.out ?_)
    exact bodyPost_ret (results_cell_mid rfl _ _ (w.heap.size + 1) [.string ⟨#[]⟩, .int .i64 0, .slice none 0 0] _ rfl HRf.out Try.underlying30 rfl isz_Rep) rfl ⟨repN, none, 0, HYY.out, rfl, SliceC.nil, (fun _ _ _ e => by cases e), hBf⟩
  have k1 : w4.cell? ⟨w.heap.size, 1, none⟩ = some (.bool true) := by rw [HK4.out.cell (v := .bool x.up) rfl, hup]
  have k0 : w4.cell? ⟨w.heap.size, 0, none⟩ = some (.string x.name) := HK4.out.cell rfl
  have HYE := Hid.intro (repOf_yes HMV.out hup)
  clear hup HMV
  have hb5 : Below w4.heap.size w4 (w4.alloc (Obj.cells #[.string x.name, .int .i64 0, .slice none 0 0] 30)) := (Below.refl _ _).alloc (Nat.le_refl _) _
  have HP5 : Hid (Blk w4.heap.size #[.string x.name, .int .i64 0, .slice none 0 0] 30 (w4.alloc (Obj.cells #[.string x.name, .int .i64 0, .slice none 0 0] 30))) := Blk.alloc _ _ _
  have HK5 := Hid.intro (HK4.out.below hb5 HK4.out.lt)
  have HZ5 := Hid.intro (HZ4.out.below hb5 HZ4.out.lt)
  have hB5 := hB4.trans (hb5.mono hB4.size)
  have hgp : w.heap.size + 1 < w4.heap.size := HZ4.out.lt
  clear hb5 HK4 HZ4 hB4
  go_upto_region 4 with fail
  clear k0 k1 hgw
  generalize w4.alloc (Obj.cells #[.string x.name, .int .i64 0, .slice none 0 0] 30) = w5 at *
  generalize w4.heap.size = p at *
  obtain ⟨sv, hsv⟩ : ∃ sv : Int, sv = if x.known = true then x.seen else 0 := ⟨_, rfl⟩
  have HSV : Hid (repOf x = ⟨x.name, sv, x.runs.map ranOf⟩) := by show _ = _; rw [HYE.out, hsv]; rfl
  clear HYE
  by_cases hkn : x.known = true
  case neg =>
    rw [if_neg hkn] at hsv
    subst hsv
    replace hkn : x.known = false := by simpa using hkn
    have k3 : w5.cell? ⟨w.heap.size, 3, none⟩ = some (.bool false) := by rw [HK5.out.cell (v := .bool x.known) rfl, hkn]
    go_upto_region 6 with fail
    clear k3 hkn
    skip
    have k6 : w5.cell? ⟨w.heap.size, 6, none⟩ = some (.slice a6 x.runs.length c6) := HK5.out.cell rfl
    go_wp2_with fail
    clear k6
    go_loopw [26] (fun i wr => ∃ (k : Nat) (a : Option Addr) (q : Nat), k ≤ x.runs.length ∧ i = .int .i64 k ∧ Hid (Blk w.heap.size #[.string x.name, .bool x.up, .int .i64 x.clock, .bool x.known, .int .i64 x.seen, .slice a5 x.wants.length c5, .slice a6 x.runs.length c6, .slice a7 x.asks.length c7, .slice a8 x.gives.length c8] 36 wr) ∧ Hid (Blk (w.heap.size + 1) #[.string ⟨#[]⟩, .int .i64 0, .slice none 0 0] 30 wr) ∧ Hid (Blk p #[.string x.name, .int .i64 0, .slice a k q] 30 wr) ∧ Hid (wr.ownsRow (p + 1) 52 3 (.slice a k q) k (rvRan ((x.runs.take k).map ranOf))) ∧ Below w.heap.size w wr) (fun i _ => x.runs.length - (intOf i).toNat)
    case atStart => exact ⟨0, none, 0, Nat.zero_le _, rfl, HK5, HZ5, HP5, World.ownsRow_nil _ _ _ _, hB5⟩
    case round =>
      clear HK5 HZ5 HP5 hB5
      obtain ⟨k, a1, q, hk, rfl, HK, HZ, HP, HO, hB⟩ := hrel
      have hl6 := HM.out.l6
      have hpw : p < wr.heap.size := HP.out.lt
      by_cases hlt : k < x.runs.length
      case neg =>
        have hke : k = x.runs.length := by omega
        subst hke
        rw [List.take_length] at HO
        have HLS : Hid (SliceC RanC 3 (p + 1) wr a1 (x.runs.map ranOf)) := rowslRanK HO.out (List.length_map _) (by rw [List.length_map]; omega) (szRan_of HM.out.z6)
        go_wp2_with (refine wpList_load_mid rfl 30 _ rfl p 0 (by first | rfl | (simp [go_sem]; done)) [.string x.name, .int .i64 0, .slice a1 x.runs.length q] _ HP.out.rangeA Try.underlying30 rfl isz_Rep ?_)
        have HNR := Hid.intro (newRep_any ⟨x.name, 0, x.runs.map ranOf⟩ a1 q (p + 1) wr HLS.out HM.out.nm (by simpa using hl6) (szRan_of HM.out.z6) (own_spotR HO.out))
        simp only [List.length_map] at HNR
        refine HNR.out.mono ?_
        clear HNR
        rintro e wn ⟨b, qb, rfl, ss, uu, hbn⟩
        have HZn := Hid.intro (HZ.out.below hbn HZ.out.lt)
        have hBn := hB.trans (hbn.mono hB.size)
        have SS := Hid.intro ss
        have UU := Hid.intro uu
        have HTS := Hid.intro HZn.out.there
        have hgr : w.heap.size + 1 < wr.heap.size := HZ.out.lt
        obtain ⟨wf, HE⟩ : ∃ wf, Hid (wf = wn.setCells (w.heap.size + 1) 0 [.string x.name, .int .i64 0, .slice b x.runs.length qb]) := ⟨_, rfl⟩
        have HRf : Hid (wf.rangeAt (w.heap.size + 1) 0 [.string x.name, .int .i64 0, .slice b x.runs.length qb]) := by
          show World.rangeAt _ _ _ _
          rw [HE.out]
          exact World.rangeAt_setCells_same _ _ _ _ HTS.out
        have hBf : Below w.heap.size w wf := by
          rw [HE.out]
          exact below_setCells (by omega) _ _ _ hBn
        have HSF := Hid.intro (show SliceC RanC 3 w.heap.size wf b (x.runs.map ranOf) by rw [HE.out]; exact SS.out.keep RanC.holds (Keeps.setCells hgr _ _ _) (by omega))
        have HUF : Hid (Und b wf.heap.size) := UU.out.mono (by rw [HE.out]; exact (below_setCells (Nat.zero_le _) _ _ _ (Below.refl 0 _)).size)
        clear ss uu hbn hBn HZn
        go_wp2_with (refine wpList_store_to rfl 30 _ _ rfl (w.heap.size + 1) 0 #[.string x.name, .int .i64 0, .slice b x.runs.length qb] (by first | rfl | (simp [go_sem]; done)) rfl HTS.out isz_Rep (by simp [Value.oneCell']) wf HE.out ?_)
        exact bodyPost_ret (results_cell_mid rfl _ _ (w.heap.size + 1) [.string x.name, .int .i64 0, .slice b x.runs.length qb] _ rfl HRf.out Try.underlying30 rfl isz_Rep) rfl ⟨⟨x.name, 0, x.runs.map ranOf⟩, b, qb, HSV.out.symm, (by simp), HSF.out, HUF.out, hBf⟩
      obtain ⟨r, hr⟩ : ∃ r, x.runs[k]? = some r := ⟨x.runs[k], List.getElem?_eq_getElem hlt⟩
      obtain ⟨b, ob, e6, _, hbl, hc⟩ := (HI.out.s6.below RnC.holds hB (Nat.le_refl _)).at hr
      subst e6
      have HRA := Hid.intro (range_of_cells hc)
      have HST := Hid.intro (ran_step hr)
      clear hc hr
      have i1 : (k : Int) < (x.runs.length : Int) := by omega
      have hb4 : Below wr.heap.size wr (wr.alloc (Obj.cells #[.string r.want.copy, .int .i64 r.want.version, .string r.want.hold, .int .i64 r.want.pull, .int .i64 r.want.start, .int .i64 r.want.dies, .int .i64 r.want.grace, .int .i64 r.state, .int .i64 r.left, .int .i64 r.falls, .int .i64 r.until_] 50)) := (Below.refl _ _).alloc (Nat.le_refl _) _
      have HR4 : Hid (Blk wr.heap.size #[.string r.want.copy, .int .i64 r.want.version, .string r.want.hold, .int .i64 r.want.pull, .int .i64 r.want.start, .int .i64 r.want.dies, .int .i64 r.want.grace, .int .i64 r.state, .int .i64 r.left, .int .i64 r.falls, .int .i64 r.until_] 50 (wr.alloc (Obj.cells #[.string r.want.copy, .int .i64 r.want.version, .string r.want.hold, .int .i64 r.want.pull, .int .i64 r.want.start, .int .i64 r.want.dies, .int .i64 r.want.grace, .int .i64 r.state, .int .i64 r.left, .int .i64 r.falls, .int .i64 r.until_] 50))) := Blk.alloc _ _ _
      have HK4 := Hid.intro (HK.out.below hb4 HK.out.lt)
      have HZ4 := Hid.intro (HZ.out.below hb4 HZ.out.lt)
      have HP4 := Hid.intro (HP.out.below hb4 HP.out.lt)
      have HO4 := Hid.intro (ownsRow_below HO.out hb4)
      have hB4 := hB.trans (hb4.mono hB.size)
      clear hb4 HK HZ HP HO hB
      go_upto_region 9 with (refine wpList_load_mid rfl 50 _ rfl b (ob + k * 11) (by first | rfl | (simp [go_sem]; done)) [.string r.want.copy, .int .i64 r.want.version, .string r.want.hold, .int .i64 r.want.pull, .int .i64 r.want.start, .int .i64 r.want.dies, .int .i64 r.want.grace, .int .i64 r.state, .int .i64 r.left, .int .i64 r.falls, .int .i64 r.until_] _ HRA.out Try.underlying50 rfl isz_Rn ?_)
      clear HRA
      generalize wr.alloc (Obj.cells #[.string r.want.copy, .int .i64 r.want.version, .string r.want.hold, .int .i64 r.want.pull, .int .i64 r.want.start, .int .i64 r.want.dies, .int .i64 r.want.grace, .int .i64 r.state, .int .i64 r.left, .int .i64 r.falls, .int .i64 r.until_] 50) = w4 at *
      generalize wr.heap.size = h at *
      have hhl : h < w4.heap.size := HR4.out.lt
      obtain ⟨NV, hnv⟩ : ∃ l, l = rcRan (ranOf r) := ⟨_, rfl⟩
      have HNV := Hid.intro hnv
      clear hnv
      have HNL : Hid (NV.length = 1 * 3) := by show _ = _; rw [HNV.out]; rfl
      have HNN : Hid (∀ j u, NV[j]? = some u → (w4.alloc (Obj.cells #[.string r.want.copy, .int .i64 r.want.version, .int .i64 r.state] 52)).cell? ((⟨w4.heap.size, 0, none⟩ : Addr).add j) = some u) := by
        intro j u hj
        rw [Addr.add_mid]
        rw [HNV.out] at hj
        exact (Blk.alloc w4 #[.string r.want.copy, .int .i64 r.want.version, .int .i64 r.state] 52).rangeA j u hj
      have HN1 : Hid (∀ u ∈ NV, u.oneCell' = true) := by
        intro u hu
        rw [HNV.out] at hu
        exact rvRan_one [ranOf r] u (by simp only [rvRan, List.append_nil]; exact hu)
      have HOA := Hid.intro (HO4.out.alloc (Obj.cells #[.string r.want.copy, .int .i64 r.want.version, .int .i64 r.state] 52))
      have k2 : w4.cell? ⟨p, 2, none⟩ = some (.slice a1 k q) := HP4.out.cell rfl
      have r0 : w4.cell? ⟨h, 0, none⟩ = some (.string r.want.copy) := HR4.out.cell rfl
      have r1 : w4.cell? ⟨h, 1, none⟩ = some (.int .i64 r.want.version) := HR4.out.cell rfl
      have r7 : w4.cell? ⟨h, 7, none⟩ = some (.int .i64 r.state) := HR4.out.cell rfl
      go_upto_region 10 with (at_builtin; refine wpList_append_own _ rfl _ _ 28 rfl (p + 1) 52 i0 _ 3 32 Try.underlying28 hi hz0 hz1 hz2 rfl (by decide) _ k _ rfl HOA.out ⟨w4.heap.size, 0, none⟩ 1 1 NV rfl HNL.out HNN.out HN1.out (by unfold maxLen; omega) (by omega) (by simp; omega) ?_; intro v' w8 hown8 hgrow8 hnil8; have hv8 : v' ≠ .slice none 0 0 := (fun e => by have h9 := (hnil8.1 e).2; cases h9); obtain ⟨g8, q8, rfl⟩ := rowf hown8 hv8; have hb8 : Below (p + 1) w4 w8 := ((Below.refl (p + 1) w4).alloc (by omega) _).grown hgrow8 (by simp; omega) (own_blkR HO4.out); have HP8 := Hid.intro (HP4.out.below hb8 (Nat.lt_succ_self _)); have kx : w8.cell? ⟨p, 2, none⟩ = some (.slice a1 k q) := HP8.out.cell rfl; have fx : w8.frozen? ⟨p, 2, none⟩ = false := HP8.out.frozen _; have HOW := Hid.intro hown8; have HBB := Hid.intro hb8; clear hown8 hgrow8 hnil8 hv8 hb8)
      clear kx fx k2 r0 r1 r7
      have HK8 := Hid.intro (HK4.out.below HBB.out (by omega))
      have HZ8 := Hid.intro (HZ4.out.below HBB.out (by omega))
      have hB8 := hB4.trans (HBB.out.mono (by omega))
      have HO9 : Hid ((w8.setCell ⟨p, 2, none⟩ (.slice (some ⟨g8, 0, none⟩) (k + 1) q8)).ownsRow (p + 1) 52 3 (.slice (some ⟨g8, 0, none⟩) (k + 1) q8) (k + 1) (rvRan ((x.runs.take (k + 1)).map ranOf))) := by
        have h := HOW.out
        rw [HNV.out] at h
        have hg8 := rowb h
        show World.ownsRow _ _ _ _ _ _ _
        rw [HST.out, rvRan_app]
        simp only [rvRan, List.append_nil]
        exact ownsRow_set_othR h _ (fun g c e => by cases e; show g8 ≠ p; omega)
      have HP9 : Hid (Blk p #[.string x.name, .int .i64 0, .slice (some ⟨g8, 0, none⟩) (k + 1) q8] 30 (w8.setCell ⟨p, 2, none⟩ (.slice (some ⟨g8, 0, none⟩) (k + 1) q8))) := HP8.out.set 2 _
      have HK9 : Hid (Blk w.heap.size #[.string x.name, .bool x.up, .int .i64 x.clock, .bool x.known, .int .i64 x.seen, .slice a5 x.wants.length c5, .slice (some ⟨b, ob, none⟩) x.runs.length c6, .slice a7 x.asks.length c7, .slice a8 x.gives.length c8] 36 (w8.setCell ⟨p, 2, none⟩ (.slice (some ⟨g8, 0, none⟩) (k + 1) q8))) := HK8.out.other (a := ⟨p, 2, none⟩) (show w.heap.size ≠ p by omega) _
      have HZ9 : Hid (Blk (w.heap.size + 1) #[.string ⟨#[]⟩, .int .i64 0, .slice none 0 0] 30 (w8.setCell ⟨p, 2, none⟩ (.slice (some ⟨g8, 0, none⟩) (k + 1) q8))) := HZ8.out.other (a := ⟨p, 2, none⟩) (show w.heap.size + 1 ≠ p by omega) _
      have hB9 : Below w.heap.size w (w8.setCell ⟨p, 2, none⟩ (.slice (some ⟨g8, 0, none⟩) (k + 1) q8)) := hB8.setCell (p := ⟨p, 2, none⟩) (show w.heap.size ≤ p by omega) _
      clear HOW HBB HK8 HZ8 hB8 HP8
      generalize w8.setCell ⟨p, 2, none⟩ (.slice (some ⟨g8, 0, none⟩) (k + 1) q8) = w9 at *
      go_wp2_with fail
      go_roundw
      case rel => exact ⟨k + 1, some ⟨g8, 0, none⟩, q8, by omega, by go_num, HK9, HZ9, HP9, HO9, hB9⟩
      case measure => simp [intOf]; omega
  rw [if_pos hkn] at hsv
  subst hsv
  have k3 : w5.cell? ⟨w.heap.size, 3, none⟩ = some (.bool true) := by rw [HK5.out.cell (v := .bool x.known) rfl, hkn]
  have k4 : w5.cell? ⟨w.heap.size, 4, none⟩ = some (.int .i64 x.seen) := HK5.out.cell rfl
  have kx : w5.cell? ⟨p, 1, none⟩ = some (.int .i64 0) := HP5.out.cell rfl
  have fx : w5.frozen? ⟨p, 1, none⟩ = false := HP5.out.frozen _
  have HP6 : Hid (Blk p #[.string x.name, .int .i64 x.seen, .slice none 0 0] 30 (w5.setCell ⟨p, 1, none⟩ (.int .i64 x.seen))) := HP5.out.set 1 _
  have HK6 : Hid (Blk w.heap.size #[.string x.name, .bool x.up, .int .i64 x.clock, .bool x.known, .int .i64 x.seen, .slice a5 x.wants.length c5, .slice a6 x.runs.length c6, .slice a7 x.asks.length c7, .slice a8 x.gives.length c8] 36 (w5.setCell ⟨p, 1, none⟩ (.int .i64 x.seen))) := HK5.out.other (a := ⟨p, 1, none⟩) (show w.heap.size ≠ p by omega) _
  have HZ6 : Hid (Blk (w.heap.size + 1) #[.string ⟨#[]⟩, .int .i64 0, .slice none 0 0] 30 (w5.setCell ⟨p, 1, none⟩ (.int .i64 x.seen))) := HZ5.out.other (a := ⟨p, 1, none⟩) (show w.heap.size + 1 ≠ p by omega) _
  have hB6 : Below w.heap.size w (w5.setCell ⟨p, 1, none⟩ (.int .i64 x.seen)) := hB5.setCell (p := ⟨p, 1, none⟩) (show w.heap.size ≤ p by omega) _
  clear HP5 HK5 HZ5 hB5
  go_upto_region 6 with fail
  clear k3 k4 kx fx hkn
  generalize w5.setCell ⟨p, 1, none⟩ (.int .i64 x.seen) = w6 at *
  have k6 : w6.cell? ⟨w.heap.size, 6, none⟩ = some (.slice a6 x.runs.length c6) := HK6.out.cell rfl
  go_wp2_with fail
  clear k6
  go_loopw [26] (fun i wr => ∃ (k : Nat) (a : Option Addr) (q : Nat), k ≤ x.runs.length ∧ i = .int .i64 k ∧ Hid (Blk w.heap.size #[.string x.name, .bool x.up, .int .i64 x.clock, .bool x.known, .int .i64 x.seen, .slice a5 x.wants.length c5, .slice a6 x.runs.length c6, .slice a7 x.asks.length c7, .slice a8 x.gives.length c8] 36 wr) ∧ Hid (Blk (w.heap.size + 1) #[.string ⟨#[]⟩, .int .i64 0, .slice none 0 0] 30 wr) ∧ Hid (Blk p #[.string x.name, .int .i64 x.seen, .slice a k q] 30 wr) ∧ Hid (wr.ownsRow (p + 1) 52 3 (.slice a k q) k (rvRan ((x.runs.take k).map ranOf))) ∧ Below w.heap.size w wr) (fun i _ => x.runs.length - (intOf i).toNat)
  case atStart => exact ⟨0, none, 0, Nat.zero_le _, rfl, HK6, HZ6, HP6, World.ownsRow_nil _ _ _ _, hB6⟩
  case round =>
    clear HK6 HZ6 HP6 hB6
    obtain ⟨k, a1, q, hk, rfl, HK, HZ, HP, HO, hB⟩ := hrel
    have hl6 := HM.out.l6
    have hpw : p < wr.heap.size := HP.out.lt
    by_cases hlt : k < x.runs.length
    case neg =>
      have hke : k = x.runs.length := by omega
      subst hke
      rw [List.take_length] at HO
      have HLS : Hid (SliceC RanC 3 (p + 1) wr a1 (x.runs.map ranOf)) := rowslRanK HO.out (List.length_map _) (by rw [List.length_map]; omega) (szRan_of HM.out.z6)
      go_wp2_with (refine wpList_load_mid rfl 30 _ rfl p 0 (by first | rfl | (simp [go_sem]; done)) [.string x.name, .int .i64 x.seen, .slice a1 x.runs.length q] _ HP.out.rangeA Try.underlying30 rfl isz_Rep ?_)
      have HNR := Hid.intro (newRep_any ⟨x.name, x.seen, x.runs.map ranOf⟩ a1 q (p + 1) wr HLS.out HM.out.nm (by simpa using hl6) (szRan_of HM.out.z6) (own_spotR HO.out))
      simp only [List.length_map] at HNR
      refine HNR.out.mono ?_
      clear HNR
      rintro e wn ⟨b, qb, rfl, ss, uu, hbn⟩
      have HZn := Hid.intro (HZ.out.below hbn HZ.out.lt)
      have hBn := hB.trans (hbn.mono hB.size)
      have SS := Hid.intro ss
      have UU := Hid.intro uu
      have HTS := Hid.intro HZn.out.there
      have hgr : w.heap.size + 1 < wr.heap.size := HZ.out.lt
      obtain ⟨wf, HE⟩ : ∃ wf, Hid (wf = wn.setCells (w.heap.size + 1) 0 [.string x.name, .int .i64 x.seen, .slice b x.runs.length qb]) := ⟨_, rfl⟩
      have HRf : Hid (wf.rangeAt (w.heap.size + 1) 0 [.string x.name, .int .i64 x.seen, .slice b x.runs.length qb]) := by
        show World.rangeAt _ _ _ _
        rw [HE.out]
        exact World.rangeAt_setCells_same _ _ _ _ HTS.out
      have hBf : Below w.heap.size w wf := by
        rw [HE.out]
        exact below_setCells (by omega) _ _ _ hBn
      have HSF := Hid.intro (show SliceC RanC 3 w.heap.size wf b (x.runs.map ranOf) by rw [HE.out]; exact SS.out.keep RanC.holds (Keeps.setCells hgr _ _ _) (by omega))
      have HUF : Hid (Und b wf.heap.size) := UU.out.mono (by rw [HE.out]; exact (below_setCells (Nat.zero_le _) _ _ _ (Below.refl 0 _)).size)
      clear ss uu hbn hBn HZn
      go_wp2_with (refine wpList_store_to rfl 30 _ _ rfl (w.heap.size + 1) 0 #[.string x.name, .int .i64 x.seen, .slice b x.runs.length qb] (by first | rfl | (simp [go_sem]; done)) rfl HTS.out isz_Rep (by simp [Value.oneCell']) wf HE.out ?_)
      exact bodyPost_ret (results_cell_mid rfl _ _ (w.heap.size + 1) [.string x.name, .int .i64 x.seen, .slice b x.runs.length qb] _ rfl HRf.out Try.underlying30 rfl isz_Rep) rfl ⟨⟨x.name, x.seen, x.runs.map ranOf⟩, b, qb, HSV.out.symm, (by simp), HSF.out, HUF.out, hBf⟩
    obtain ⟨r, hr⟩ : ∃ r, x.runs[k]? = some r := ⟨x.runs[k], List.getElem?_eq_getElem hlt⟩
    obtain ⟨b, ob, e6, _, hbl, hc⟩ := (HI.out.s6.below RnC.holds hB (Nat.le_refl _)).at hr
    subst e6
    have HRA := Hid.intro (range_of_cells hc)
    have HST := Hid.intro (ran_step hr)
    clear hc hr
    have i1 : (k : Int) < (x.runs.length : Int) := by omega
    have hb4 : Below wr.heap.size wr (wr.alloc (Obj.cells #[.string r.want.copy, .int .i64 r.want.version, .string r.want.hold, .int .i64 r.want.pull, .int .i64 r.want.start, .int .i64 r.want.dies, .int .i64 r.want.grace, .int .i64 r.state, .int .i64 r.left, .int .i64 r.falls, .int .i64 r.until_] 50)) := (Below.refl _ _).alloc (Nat.le_refl _) _
    have HR4 : Hid (Blk wr.heap.size #[.string r.want.copy, .int .i64 r.want.version, .string r.want.hold, .int .i64 r.want.pull, .int .i64 r.want.start, .int .i64 r.want.dies, .int .i64 r.want.grace, .int .i64 r.state, .int .i64 r.left, .int .i64 r.falls, .int .i64 r.until_] 50 (wr.alloc (Obj.cells #[.string r.want.copy, .int .i64 r.want.version, .string r.want.hold, .int .i64 r.want.pull, .int .i64 r.want.start, .int .i64 r.want.dies, .int .i64 r.want.grace, .int .i64 r.state, .int .i64 r.left, .int .i64 r.falls, .int .i64 r.until_] 50))) := Blk.alloc _ _ _
    have HK4 := Hid.intro (HK.out.below hb4 HK.out.lt)
    have HZ4 := Hid.intro (HZ.out.below hb4 HZ.out.lt)
    have HP4 := Hid.intro (HP.out.below hb4 HP.out.lt)
    have HO4 := Hid.intro (ownsRow_below HO.out hb4)
    have hB4 := hB.trans (hb4.mono hB.size)
    clear hb4 HK HZ HP HO hB
    go_upto_region 9 with (refine wpList_load_mid rfl 50 _ rfl b (ob + k * 11) (by first | rfl | (simp [go_sem]; done)) [.string r.want.copy, .int .i64 r.want.version, .string r.want.hold, .int .i64 r.want.pull, .int .i64 r.want.start, .int .i64 r.want.dies, .int .i64 r.want.grace, .int .i64 r.state, .int .i64 r.left, .int .i64 r.falls, .int .i64 r.until_] _ HRA.out Try.underlying50 rfl isz_Rn ?_)
    clear HRA
    generalize wr.alloc (Obj.cells #[.string r.want.copy, .int .i64 r.want.version, .string r.want.hold, .int .i64 r.want.pull, .int .i64 r.want.start, .int .i64 r.want.dies, .int .i64 r.want.grace, .int .i64 r.state, .int .i64 r.left, .int .i64 r.falls, .int .i64 r.until_] 50) = w4 at *
    generalize wr.heap.size = h at *
    have hhl : h < w4.heap.size := HR4.out.lt
    obtain ⟨NV, hnv⟩ : ∃ l, l = rcRan (ranOf r) := ⟨_, rfl⟩
    have HNV := Hid.intro hnv
    clear hnv
    have HNL : Hid (NV.length = 1 * 3) := by show _ = _; rw [HNV.out]; rfl
    have HNN : Hid (∀ j u, NV[j]? = some u → (w4.alloc (Obj.cells #[.string r.want.copy, .int .i64 r.want.version, .int .i64 r.state] 52)).cell? ((⟨w4.heap.size, 0, none⟩ : Addr).add j) = some u) := by
      intro j u hj
      rw [Addr.add_mid]
      rw [HNV.out] at hj
      exact (Blk.alloc w4 #[.string r.want.copy, .int .i64 r.want.version, .int .i64 r.state] 52).rangeA j u hj
    have HN1 : Hid (∀ u ∈ NV, u.oneCell' = true) := by
      intro u hu
      rw [HNV.out] at hu
      exact rvRan_one [ranOf r] u (by simp only [rvRan, List.append_nil]; exact hu)
    have HOA := Hid.intro (HO4.out.alloc (Obj.cells #[.string r.want.copy, .int .i64 r.want.version, .int .i64 r.state] 52))
    have k2 : w4.cell? ⟨p, 2, none⟩ = some (.slice a1 k q) := HP4.out.cell rfl
    have r0 : w4.cell? ⟨h, 0, none⟩ = some (.string r.want.copy) := HR4.out.cell rfl
    have r1 : w4.cell? ⟨h, 1, none⟩ = some (.int .i64 r.want.version) := HR4.out.cell rfl
    have r7 : w4.cell? ⟨h, 7, none⟩ = some (.int .i64 r.state) := HR4.out.cell rfl
    go_upto_region 10 with (at_builtin; refine wpList_append_own _ rfl _ _ 28 rfl (p + 1) 52 i0 _ 3 32 Try.underlying28 hi hz0 hz1 hz2 rfl (by decide) _ k _ rfl HOA.out ⟨w4.heap.size, 0, none⟩ 1 1 NV rfl HNL.out HNN.out HN1.out (by unfold maxLen; omega) (by omega) (by simp; omega) ?_; intro v' w8 hown8 hgrow8 hnil8; have hv8 : v' ≠ .slice none 0 0 := (fun e => by have h9 := (hnil8.1 e).2; cases h9); obtain ⟨g8, q8, rfl⟩ := rowf hown8 hv8; have hb8 : Below (p + 1) w4 w8 := ((Below.refl (p + 1) w4).alloc (by omega) _).grown hgrow8 (by simp; omega) (own_blkR HO4.out); have HP8 := Hid.intro (HP4.out.below hb8 (Nat.lt_succ_self _)); have kx : w8.cell? ⟨p, 2, none⟩ = some (.slice a1 k q) := HP8.out.cell rfl; have fx : w8.frozen? ⟨p, 2, none⟩ = false := HP8.out.frozen _; have HOW := Hid.intro hown8; have HBB := Hid.intro hb8; clear hown8 hgrow8 hnil8 hv8 hb8)
    clear kx fx k2 r0 r1 r7
    have HK8 := Hid.intro (HK4.out.below HBB.out (by omega))
    have HZ8 := Hid.intro (HZ4.out.below HBB.out (by omega))
    have hB8 := hB4.trans (HBB.out.mono (by omega))
    have HO9 : Hid ((w8.setCell ⟨p, 2, none⟩ (.slice (some ⟨g8, 0, none⟩) (k + 1) q8)).ownsRow (p + 1) 52 3 (.slice (some ⟨g8, 0, none⟩) (k + 1) q8) (k + 1) (rvRan ((x.runs.take (k + 1)).map ranOf))) := by
      have h := HOW.out
      rw [HNV.out] at h
      have hg8 := rowb h
      show World.ownsRow _ _ _ _ _ _ _
      rw [HST.out, rvRan_app]
      simp only [rvRan, List.append_nil]
      exact ownsRow_set_othR h _ (fun g c e => by cases e; show g8 ≠ p; omega)
    have HP9 : Hid (Blk p #[.string x.name, .int .i64 x.seen, .slice (some ⟨g8, 0, none⟩) (k + 1) q8] 30 (w8.setCell ⟨p, 2, none⟩ (.slice (some ⟨g8, 0, none⟩) (k + 1) q8))) := HP8.out.set 2 _
    have HK9 : Hid (Blk w.heap.size #[.string x.name, .bool x.up, .int .i64 x.clock, .bool x.known, .int .i64 x.seen, .slice a5 x.wants.length c5, .slice (some ⟨b, ob, none⟩) x.runs.length c6, .slice a7 x.asks.length c7, .slice a8 x.gives.length c8] 36 (w8.setCell ⟨p, 2, none⟩ (.slice (some ⟨g8, 0, none⟩) (k + 1) q8))) := HK8.out.other (a := ⟨p, 2, none⟩) (show w.heap.size ≠ p by omega) _
    have HZ9 : Hid (Blk (w.heap.size + 1) #[.string ⟨#[]⟩, .int .i64 0, .slice none 0 0] 30 (w8.setCell ⟨p, 2, none⟩ (.slice (some ⟨g8, 0, none⟩) (k + 1) q8))) := HZ8.out.other (a := ⟨p, 2, none⟩) (show w.heap.size + 1 ≠ p by omega) _
    have hB9 : Below w.heap.size w (w8.setCell ⟨p, 2, none⟩ (.slice (some ⟨g8, 0, none⟩) (k + 1) q8)) := hB8.setCell (p := ⟨p, 2, none⟩) (show w.heap.size ≤ p by omega) _
    clear HOW HBB HK8 HZ8 hB8 HP8
    generalize w8.setCell ⟨p, 2, none⟩ (.slice (some ⟨g8, 0, none⟩) (k + 1) q8) = w9 at *
    go_wp2_with fail
    go_roundw
    case rel => exact ⟨k + 1, some ⟨g8, 0, none⟩, q8, by omega, by go_num, HK9, HZ9, HP9, HO9, hB9⟩
    case measure => simp [intOf]; omega

end Go.Proofs.Ytlegklkbmifdeaa
