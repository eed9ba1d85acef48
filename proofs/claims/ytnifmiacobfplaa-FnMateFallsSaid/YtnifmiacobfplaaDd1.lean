import Derived.Test.YtnifmiacobfplaaTkw
import Derived.Test.YtnifmiacobfplaaFow
import Derived.Test.YtnifmiacobfplaaDqb
import Derived.Test.YtnifmiacobfplaaJ38
import Derived.Test.YtnifmiacobfplaaDr5
import Derived.Deep.RegionHeld3
namespace Go.Proofs.Ytnifmiacobfplaa
open Go.RowKit

theorem fall_few {x : Mte} {m : Bool} {n : Nat} (h : Few x n) : Few (fall x m) n := by
 unfold fall
 split
 ·refine ⟨Nat.zero_le _, ?_, Nat.zero_le _, Nat.zero_le _⟩
  show (fallR x.runs m).length ≤ n
  rw [fall_eq]
  exact Nat.le_trans (fallS_few _ _) h.l6
 ·exact ⟨Nat.zero_le _, Nat.zero_le _, Nat.zero_le _, Nat.zero_le _⟩

theorem fall_clk {x : Mte} {m : Bool} (h0 : 0 ≤ x.clock) (h1 : x.clock ≤ 60) : 0 ≤ (fall x m).clock ∧ (fall x m).clock ≤ 60 := by
 unfold fall
 split
 ·exact ⟨h0, h1⟩
 ·exact ⟨by decide, by decide⟩

set_option maxHeartbeats 40000000 in
set_option maxRecDepth 100000 in
theorem draw13_any (p k0 : Nat) (w : World) (hR : RdS p k0 w) (hK0 : k0 ≤ 500000) :
  Calls Try.prog 36 #[.pointer (some ⟨p, 0, none⟩)] w fun e w' => ∃ (x : Mte) (b5 : Option Addr) (q5 : Nat) (b6 : Option Addr) (q6 : Nat) (b7 : Option Addr) (q7 : Nat) (b8 : Option Addr) (q8 : Nat) (K : Nat), e = .returned (.agg #[.string x.name, .bool x.up, .int .i64 x.clock, .bool x.known, .int .i64 x.seen, .slice b5 x.wants.length q5, .slice b6 x.runs.length q6, .slice b7 x.asks.length q7, .slice b8 x.gives.length q8]) ∧ MkL w.heap.size x b5 q5 b6 q6 b7 q7 b8 q8 w' ∧ Few x 4 ∧ (0 ≤ x.clock ∧ x.clock ≤ 60) ∧ K ≤ k0 + 300 ∧ RdS p K w' ∧ Bt p w.heap.size w w' := by
 obtain ⟨iA, hiA, hz0, hz1, hz2⟩ := info_parts info_Aks
 have hp : p < w.heap.size := hR.lt
 have HZ0 : Hid (Blk w.heap.size #[.string ⟨#[]⟩, .bool false, .int .i64 0, .bool false, .int .i64 0, .slice none 0 0, .slice none 0 0, .slice none 0 0, .slice none 0 0] 27 (w.alloc (.cells #[.string ⟨#[]⟩, .bool false, .int .i64 0, .bool false, .int .i64 0, .slice none 0 0, .slice none 0 0, .slice none 0 0, .slice none 0 0] 27))) := Blk.alloc _ _ _
 have hb0 : Below w.heap.size w (w.alloc (.cells #[.string ⟨#[]⟩, .bool false, .int .i64 0, .bool false, .int .i64 0, .slice none 0 0, .slice none 0 0, .slice none 0 0, .slice none 0 0] 27)) := (Below.refl _ _).alloc (Nat.le_refl _) _
 have HR0 : Hid (RdS p k0 (w.alloc (.cells #[.string ⟨#[]⟩, .bool false, .int .i64 0, .bool false, .int .i64 0, .slice none 0 0, .slice none 0 0, .slice none 0 0, .slice none 0 0] 27))) := hR.below hb0 hR.lt
 have hT0 : Bt p w.heap.size w (w.alloc (.cells #[.string ⟨#[]⟩, .bool false, .int .i64 0, .bool false, .int .i64 0, .slice none 0 0, .slice none 0 0, .slice none 0 0, .slice none 0 0] 27)) := Bt.of_below hb0
 clear hR hb0
 go_enter Try.func36, Try.ntmps36
 go_upto_region 1 with fail
 generalize w.alloc (Obj.cells #[.string ⟨#[]⟩, .bool false, .int .i64 0, .bool false, .int .i64 0, .slice none 0 0, .slice none 0 0, .slice none 0 0, .slice none 0 0] 27) = w0 at *
 go_wp2_with fail
 refine (pick_rd p (k0) 6 _ HR0.out (by omega) (by omega) (by omega)).mono ?_
 rintro e w1 ⟨v1, rfl, hv1, hr, hb, -⟩
 have HR1 := Hid.intro hr
 have HZ1 := Hid.intro (HZ0.out.bt hb HZ0.out.lt (by omega))
 have hT1 : Bt p w.heap.size w w1 := hT0.trans (hb.mono hT0.size)
 clear hr hb HR0 HZ0 hT0
 go_wp2_with fail
 refine (pick_rd p (k0 + 1) 60 _ HR1.out (by omega) (by omega) (by omega)).mono ?_
 rintro e w2 ⟨c, rfl, hc, hr, hb, -⟩
 have HR2 := Hid.intro hr
 have HZ2 := Hid.intro (HZ1.out.bt hb HZ1.out.lt (by omega))
 have hT2 : Bt p w.heap.size w w2 := hT1.trans (hb.mono hT1.size)
 clear hr hb HR1 HZ1 hT1
 by_cases hu : v1 = 0
 case pos =>
  as_aux_lemma =>
  subst hu
  have hba : Below w2.heap.size w2 (w2.alloc (.cells #[.string ⟨#[97]⟩, .bool false, .int .i64 (c : Int), .bool false, .int .i64 0, .slice none 0 0, .slice none 0 0, .slice none 0 0, .slice none 0 0] 27)) := (Below.refl _ _).alloc (Nat.le_refl _) _
  have hzp : w.heap.size < w2.heap.size := HZ2.out.lt
  have HI3 : Hid (Inv p w.heap.size w2.heap.size w ⟨⟨#[97]⟩, false, (c : Int), false, 0, [], [], [], []⟩ none 0 none 0 none 0 none 0 (k0 + 2) (w2.alloc (.cells #[.string ⟨#[97]⟩, .bool false, .int .i64 (c : Int), .bool false, .int .i64 0, .slice none 0 0, .slice none 0 0, .slice none 0 0, .slice none 0 0] 27))) := ⟨HR2.out.below hba HR2.out.lt, MkS.made (MkL.none0 _ _ _ _ _ _ _ (by decide)) (by omega) (by omega), HZ2.out.below hba HZ2.out.lt, hT2.trans (Bt.of_below (hba.mono hT2.size)), Nat.le_refl _, hp⟩
  clear hba HR2 HZ2 hT2
  go_upto_region 2 with fail
  generalize w2.alloc (Obj.cells #[.string ⟨#[97]⟩, .bool false, .int .i64 (c : Int), .bool false, .int .i64 0, .slice none 0 0, .slice none 0 0, .slice none 0 0, .slice none 0 0] 27) = w3 at *
  generalize w2.heap.size = pm at *
  have k2 : w3.cell? ⟨pm, 2, none⟩ = some (.int .i64 (c : Int)) := HI3.out.S.blk.cell rfl
  go_wp2_with fail
  clear k2
  refine (runs11_any p (k0 + 2) (c : Int) _ HI3.out.R (by omega) (by omega) (by omega)).mono ?_
  rintro e w4 ⟨xs, b6, q6, K4, rfl, hxl, ho, hxs, hK4, hr, hb⟩
  have HO4 := Hid.intro ho
  have HXS := Hid.intro hxs
  have HI4 := Hid.intro (HI3.out.bt hb hr)
  have hpm3 : pm < w3.heap.size := HI3.out.pl
  have k6 : w4.cell? ⟨pm, 6, none⟩ = some (.slice none 0 0) := HI4.out.S.blk.cell rfl
  have f6 : w4.frozen? ⟨pm, 6, none⟩ = false := HI4.out.S.blk.frozen _
  have HN6 : Hid (blkO b6 ≠ some pm) := fun e => by have := own_block HO4.out pm (by rw [own_blkO]; exact e); omega
  have HI5 : Hid (Inv p w.heap.size pm w ⟨⟨#[97]⟩, false, (c : Int), false, 0, [], xs, [], []⟩ none 0 b6 q6 none 0 none 0 K4 (w4.setCell ⟨pm, 6, none⟩ (.slice b6 xs.length q6))) := HI4.out.runs (HO4.out.mono (by omega)) (Apt.nr _) (Apt.nr _) (Apt.nr _) HXS.out HN6.out
  clear ho hxs hr hb HO4 HI3 HN6
  go_upto_region 3 with fail
  clear k6 f6 HI4
  generalize w4.setCell ⟨pm, 6, none⟩ (.slice b6 xs.length q6) = w5 at *
  clear hpm3
  have k1 : w5.cell? ⟨pm, 1, none⟩ = some (.bool false) := HI5.out.S.blk.cell rfl
  go_upto_region 4 with fail
  clear k1
  refine wp_region_held_drew (S := fun wy => Blk pm #[.string ⟨#[97]⟩, .bool false, .int .i64 (c : Int), .bool false, .int .i64 0, .slice none 0 0, .slice b6 xs.length q6, .slice none 0 0, .slice none 0 0] 27 wy) (by kernel_rfl) HI5.out.drew.S.blk (fun hS => ?_)
  replace HI5 := Hid.intro HI5.out.drew
  generalize w5.drew = wd at *
  refine tk 0 ⟨some 24, _, _, _, _, none⟩ (.agg #[.string ⟨#[97]⟩, .bool false, .int .i64 (c : Int), .bool false, .int .i64 0, .slice none 0 0, .slice b6 xs.length q6, .slice none 0 0, .slice none 0 0]) rfl (yieldsIf_load_mid (by rfl) _ _ rfl pm (0) rfl [.string ⟨#[97]⟩, .bool false, .int .i64 (c : Int), .bool false, .int .i64 0, .slice none 0 0, .slice b6 xs.length q6, .slice none 0 0, .slice none 0 0] _ (fun _ h => h.rangeA) Try.underlying27 rfl isz_Mte) hS ?_
  simp only [pA, pB, pC, pD]
  refine ty 1 ⟨some 25, _, _, _, _, none⟩ (.pointer (some ⟨p, 0, none⟩)) rfl (by rfl) ?_ hS ?_
  ·intro wy hy
   clear hy
   go_simp
  simp only [pA, pB, pC, pD]
  refine rd1 2 ⟨some 26, _, _, _, _, none⟩ rfl (fun KK hKK => ?_)
  go_simp
  refine (pick_rd p K4 3 _ HI5.out.R (by omega) (by omega) (by omega)).mono ?_
  rintro e w6 ⟨v2, rfl, hv2, hr, hb, -⟩
  have HI6 := Hid.intro (HI5.out.bt hb hr)
  clear hr hb HI5
  refine hKK.out _ _ HI6.out.S.blk (fun hS => ?_)
  clear hKK KK
  refine ty 3 ⟨some 27, _, _, _, _, none⟩ (.bool ((v2 : Int) == 0)) rfl (by rfl) ?_ hS ?_
  ·intro wy hy
   clear hy
   go_simp
  simp only [pA, pB, pC, pD]
  refine rd1 4 ⟨some 28, _, _, _, _, none⟩ rfl (fun KK hKK => ?_)
  go_simp
  refine (specFall_own ⟨⟨#[97]⟩, false, (c : Int), false, 0, [], xs, [], []⟩ none 0 b6 q6 none 0 none 0 ((v2 : Int) == 0) _ _ HI6.out.S.L ⟨Nat.zero_le _, Nat.le_trans hxl (by omega), Nat.zero_le _, Nat.zero_le _⟩).mono ?_
  rintro e w7 ⟨y, d5, g5, d6, g6, d7, g7, d8, g8, hy, rfl, hl, hb⟩
  have HL7 := Hid.intro hl
  have HY := Hid.intro hy
  have HI7 := Hid.intro (HI6.out.below hb)
  have h67 : w.heap.size < w6.heap.size := HI6.out.Z.lt
  clear hl hy hb HI6
  refine hKK.out _ _ HI7.out.S.blk (fun hS => ?_)
  clear hKK KK
  refine rd1 5 ⟨none, _, _, _, _, none⟩ rfl (fun KK hKK => ?_)
  rw [if_pos (by rfl)]
  refine wp_store_mid 27 (.tmp 2) (.tmp 28) (by rfl) w.heap.size 0 #[.string y.name, .bool y.up, .int .i64 y.clock, .bool y.known, .int .i64 y.seen, .slice d5 y.wants.length g5, .slice d6 y.runs.length g6, .slice d7 y.asks.length g7, .slice d8 y.gives.length g8] (by rfl) (by rfl) HI7.out.Z.there isz_Mte (by simp [Value.oneCell']) ?_
  have HRf : Hid ((w7.setCells w.heap.size 0 [.string y.name, .bool y.up, .int .i64 y.clock, .bool y.known, .int .i64 y.seen, .slice d5 y.wants.length g5, .slice d6 y.runs.length g6, .slice d7 y.asks.length g7, .slice d8 y.gives.length g8]).rangeAt w.heap.size 0 [.string y.name, .bool y.up, .int .i64 y.clock, .bool y.known, .int .i64 y.seen, .slice d5 y.wants.length g5, .slice d6 y.runs.length g6, .slice d7 y.asks.length g7, .slice d8 y.gives.length g8]) := World.rangeAt_setCells_same w7 w.heap.size 0 _ HI7.out.Z.there
  have hbs : Below w.heap.size w7 (w7.setCells w.heap.size 0 [.string y.name, .bool y.up, .int .i64 y.clock, .bool y.known, .int .i64 y.seen, .slice d5 y.wants.length g5, .slice d6 y.runs.length g6, .slice d7 y.asks.length g7, .slice d8 y.gives.length g8]) := below_setCells (Nat.le_refl _) _ _ _ (Below.refl _ _)
  have HR8 : Hid (RdS p (K4 + 1) (w7.setCells w.heap.size 0 [.string y.name, .bool y.up, .int .i64 y.clock, .bool y.known, .int .i64 y.seen, .slice d5 y.wants.length g5, .slice d6 y.runs.length g6, .slice d7 y.asks.length g7, .slice d8 y.gives.length g8])) := HI7.out.R.below hbs hp
  have hT8 : Bt p w.heap.size w (w7.setCells w.heap.size 0 [.string y.name, .bool y.up, .int .i64 y.clock, .bool y.known, .int .i64 y.seen, .slice d5 y.wants.length g5, .slice d6 y.runs.length g6, .slice d7 y.asks.length g7, .slice d8 y.gives.length g8]) := HI7.out.T.trans (Bt.of_below hbs)
  have HL8 : Hid (MkL w.heap.size y d5 g5 d6 g6 d7 g7 d8 g8 (w7.setCells w.heap.size 0 [.string y.name, .bool y.up, .int .i64 y.clock, .bool y.known, .int .i64 y.seen, .slice d5 y.wants.length g5, .slice d6 y.runs.length g6, .slice d7 y.asks.length g7, .slice d8 y.gives.length g8])) := (HL7.out.same (fun b hb _ => heap_setCells_neM (by omega) _ _ _)).lower (by omega)
  refine hKK.out _ _ (blk_setCells_other (by omega) _ _ _ HI7.out.S.blk) (fun hS => ?_)
  clear hKK KK hbs hS HI7 HL7
  generalize w7.setCells w.heap.size 0 [.string y.name, .bool y.up, .int .i64 y.clock, .bool y.known, .int .i64 y.seen, .slice d5 y.wants.length g5, .slice d6 y.runs.length g6, .slice d7 y.asks.length g7, .slice d8 y.gives.length g8] = wf at *
  refine wpAnyH_done (by kernel_rfl) ?_ _
  go_wp2_with fail
  exact bodyPost_ret (results_cell_mid rfl _ _ w.heap.size [.string y.name, .bool y.up, .int .i64 y.clock, .bool y.known, .int .i64 y.seen, .slice d5 y.wants.length g5, .slice d6 y.runs.length g6, .slice d7 y.asks.length g7, .slice d8 y.gives.length g8] _ rfl HRf.out Try.underlying27 rfl isz_Mte) rfl ⟨y, d5, g5, d6, g6, d7, g7, d8, g8, K4 + 1, rfl, HL8.out, by rw [HY.out]; exact fall_few ⟨Nat.zero_le _, hxl, Nat.zero_le _, Nat.zero_le _⟩, by rw [HY.out]; exact fall_clk (show (0 : Int) ≤ (c : Int) by omega) (show (c : Int) ≤ 60 by omega), by omega, HR8.out, hT8⟩
 have hu0 : decide (0 < v1) = true := by simp; omega
 have hba : Below w2.heap.size w2 (w2.alloc (.cells #[.string ⟨#[97]⟩, .bool true, .int .i64 (c : Int), .bool false, .int .i64 0, .slice none 0 0, .slice none 0 0, .slice none 0 0, .slice none 0 0] 27)) := (Below.refl _ _).alloc (Nat.le_refl _) _
 have hzp : w.heap.size < w2.heap.size := HZ2.out.lt
 have HI3 : Hid (Inv p w.heap.size w2.heap.size w ⟨⟨#[97]⟩, true, (c : Int), false, 0, [], [], [], []⟩ none 0 none 0 none 0 none 0 (k0 + 2) (w2.alloc (.cells #[.string ⟨#[97]⟩, .bool true, .int .i64 (c : Int), .bool false, .int .i64 0, .slice none 0 0, .slice none 0 0, .slice none 0 0, .slice none 0 0] 27))) := ⟨HR2.out.below hba HR2.out.lt, MkS.made (MkL.none0 _ _ _ _ _ _ _ (by decide)) (by omega) (by omega), HZ2.out.below hba HZ2.out.lt, hT2.trans (Bt.of_below (hba.mono hT2.size)), Nat.le_refl _, hp⟩
 clear hba HR2 HZ2 hT2
 go_upto_region 2 with fail
 generalize w2.alloc (Obj.cells #[.string ⟨#[97]⟩, .bool true, .int .i64 (c : Int), .bool false, .int .i64 0, .slice none 0 0, .slice none 0 0, .slice none 0 0, .slice none 0 0] 27) = w3 at *
 generalize w2.heap.size = pm at *
 have k2 : w3.cell? ⟨pm, 2, none⟩ = some (.int .i64 (c : Int)) := HI3.out.S.blk.cell rfl
 go_wp2_with fail
 clear k2
 refine (runs11_any p (k0 + 2) (c : Int) _ HI3.out.R (by omega) (by omega) (by omega)).mono ?_
 rintro e w4 ⟨xs, b6, q6, K4, rfl, hxl, ho, hxs, hK4, hr, hb⟩
 have HO4 := Hid.intro ho
 have HXS := Hid.intro hxs
 have HI4 := Hid.intro (HI3.out.bt hb hr)
 have hpm3 : pm < w3.heap.size := HI3.out.pl
 have k6 : w4.cell? ⟨pm, 6, none⟩ = some (.slice none 0 0) := HI4.out.S.blk.cell rfl
 have f6 : w4.frozen? ⟨pm, 6, none⟩ = false := HI4.out.S.blk.frozen _
 have HN6 : Hid (blkO b6 ≠ some pm) := fun e => by have := own_block HO4.out pm (by rw [own_blkO]; exact e); omega
 have HI5 : Hid (Inv p w.heap.size pm w ⟨⟨#[97]⟩, true, (c : Int), false, 0, [], xs, [], []⟩ none 0 b6 q6 none 0 none 0 K4 (w4.setCell ⟨pm, 6, none⟩ (.slice b6 xs.length q6))) := HI4.out.runs (HO4.out.mono (by omega)) (Apt.nr _) (Apt.nr _) (Apt.nr _) HXS.out HN6.out
 clear ho hxs hr hb HO4 HI3 HN6
 go_upto_region 3 with fail
 clear k6 f6 HI4
 generalize w4.setCell ⟨pm, 6, none⟩ (.slice b6 xs.length q6) = w5 at *
 clear hpm3
 clear hu0
 have k1 : w5.cell? ⟨pm, 1, none⟩ = some (.bool true) := HI5.out.S.blk.cell rfl
 go_wp2_with fail
 clear k1
 refine (pick_rd p (K4) 6 _ HI5.out.R (by omega) (by omega) (by omega)).mono ?_
 rintro e w6 ⟨v2, rfl, hv2, hr, hb, -⟩
 have HI6 := Hid.intro (HI5.out.bt hb hr)
 clear hr hb HI5
 go_upto_if 31 with fail
 go_cut [] (fun wz => ∃ (x : Mte) (b5 : Option Addr) (q5 : Nat) (b6 : Option Addr) (q6 : Nat) (b7 : Option Addr) (q7 : Nat) (b8 : Option Addr) (q8 : Nat) (K : Nat), Hid (Inv p w.heap.size pm w x b5 q5 b6 q6 b7 q7 b8 q8 K wz) ∧ Few x 4 ∧ x.asks.length ≤ 0 ∧ x.gives.length ≤ 0 ∧ (0 ≤ x.clock ∧ x.clock ≤ 60) ∧ K ≤ k0 + 120)
 case first =>
  as_aux_lemma =>
  by_cases hv20 : v2 = 0
  case pos =>
   subst hv20
   go_wp2_with fail
   go_meet
   exact ⟨⟨⟨#[97]⟩, true, (c : Int), false, 0, [], xs, [], []⟩, none, 0, b6, q6, none, 0, none, 0, K4 + 1, HI6, ⟨Nat.zero_le _, hxl, Nat.zero_le _, Nat.zero_le _⟩, Nat.le_refl _, Nat.le_refl _, ⟨show (0 : Int) ≤ (c : Int) by omega, show (c : Int) ≤ 60 by omega⟩, by omega⟩
  have hv21 : decide (0 < v2) = true := by simp; omega
  have k3 : w6.cell? ⟨pm, 3, none⟩ = some (.bool false) := HI6.out.S.blk.cell rfl
  have f3 : w6.frozen? ⟨pm, 3, none⟩ = false := HI6.out.S.blk.frozen _
  have HI7 : Hid (Inv p w.heap.size pm w ⟨⟨#[97]⟩, true, (c : Int), true, 0, [], xs, [], []⟩ none 0 b6 q6 none 0 none 0 (K4 + 1) (w6.setCell ⟨pm, 3, none⟩ (.bool true))) := HI6.out.put 3 [.bool true] (HI6.out.S.blk.set 3 _) rfl rfl rfl rfl (show ByteArray.size ⟨#[97]⟩ ≤ 100 by decide)
  go_upto_region 7 with fail
  clear k3 f3 hv21 HI6
  generalize w6.setCell ⟨pm, 3, none⟩ (.bool true) = w7 at *
  go_wp2_with fail
  refine (pick_rd p (K4 + 1) 4 _ HI7.out.R (by omega) (by omega) (by omega)).mono ?_
  rintro e w8 ⟨v3, rfl, hv3, hr, hb, -⟩
  have HI8 := Hid.intro (HI7.out.bt hb hr)
  clear hr hb HI7
  have k4 : w8.cell? ⟨pm, 4, none⟩ = some (.int .i64 0) := HI8.out.S.blk.cell rfl
  have f4 : w8.frozen? ⟨pm, 4, none⟩ = false := HI8.out.S.blk.frozen _
  have HI9 : Hid (Inv p w.heap.size pm w ⟨⟨#[97]⟩, true, (c : Int), true, (v3 : Int), [], xs, [], []⟩ none 0 b6 q6 none 0 none 0 (K4 + 1 + 1) (w8.setCell ⟨pm, 4, none⟩ (.int .i64 (v3 : Int)))) := HI8.out.put 4 [.int .i64 (v3 : Int)] (HI8.out.S.blk.set 4 _) rfl rfl rfl rfl (show ByteArray.size ⟨#[97]⟩ ≤ 100 by decide)
  go_upto_region 8 with fail
  clear k4 f4 HI8
  generalize w8.setCell ⟨pm, 4, none⟩ (.int .i64 (v3 : Int)) = w9 at *
  go_wp2_with fail
  refine (wants10_any p (K4 + 1 + 1) _ HI9.out.R (by omega)).mono ?_
  rintro e w10 ⟨ws, g, q5, K10, rfl, hwl, ho, hws, hK10, hr, hb⟩
  have HA6 := Hid.intro (apt_new HI9.out.S.L.r6 ho (Nat.le_refl _))
  have HO := Hid.intro ho
  have HWS := Hid.intro hws
  have HI10 := Hid.intro (HI9.out.bt hb hr)
  have hpl9 : pm < w9.heap.size := HI9.out.pl
  have hzl9 : w.heap.size < w9.heap.size := HI9.out.Z.lt
  have k5 : w10.cell? ⟨pm, 5, none⟩ = some (.slice none 0 0) := HI10.out.S.blk.cell rfl
  have f5 : w10.frozen? ⟨pm, 5, none⟩ = false := HI10.out.S.blk.frozen _
  have HN5 : Hid (blkO (some ⟨g, 0, none⟩) ≠ some pm) := fun e => by have := own_block HO.out pm (by rw [own_blkO]; exact e); omega
  have HI11 : Hid (Inv p w.heap.size pm w ⟨⟨#[97]⟩, true, (c : Int), true, (v3 : Int), ws, xs, [], []⟩ (some ⟨g, 0, none⟩) q5 b6 q6 none 0 none 0 K10 (w10.setCell ⟨pm, 5, none⟩ (.slice (some ⟨g, 0, none⟩) ws.length q5))) := HI10.out.wants (HO.out.mono (by omega)) HA6.out (Apt.nr _) (Apt.nr _) HWS.out HN5.out
  go_upto_region 9 with fail
  clear k5 f5 HI10 HI9 ho hws hr hb hpl9 hzl9 HN5 HO HA6
  generalize w10.setCell ⟨pm, 5, none⟩ (.slice (some ⟨g, 0, none⟩) ws.length q5) = w11 at *
  obtain ⟨x0, hx0⟩ : ∃ x0 : Mte, x0 = ⟨⟨#[97]⟩, true, (c : Int), true, (v3 : Int), ws, xs, [], []⟩ := ⟨_, rfl⟩
  have hf0 : Few x0 4 := by rw [hx0]; exact ⟨hwl, hxl, Nat.zero_le _, Nat.zero_le _⟩
  have ha0 : x0.asks.length ≤ 0 := by rw [hx0]; exact Nat.le_refl _
  have hg0 : x0.gives.length ≤ 0 := by rw [hx0]; exact Nat.le_refl _
  have hc0 : 0 ≤ x0.clock ∧ x0.clock ≤ 60 := by rw [hx0]; exact ⟨show (0 : Int) ≤ (c : Int) by omega, show (c : Int) ≤ 60 by omega⟩
  rw [← hx0] at HI11
  clear hx0 HXS HWS
  generalize hg5 : (some ⟨g, 0, none⟩ : Option Addr) = b5 at *
  clear hg5
  go_wp2_with fail
  go_loopw [4] (fun i wr => ∃ (j : Nat) (x : Mte) (K : Nat), j ≤ x.runs.length ∧ i = .int .i64 j ∧ Few x 4 ∧ x.asks.length ≤ 0 ∧ x.gives.length ≤ 0 ∧ (0 ≤ x.clock ∧ x.clock ≤ 60) ∧ K ≤ K10 + j ∧ Hid (Inv p w.heap.size pm w x b5 q5 b6 q6 none 0 none 0 K wr)) (fun i _ => 4 - (intOf i).toNat)
  case atStart => exact ⟨0, x0, K10, Nat.zero_le _, rfl, hf0, ha0, hg0, hc0, Nat.le_refl _, HI11⟩
  case round =>
   as_aux_lemma =>
   clear hf0 ha0 hg0 hc0 HI11
   obtain ⟨j, x, K, hj, rfl, hfw, hxa, hxg, hck, hK, HI⟩ := hrel
   have hf5 := hfw.l5
   have hf6 := hfw.l6
   have k6 : wr.cell? ⟨pm, 6, none⟩ = some (.slice b6 x.runs.length q6) := HI.out.S.blk.cell rfl
   by_cases hlt : j < x.runs.length
   case neg =>
    go_wp2_with fail
    go_meet
    exact ⟨x, b5, q5, b6, q6, none, 0, none, 0, K, HI, hfw, hxa, hxg, hck, by omega⟩
   obtain ⟨rn, hrn⟩ : ∃ z, x.runs[j]? = some z := ⟨x.runs[j], List.getElem?_eq_getElem hlt⟩
   have HRN := Hid.intro hrn
   have HZR := Hid.intro (HI.out.S.L.z6 rn (List.mem_of_getElem? hrn))
   obtain ⟨g6, e6, hg1, hg2, hg3, hra, hth, hfz⟩ := HI.out.S.at6 hrn
   subst e6
   have HRA := Hid.intro hra
   have HTH := Hid.intro hth
   have HFZ := Hid.intro hfz
   clear hrn hra hth hfz
   have k60 : wr.cell? ⟨g6, j * 11, none⟩ = some (.string rn.want.copy) := HRA.out 0 _ rfl
   go_upto_region 12 with fail
   go_cut [5, 6] (fun pw th wz => ∃ (gw : Nat) (y : Wnt) (t : Bool), pw = .pointer (some ⟨gw, 0, none⟩) ∧ th = .bool t ∧ (y.copy.size ≤ 100 ∧ y.hold.size ≤ 100) ∧ Hid (Blk gw #[.string y.copy, .int .i64 y.version, .string y.hold, .int .i64 y.pull, .int .i64 y.start, .int .i64 y.dies, .int .i64 y.grace] 36 wz) ∧ wr.heap.size ≤ gw ∧ Hid (Below wr.heap.size wr wz))
   case first =>
    as_aux_lemma =>
    have HC5 : Hid (wr.cell? ⟨pm, 5, none⟩ = some (.slice b5 x.wants.length q5)) := HI.out.S.blk.cell rfl
    have HC6 := Hid.intro k6
    have HC0 := Hid.intro k60
    clear k6 k60
    have HSC : Hid (∀ wz, Below wr.heap.size wr wz → (fun wy => wy.cell? ⟨pm, 5, none⟩ = some (.slice b5 x.wants.length q5) ∧ wy.cell? ⟨pm, 6, none⟩ = some (.slice (some ⟨g6, 0, none⟩) x.runs.length q6) ∧ wy.cell? ⟨g6, j * 11, none⟩ = some (.string rn.want.copy)) wz) := fun wz hb => ⟨(World.cell?_of_block (hb.block pm HI.out.pl)).trans HC5.out, (World.cell?_of_block (hb.block pm HI.out.pl)).trans HC6.out, (World.cell?_of_block (hb.block g6 hg2)).trans HC0.out⟩
    refine wp_region_held_drew (S := fun wy => wy.cell? ⟨pm, 5, none⟩ = some (.slice b5 x.wants.length q5) ∧ wy.cell? ⟨pm, 6, none⟩ = some (.slice (some ⟨g6, 0, none⟩) x.runs.length q6) ∧ wy.cell? ⟨g6, j * 11, none⟩ = some (.string rn.want.copy)) (by kernel_rfl) (HSC.out _ (Below.refl _ _).drew) (fun hS => ?_)
    have HB : Hid (Below wr.heap.size wr wr.drew) := (Below.refl _ _).drew
    have hwd : wr.heap.size ≤ wr.drew.heap.size := Nat.le_refl _
    generalize wr.drew = wd at *
    refine ty 0 ⟨some 47, _, _, _, _, none⟩ (.pointer (some ⟨pm, 5, none⟩)) rfl (by rfl) ?_ hS ?_
    ·intro wy hy
     clear hy
     go_simp
    simp only [pA, pB, pC, pD]
    refine ty 1 ⟨some 48, _, _, _, _, none⟩ (.slice b5 x.wants.length q5) rfl (by rfl) ?_ hS ?_
    ·intro wy hy
     obtain ⟨c5, c6, c0⟩ := id hy
     clear hy
     go_simp
    simp only [pA, pB, pC, pD]
    refine ty 2 ⟨some 49, _, _, _, _, none⟩ (.pointer (some ⟨pm, 6, none⟩)) rfl (by rfl) ?_ hS ?_
    ·intro wy hy
     clear hy
     go_simp
    simp only [pA, pB, pC, pD]
    refine ty 3 ⟨some 50, _, _, _, _, none⟩ (.slice (some ⟨g6, 0, none⟩) x.runs.length q6) rfl (by rfl) ?_ hS ?_
    ·intro wy hy
     obtain ⟨c5, c6, c0⟩ := id hy
     clear hy
     go_simp
    simp only [pA, pB, pC, pD]
    refine ty 4 ⟨some 51, _, _, _, _, none⟩ (.int .i64 (j : Int)) rfl (by rfl) ?_ hS ?_
    ·intro wy hy
     clear hy
     go_simp
    simp only [pA, pB, pC, pD]
    refine ty 5 ⟨some 52, _, _, _, _, none⟩ (.pointer (some ⟨g6, j * 11, none⟩)) rfl (by rfl) ?_ hS ?_
    ·intro wy hy
     clear hy
     first | (go_simp; done) | (go_simp; omega) | (go_simp; intro hh; omega)
    simp only [pA, pB, pC, pD]
    refine ty 6 ⟨some 53, _, _, _, _, none⟩ (.pointer (some ⟨g6, j * 11, none⟩)) rfl (by rfl) ?_ hS ?_
    ·intro wy hy
     clear hy
     go_simp
    simp only [pA, pB, pC, pD]
    refine ty 7 ⟨some 54, _, _, _, _, none⟩ (.pointer (some ⟨g6, j * 11, none⟩)) rfl (by rfl) ?_ hS ?_
    ·intro wy hy
     clear hy
     go_simp
    simp only [pA, pB, pC, pD]
    refine ty 8 ⟨some 55, _, _, _, _, none⟩ (.string rn.want.copy) rfl (by rfl) ?_ hS ?_
    ·intro wy hy
     obtain ⟨c5, c6, c0⟩ := id hy
     clear hy
     go_simp
    simp only [pA, pB, pC, pD]
    refine wpAnyH_ready (rs := [9, 13]) (by kernel_rfl) (by simp) (AllReadyH.cons (o := ⟨some 56, _, _, _, _, none⟩) rfl (fun KK hKK => ?_) (AllReadyH.cons (o := ⟨some 5, _, _, _, _, none⟩) rfl (fun KK hKK => ?_) AllReadyH.nil))
    ·skip
     as_aux_lemma =>
     go_simp
     have HLL := Hid.intro ((HI.out.below HB.out).S.L.sv hfw (by omega)).s5
     refine (want13_any rn.want.copy x.wants b5 q5 _ 100 _ HLL.out (by omega) HI.out.S.L.z5).mono ?_
     rintro e wn ⟨y, t, rfl, hyz, hb⟩
     have HYZ := Hid.intro hyz
     replace HB := Hid.intro (HB.out.trans (hb.mono HB.out.size))
     refine hKK.out _ _ (HSC.out _ HB.out) (fun hS => ?_)
     clear hKK KK hb hyz HLL
     skip
     refine ty 10 ⟨some 46, _, _, _, _, none⟩ (.tuple #[.agg #[.string y.copy, .int .i64 y.version, .string y.hold, .int .i64 y.pull, .int .i64 y.start, .int .i64 y.dies, .int .i64 y.grace], .bool t]) rfl (by rfl) ?_ hS ?_
     ·intro wy hy
      clear hy
      go_simp
     simp only [pA, pB, pC, pD]
     refine ty 11 ⟨some 57, _, _, _, _, none⟩ (.agg #[.string y.copy, .int .i64 y.version, .string y.hold, .int .i64 y.pull, .int .i64 y.start, .int .i64 y.dies, .int .i64 y.grace]) rfl (by rfl) ?_ hS ?_
     ·intro wy hy
      clear hy
      go_simp
     simp only [pA, pB, pC, pD]
     refine ty 12 ⟨some 58, _, _, _, _, none⟩ (.bool t) rfl (by rfl) ?_ hS ?_
     ·intro wy hy
      clear hy
      go_simp
     simp only [pA, pB, pC, pD]
     refine rd1 13 ⟨some 5, _, _, _, _, none⟩ rfl (fun KK hKK => ?_)
     go_simp
     have HG : Hid (Blk wn.heap.size #[.string ⟨#[]⟩, .int .i64 0, .string ⟨#[]⟩, .int .i64 0, .int .i64 0, .int .i64 0, .int .i64 0] 36 (wn.alloc (.cells #[.string ⟨#[]⟩, .int .i64 0, .string ⟨#[]⟩, .int .i64 0, .int .i64 0, .int .i64 0, .int .i64 0] 36))) := Blk.alloc _ _ _
     have hgw : wr.heap.size ≤ wn.heap.size := HB.out.size
     replace HB : Hid (Below wr.heap.size wr (wn.alloc (.cells #[.string ⟨#[]⟩, .int .i64 0, .string ⟨#[]⟩, .int .i64 0, .int .i64 0, .int .i64 0, .int .i64 0] 36))) := HB.out.alloc HB.out.size _
     refine hKK.out _ _ (HSC.out _ HB.out) (fun hS => ?_)
     clear hKK KK
     generalize wn.alloc (Obj.cells #[.string ⟨#[]⟩, .int .i64 0, .string ⟨#[]⟩, .int .i64 0, .int .i64 0, .int .i64 0, .int .i64 0] 36) = wa at *
     generalize wn.heap.size = gw at *
     refine rd1 14 ⟨none, _, _, _, _, none⟩ rfl (fun KK hKK => ?_)
     rw [if_pos (by rfl)]
     refine wp_store_mid 36 (.tmp 5) (.tmp 57) (by rfl) gw 0 #[.string y.copy, .int .i64 y.version, .string y.hold, .int .i64 y.pull, .int .i64 y.start, .int .i64 y.dies, .int .i64 y.grace] (by rfl) (by rfl) HG.out.there isz_Wnt (by simp [Value.oneCell']) ?_
     replace HG : Hid (Blk gw #[.string y.copy, .int .i64 y.version, .string y.hold, .int .i64 y.pull, .int .i64 y.start, .int .i64 y.dies, .int .i64 y.grace] 36 (wa.setCells gw 0 [.string y.copy, .int .i64 y.version, .string y.hold, .int .i64 y.pull, .int .i64 y.start, .int .i64 y.dies, .int .i64 y.grace])) := HG.out.setAll #[.string y.copy, .int .i64 y.version, .string y.hold, .int .i64 y.pull, .int .i64 y.start, .int .i64 y.dies, .int .i64 y.grace] rfl
     replace HB : Hid (Below wr.heap.size wr (wa.setCells gw 0 [.string y.copy, .int .i64 y.version, .string y.hold, .int .i64 y.pull, .int .i64 y.start, .int .i64 y.dies, .int .i64 y.grace])) := below_setCells hgw _ _ _ HB.out
     refine hKK.out _ _ (HSC.out _ HB.out) (fun hS => ?_)
     clear hKK KK
     generalize wa.setCells gw 0 [.string y.copy, .int .i64 y.version, .string y.hold, .int .i64 y.pull, .int .i64 y.start, .int .i64 y.dies, .int .i64 y.grace] = ws1 at *
     refine ty 15 ⟨some 6, _, _, _, _, none⟩ (.bool t) rfl (by rfl) ?_ hS ?_
     ·intro wy hy
      clear hy
      go_simp
     simp only [Act.put, List.setIfInBounds_toArray, List.set_cons_zero, List.set_cons_succ]
     refine wpAnyH_done (by kernel_rfl) ?_ _
     go_wp2_with fail
     go_meet
     exact ⟨gw, y, t, rfl, rfl, HYZ.out, HG, hgw, HB⟩
    ·skip
     as_aux_lemma =>
     go_simp
     have HG : Hid (Blk wd.heap.size #[.string ⟨#[]⟩, .int .i64 0, .string ⟨#[]⟩, .int .i64 0, .int .i64 0, .int .i64 0, .int .i64 0] 36 (wd.alloc (.cells #[.string ⟨#[]⟩, .int .i64 0, .string ⟨#[]⟩, .int .i64 0, .int .i64 0, .int .i64 0, .int .i64 0] 36))) := Blk.alloc _ _ _
     have hgw : wr.heap.size ≤ wd.heap.size := HB.out.size
     replace HB : Hid (Below wr.heap.size wr (wd.alloc (.cells #[.string ⟨#[]⟩, .int .i64 0, .string ⟨#[]⟩, .int .i64 0, .int .i64 0, .int .i64 0, .int .i64 0] 36))) := HB.out.alloc HB.out.size _
     refine hKK.out _ _ (HSC.out _ HB.out) (fun hS => ?_)
     clear hKK KK
     generalize wd.alloc (Obj.cells #[.string ⟨#[]⟩, .int .i64 0, .string ⟨#[]⟩, .int .i64 0, .int .i64 0, .int .i64 0, .int .i64 0] 36) = wa at *
     generalize wd.heap.size = gw at *
     refine rd1 9 ⟨some 56, _, _, _, _, none⟩ rfl (fun KK hKK => ?_)
     go_simp
     have HLL := Hid.intro ((HI.out.below HB.out).S.L.sv hfw (by omega)).s5
     refine (want13_any rn.want.copy x.wants b5 q5 _ 100 _ HLL.out (by omega) HI.out.S.L.z5).mono ?_
     rintro e wn ⟨y, t, rfl, hyz, hb⟩
     have HYZ := Hid.intro hyz
     replace HG := Hid.intro (HG.out.below hb HG.out.lt)
     replace HB := Hid.intro (HB.out.trans (hb.mono HB.out.size))
     refine hKK.out _ _ (HSC.out _ HB.out) (fun hS => ?_)
     clear hKK KK hb hyz HLL
     skip
     refine ty 10 ⟨some 46, _, _, _, _, none⟩ (.tuple #[.agg #[.string y.copy, .int .i64 y.version, .string y.hold, .int .i64 y.pull, .int .i64 y.start, .int .i64 y.dies, .int .i64 y.grace], .bool t]) rfl (by rfl) ?_ hS ?_
     ·intro wy hy
      clear hy
      go_simp
     simp only [pA, pB, pC, pD]
     refine ty 11 ⟨some 57, _, _, _, _, none⟩ (.agg #[.string y.copy, .int .i64 y.version, .string y.hold, .int .i64 y.pull, .int .i64 y.start, .int .i64 y.dies, .int .i64 y.grace]) rfl (by rfl) ?_ hS ?_
     ·intro wy hy
      clear hy
      go_simp
     simp only [pA, pB, pC, pD]
     refine ty 12 ⟨some 58, _, _, _, _, none⟩ (.bool t) rfl (by rfl) ?_ hS ?_
     ·intro wy hy
      clear hy
      go_simp
     simp only [pA, pB, pC, pD]
     refine rd1 14 ⟨none, _, _, _, _, none⟩ rfl (fun KK hKK => ?_)
     rw [if_pos (by rfl)]
     refine wp_store_mid 36 (.tmp 5) (.tmp 57) (by rfl) gw 0 #[.string y.copy, .int .i64 y.version, .string y.hold, .int .i64 y.pull, .int .i64 y.start, .int .i64 y.dies, .int .i64 y.grace] (by rfl) (by rfl) HG.out.there isz_Wnt (by simp [Value.oneCell']) ?_
     replace HG : Hid (Blk gw #[.string y.copy, .int .i64 y.version, .string y.hold, .int .i64 y.pull, .int .i64 y.start, .int .i64 y.dies, .int .i64 y.grace] 36 (wn.setCells gw 0 [.string y.copy, .int .i64 y.version, .string y.hold, .int .i64 y.pull, .int .i64 y.start, .int .i64 y.dies, .int .i64 y.grace])) := HG.out.setAll #[.string y.copy, .int .i64 y.version, .string y.hold, .int .i64 y.pull, .int .i64 y.start, .int .i64 y.dies, .int .i64 y.grace] rfl
     replace HB : Hid (Below wr.heap.size wr (wn.setCells gw 0 [.string y.copy, .int .i64 y.version, .string y.hold, .int .i64 y.pull, .int .i64 y.start, .int .i64 y.dies, .int .i64 y.grace])) := below_setCells hgw _ _ _ HB.out
     refine hKK.out _ _ (HSC.out _ HB.out) (fun hS => ?_)
     clear hKK KK
     generalize wn.setCells gw 0 [.string y.copy, .int .i64 y.version, .string y.hold, .int .i64 y.pull, .int .i64 y.start, .int .i64 y.dies, .int .i64 y.grace] = ws1 at *
     refine ty 15 ⟨some 6, _, _, _, _, none⟩ (.bool t) rfl (by rfl) ?_ hS ?_
     ·intro wy hy
      clear hy
      go_simp
     simp only [Act.put, List.setIfInBounds_toArray, List.set_cons_zero, List.set_cons_succ]
     refine wpAnyH_done (by kernel_rfl) ?_ _
     go_wp2_with fail
     go_meet
     exact ⟨gw, y, t, rfl, rfl, HYZ.out, HG, hgw, HB⟩
   case rest =>
    as_aux_lemma =>
    obtain ⟨gw, y, t, rfl, rfl, hyz, HG, hgw, HB⟩ := hcut
    have HI1 := Hid.intro (HI.out.below HB.out)
    have HOT := Hid.intro (HI.out.new hgw)
    have HRA1 : Hid (wc.rangeAt g6 (j * 11) (rcRn rn)) := fun i v h => (World.cell?_of_block (HB.out.block g6 hg2)).trans (HRA.out i v h)
    clear HB k6 k60 HI HRA HTH HFZ
    generalize wc = w1 at *
    cases t with
    | false =>
     go_wp2_with fail
     go_roundw
     case rel => first | exact ⟨j + 1, x, K, by omega, by go_num, hfw, hxa, hxg, hck, by omega, HI1⟩ | ((repeat apply Exists.intro); exact ⟨⟨j + 1, x, K, by omega, by go_num, hfw, hxa, hxg, hck, by omega, HI1⟩, rfl⟩)
     case measure => simp [intOf]; omega
    | true =>
     as_aux_lemma =>
     go_wp2_with fail
     refine (pick_rd p K 4 _ HI1.out.R (by omega) (by omega) (by omega)).mono ?_
     rintro e w2 ⟨v, rfl, hv, hr, hb, -⟩
     have HI2 := Hid.intro (HI1.out.bt hb hr)
     have HG2 := Hid.intro (HG.out.bt hb HG.out.lt (by have := HOT.out.nw; omega))
     clear hr hb HI1 HG HRA1
     by_cases hv0 : v = 0
     case pos =>
      subst hv0
      go_wp2_with fail
      go_roundw
      case rel => first | exact ⟨j + 1, x, K + 1, by omega, by go_num, hfw, hxa, hxg, hck, by omega, HI2⟩ | ((repeat apply Exists.intro); exact ⟨⟨j + 1, x, K + 1, by omega, by go_num, hfw, hxa, hxg, hck, by omega, HI2⟩, rfl⟩)
      case measure => simp [intOf]; omega
     have hv1 : decide (0 < v) = true := by simp; omega
     obtain ⟨g7, e7, hg4, hg5, hg7, hra, hth, hfz⟩ := HI2.out.S.at6 HRN.out
     cases e7
     have HTH : Hid (w2.there g6 (j * 11) 7) := fun i hi => hth i (by omega)
     clear hra hth hfz
     have k6 : w2.cell? ⟨pm, 6, none⟩ = some (.slice (some ⟨g6, 0, none⟩) x.runs.length q6) := HI2.out.S.blk.cell rfl
     obtain ⟨w3, HE3⟩ : ∃ w3, Hid (w3 = w2.setCells g6 (j * 11) [.string y.copy, .int .i64 y.version, .string y.hold, .int .i64 y.pull, .int .i64 y.start, .int .i64 y.dies, .int .i64 y.grace]) := ⟨_, rfl⟩
     obtain ⟨x1, hi3, hrn1, hlk1⟩ := HI2.out.run { rn with want := y } 0 [.string y.copy, .int .i64 y.version, .string y.hold, .int .i64 y.pull, .int .i64 y.start, .int .i64 y.dies, .int .i64 y.grace] HRN.out (by simp) rfl hyz
     rw [show j * 11 + 0 = j * 11 from rfl, ← HE3.out] at hi3
     have HI3 := Hid.intro hi3
     have HRN1 := Hid.intro hrn1
     have HLK1 := Hid.intro hlk1
     have HG3 : Hid (Blk gw #[.string y.copy, .int .i64 y.version, .string y.hold, .int .i64 y.pull, .int .i64 y.start, .int .i64 y.dies, .int .i64 y.grace] 36 w3) := by
      show Blk _ _ _ _
      rw [HE3.out]
      exact blk_setCells_other (fun e => HOT.out.n6 (by rw [e]; rfl)) _ _ _ HG2.out
     clear hi3 hrn1 hlk1
     go_upto_region 15 with (first | (refine wpList_load_mid rfl 36 _ rfl gw 0 rfl [.string y.copy, .int .i64 y.version, .string y.hold, .int .i64 y.pull, .int .i64 y.start, .int .i64 y.dies, .int .i64 y.grace] _ HG2.out.rangeA Try.underlying36 rfl isz_Wnt ?_) | (refine wpList_store_to rfl 36 _ _ rfl g6 (j * 11) #[.string y.copy, .int .i64 y.version, .string y.hold, .int .i64 y.pull, .int .i64 y.start, .int .i64 y.dies, .int .i64 y.grace] rfl rfl HTH.out isz_Wnt (by simp [Value.oneCell']) w3 HE3.out ?_))
     clear k6 HTH HE3 HI2 HG2 hv1
     have c2 : w3.cell? ⟨gw, 2, none⟩ = some (.string y.hold) := HG3.out.cell rfl
     go_upto_if 73 with fail
     clear c2
     go_cut [] (fun wz => ∃ (x2 : Mte) (r2 : Rn), Hid (Inv p w.heap.size pm w x2 b5 q5 (some ⟨g6, 0, none⟩) q6 none 0 none 0 (K + 1) wz) ∧ Hid (x2.runs[j]? = some r2) ∧ Hid (Lk x x2))
     case first =>
      as_aux_lemma =>
      cases hq : y.hold.toList.isEmpty with
      | false =>
       go_wp2_with fail
       go_meet
       exact ⟨x1, _, HI3, HRN1, HLK1⟩
      | true =>
       as_aux_lemma =>
       obtain ⟨g8, e8, hg9, hg10, hg11, hra, hth, hfz⟩ := HI3.out.S.at6 HRN1.out
       cases e8
       have k6 : w3.cell? ⟨pm, 6, none⟩ = some (.slice (some ⟨g6, 0, none⟩) x1.runs.length q6) := HI3.out.S.blk.cell rfl
       have ka : w3.cell? ⟨g6, j * 11 + 10, none⟩ = some (.int .i64 rn.until_) := hra 10 _ rfl
       have fa : w3.frozen? ⟨g6, j * 11 + 10, none⟩ = false := hfz _
       have hl1 : j < x1.runs.length := by have := HLK1.out.l6; omega
       have hl4 : x1.runs.length ≤ 4 := by have := HLK1.out.l6; omega
       clear hra hth hfz
       obtain ⟨x2, hi4, hrn2, hlk2⟩ := HI3.out.run { rn with want := y, until_ := 0 } 10 [.int .i64 0] HRN1.out (by simp) rfl hyz
       have HI4 := Hid.intro hi4
       have HRN2 := Hid.intro hrn2
       have HLK2 := Hid.intro (HLK1.out.trans hlk2)
       clear hi4 hrn2 hlk2
       go_wp2_with fail
       go_meet
       exact ⟨x2, _, HI4, HRN2, HLK2⟩
     case rest =>
      as_aux_lemma =>
      obtain ⟨x2, r2, HI4, HRN2, HLK2⟩ := hcut
      clear HG3 HI3 HRN1 HLK1
      generalize wc = w4 at *
      have HZ2 := Hid.intro (HI4.out.S.L.z6 r2 (List.mem_of_getElem? HRN2.out))
      obtain ⟨g8, e8, hg9, hg10, hg11, hra, hth, hfz⟩ := HI4.out.S.at6 HRN2.out
      cases e8
      have HRA := Hid.intro hra
      have HFZ := Hid.intro hfz
      clear hra hth hfz
      have hl1 : j < x2.runs.length := by have := HLK2.out.l6; omega
      have hl4 : x2.runs.length ≤ 4 := by have := HLK2.out.l6; omega
      have HC6 : Hid (w4.cell? ⟨pm, 6, none⟩ = some (.slice (some ⟨g6, 0, none⟩) x2.runs.length q6)) := HI4.out.S.blk.cell rfl
      have HC2 : Hid (w4.cell? ⟨pm, 2, none⟩ = some (.int .i64 x2.clock)) := HI4.out.S.blk.cell rfl
      go_upto_region 17 with fail
      have HSC : Hid (∀ wz, Below w4.heap.size w4 wz → (fun wy => wy.cell? ⟨pm, 6, none⟩ = some (.slice (some ⟨g6, 0, none⟩) x2.runs.length q6) ∧ wy.cell? ⟨pm, 2, none⟩ = some (.int .i64 x2.clock) ∧ wy.rangeAt g6 (j * 11) [.string r2.want.copy, .int .i64 r2.want.version, .string r2.want.hold, .int .i64 r2.want.pull, .int .i64 r2.want.start, .int .i64 r2.want.dies, .int .i64 r2.want.grace, .int .i64 r2.state, .int .i64 r2.left, .int .i64 r2.falls, .int .i64 r2.until_]) wz) := fun wz hb => ⟨(World.cell?_of_block (hb.block pm HI4.out.pl)).trans HC6.out, (World.cell?_of_block (hb.block pm HI4.out.pl)).trans HC2.out, fun i v h => (World.cell?_of_block (hb.block g6 hg10)).trans (HRA.out i v h)⟩
      refine wp_region_held_drew (S := fun wy => wy.cell? ⟨pm, 6, none⟩ = some (.slice (some ⟨g6, 0, none⟩) x2.runs.length q6) ∧ wy.cell? ⟨pm, 2, none⟩ = some (.int .i64 x2.clock) ∧ wy.rangeAt g6 (j * 11) [.string r2.want.copy, .int .i64 r2.want.version, .string r2.want.hold, .int .i64 r2.want.pull, .int .i64 r2.want.start, .int .i64 r2.want.dies, .int .i64 r2.want.grace, .int .i64 r2.state, .int .i64 r2.left, .int .i64 r2.falls, .int .i64 r2.until_]) (by kernel_rfl) (HSC.out _ (Below.refl _ _).drew) (fun hS => ?_)
      have HB : Hid (Below w4.heap.size w4 w4.drew) := (Below.refl _ _).drew
      generalize w4.drew = wd at *
      refine ty 0 ⟨some 79, _, _, _, _, none⟩ (.pointer (some ⟨pm, 6, none⟩)) rfl (by rfl) ?_ hS ?_
      ·intro wy hy
       clear hy
       go_simp
      simp only [pA, pB, pC, pD]
      refine ty 1 ⟨some 80, _, _, _, _, none⟩ (.slice (some ⟨g6, 0, none⟩) x2.runs.length q6) rfl (by rfl) ?_ hS ?_
      ·intro wy hy
       obtain ⟨c6, c2, c0⟩ := id hy
       clear hy
       go_simp
      simp only [pA, pB, pC, pD]
      refine ty 2 ⟨some 81, _, _, _, _, none⟩ (.int .i64 (j : Int)) rfl (by rfl) ?_ hS ?_
      ·intro wy hy
       clear hy
       go_simp
      simp only [pA, pB, pC, pD]
      refine ty 3 ⟨some 82, _, _, _, _, none⟩ (.pointer (some ⟨g6, j * 11, none⟩)) rfl (by rfl) ?_ hS ?_
      ·intro wy hy
       clear hy
       first | (go_simp; done) | (go_simp; omega) | (go_simp; intro hh; omega)
      simp only [pA, pB, pC, pD]
      refine tk 4 ⟨some 83, _, _, _, _, none⟩ (.agg #[.string r2.want.copy, .int .i64 r2.want.version, .string r2.want.hold, .int .i64 r2.want.pull, .int .i64 r2.want.start, .int .i64 r2.want.dies, .int .i64 r2.want.grace, .int .i64 r2.state, .int .i64 r2.left, .int .i64 r2.falls, .int .i64 r2.until_]) rfl (yieldsIf_load_mid (by rfl) _ _ rfl g6 (j * 11) rfl [.string r2.want.copy, .int .i64 r2.want.version, .string r2.want.hold, .int .i64 r2.want.pull, .int .i64 r2.want.start, .int .i64 r2.want.dies, .int .i64 r2.want.grace, .int .i64 r2.state, .int .i64 r2.left, .int .i64 r2.falls, .int .i64 r2.until_] _ (fun _ h => h.2.2) Try.underlying38 rfl isz_Rn) hS ?_
      simp only [pA, pB, pC, pD]
      refine ty 5 ⟨some 84, _, _, _, _, none⟩ (.pointer (some ⟨pm, 2, none⟩)) rfl (by rfl) ?_ hS ?_
      ·intro wy hy
       clear hy
       go_simp
      simp only [pA, pB, pC, pD]
      refine ty 6 ⟨some 85, _, _, _, _, none⟩ (.int .i64 x2.clock) rfl (by rfl) ?_ hS ?_
      ·intro wy hy
       obtain ⟨c6, c2, c0⟩ := id hy
       clear hy
       go_simp
      simp only [pA, pB, pC, pD]
      refine rd1 7 ⟨some 86, _, _, _, _, none⟩ rfl (fun KK hKK => ?_)
      go_simp
      refine (runOk11_any r2 x2.clock _ (by have := HZ2.out.1; unfold maxLen; omega) (by have := HZ2.out.2; unfold maxLen; omega)).mono ?_
      rintro e wn ⟨rfl, hb⟩
      replace HB := Hid.intro (HB.out.trans (hb.mono HB.out.size))
      refine hKK.out _ _ (HSC.out _ HB.out) (fun hS => ?_)
      clear hKK KK hb
      obtain ⟨rb, hrb⟩ : ∃ rb, rb = roB r2 x2.clock := ⟨_, rfl⟩
      rw [← hrb]
      clear hrb
      refine ty 8 ⟨some 87, _, _, _, _, none⟩ (.bool (!rb)) rfl (by rfl) ?_ hS ?_
      ·intro wy hy
       clear hy
       go_simp
      simp only [pA, pB, pC, pD]
      refine wpAnyH_done (by kernel_rfl) ?_ _
      clear hS HSC HC6 HC2
      have HI5 := Hid.intro (HI4.out.below HB.out)
      have HRA5 : Hid (wn.rangeAt g6 (j * 11) (rcRn r2)) := fun i v h => (World.cell?_of_block (HB.out.block g6 hg10)).trans (HRA.out i v h)
      clear HB HI4 HRA HFZ
      cases rb with
      | true =>
       go_wp2_with fail
       go_roundw
       case rel => first | exact ⟨j + 1, x2, K + 1, by have := HLK2.out.l6; omega, by go_num, HLK2.out.few hfw, by rw [HLK2.out.l7]; exact hxa, by rw [HLK2.out.l8]; exact hxg, by rw [HLK2.out.ck]; exact hck, by omega, HI5⟩ | ((repeat apply Exists.intro); exact ⟨⟨j + 1, x2, K + 1, by have := HLK2.out.l6; omega, by go_num, HLK2.out.few hfw, by rw [HLK2.out.l7]; exact hxa, by rw [HLK2.out.l8]; exact hxg, by rw [HLK2.out.ck]; exact hck, by omega, HI5⟩, rfl⟩)
       case measure => simp [intOf]; omega
      | false =>
       as_aux_lemma =>
       obtain ⟨g9, e9, hg12, hg13, hg14, hra, hth, hfz⟩ := HI5.out.S.at6 HRN2.out
       cases e9
       have k6 : wn.cell? ⟨pm, 6, none⟩ = some (.slice (some ⟨g6, 0, none⟩) x2.runs.length q6) := HI5.out.S.blk.cell rfl
       have ka : wn.cell? ⟨g6, j * 11 + 7, none⟩ = some (.int .i64 r2.state) := hra 7 _ rfl
       have fa : wn.frozen? ⟨g6, j * 11 + 7, none⟩ = false := hfz _
       clear hra hth hfz
       obtain ⟨x3, hi6, hrn3, hlk3⟩ := HI5.out.run { r2 with state := 2 } 7 [.int .i64 2] HRN2.out (by simp) rfl HZ2.out
       have HI6 := Hid.intro hi6
       have HRN3 := Hid.intro hrn3
       have HLK3 := Hid.intro (HLK2.out.trans hlk3)
       have hl5 : x3.runs.length = x2.runs.length := hlk3.l6
       clear hi6 hrn3 hlk3
       go_upto_region 19 with fail
       clear k6 ka fa HI5 HRN2 HRA5 HLK2
       replace HI6 : Hid (Inv p w.heap.size pm w x3 b5 q5 (some ⟨g6, 0, none⟩) q6 none 0 none 0 (K + 1) (wn.setCell ⟨g6, j * 11 + 7, none⟩ (.int .i64 2))) := HI6.out
       generalize wn.setCell ⟨g6, j * 11 + 7, none⟩ (.int .i64 2) = w6 at *
       obtain ⟨g9, e9, hg15, hg16, hg17, hra, hth, hfz⟩ := HI6.out.S.at6 HRN3.out
       cases e9
       have k6 : w6.cell? ⟨pm, 6, none⟩ = some (.slice (some ⟨g6, 0, none⟩) x3.runs.length q6) := HI6.out.S.blk.cell rfl
       have ka : w6.cell? ⟨g6, j * 11 + 8, none⟩ = some (.int .i64 r2.left) := hra 8 _ rfl
       have fa : w6.frozen? ⟨g6, j * 11 + 8, none⟩ = false := hfz _
       clear hra hth hfz
       obtain ⟨x4, hi7, hrn4, hlk4⟩ := HI6.out.run { r2 with state := 2, left := 0 } 8 [.int .i64 0] HRN3.out (by simp) rfl HZ2.out
       have HI7 := Hid.intro hi7
       have HLK4 := Hid.intro (HLK3.out.trans hlk4)
       clear hi7 hrn4 hlk4
       go_wp2_with fail
       go_roundw
       case rel => first | exact ⟨j + 1, x4, K + 1, by have := HLK4.out.l6; omega, by go_num, HLK4.out.few hfw, by rw [HLK4.out.l7]; exact hxa, by rw [HLK4.out.l8]; exact hxg, by rw [HLK4.out.ck]; exact hck, by omega, HI7⟩ | ((repeat apply Exists.intro); exact ⟨⟨j + 1, x4, K + 1, by have := HLK4.out.l6; omega, by go_num, HLK4.out.few hfw, by rw [HLK4.out.l7]; exact hxa, by rw [HLK4.out.l8]; exact hxg, by rw [HLK4.out.ck]; exact hck, by omega, HI7⟩, rfl⟩)
       case measure => simp [intOf]; omega
 case rest =>
  as_aux_lemma =>
  obtain ⟨x0, b5, q5, b6, q6, b7, q7, b8, q8, K0, HI0, hf0, ha0, hg0, hc0, hK00⟩ := hcut
  clear HI6 HXS
  generalize wc = wz0 at *
  go_wp2_with fail
  go_loopw [7] (fun i wr => ∃ (j : Nat) (x : Mte) (b5 : Option Addr) (q5 : Nat) (b6 : Option Addr) (q6 : Nat) (b7 : Option Addr) (q7 : Nat) (b8 : Option Addr) (q8 : Nat) (K : Nat), j ≤ 3 ∧ i = .int .i64 j ∧ Few x 4 ∧ x.asks.length ≤ j ∧ x.gives.length ≤ j ∧ (0 ≤ x.clock ∧ x.clock ≤ 60) ∧ K ≤ K0 + j * 10 ∧ Hid (Inv p w.heap.size pm w x b5 q5 b6 q6 b7 q7 b8 q8 K wr)) (fun i _ => 3 - (intOf i).toNat)
  case atStart => exact ⟨0, x0, b5, q5, b6, q6, b7, q7, b8, q8, K0, by omega, rfl, hf0, ha0, hg0, hc0, by omega, HI0⟩
  case round =>
   as_aux_lemma =>
   clear hf0 ha0 hg0 hc0 HI0
   obtain ⟨j, x, b5, q5, b6, q6, b7, q7, b8, q8, K, hj, rfl, hfw, hxa, hxg, hck, hK, HI⟩ := hrel
   have hf6 := hfw.l6
   by_cases hlt : j < 3
   case neg =>
    generalize wr = w20 at *
    have HI20 := HI
    clear HI
    obtain ⟨fl, fr, ft, fc⟩ := HI20.out.fin
    have FL := Hid.intro fl
    have FR := Hid.intro fr
    have FT := Hid.intro ft
    have FC := Hid.intro fc
    clear fl fr ft fc
    obtain ⟨wf, HE⟩ : ∃ wf, Hid (wf = w20.setCells w.heap.size 0 [.string x.name, .bool x.up, .int .i64 x.clock, .bool x.known, .int .i64 x.seen, .slice b5 x.wants.length q5, .slice b6 x.runs.length q6, .slice b7 x.asks.length q7, .slice b8 x.gives.length q8]) := ⟨_, rfl⟩
    rw [← HE.out] at FL FR FT FC
    have HTS := Hid.intro HI20.out.Z.there
    go_wp2_with (first | (refine wpList_load_mid rfl 27 _ rfl pm 0 rfl [.string x.name, .bool x.up, .int .i64 x.clock, .bool x.known, .int .i64 x.seen, .slice b5 x.wants.length q5, .slice b6 x.runs.length q6, .slice b7 x.asks.length q7, .slice b8 x.gives.length q8] _ HI20.out.S.blk.rangeA Try.underlying27 rfl isz_Mte ?_) | (refine wpList_store_to rfl 27 _ _ rfl w.heap.size 0 #[.string x.name, .bool x.up, .int .i64 x.clock, .bool x.known, .int .i64 x.seen, .slice b5 x.wants.length q5, .slice b6 x.runs.length q6, .slice b7 x.asks.length q7, .slice b8 x.gives.length q8] rfl rfl HTS.out isz_Mte (by simp [Value.oneCell']) wf HE.out ?_))
    exact bodyPost_ret (results_cell_mid rfl _ _ w.heap.size [.string x.name, .bool x.up, .int .i64 x.clock, .bool x.known, .int .i64 x.seen, .slice b5 x.wants.length q5, .slice b6 x.runs.length q6, .slice b7 x.asks.length q7, .slice b8 x.gives.length q8] _ rfl FC.out Try.underlying27 rfl isz_Mte) rfl ⟨x, b5, q5, b6, q6, b7, q7, b8, q8, K, rfl, FL.out, hfw, hck, by omega, FR.out, FT.out⟩
   go_upto_region 23 with fail
   go_cut [8] (fun v wz => ∃ (ga : Nat) (y : Aks), v = .pointer (some ⟨ga, 0, none⟩) ∧ (y.hold.size ≤ 100 ∧ y.copy.size ≤ 100) ∧ (-20 ≤ y.at_ ∧ y.at_ ≤ 60) ∧ Hid (Blk ga #[.string y.hold, .string y.copy, .int .i64 y.first, .int .i64 y.at_] 57 wz) ∧ Hid (Oth p w.heap.size pm w b5 b6 b7 b8 ga) ∧ Hid (Inv p w.heap.size pm w x b5 q5 b6 q6 b7 q7 b8 q8 (K + 1 + 1) wz))
   case first =>
    as_aux_lemma =>
    obtain ⟨hs0, hhx, hhs⟩ := strAt3 ⟨#[105, 112]⟩ ⟨#[118, 111, 108]⟩ ⟨#[118, 111, 108, 50]⟩ j (by omega) (by decide) (by decide) (by decide)
    have HHX := Hid.intro hhx
    clear hhx
    refine wp_region_held_drew (S := fun wy => wy.cell? ⟨pm, 2, none⟩ = some (.int .i64 x.clock)) (by kernel_rfl) (HI.out.drew.S.blk.cell rfl) (fun hS => ?_)
    replace HI := Hid.intro HI.out.drew
    generalize wr.drew = wn at *
    refine ty 1 ⟨some 103, _, _, _, _, none⟩ (.int .i64 (j : Int)) rfl (by rfl) ?_ hS ?_
    ·intro wy hy
     clear hy
     go_simp
    simp only [pA, pB, pC, pD]
    refine ty 4 ⟨some 106, _, _, _, _, none⟩ (.pointer (some ⟨p, 0, none⟩)) rfl (by rfl) ?_ hS ?_
    ·intro wy hy
     clear hy
     go_simp
    simp only [pA, pB, pC, pD]
    refine ty 8 ⟨some 110, _, _, _, _, none⟩ (.pointer (some ⟨pm, 2, none⟩)) rfl (by rfl) ?_ hS ?_
    ·intro wy hy
     clear hy
     go_simp
    simp only [pA, pB, pC, pD]
    refine ty 9 ⟨some 111, _, _, _, _, none⟩ (.int .i64 x.clock) rfl (by rfl) ?_ hS ?_
    ·intro wy hy
     have h0 := id hy
     clear hy
     go_simp
    simp only [pA, pB, pC, pD]
    refine ty 10 ⟨some 112, _, _, _, _, none⟩ (.pointer (some ⟨p, 0, none⟩)) rfl (by rfl) ?_ hS ?_
    ·intro wy hy
     clear hy
     go_simp
    simp only [pA, pB, pC, pD]
    refine wpAnyH_ready (rs := [0, 5, 14]) (by kernel_rfl) (by simp) (AllReadyH.cons (o := ⟨some 102, _, _, _, _, none⟩) rfl (fun KK hKK => ?_) (AllReadyH.cons (o := ⟨some 107, _, _, _, _, none⟩) rfl (fun KK hKK => ?_) (AllReadyH.cons (o := ⟨some 8, _, _, _, _, none⟩) rfl (fun KK hKK => ?_) AllReadyH.nil)))
    ·skip
     as_aux_lemma =>
     go_simp
     have hba : Below wn.heap.size wn (wn.alloc (.cells #[.string ⟨#[105, 112]⟩, .string ⟨#[118, 111, 108]⟩, .string ⟨#[118, 111, 108, 50]⟩] 9)) := (Below.refl _ _).alloc (Nat.le_refl _) _
     have HA : Hid (Blk wn.heap.size #[.string ⟨#[105, 112]⟩, .string ⟨#[118, 111, 108]⟩, .string ⟨#[118, 111, 108, 50]⟩] 9 (wn.alloc (.cells #[.string ⟨#[105, 112]⟩, .string ⟨#[118, 111, 108]⟩, .string ⟨#[118, 111, 108, 50]⟩] 9))) := Blk.alloc _ _ _
     have hpA : wn.heap.size ≠ p := by have := HI.out.R.lt; omega
     replace HI := Hid.intro (HI.out.below hba)
     skip
     refine hKK.out _ _ (HI.out.S.blk.cell rfl) (fun hS => ?_)
     clear hKK KK hba hS
     generalize wn.heap.size = gA at *
     generalize wn.alloc (Obj.cells #[.string ⟨#[105, 112]⟩, .string ⟨#[118, 111, 108]⟩, .string ⟨#[118, 111, 108, 50]⟩] 9) = wn at *
     refine wpAnyH_mono (S' := fun wy => wy.cell? ⟨pm, 2, none⟩ = some (.int .i64 x.clock) ∧ Blk gA #[.string ⟨#[105, 112]⟩, .string ⟨#[118, 111, 108]⟩, .string ⟨#[118, 111, 108, 50]⟩] 9 wy) (fun _ h => h.1) _ _ _ _ ?_
     have hS : (fun wy => wy.cell? ⟨pm, 2, none⟩ = some (.int .i64 x.clock) ∧ Blk gA #[.string ⟨#[105, 112]⟩, .string ⟨#[118, 111, 108]⟩, .string ⟨#[118, 111, 108, 50]⟩] 9 wy) wn := ⟨HI.out.S.blk.cell rfl, HA.out⟩
     refine ty 2 ⟨some 104, _, _, _, _, none⟩ (.pointer (some ⟨gA, j, none⟩)) rfl (by rfl) ?_ hS ?_
     ·intro wy hy
      clear hy
      first | (go_simp; done) | (go_simp; omega) | (go_simp; intro hh; omega)
     simp only [pA, pB, pC, pD]
     refine ty 3 ⟨some 105, _, _, _, _, none⟩ (.string hs0) rfl (by rfl) ?_ hS ?_
     ·intro wy hy
      have h := id hy
      have h0 := h.2.cell (o := j) (v := .string hs0) HHX.out
      clear hy
      go_simp
     simp only [pA, pB, pC, pD]
     refine wpAnyH_ready (rs := [5, 14]) (by kernel_rfl) (by simp) (AllReadyH.cons (o := ⟨some 107, _, _, _, _, none⟩) rfl (fun KK hKK => ?_) (AllReadyH.cons (o := ⟨some 8, _, _, _, _, none⟩) rfl (fun KK hKK => ?_) AllReadyH.nil))
     ·skip
      as_aux_lemma =>
      go_simp
      refine (pick_rd p (K) 4 _ HI.out.R (by omega) (by omega) (by omega)).mono ?_
      rintro e wn ⟨v4, rfl, hv4, hr, hb, -⟩
      replace HA := Hid.intro (HA.out.bt hb HA.out.lt hpA)
      replace HI := Hid.intro (HI.out.bt hb hr)
      refine hKK.out _ _ ⟨HI.out.S.blk.cell rfl, HA.out⟩ (fun hS => ?_)
      clear hKK KK hb hr
      refine wpAnyH_ready (rs := [6, 14]) (by kernel_rfl) (by simp) (AllReadyH.cons (o := ⟨some 108, _, _, _, _, none⟩) rfl (fun KK hKK => ?_) (AllReadyH.cons (o := ⟨some 8, _, _, _, _, none⟩) rfl (fun KK hKK => ?_) AllReadyH.nil))
      ·skip
       as_aux_lemma =>
       go_simp
       refine (dec_any v4 _ (by omega)).mono ?_
       rintro e wn ⟨s, rfl, hs, hb⟩
       replace HA := Hid.intro (HA.out.below hb HA.out.lt)
       replace HI := Hid.intro (HI.out.below hb)
       refine hKK.out _ _ ⟨HI.out.S.blk.cell rfl, HA.out⟩ (fun hS => ?_)
       clear hKK KK hb
       refine ty 7 ⟨some 109, _, _, _, _, none⟩ (.string (({ data := #[99] } : ByteArray) ++ s)) rfl (by rfl) ?_ hS ?_
       ·intro wy hy
        clear hy
        go_simp
       simp only [pA, pB, pC, pD]
       refine wpAnyH_ready (rs := [11, 14]) (by kernel_rfl) (by simp) (AllReadyH.cons (o := ⟨some 113, _, _, _, _, none⟩) rfl (fun KK hKK => ?_) (AllReadyH.cons (o := ⟨some 8, _, _, _, _, none⟩) rfl (fun KK hKK => ?_) AllReadyH.nil))
       ·skip
        as_aux_lemma =>
        go_simp
        refine (pick_rd p (K + 1) 12 _ HI.out.R (by omega) (by omega) (by omega)).mono ?_
        rintro e wn ⟨v12, rfl, hv12, hr, hb, -⟩
        replace HA := Hid.intro (HA.out.bt hb HA.out.lt hpA)
        replace HI := Hid.intro (HI.out.bt hb hr)
        refine hKK.out _ _ ⟨HI.out.S.blk.cell rfl, HA.out⟩ (fun hS => ?_)
        clear hKK KK hb hr
        refine ty 12 ⟨some 114, _, _, _, _, none⟩ (.int .i64 (x.clock - (v12 : Int))) rfl (by rfl) ?_ hS ?_
        ·intro wy hy
         clear hy
         first | (go_simp; done) | (go_simp; rw [IntKind.wrap_i64]; omega) | (go_simp; omega)
        simp only [pA, pB, pC, pD]
        refine ty 13 ⟨some 115, _, _, _, _, none⟩ (.agg #[.string hs0, .string (({ data := #[99] } : ByteArray) ++ s), .int .i64 0, .int .i64 (x.clock - (v12 : Int))]) rfl (by rfl) ?_ hS ?_
        ·intro wy hy
         clear hy
         go_simp
        simp only [pA, pB, pC, pD]
        refine rd1 14 ⟨some 8, _, _, _, _, none⟩ rfl (fun KK hKK => ?_)
        go_simp
        have hba : Below wn.heap.size wn (wn.alloc (.cells #[.string ⟨#[]⟩, .string ⟨#[]⟩, .int .i64 0, .int .i64 0] 57)) := (Below.refl _ _).alloc (Nat.le_refl _) _
        have HG : Hid (Blk wn.heap.size #[.string ⟨#[]⟩, .string ⟨#[]⟩, .int .i64 0, .int .i64 0] 57 (wn.alloc (.cells #[.string ⟨#[]⟩, .string ⟨#[]⟩, .int .i64 0, .int .i64 0] 57))) := Blk.alloc _ _ _
        have HOT := Hid.intro (HI.out.new (Nat.le_refl _))
        replace HI := Hid.intro (HI.out.below hba)
        have hne : gA ≠ wn.heap.size := by have := HA.out.lt; omega
        replace HA := Hid.intro (HA.out.below hba HA.out.lt)
        refine hKK.out _ _ ⟨HI.out.S.blk.cell rfl, HA.out⟩ (fun hS => ?_)
        clear hKK KK hba
        generalize wn.heap.size = ga at *
        generalize wn.alloc (Obj.cells #[.string ⟨#[]⟩, .string ⟨#[]⟩, .int .i64 0, .int .i64 0] 57) = wn at *
        refine rd1 15 ⟨none, _, _, _, _, none⟩ rfl (fun KK hKK => ?_)
        rw [if_pos (by rfl)]
        refine wp_store_mid 57 (.tmp 8) (.tmp 115) (by rfl) ga 0 #[.string hs0, .string (({ data := #[99] } : ByteArray) ++ s), .int .i64 0, .int .i64 (x.clock - (v12 : Int))] (by rfl) (by rfl) HG.out.there isz_Aks (by simp [Value.oneCell']) ?_
        replace HG : Hid (Blk ga #[.string hs0, .string (({ data := #[99] } : ByteArray) ++ s), .int .i64 0, .int .i64 (x.clock - (v12 : Int))] 57 (wn.setCells ga 0 [.string hs0, .string (({ data := #[99] } : ByteArray) ++ s), .int .i64 0, .int .i64 (x.clock - (v12 : Int))])) := HG.out.setAll #[.string hs0, .string (({ data := #[99] } : ByteArray) ++ s), .int .i64 0, .int .i64 (x.clock - (v12 : Int))] rfl
        replace HA : Hid (Blk gA #[.string ⟨#[105, 112]⟩, .string ⟨#[118, 111, 108]⟩, .string ⟨#[118, 111, 108, 50]⟩] 9 (wn.setCells ga 0 [.string hs0, .string (({ data := #[99] } : ByteArray) ++ s), .int .i64 0, .int .i64 (x.clock - (v12 : Int))])) := blk_setCells_other hne _ _ _ HA.out
        replace HI := Hid.intro (HI.out.sets HOT.out 0 [.string hs0, .string (({ data := #[99] } : ByteArray) ++ s), .int .i64 0, .int .i64 (x.clock - (v12 : Int))])
        refine hKK.out _ _ ⟨HI.out.S.blk.cell rfl, HA.out⟩ (fun hS => ?_)
        clear hKK KK
        generalize wn.setCells ga 0 [.string hs0, .string (({ data := #[99] } : ByteArray) ++ s), .int .i64 0, .int .i64 (x.clock - (v12 : Int))] = wn at *
        refine wpAnyH_done (by kernel_rfl) ?_ _
        go_wp2_with fail
        go_meet
        exact ⟨ga, ⟨hs0, ({ data := #[99] } : ByteArray) ++ s, 0, x.clock - (v12 : Int)⟩, rfl, ⟨hhs, by show ByteArray.size _ ≤ 100; rw [ByteArray.size_append, hs]; decide⟩, ⟨by show -20 ≤ x.clock - (v12 : Int); omega, by show x.clock - (v12 : Int) ≤ 60; omega⟩, HG, HOT, HI⟩
       ·skip
        as_aux_lemma =>
        go_simp
        have hba : Below wn.heap.size wn (wn.alloc (.cells #[.string ⟨#[]⟩, .string ⟨#[]⟩, .int .i64 0, .int .i64 0] 57)) := (Below.refl _ _).alloc (Nat.le_refl _) _
        have HG : Hid (Blk wn.heap.size #[.string ⟨#[]⟩, .string ⟨#[]⟩, .int .i64 0, .int .i64 0] 57 (wn.alloc (.cells #[.string ⟨#[]⟩, .string ⟨#[]⟩, .int .i64 0, .int .i64 0] 57))) := Blk.alloc _ _ _
        have HOT := Hid.intro (HI.out.new (Nat.le_refl _))
        replace HI := Hid.intro (HI.out.below hba)
        have hne : gA ≠ wn.heap.size := by have := HA.out.lt; omega
        replace HA := Hid.intro (HA.out.below hba HA.out.lt)
        refine hKK.out _ _ ⟨HI.out.S.blk.cell rfl, HA.out⟩ (fun hS => ?_)
        clear hKK KK hba
        generalize wn.heap.size = ga at *
        generalize wn.alloc (Obj.cells #[.string ⟨#[]⟩, .string ⟨#[]⟩, .int .i64 0, .int .i64 0] 57) = wn at *
        refine rd1 11 ⟨some 113, _, _, _, _, none⟩ rfl (fun KK hKK => ?_)
        go_simp
        refine (pick_rd p (K + 1) 12 _ HI.out.R (by omega) (by omega) (by omega)).mono ?_
        rintro e wn ⟨v12, rfl, hv12, hr, hb, -⟩
        replace HA := Hid.intro (HA.out.bt hb HA.out.lt hpA)
        replace HG := Hid.intro (HG.out.bt hb HG.out.lt (by have := HI.out.hp; have := HOT.out.nw; omega))
        replace HI := Hid.intro (HI.out.bt hb hr)
        refine hKK.out _ _ ⟨HI.out.S.blk.cell rfl, HA.out⟩ (fun hS => ?_)
        clear hKK KK hb hr
        refine ty 12 ⟨some 114, _, _, _, _, none⟩ (.int .i64 (x.clock - (v12 : Int))) rfl (by rfl) ?_ hS ?_
        ·intro wy hy
         clear hy
         first | (go_simp; done) | (go_simp; rw [IntKind.wrap_i64]; omega) | (go_simp; omega)
        simp only [pA, pB, pC, pD]
        refine ty 13 ⟨some 115, _, _, _, _, none⟩ (.agg #[.string hs0, .string (({ data := #[99] } : ByteArray) ++ s), .int .i64 0, .int .i64 (x.clock - (v12 : Int))]) rfl (by rfl) ?_ hS ?_
        ·intro wy hy
         clear hy
         go_simp
        simp only [pA, pB, pC, pD]
        refine rd1 15 ⟨none, _, _, _, _, none⟩ rfl (fun KK hKK => ?_)
        rw [if_pos (by rfl)]
        refine wp_store_mid 57 (.tmp 8) (.tmp 115) (by rfl) ga 0 #[.string hs0, .string (({ data := #[99] } : ByteArray) ++ s), .int .i64 0, .int .i64 (x.clock - (v12 : Int))] (by rfl) (by rfl) HG.out.there isz_Aks (by simp [Value.oneCell']) ?_
        replace HG : Hid (Blk ga #[.string hs0, .string (({ data := #[99] } : ByteArray) ++ s), .int .i64 0, .int .i64 (x.clock - (v12 : Int))] 57 (wn.setCells ga 0 [.string hs0, .string (({ data := #[99] } : ByteArray) ++ s), .int .i64 0, .int .i64 (x.clock - (v12 : Int))])) := HG.out.setAll #[.string hs0, .string (({ data := #[99] } : ByteArray) ++ s), .int .i64 0, .int .i64 (x.clock - (v12 : Int))] rfl
        replace HA : Hid (Blk gA #[.string ⟨#[105, 112]⟩, .string ⟨#[118, 111, 108]⟩, .string ⟨#[118, 111, 108, 50]⟩] 9 (wn.setCells ga 0 [.string hs0, .string (({ data := #[99] } : ByteArray) ++ s), .int .i64 0, .int .i64 (x.clock - (v12 : Int))])) := blk_setCells_other hne _ _ _ HA.out
        replace HI := Hid.intro (HI.out.sets HOT.out 0 [.string hs0, .string (({ data := #[99] } : ByteArray) ++ s), .int .i64 0, .int .i64 (x.clock - (v12 : Int))])
        refine hKK.out _ _ ⟨HI.out.S.blk.cell rfl, HA.out⟩ (fun hS => ?_)
        clear hKK KK
        generalize wn.setCells ga 0 [.string hs0, .string (({ data := #[99] } : ByteArray) ++ s), .int .i64 0, .int .i64 (x.clock - (v12 : Int))] = wn at *
        refine wpAnyH_done (by kernel_rfl) ?_ _
        go_wp2_with fail
        go_meet
        exact ⟨ga, ⟨hs0, ({ data := #[99] } : ByteArray) ++ s, 0, x.clock - (v12 : Int)⟩, rfl, ⟨hhs, by show ByteArray.size _ ≤ 100; rw [ByteArray.size_append, hs]; decide⟩, ⟨by show -20 ≤ x.clock - (v12 : Int); omega, by show x.clock - (v12 : Int) ≤ 60; omega⟩, HG, HOT, HI⟩
      ·skip
       as_aux_lemma =>
       go_simp
       have hba : Below wn.heap.size wn (wn.alloc (.cells #[.string ⟨#[]⟩, .string ⟨#[]⟩, .int .i64 0, .int .i64 0] 57)) := (Below.refl _ _).alloc (Nat.le_refl _) _
       have HG : Hid (Blk wn.heap.size #[.string ⟨#[]⟩, .string ⟨#[]⟩, .int .i64 0, .int .i64 0] 57 (wn.alloc (.cells #[.string ⟨#[]⟩, .string ⟨#[]⟩, .int .i64 0, .int .i64 0] 57))) := Blk.alloc _ _ _
       have HOT := Hid.intro (HI.out.new (Nat.le_refl _))
       replace HI := Hid.intro (HI.out.below hba)
       have hne : gA ≠ wn.heap.size := by have := HA.out.lt; omega
       replace HA := Hid.intro (HA.out.below hba HA.out.lt)
       refine hKK.out _ _ ⟨HI.out.S.blk.cell rfl, HA.out⟩ (fun hS => ?_)
       clear hKK KK hba
       generalize wn.heap.size = ga at *
       generalize wn.alloc (Obj.cells #[.string ⟨#[]⟩, .string ⟨#[]⟩, .int .i64 0, .int .i64 0] 57) = wn at *
       refine rd1 6 ⟨some 108, _, _, _, _, none⟩ rfl (fun KK hKK => ?_)
       go_simp
       refine (dec_any v4 _ (by omega)).mono ?_
       rintro e wn ⟨s, rfl, hs, hb⟩
       replace HA := Hid.intro (HA.out.below hb HA.out.lt)
       replace HG := Hid.intro (HG.out.below hb HG.out.lt)
       replace HI := Hid.intro (HI.out.below hb)
       refine hKK.out _ _ ⟨HI.out.S.blk.cell rfl, HA.out⟩ (fun hS => ?_)
       clear hKK KK hb
       refine ty 7 ⟨some 109, _, _, _, _, none⟩ (.string (({ data := #[99] } : ByteArray) ++ s)) rfl (by rfl) ?_ hS ?_
       ·intro wy hy
        clear hy
        go_simp
       simp only [pA, pB, pC, pD]
       refine rd1 11 ⟨some 113, _, _, _, _, none⟩ rfl (fun KK hKK => ?_)
       go_simp
       refine (pick_rd p (K + 1) 12 _ HI.out.R (by omega) (by omega) (by omega)).mono ?_
       rintro e wn ⟨v12, rfl, hv12, hr, hb, -⟩
       replace HA := Hid.intro (HA.out.bt hb HA.out.lt hpA)
       replace HG := Hid.intro (HG.out.bt hb HG.out.lt (by have := HI.out.hp; have := HOT.out.nw; omega))
       replace HI := Hid.intro (HI.out.bt hb hr)
       refine hKK.out _ _ ⟨HI.out.S.blk.cell rfl, HA.out⟩ (fun hS => ?_)
       clear hKK KK hb hr
       refine ty 12 ⟨some 114, _, _, _, _, none⟩ (.int .i64 (x.clock - (v12 : Int))) rfl (by rfl) ?_ hS ?_
       ·intro wy hy
        clear hy
        first | (go_simp; done) | (go_simp; rw [IntKind.wrap_i64]; omega) | (go_simp; omega)
       simp only [pA, pB, pC, pD]
       refine ty 13 ⟨some 115, _, _, _, _, none⟩ (.agg #[.string hs0, .string (({ data := #[99] } : ByteArray) ++ s), .int .i64 0, .int .i64 (x.clock - (v12 : Int))]) rfl (by rfl) ?_ hS ?_
       ·intro wy hy
        clear hy
        go_simp
       simp only [pA, pB, pC, pD]
       refine rd1 15 ⟨none, _, _, _, _, none⟩ rfl (fun KK hKK => ?_)
       rw [if_pos (by rfl)]
       refine wp_store_mid 57 (.tmp 8) (.tmp 115) (by rfl) ga 0 #[.string hs0, .string (({ data := #[99] } : ByteArray) ++ s), .int .i64 0, .int .i64 (x.clock - (v12 : Int))] (by rfl) (by rfl) HG.out.there isz_Aks (by simp [Value.oneCell']) ?_
       replace HG : Hid (Blk ga #[.string hs0, .string (({ data := #[99] } : ByteArray) ++ s), .int .i64 0, .int .i64 (x.clock - (v12 : Int))] 57 (wn.setCells ga 0 [.string hs0, .string (({ data := #[99] } : ByteArray) ++ s), .int .i64 0, .int .i64 (x.clock - (v12 : Int))])) := HG.out.setAll #[.string hs0, .string (({ data := #[99] } : ByteArray) ++ s), .int .i64 0, .int .i64 (x.clock - (v12 : Int))] rfl
       replace HA : Hid (Blk gA #[.string ⟨#[105, 112]⟩, .string ⟨#[118, 111, 108]⟩, .string ⟨#[118, 111, 108, 50]⟩] 9 (wn.setCells ga 0 [.string hs0, .string (({ data := #[99] } : ByteArray) ++ s), .int .i64 0, .int .i64 (x.clock - (v12 : Int))])) := blk_setCells_other hne _ _ _ HA.out
       replace HI := Hid.intro (HI.out.sets HOT.out 0 [.string hs0, .string (({ data := #[99] } : ByteArray) ++ s), .int .i64 0, .int .i64 (x.clock - (v12 : Int))])
       refine hKK.out _ _ ⟨HI.out.S.blk.cell rfl, HA.out⟩ (fun hS => ?_)
       clear hKK KK
       generalize wn.setCells ga 0 [.string hs0, .string (({ data := #[99] } : ByteArray) ++ s), .int .i64 0, .int .i64 (x.clock - (v12 : Int))] = wn at *
       refine wpAnyH_done (by kernel_rfl) ?_ _
       go_wp2_with fail
       go_meet
       exact ⟨ga, ⟨hs0, ({ data := #[99] } : ByteArray) ++ s, 0, x.clock - (v12 : Int)⟩, rfl, ⟨hhs, by show ByteArray.size _ ≤ 100; rw [ByteArray.size_append, hs]; decide⟩, ⟨by show -20 ≤ x.clock - (v12 : Int); omega, by show x.clock - (v12 : Int) ≤ 60; omega⟩, HG, HOT, HI⟩
     ·skip
      as_aux_lemma =>
      go_simp
      have hba : Below wn.heap.size wn (wn.alloc (.cells #[.string ⟨#[]⟩, .string ⟨#[]⟩, .int .i64 0, .int .i64 0] 57)) := (Below.refl _ _).alloc (Nat.le_refl _) _
      have HG : Hid (Blk wn.heap.size #[.string ⟨#[]⟩, .string ⟨#[]⟩, .int .i64 0, .int .i64 0] 57 (wn.alloc (.cells #[.string ⟨#[]⟩, .string ⟨#[]⟩, .int .i64 0, .int .i64 0] 57))) := Blk.alloc _ _ _
      have HOT := Hid.intro (HI.out.new (Nat.le_refl _))
      replace HI := Hid.intro (HI.out.below hba)
      have hne : gA ≠ wn.heap.size := by have := HA.out.lt; omega
      replace HA := Hid.intro (HA.out.below hba HA.out.lt)
      refine hKK.out _ _ ⟨HI.out.S.blk.cell rfl, HA.out⟩ (fun hS => ?_)
      clear hKK KK hba
      generalize wn.heap.size = ga at *
      generalize wn.alloc (Obj.cells #[.string ⟨#[]⟩, .string ⟨#[]⟩, .int .i64 0, .int .i64 0] 57) = wn at *
      refine rd1 5 ⟨some 107, _, _, _, _, none⟩ rfl (fun KK hKK => ?_)
      go_simp
      refine (pick_rd p (K) 4 _ HI.out.R (by omega) (by omega) (by omega)).mono ?_
      rintro e wn ⟨v4, rfl, hv4, hr, hb, -⟩
      replace HA := Hid.intro (HA.out.bt hb HA.out.lt hpA)
      replace HG := Hid.intro (HG.out.bt hb HG.out.lt (by have := HI.out.hp; have := HOT.out.nw; omega))
      replace HI := Hid.intro (HI.out.bt hb hr)
      refine hKK.out _ _ ⟨HI.out.S.blk.cell rfl, HA.out⟩ (fun hS => ?_)
      clear hKK KK hb hr
      refine rd1 6 ⟨some 108, _, _, _, _, none⟩ rfl (fun KK hKK => ?_)
      go_simp
      refine (dec_any v4 _ (by omega)).mono ?_
      rintro e wn ⟨s, rfl, hs, hb⟩
      replace HA := Hid.intro (HA.out.below hb HA.out.lt)
      replace HG := Hid.intro (HG.out.below hb HG.out.lt)
      replace HI := Hid.intro (HI.out.below hb)
      refine hKK.out _ _ ⟨HI.out.S.blk.cell rfl, HA.out⟩ (fun hS => ?_)
      clear hKK KK hb
      refine ty 7 ⟨some 109, _, _, _, _, none⟩ (.string (({ data := #[99] } : ByteArray) ++ s)) rfl (by rfl) ?_ hS ?_
      ·intro wy hy
       clear hy
       go_simp
      simp only [pA, pB, pC, pD]
      refine rd1 11 ⟨some 113, _, _, _, _, none⟩ rfl (fun KK hKK => ?_)
      go_simp
      refine (pick_rd p (K + 1) 12 _ HI.out.R (by omega) (by omega) (by omega)).mono ?_
      rintro e wn ⟨v12, rfl, hv12, hr, hb, -⟩
      replace HA := Hid.intro (HA.out.bt hb HA.out.lt hpA)
      replace HG := Hid.intro (HG.out.bt hb HG.out.lt (by have := HI.out.hp; have := HOT.out.nw; omega))
      replace HI := Hid.intro (HI.out.bt hb hr)
      refine hKK.out _ _ ⟨HI.out.S.blk.cell rfl, HA.out⟩ (fun hS => ?_)
      clear hKK KK hb hr
      refine ty 12 ⟨some 114, _, _, _, _, none⟩ (.int .i64 (x.clock - (v12 : Int))) rfl (by rfl) ?_ hS ?_
      ·intro wy hy
       clear hy
       first | (go_simp; done) | (go_simp; rw [IntKind.wrap_i64]; omega) | (go_simp; omega)
      simp only [pA, pB, pC, pD]
      refine ty 13 ⟨some 115, _, _, _, _, none⟩ (.agg #[.string hs0, .string (({ data := #[99] } : ByteArray) ++ s), .int .i64 0, .int .i64 (x.clock - (v12 : Int))]) rfl (by rfl) ?_ hS ?_
      ·intro wy hy
       clear hy
       go_simp
      simp only [pA, pB, pC, pD]
      refine rd1 15 ⟨none, _, _, _, _, none⟩ rfl (fun KK hKK => ?_)
      rw [if_pos (by rfl)]
      refine wp_store_mid 57 (.tmp 8) (.tmp 115) (by rfl) ga 0 #[.string hs0, .string (({ data := #[99] } : ByteArray) ++ s), .int .i64 0, .int .i64 (x.clock - (v12 : Int))] (by rfl) (by rfl) HG.out.there isz_Aks (by simp [Value.oneCell']) ?_
      replace HG : Hid (Blk ga #[.string hs0, .string (({ data := #[99] } : ByteArray) ++ s), .int .i64 0, .int .i64 (x.clock - (v12 : Int))] 57 (wn.setCells ga 0 [.string hs0, .string (({ data := #[99] } : ByteArray) ++ s), .int .i64 0, .int .i64 (x.clock - (v12 : Int))])) := HG.out.setAll #[.string hs0, .string (({ data := #[99] } : ByteArray) ++ s), .int .i64 0, .int .i64 (x.clock - (v12 : Int))] rfl
      replace HA : Hid (Blk gA #[.string ⟨#[105, 112]⟩, .string ⟨#[118, 111, 108]⟩, .string ⟨#[118, 111, 108, 50]⟩] 9 (wn.setCells ga 0 [.string hs0, .string (({ data := #[99] } : ByteArray) ++ s), .int .i64 0, .int .i64 (x.clock - (v12 : Int))])) := blk_setCells_other hne _ _ _ HA.out
      replace HI := Hid.intro (HI.out.sets HOT.out 0 [.string hs0, .string (({ data := #[99] } : ByteArray) ++ s), .int .i64 0, .int .i64 (x.clock - (v12 : Int))])
      refine hKK.out _ _ ⟨HI.out.S.blk.cell rfl, HA.out⟩ (fun hS => ?_)
      clear hKK KK
      generalize wn.setCells ga 0 [.string hs0, .string (({ data := #[99] } : ByteArray) ++ s), .int .i64 0, .int .i64 (x.clock - (v12 : Int))] = wn at *
      refine wpAnyH_done (by kernel_rfl) ?_ _
      go_wp2_with fail
      go_meet
      exact ⟨ga, ⟨hs0, ({ data := #[99] } : ByteArray) ++ s, 0, x.clock - (v12 : Int)⟩, rfl, ⟨hhs, by show ByteArray.size _ ≤ 100; rw [ByteArray.size_append, hs]; decide⟩, ⟨by show -20 ≤ x.clock - (v12 : Int); omega, by show x.clock - (v12 : Int) ≤ 60; omega⟩, HG, HOT, HI⟩
    ·skip
     as_aux_lemma =>
     go_simp
     refine (pick_rd p (K) 4 _ HI.out.R (by omega) (by omega) (by omega)).mono ?_
     rintro e wn ⟨v4, rfl, hv4, hr, hb, -⟩
     replace HI := Hid.intro (HI.out.bt hb hr)
     refine hKK.out _ _ (HI.out.S.blk.cell rfl) (fun hS => ?_)
     clear hKK KK hb hr
     refine wpAnyH_ready (rs := [0, 6, 14]) (by kernel_rfl) (by simp) (AllReadyH.cons (o := ⟨some 102, _, _, _, _, none⟩) rfl (fun KK hKK => ?_) (AllReadyH.cons (o := ⟨some 108, _, _, _, _, none⟩) rfl (fun KK hKK => ?_) (AllReadyH.cons (o := ⟨some 8, _, _, _, _, none⟩) rfl (fun KK hKK => ?_) AllReadyH.nil)))
     ·skip
      as_aux_lemma =>
      go_simp
      have hba : Below wn.heap.size wn (wn.alloc (.cells #[.string ⟨#[105, 112]⟩, .string ⟨#[118, 111, 108]⟩, .string ⟨#[118, 111, 108, 50]⟩] 9)) := (Below.refl _ _).alloc (Nat.le_refl _) _
      have HA : Hid (Blk wn.heap.size #[.string ⟨#[105, 112]⟩, .string ⟨#[118, 111, 108]⟩, .string ⟨#[118, 111, 108, 50]⟩] 9 (wn.alloc (.cells #[.string ⟨#[105, 112]⟩, .string ⟨#[118, 111, 108]⟩, .string ⟨#[118, 111, 108, 50]⟩] 9))) := Blk.alloc _ _ _
      have hpA : wn.heap.size ≠ p := by have := HI.out.R.lt; omega
      replace HI := Hid.intro (HI.out.below hba)
      skip
      refine hKK.out _ _ (HI.out.S.blk.cell rfl) (fun hS => ?_)
      clear hKK KK hba hS
      generalize wn.heap.size = gA at *
      generalize wn.alloc (Obj.cells #[.string ⟨#[105, 112]⟩, .string ⟨#[118, 111, 108]⟩, .string ⟨#[118, 111, 108, 50]⟩] 9) = wn at *
      refine wpAnyH_mono (S' := fun wy => wy.cell? ⟨pm, 2, none⟩ = some (.int .i64 x.clock) ∧ Blk gA #[.string ⟨#[105, 112]⟩, .string ⟨#[118, 111, 108]⟩, .string ⟨#[118, 111, 108, 50]⟩] 9 wy) (fun _ h => h.1) _ _ _ _ ?_
      have hS : (fun wy => wy.cell? ⟨pm, 2, none⟩ = some (.int .i64 x.clock) ∧ Blk gA #[.string ⟨#[105, 112]⟩, .string ⟨#[118, 111, 108]⟩, .string ⟨#[118, 111, 108, 50]⟩] 9 wy) wn := ⟨HI.out.S.blk.cell rfl, HA.out⟩
      refine ty 2 ⟨some 104, _, _, _, _, none⟩ (.pointer (some ⟨gA, j, none⟩)) rfl (by rfl) ?_ hS ?_
      ·intro wy hy
       clear hy
       first | (go_simp; done) | (go_simp; omega) | (go_simp; intro hh; omega)
      simp only [pA, pB, pC, pD]
      refine ty 3 ⟨some 105, _, _, _, _, none⟩ (.string hs0) rfl (by rfl) ?_ hS ?_
      ·intro wy hy
       have h := id hy
       have h0 := h.2.cell (o := j) (v := .string hs0) HHX.out
       clear hy
       go_simp
      simp only [pA, pB, pC, pD]
      refine wpAnyH_ready (rs := [6, 14]) (by kernel_rfl) (by simp) (AllReadyH.cons (o := ⟨some 108, _, _, _, _, none⟩) rfl (fun KK hKK => ?_) (AllReadyH.cons (o := ⟨some 8, _, _, _, _, none⟩) rfl (fun KK hKK => ?_) AllReadyH.nil))
      ·skip
       as_aux_lemma =>
       go_simp
       refine (dec_any v4 _ (by omega)).mono ?_
       rintro e wn ⟨s, rfl, hs, hb⟩
       replace HA := Hid.intro (HA.out.below hb HA.out.lt)
       replace HI := Hid.intro (HI.out.below hb)
       refine hKK.out _ _ ⟨HI.out.S.blk.cell rfl, HA.out⟩ (fun hS => ?_)
       clear hKK KK hb
       refine ty 7 ⟨some 109, _, _, _, _, none⟩ (.string (({ data := #[99] } : ByteArray) ++ s)) rfl (by rfl) ?_ hS ?_
       ·intro wy hy
        clear hy
        go_simp
       simp only [pA, pB, pC, pD]
       refine wpAnyH_ready (rs := [11, 14]) (by kernel_rfl) (by simp) (AllReadyH.cons (o := ⟨some 113, _, _, _, _, none⟩) rfl (fun KK hKK => ?_) (AllReadyH.cons (o := ⟨some 8, _, _, _, _, none⟩) rfl (fun KK hKK => ?_) AllReadyH.nil))
       ·skip
        as_aux_lemma =>
        go_simp
        refine (pick_rd p (K + 1) 12 _ HI.out.R (by omega) (by omega) (by omega)).mono ?_
        rintro e wn ⟨v12, rfl, hv12, hr, hb, -⟩
        replace HA := Hid.intro (HA.out.bt hb HA.out.lt hpA)
        replace HI := Hid.intro (HI.out.bt hb hr)
        refine hKK.out _ _ ⟨HI.out.S.blk.cell rfl, HA.out⟩ (fun hS => ?_)
        clear hKK KK hb hr
        refine ty 12 ⟨some 114, _, _, _, _, none⟩ (.int .i64 (x.clock - (v12 : Int))) rfl (by rfl) ?_ hS ?_
        ·intro wy hy
         clear hy
         first | (go_simp; done) | (go_simp; rw [IntKind.wrap_i64]; omega) | (go_simp; omega)
        simp only [pA, pB, pC, pD]
        refine ty 13 ⟨some 115, _, _, _, _, none⟩ (.agg #[.string hs0, .string (({ data := #[99] } : ByteArray) ++ s), .int .i64 0, .int .i64 (x.clock - (v12 : Int))]) rfl (by rfl) ?_ hS ?_
        ·intro wy hy
         clear hy
         go_simp
        simp only [pA, pB, pC, pD]
        refine rd1 14 ⟨some 8, _, _, _, _, none⟩ rfl (fun KK hKK => ?_)
        go_simp
        have hba : Below wn.heap.size wn (wn.alloc (.cells #[.string ⟨#[]⟩, .string ⟨#[]⟩, .int .i64 0, .int .i64 0] 57)) := (Below.refl _ _).alloc (Nat.le_refl _) _
        have HG : Hid (Blk wn.heap.size #[.string ⟨#[]⟩, .string ⟨#[]⟩, .int .i64 0, .int .i64 0] 57 (wn.alloc (.cells #[.string ⟨#[]⟩, .string ⟨#[]⟩, .int .i64 0, .int .i64 0] 57))) := Blk.alloc _ _ _
        have HOT := Hid.intro (HI.out.new (Nat.le_refl _))
        replace HI := Hid.intro (HI.out.below hba)
        have hne : gA ≠ wn.heap.size := by have := HA.out.lt; omega
        replace HA := Hid.intro (HA.out.below hba HA.out.lt)
        refine hKK.out _ _ ⟨HI.out.S.blk.cell rfl, HA.out⟩ (fun hS => ?_)
        clear hKK KK hba
        generalize wn.heap.size = ga at *
        generalize wn.alloc (Obj.cells #[.string ⟨#[]⟩, .string ⟨#[]⟩, .int .i64 0, .int .i64 0] 57) = wn at *
        refine rd1 15 ⟨none, _, _, _, _, none⟩ rfl (fun KK hKK => ?_)
        rw [if_pos (by rfl)]
        refine wp_store_mid 57 (.tmp 8) (.tmp 115) (by rfl) ga 0 #[.string hs0, .string (({ data := #[99] } : ByteArray) ++ s), .int .i64 0, .int .i64 (x.clock - (v12 : Int))] (by rfl) (by rfl) HG.out.there isz_Aks (by simp [Value.oneCell']) ?_
        replace HG : Hid (Blk ga #[.string hs0, .string (({ data := #[99] } : ByteArray) ++ s), .int .i64 0, .int .i64 (x.clock - (v12 : Int))] 57 (wn.setCells ga 0 [.string hs0, .string (({ data := #[99] } : ByteArray) ++ s), .int .i64 0, .int .i64 (x.clock - (v12 : Int))])) := HG.out.setAll #[.string hs0, .string (({ data := #[99] } : ByteArray) ++ s), .int .i64 0, .int .i64 (x.clock - (v12 : Int))] rfl
        replace HA : Hid (Blk gA #[.string ⟨#[105, 112]⟩, .string ⟨#[118, 111, 108]⟩, .string ⟨#[118, 111, 108, 50]⟩] 9 (wn.setCells ga 0 [.string hs0, .string (({ data := #[99] } : ByteArray) ++ s), .int .i64 0, .int .i64 (x.clock - (v12 : Int))])) := blk_setCells_other hne _ _ _ HA.out
        replace HI := Hid.intro (HI.out.sets HOT.out 0 [.string hs0, .string (({ data := #[99] } : ByteArray) ++ s), .int .i64 0, .int .i64 (x.clock - (v12 : Int))])
        refine hKK.out _ _ ⟨HI.out.S.blk.cell rfl, HA.out⟩ (fun hS => ?_)
        clear hKK KK
        generalize wn.setCells ga 0 [.string hs0, .string (({ data := #[99] } : ByteArray) ++ s), .int .i64 0, .int .i64 (x.clock - (v12 : Int))] = wn at *
        refine wpAnyH_done (by kernel_rfl) ?_ _
        go_wp2_with fail
        go_meet
        exact ⟨ga, ⟨hs0, ({ data := #[99] } : ByteArray) ++ s, 0, x.clock - (v12 : Int)⟩, rfl, ⟨hhs, by show ByteArray.size _ ≤ 100; rw [ByteArray.size_append, hs]; decide⟩, ⟨by show -20 ≤ x.clock - (v12 : Int); omega, by show x.clock - (v12 : Int) ≤ 60; omega⟩, HG, HOT, HI⟩
       ·skip
        as_aux_lemma =>
        go_simp
        have hba : Below wn.heap.size wn (wn.alloc (.cells #[.string ⟨#[]⟩, .string ⟨#[]⟩, .int .i64 0, .int .i64 0] 57)) := (Below.refl _ _).alloc (Nat.le_refl _) _
        have HG : Hid (Blk wn.heap.size #[.string ⟨#[]⟩, .string ⟨#[]⟩, .int .i64 0, .int .i64 0] 57 (wn.alloc (.cells #[.string ⟨#[]⟩, .string ⟨#[]⟩, .int .i64 0, .int .i64 0] 57))) := Blk.alloc _ _ _
        have HOT := Hid.intro (HI.out.new (Nat.le_refl _))
        replace HI := Hid.intro (HI.out.below hba)
        have hne : gA ≠ wn.heap.size := by have := HA.out.lt; omega
        replace HA := Hid.intro (HA.out.below hba HA.out.lt)
        refine hKK.out _ _ ⟨HI.out.S.blk.cell rfl, HA.out⟩ (fun hS => ?_)
        clear hKK KK hba
        generalize wn.heap.size = ga at *
        generalize wn.alloc (Obj.cells #[.string ⟨#[]⟩, .string ⟨#[]⟩, .int .i64 0, .int .i64 0] 57) = wn at *
        refine rd1 11 ⟨some 113, _, _, _, _, none⟩ rfl (fun KK hKK => ?_)
        go_simp
        refine (pick_rd p (K + 1) 12 _ HI.out.R (by omega) (by omega) (by omega)).mono ?_
        rintro e wn ⟨v12, rfl, hv12, hr, hb, -⟩
        replace HA := Hid.intro (HA.out.bt hb HA.out.lt hpA)
        replace HG := Hid.intro (HG.out.bt hb HG.out.lt (by have := HI.out.hp; have := HOT.out.nw; omega))
        replace HI := Hid.intro (HI.out.bt hb hr)
        refine hKK.out _ _ ⟨HI.out.S.blk.cell rfl, HA.out⟩ (fun hS => ?_)
        clear hKK KK hb hr
        refine ty 12 ⟨some 114, _, _, _, _, none⟩ (.int .i64 (x.clock - (v12 : Int))) rfl (by rfl) ?_ hS ?_
        ·intro wy hy
         clear hy
         first | (go_simp; done) | (go_simp; rw [IntKind.wrap_i64]; omega) | (go_simp; omega)
        simp only [pA, pB, pC, pD]
        refine ty 13 ⟨some 115, _, _, _, _, none⟩ (.agg #[.string hs0, .string (({ data := #[99] } : ByteArray) ++ s), .int .i64 0, .int .i64 (x.clock - (v12 : Int))]) rfl (by rfl) ?_ hS ?_
        ·intro wy hy
         clear hy
         go_simp
        simp only [pA, pB, pC, pD]
        refine rd1 15 ⟨none, _, _, _, _, none⟩ rfl (fun KK hKK => ?_)
        rw [if_pos (by rfl)]
        refine wp_store_mid 57 (.tmp 8) (.tmp 115) (by rfl) ga 0 #[.string hs0, .string (({ data := #[99] } : ByteArray) ++ s), .int .i64 0, .int .i64 (x.clock - (v12 : Int))] (by rfl) (by rfl) HG.out.there isz_Aks (by simp [Value.oneCell']) ?_
        replace HG : Hid (Blk ga #[.string hs0, .string (({ data := #[99] } : ByteArray) ++ s), .int .i64 0, .int .i64 (x.clock - (v12 : Int))] 57 (wn.setCells ga 0 [.string hs0, .string (({ data := #[99] } : ByteArray) ++ s), .int .i64 0, .int .i64 (x.clock - (v12 : Int))])) := HG.out.setAll #[.string hs0, .string (({ data := #[99] } : ByteArray) ++ s), .int .i64 0, .int .i64 (x.clock - (v12 : Int))] rfl
        replace HA : Hid (Blk gA #[.string ⟨#[105, 112]⟩, .string ⟨#[118, 111, 108]⟩, .string ⟨#[118, 111, 108, 50]⟩] 9 (wn.setCells ga 0 [.string hs0, .string (({ data := #[99] } : ByteArray) ++ s), .int .i64 0, .int .i64 (x.clock - (v12 : Int))])) := blk_setCells_other hne _ _ _ HA.out
        replace HI := Hid.intro (HI.out.sets HOT.out 0 [.string hs0, .string (({ data := #[99] } : ByteArray) ++ s), .int .i64 0, .int .i64 (x.clock - (v12 : Int))])
        refine hKK.out _ _ ⟨HI.out.S.blk.cell rfl, HA.out⟩ (fun hS => ?_)
        clear hKK KK
        generalize wn.setCells ga 0 [.string hs0, .string (({ data := #[99] } : ByteArray) ++ s), .int .i64 0, .int .i64 (x.clock - (v12 : Int))] = wn at *
        refine wpAnyH_done (by kernel_rfl) ?_ _
        go_wp2_with fail
        go_meet
        exact ⟨ga, ⟨hs0, ({ data := #[99] } : ByteArray) ++ s, 0, x.clock - (v12 : Int)⟩, rfl, ⟨hhs, by show ByteArray.size _ ≤ 100; rw [ByteArray.size_append, hs]; decide⟩, ⟨by show -20 ≤ x.clock - (v12 : Int); omega, by show x.clock - (v12 : Int) ≤ 60; omega⟩, HG, HOT, HI⟩
      ·skip
       as_aux_lemma =>
       go_simp
       have hba : Below wn.heap.size wn (wn.alloc (.cells #[.string ⟨#[]⟩, .string ⟨#[]⟩, .int .i64 0, .int .i64 0] 57)) := (Below.refl _ _).alloc (Nat.le_refl _) _
       have HG : Hid (Blk wn.heap.size #[.string ⟨#[]⟩, .string ⟨#[]⟩, .int .i64 0, .int .i64 0] 57 (wn.alloc (.cells #[.string ⟨#[]⟩, .string ⟨#[]⟩, .int .i64 0, .int .i64 0] 57))) := Blk.alloc _ _ _
       have HOT := Hid.intro (HI.out.new (Nat.le_refl _))
       replace HI := Hid.intro (HI.out.below hba)
       have hne : gA ≠ wn.heap.size := by have := HA.out.lt; omega
       replace HA := Hid.intro (HA.out.below hba HA.out.lt)
       refine hKK.out _ _ ⟨HI.out.S.blk.cell rfl, HA.out⟩ (fun hS => ?_)
       clear hKK KK hba
       generalize wn.heap.size = ga at *
       generalize wn.alloc (Obj.cells #[.string ⟨#[]⟩, .string ⟨#[]⟩, .int .i64 0, .int .i64 0] 57) = wn at *
       refine rd1 6 ⟨some 108, _, _, _, _, none⟩ rfl (fun KK hKK => ?_)
       go_simp
       refine (dec_any v4 _ (by omega)).mono ?_
       rintro e wn ⟨s, rfl, hs, hb⟩
       replace HA := Hid.intro (HA.out.below hb HA.out.lt)
       replace HG := Hid.intro (HG.out.below hb HG.out.lt)
       replace HI := Hid.intro (HI.out.below hb)
       refine hKK.out _ _ ⟨HI.out.S.blk.cell rfl, HA.out⟩ (fun hS => ?_)
       clear hKK KK hb
       refine ty 7 ⟨some 109, _, _, _, _, none⟩ (.string (({ data := #[99] } : ByteArray) ++ s)) rfl (by rfl) ?_ hS ?_
       ·intro wy hy
        clear hy
        go_simp
       simp only [pA, pB, pC, pD]
       refine rd1 11 ⟨some 113, _, _, _, _, none⟩ rfl (fun KK hKK => ?_)
       go_simp
       refine (pick_rd p (K + 1) 12 _ HI.out.R (by omega) (by omega) (by omega)).mono ?_
       rintro e wn ⟨v12, rfl, hv12, hr, hb, -⟩
       replace HA := Hid.intro (HA.out.bt hb HA.out.lt hpA)
       replace HG := Hid.intro (HG.out.bt hb HG.out.lt (by have := HI.out.hp; have := HOT.out.nw; omega))
       replace HI := Hid.intro (HI.out.bt hb hr)
       refine hKK.out _ _ ⟨HI.out.S.blk.cell rfl, HA.out⟩ (fun hS => ?_)
       clear hKK KK hb hr
       refine ty 12 ⟨some 114, _, _, _, _, none⟩ (.int .i64 (x.clock - (v12 : Int))) rfl (by rfl) ?_ hS ?_
       ·intro wy hy
        clear hy
        first | (go_simp; done) | (go_simp; rw [IntKind.wrap_i64]; omega) | (go_simp; omega)
       simp only [pA, pB, pC, pD]
       refine ty 13 ⟨some 115, _, _, _, _, none⟩ (.agg #[.string hs0, .string (({ data := #[99] } : ByteArray) ++ s), .int .i64 0, .int .i64 (x.clock - (v12 : Int))]) rfl (by rfl) ?_ hS ?_
       ·intro wy hy
        clear hy
        go_simp
       simp only [pA, pB, pC, pD]
       refine rd1 15 ⟨none, _, _, _, _, none⟩ rfl (fun KK hKK => ?_)
       rw [if_pos (by rfl)]
       refine wp_store_mid 57 (.tmp 8) (.tmp 115) (by rfl) ga 0 #[.string hs0, .string (({ data := #[99] } : ByteArray) ++ s), .int .i64 0, .int .i64 (x.clock - (v12 : Int))] (by rfl) (by rfl) HG.out.there isz_Aks (by simp [Value.oneCell']) ?_
       replace HG : Hid (Blk ga #[.string hs0, .string (({ data := #[99] } : ByteArray) ++ s), .int .i64 0, .int .i64 (x.clock - (v12 : Int))] 57 (wn.setCells ga 0 [.string hs0, .string (({ data := #[99] } : ByteArray) ++ s), .int .i64 0, .int .i64 (x.clock - (v12 : Int))])) := HG.out.setAll #[.string hs0, .string (({ data := #[99] } : ByteArray) ++ s), .int .i64 0, .int .i64 (x.clock - (v12 : Int))] rfl
       replace HA : Hid (Blk gA #[.string ⟨#[105, 112]⟩, .string ⟨#[118, 111, 108]⟩, .string ⟨#[118, 111, 108, 50]⟩] 9 (wn.setCells ga 0 [.string hs0, .string (({ data := #[99] } : ByteArray) ++ s), .int .i64 0, .int .i64 (x.clock - (v12 : Int))])) := blk_setCells_other hne _ _ _ HA.out
       replace HI := Hid.intro (HI.out.sets HOT.out 0 [.string hs0, .string (({ data := #[99] } : ByteArray) ++ s), .int .i64 0, .int .i64 (x.clock - (v12 : Int))])
       refine hKK.out _ _ ⟨HI.out.S.blk.cell rfl, HA.out⟩ (fun hS => ?_)
       clear hKK KK
       generalize wn.setCells ga 0 [.string hs0, .string (({ data := #[99] } : ByteArray) ++ s), .int .i64 0, .int .i64 (x.clock - (v12 : Int))] = wn at *
       refine wpAnyH_done (by kernel_rfl) ?_ _
       go_wp2_with fail
       go_meet
       exact ⟨ga, ⟨hs0, ({ data := #[99] } : ByteArray) ++ s, 0, x.clock - (v12 : Int)⟩, rfl, ⟨hhs, by show ByteArray.size _ ≤ 100; rw [ByteArray.size_append, hs]; decide⟩, ⟨by show -20 ≤ x.clock - (v12 : Int); omega, by show x.clock - (v12 : Int) ≤ 60; omega⟩, HG, HOT, HI⟩
     ·skip
      as_aux_lemma =>
      go_simp
      refine (dec_any v4 _ (by omega)).mono ?_
      rintro e wn ⟨s, rfl, hs, hb⟩
      replace HI := Hid.intro (HI.out.below hb)
      refine hKK.out _ _ (HI.out.S.blk.cell rfl) (fun hS => ?_)
      clear hKK KK hb
      refine ty 7 ⟨some 109, _, _, _, _, none⟩ (.string (({ data := #[99] } : ByteArray) ++ s)) rfl (by rfl) ?_ hS ?_
      ·intro wy hy
       clear hy
       go_simp
      simp only [pA, pB, pC, pD]
      refine wpAnyH_ready (rs := [0, 11, 14]) (by kernel_rfl) (by simp) (AllReadyH.cons (o := ⟨some 102, _, _, _, _, none⟩) rfl (fun KK hKK => ?_) (AllReadyH.cons (o := ⟨some 113, _, _, _, _, none⟩) rfl (fun KK hKK => ?_) (AllReadyH.cons (o := ⟨some 8, _, _, _, _, none⟩) rfl (fun KK hKK => ?_) AllReadyH.nil)))
      ·skip
       as_aux_lemma =>
       go_simp
       have hba : Below wn.heap.size wn (wn.alloc (.cells #[.string ⟨#[105, 112]⟩, .string ⟨#[118, 111, 108]⟩, .string ⟨#[118, 111, 108, 50]⟩] 9)) := (Below.refl _ _).alloc (Nat.le_refl _) _
       have HA : Hid (Blk wn.heap.size #[.string ⟨#[105, 112]⟩, .string ⟨#[118, 111, 108]⟩, .string ⟨#[118, 111, 108, 50]⟩] 9 (wn.alloc (.cells #[.string ⟨#[105, 112]⟩, .string ⟨#[118, 111, 108]⟩, .string ⟨#[118, 111, 108, 50]⟩] 9))) := Blk.alloc _ _ _
       have hpA : wn.heap.size ≠ p := by have := HI.out.R.lt; omega
       replace HI := Hid.intro (HI.out.below hba)
       skip
       refine hKK.out _ _ (HI.out.S.blk.cell rfl) (fun hS => ?_)
       clear hKK KK hba hS
       generalize wn.heap.size = gA at *
       generalize wn.alloc (Obj.cells #[.string ⟨#[105, 112]⟩, .string ⟨#[118, 111, 108]⟩, .string ⟨#[118, 111, 108, 50]⟩] 9) = wn at *
       refine wpAnyH_mono (S' := fun wy => wy.cell? ⟨pm, 2, none⟩ = some (.int .i64 x.clock) ∧ Blk gA #[.string ⟨#[105, 112]⟩, .string ⟨#[118, 111, 108]⟩, .string ⟨#[118, 111, 108, 50]⟩] 9 wy) (fun _ h => h.1) _ _ _ _ ?_
       have hS : (fun wy => wy.cell? ⟨pm, 2, none⟩ = some (.int .i64 x.clock) ∧ Blk gA #[.string ⟨#[105, 112]⟩, .string ⟨#[118, 111, 108]⟩, .string ⟨#[118, 111, 108, 50]⟩] 9 wy) wn := ⟨HI.out.S.blk.cell rfl, HA.out⟩
       refine ty 2 ⟨some 104, _, _, _, _, none⟩ (.pointer (some ⟨gA, j, none⟩)) rfl (by rfl) ?_ hS ?_
       ·intro wy hy
        clear hy
        first | (go_simp; done) | (go_simp; omega) | (go_simp; intro hh; omega)
       simp only [pA, pB, pC, pD]
       refine ty 3 ⟨some 105, _, _, _, _, none⟩ (.string hs0) rfl (by rfl) ?_ hS ?_
       ·intro wy hy
        have h := id hy
        have h0 := h.2.cell (o := j) (v := .string hs0) HHX.out
        clear hy
        go_simp
       simp only [pA, pB, pC, pD]
       refine wpAnyH_ready (rs := [11, 14]) (by kernel_rfl) (by simp) (AllReadyH.cons (o := ⟨some 113, _, _, _, _, none⟩) rfl (fun KK hKK => ?_) (AllReadyH.cons (o := ⟨some 8, _, _, _, _, none⟩) rfl (fun KK hKK => ?_) AllReadyH.nil))
       ·skip
        as_aux_lemma =>
        go_simp
        refine (pick_rd p (K + 1) 12 _ HI.out.R (by omega) (by omega) (by omega)).mono ?_
        rintro e wn ⟨v12, rfl, hv12, hr, hb, -⟩
        replace HA := Hid.intro (HA.out.bt hb HA.out.lt hpA)
        replace HI := Hid.intro (HI.out.bt hb hr)
        refine hKK.out _ _ ⟨HI.out.S.blk.cell rfl, HA.out⟩ (fun hS => ?_)
        clear hKK KK hb hr
        refine ty 12 ⟨some 114, _, _, _, _, none⟩ (.int .i64 (x.clock - (v12 : Int))) rfl (by rfl) ?_ hS ?_
        ·intro wy hy
         clear hy
         first | (go_simp; done) | (go_simp; rw [IntKind.wrap_i64]; omega) | (go_simp; omega)
        simp only [pA, pB, pC, pD]
        refine ty 13 ⟨some 115, _, _, _, _, none⟩ (.agg #[.string hs0, .string (({ data := #[99] } : ByteArray) ++ s), .int .i64 0, .int .i64 (x.clock - (v12 : Int))]) rfl (by rfl) ?_ hS ?_
        ·intro wy hy
         clear hy
         go_simp
        simp only [pA, pB, pC, pD]
        refine rd1 14 ⟨some 8, _, _, _, _, none⟩ rfl (fun KK hKK => ?_)
        go_simp
        have hba : Below wn.heap.size wn (wn.alloc (.cells #[.string ⟨#[]⟩, .string ⟨#[]⟩, .int .i64 0, .int .i64 0] 57)) := (Below.refl _ _).alloc (Nat.le_refl _) _
        have HG : Hid (Blk wn.heap.size #[.string ⟨#[]⟩, .string ⟨#[]⟩, .int .i64 0, .int .i64 0] 57 (wn.alloc (.cells #[.string ⟨#[]⟩, .string ⟨#[]⟩, .int .i64 0, .int .i64 0] 57))) := Blk.alloc _ _ _
        have HOT := Hid.intro (HI.out.new (Nat.le_refl _))
        replace HI := Hid.intro (HI.out.below hba)
        have hne : gA ≠ wn.heap.size := by have := HA.out.lt; omega
        replace HA := Hid.intro (HA.out.below hba HA.out.lt)
        refine hKK.out _ _ ⟨HI.out.S.blk.cell rfl, HA.out⟩ (fun hS => ?_)
        clear hKK KK hba
        generalize wn.heap.size = ga at *
        generalize wn.alloc (Obj.cells #[.string ⟨#[]⟩, .string ⟨#[]⟩, .int .i64 0, .int .i64 0] 57) = wn at *
        refine rd1 15 ⟨none, _, _, _, _, none⟩ rfl (fun KK hKK => ?_)
        rw [if_pos (by rfl)]
        refine wp_store_mid 57 (.tmp 8) (.tmp 115) (by rfl) ga 0 #[.string hs0, .string (({ data := #[99] } : ByteArray) ++ s), .int .i64 0, .int .i64 (x.clock - (v12 : Int))] (by rfl) (by rfl) HG.out.there isz_Aks (by simp [Value.oneCell']) ?_
        replace HG : Hid (Blk ga #[.string hs0, .string (({ data := #[99] } : ByteArray) ++ s), .int .i64 0, .int .i64 (x.clock - (v12 : Int))] 57 (wn.setCells ga 0 [.string hs0, .string (({ data := #[99] } : ByteArray) ++ s), .int .i64 0, .int .i64 (x.clock - (v12 : Int))])) := HG.out.setAll #[.string hs0, .string (({ data := #[99] } : ByteArray) ++ s), .int .i64 0, .int .i64 (x.clock - (v12 : Int))] rfl
        replace HA : Hid (Blk gA #[.string ⟨#[105, 112]⟩, .string ⟨#[118, 111, 108]⟩, .string ⟨#[118, 111, 108, 50]⟩] 9 (wn.setCells ga 0 [.string hs0, .string (({ data := #[99] } : ByteArray) ++ s), .int .i64 0, .int .i64 (x.clock - (v12 : Int))])) := blk_setCells_other hne _ _ _ HA.out
        replace HI := Hid.intro (HI.out.sets HOT.out 0 [.string hs0, .string (({ data := #[99] } : ByteArray) ++ s), .int .i64 0, .int .i64 (x.clock - (v12 : Int))])
        refine hKK.out _ _ ⟨HI.out.S.blk.cell rfl, HA.out⟩ (fun hS => ?_)
        clear hKK KK
        generalize wn.setCells ga 0 [.string hs0, .string (({ data := #[99] } : ByteArray) ++ s), .int .i64 0, .int .i64 (x.clock - (v12 : Int))] = wn at *
        refine wpAnyH_done (by kernel_rfl) ?_ _
        go_wp2_with fail
        go_meet
        exact ⟨ga, ⟨hs0, ({ data := #[99] } : ByteArray) ++ s, 0, x.clock - (v12 : Int)⟩, rfl, ⟨hhs, by show ByteArray.size _ ≤ 100; rw [ByteArray.size_append, hs]; decide⟩, ⟨by show -20 ≤ x.clock - (v12 : Int); omega, by show x.clock - (v12 : Int) ≤ 60; omega⟩, HG, HOT, HI⟩
       ·skip
        as_aux_lemma =>
        go_simp
        have hba : Below wn.heap.size wn (wn.alloc (.cells #[.string ⟨#[]⟩, .string ⟨#[]⟩, .int .i64 0, .int .i64 0] 57)) := (Below.refl _ _).alloc (Nat.le_refl _) _
        have HG : Hid (Blk wn.heap.size #[.string ⟨#[]⟩, .string ⟨#[]⟩, .int .i64 0, .int .i64 0] 57 (wn.alloc (.cells #[.string ⟨#[]⟩, .string ⟨#[]⟩, .int .i64 0, .int .i64 0] 57))) := Blk.alloc _ _ _
        have HOT := Hid.intro (HI.out.new (Nat.le_refl _))
        replace HI := Hid.intro (HI.out.below hba)
        have hne : gA ≠ wn.heap.size := by have := HA.out.lt; omega
        replace HA := Hid.intro (HA.out.below hba HA.out.lt)
        refine hKK.out _ _ ⟨HI.out.S.blk.cell rfl, HA.out⟩ (fun hS => ?_)
        clear hKK KK hba
        generalize wn.heap.size = ga at *
        generalize wn.alloc (Obj.cells #[.string ⟨#[]⟩, .string ⟨#[]⟩, .int .i64 0, .int .i64 0] 57) = wn at *
        refine rd1 11 ⟨some 113, _, _, _, _, none⟩ rfl (fun KK hKK => ?_)
        go_simp
        refine (pick_rd p (K + 1) 12 _ HI.out.R (by omega) (by omega) (by omega)).mono ?_
        rintro e wn ⟨v12, rfl, hv12, hr, hb, -⟩
        replace HA := Hid.intro (HA.out.bt hb HA.out.lt hpA)
        replace HG := Hid.intro (HG.out.bt hb HG.out.lt (by have := HI.out.hp; have := HOT.out.nw; omega))
        replace HI := Hid.intro (HI.out.bt hb hr)
        refine hKK.out _ _ ⟨HI.out.S.blk.cell rfl, HA.out⟩ (fun hS => ?_)
        clear hKK KK hb hr
        refine ty 12 ⟨some 114, _, _, _, _, none⟩ (.int .i64 (x.clock - (v12 : Int))) rfl (by rfl) ?_ hS ?_
        ·intro wy hy
         clear hy
         first | (go_simp; done) | (go_simp; rw [IntKind.wrap_i64]; omega) | (go_simp; omega)
        simp only [pA, pB, pC, pD]
        refine ty 13 ⟨some 115, _, _, _, _, none⟩ (.agg #[.string hs0, .string (({ data := #[99] } : ByteArray) ++ s), .int .i64 0, .int .i64 (x.clock - (v12 : Int))]) rfl (by rfl) ?_ hS ?_
        ·intro wy hy
         clear hy
         go_simp
        simp only [pA, pB, pC, pD]
        refine rd1 15 ⟨none, _, _, _, _, none⟩ rfl (fun KK hKK => ?_)
        rw [if_pos (by rfl)]
        refine wp_store_mid 57 (.tmp 8) (.tmp 115) (by rfl) ga 0 #[.string hs0, .string (({ data := #[99] } : ByteArray) ++ s), .int .i64 0, .int .i64 (x.clock - (v12 : Int))] (by rfl) (by rfl) HG.out.there isz_Aks (by simp [Value.oneCell']) ?_
        replace HG : Hid (Blk ga #[.string hs0, .string (({ data := #[99] } : ByteArray) ++ s), .int .i64 0, .int .i64 (x.clock - (v12 : Int))] 57 (wn.setCells ga 0 [.string hs0, .string (({ data := #[99] } : ByteArray) ++ s), .int .i64 0, .int .i64 (x.clock - (v12 : Int))])) := HG.out.setAll #[.string hs0, .string (({ data := #[99] } : ByteArray) ++ s), .int .i64 0, .int .i64 (x.clock - (v12 : Int))] rfl
        replace HA : Hid (Blk gA #[.string ⟨#[105, 112]⟩, .string ⟨#[118, 111, 108]⟩, .string ⟨#[118, 111, 108, 50]⟩] 9 (wn.setCells ga 0 [.string hs0, .string (({ data := #[99] } : ByteArray) ++ s), .int .i64 0, .int .i64 (x.clock - (v12 : Int))])) := blk_setCells_other hne _ _ _ HA.out
        replace HI := Hid.intro (HI.out.sets HOT.out 0 [.string hs0, .string (({ data := #[99] } : ByteArray) ++ s), .int .i64 0, .int .i64 (x.clock - (v12 : Int))])
        refine hKK.out _ _ ⟨HI.out.S.blk.cell rfl, HA.out⟩ (fun hS => ?_)
        clear hKK KK
        generalize wn.setCells ga 0 [.string hs0, .string (({ data := #[99] } : ByteArray) ++ s), .int .i64 0, .int .i64 (x.clock - (v12 : Int))] = wn at *
        refine wpAnyH_done (by kernel_rfl) ?_ _
        go_wp2_with fail
        go_meet
        exact ⟨ga, ⟨hs0, ({ data := #[99] } : ByteArray) ++ s, 0, x.clock - (v12 : Int)⟩, rfl, ⟨hhs, by show ByteArray.size _ ≤ 100; rw [ByteArray.size_append, hs]; decide⟩, ⟨by show -20 ≤ x.clock - (v12 : Int); omega, by show x.clock - (v12 : Int) ≤ 60; omega⟩, HG, HOT, HI⟩
      ·skip
       as_aux_lemma =>
       go_simp
       refine (pick_rd p (K + 1) 12 _ HI.out.R (by omega) (by omega) (by omega)).mono ?_
       rintro e wn ⟨v12, rfl, hv12, hr, hb, -⟩
       replace HI := Hid.intro (HI.out.bt hb hr)
       refine hKK.out _ _ (HI.out.S.blk.cell rfl) (fun hS => ?_)
       clear hKK KK hb hr
       refine ty 12 ⟨some 114, _, _, _, _, none⟩ (.int .i64 (x.clock - (v12 : Int))) rfl (by rfl) ?_ hS ?_
       ·intro wy hy
        clear hy
        first | (go_simp; done) | (go_simp; rw [IntKind.wrap_i64]; omega) | (go_simp; omega)
       simp only [pA, pB, pC, pD]
       refine wpAnyH_ready (rs := [0, 14]) (by kernel_rfl) (by simp) (AllReadyH.cons (o := ⟨some 102, _, _, _, _, none⟩) rfl (fun KK hKK => ?_) (AllReadyH.cons (o := ⟨some 8, _, _, _, _, none⟩) rfl (fun KK hKK => ?_) AllReadyH.nil))
       ·skip
        as_aux_lemma =>
        go_simp
        have hba : Below wn.heap.size wn (wn.alloc (.cells #[.string ⟨#[105, 112]⟩, .string ⟨#[118, 111, 108]⟩, .string ⟨#[118, 111, 108, 50]⟩] 9)) := (Below.refl _ _).alloc (Nat.le_refl _) _
        have HA : Hid (Blk wn.heap.size #[.string ⟨#[105, 112]⟩, .string ⟨#[118, 111, 108]⟩, .string ⟨#[118, 111, 108, 50]⟩] 9 (wn.alloc (.cells #[.string ⟨#[105, 112]⟩, .string ⟨#[118, 111, 108]⟩, .string ⟨#[118, 111, 108, 50]⟩] 9))) := Blk.alloc _ _ _
        have hpA : wn.heap.size ≠ p := by have := HI.out.R.lt; omega
        replace HI := Hid.intro (HI.out.below hba)
        skip
        refine hKK.out _ _ (HI.out.S.blk.cell rfl) (fun hS => ?_)
        clear hKK KK hba hS
        generalize wn.heap.size = gA at *
        generalize wn.alloc (Obj.cells #[.string ⟨#[105, 112]⟩, .string ⟨#[118, 111, 108]⟩, .string ⟨#[118, 111, 108, 50]⟩] 9) = wn at *
        refine wpAnyH_mono (S' := fun wy => wy.cell? ⟨pm, 2, none⟩ = some (.int .i64 x.clock) ∧ Blk gA #[.string ⟨#[105, 112]⟩, .string ⟨#[118, 111, 108]⟩, .string ⟨#[118, 111, 108, 50]⟩] 9 wy) (fun _ h => h.1) _ _ _ _ ?_
        have hS : (fun wy => wy.cell? ⟨pm, 2, none⟩ = some (.int .i64 x.clock) ∧ Blk gA #[.string ⟨#[105, 112]⟩, .string ⟨#[118, 111, 108]⟩, .string ⟨#[118, 111, 108, 50]⟩] 9 wy) wn := ⟨HI.out.S.blk.cell rfl, HA.out⟩
        refine ty 2 ⟨some 104, _, _, _, _, none⟩ (.pointer (some ⟨gA, j, none⟩)) rfl (by rfl) ?_ hS ?_
        ·intro wy hy
         clear hy
         first | (go_simp; done) | (go_simp; omega) | (go_simp; intro hh; omega)
        simp only [pA, pB, pC, pD]
        refine ty 3 ⟨some 105, _, _, _, _, none⟩ (.string hs0) rfl (by rfl) ?_ hS ?_
        ·intro wy hy
         have h := id hy
         have h0 := h.2.cell (o := j) (v := .string hs0) HHX.out
         clear hy
         go_simp
        simp only [pA, pB, pC, pD]
        refine ty 13 ⟨some 115, _, _, _, _, none⟩ (.agg #[.string hs0, .string (({ data := #[99] } : ByteArray) ++ s), .int .i64 0, .int .i64 (x.clock - (v12 : Int))]) rfl (by rfl) ?_ hS ?_
        ·intro wy hy
         clear hy
         go_simp
        simp only [pA, pB, pC, pD]
        refine rd1 14 ⟨some 8, _, _, _, _, none⟩ rfl (fun KK hKK => ?_)
        go_simp
        have hba : Below wn.heap.size wn (wn.alloc (.cells #[.string ⟨#[]⟩, .string ⟨#[]⟩, .int .i64 0, .int .i64 0] 57)) := (Below.refl _ _).alloc (Nat.le_refl _) _
        have HG : Hid (Blk wn.heap.size #[.string ⟨#[]⟩, .string ⟨#[]⟩, .int .i64 0, .int .i64 0] 57 (wn.alloc (.cells #[.string ⟨#[]⟩, .string ⟨#[]⟩, .int .i64 0, .int .i64 0] 57))) := Blk.alloc _ _ _
        have HOT := Hid.intro (HI.out.new (Nat.le_refl _))
        replace HI := Hid.intro (HI.out.below hba)
        have hne : gA ≠ wn.heap.size := by have := HA.out.lt; omega
        replace HA := Hid.intro (HA.out.below hba HA.out.lt)
        refine hKK.out _ _ ⟨HI.out.S.blk.cell rfl, HA.out⟩ (fun hS => ?_)
        clear hKK KK hba
        generalize wn.heap.size = ga at *
        generalize wn.alloc (Obj.cells #[.string ⟨#[]⟩, .string ⟨#[]⟩, .int .i64 0, .int .i64 0] 57) = wn at *
        refine rd1 15 ⟨none, _, _, _, _, none⟩ rfl (fun KK hKK => ?_)
        rw [if_pos (by rfl)]
        refine wp_store_mid 57 (.tmp 8) (.tmp 115) (by rfl) ga 0 #[.string hs0, .string (({ data := #[99] } : ByteArray) ++ s), .int .i64 0, .int .i64 (x.clock - (v12 : Int))] (by rfl) (by rfl) HG.out.there isz_Aks (by simp [Value.oneCell']) ?_
        replace HG : Hid (Blk ga #[.string hs0, .string (({ data := #[99] } : ByteArray) ++ s), .int .i64 0, .int .i64 (x.clock - (v12 : Int))] 57 (wn.setCells ga 0 [.string hs0, .string (({ data := #[99] } : ByteArray) ++ s), .int .i64 0, .int .i64 (x.clock - (v12 : Int))])) := HG.out.setAll #[.string hs0, .string (({ data := #[99] } : ByteArray) ++ s), .int .i64 0, .int .i64 (x.clock - (v12 : Int))] rfl
        replace HA : Hid (Blk gA #[.string ⟨#[105, 112]⟩, .string ⟨#[118, 111, 108]⟩, .string ⟨#[118, 111, 108, 50]⟩] 9 (wn.setCells ga 0 [.string hs0, .string (({ data := #[99] } : ByteArray) ++ s), .int .i64 0, .int .i64 (x.clock - (v12 : Int))])) := blk_setCells_other hne _ _ _ HA.out
        replace HI := Hid.intro (HI.out.sets HOT.out 0 [.string hs0, .string (({ data := #[99] } : ByteArray) ++ s), .int .i64 0, .int .i64 (x.clock - (v12 : Int))])
        refine hKK.out _ _ ⟨HI.out.S.blk.cell rfl, HA.out⟩ (fun hS => ?_)
        clear hKK KK
        generalize wn.setCells ga 0 [.string hs0, .string (({ data := #[99] } : ByteArray) ++ s), .int .i64 0, .int .i64 (x.clock - (v12 : Int))] = wn at *
        refine wpAnyH_done (by kernel_rfl) ?_ _
        go_wp2_with fail
        go_meet
        exact ⟨ga, ⟨hs0, ({ data := #[99] } : ByteArray) ++ s, 0, x.clock - (v12 : Int)⟩, rfl, ⟨hhs, by show ByteArray.size _ ≤ 100; rw [ByteArray.size_append, hs]; decide⟩, ⟨by show -20 ≤ x.clock - (v12 : Int); omega, by show x.clock - (v12 : Int) ≤ 60; omega⟩, HG, HOT, HI⟩
       ·skip
        as_aux_lemma =>
        go_simp
        have hba : Below wn.heap.size wn (wn.alloc (.cells #[.string ⟨#[]⟩, .string ⟨#[]⟩, .int .i64 0, .int .i64 0] 57)) := (Below.refl _ _).alloc (Nat.le_refl _) _
        have HG : Hid (Blk wn.heap.size #[.string ⟨#[]⟩, .string ⟨#[]⟩, .int .i64 0, .int .i64 0] 57 (wn.alloc (.cells #[.string ⟨#[]⟩, .string ⟨#[]⟩, .int .i64 0, .int .i64 0] 57))) := Blk.alloc _ _ _
        have HOT := Hid.intro (HI.out.new (Nat.le_refl _))
        replace HI := Hid.intro (HI.out.below hba)
        refine hKK.out _ _ (HI.out.S.blk.cell rfl) (fun hS => ?_)
        clear hKK KK hba
        generalize wn.heap.size = ga at *
        generalize wn.alloc (Obj.cells #[.string ⟨#[]⟩, .string ⟨#[]⟩, .int .i64 0, .int .i64 0] 57) = wn at *
        refine rd1 0 ⟨some 102, _, _, _, _, none⟩ rfl (fun KK hKK => ?_)
        go_simp
        have hba : Below wn.heap.size wn (wn.alloc (.cells #[.string ⟨#[105, 112]⟩, .string ⟨#[118, 111, 108]⟩, .string ⟨#[118, 111, 108, 50]⟩] 9)) := (Below.refl _ _).alloc (Nat.le_refl _) _
        have HA : Hid (Blk wn.heap.size #[.string ⟨#[105, 112]⟩, .string ⟨#[118, 111, 108]⟩, .string ⟨#[118, 111, 108, 50]⟩] 9 (wn.alloc (.cells #[.string ⟨#[105, 112]⟩, .string ⟨#[118, 111, 108]⟩, .string ⟨#[118, 111, 108, 50]⟩] 9))) := Blk.alloc _ _ _
        have hpA : wn.heap.size ≠ p := by have := HI.out.R.lt; omega
        replace HI := Hid.intro (HI.out.below hba)
        have hne : wn.heap.size ≠ ga := by have := HG.out.lt; omega
        replace HG := Hid.intro (HG.out.below hba HG.out.lt)
        skip
        refine hKK.out _ _ (HI.out.S.blk.cell rfl) (fun hS => ?_)
        clear hKK KK hba hS
        generalize wn.heap.size = gA at *
        generalize wn.alloc (Obj.cells #[.string ⟨#[105, 112]⟩, .string ⟨#[118, 111, 108]⟩, .string ⟨#[118, 111, 108, 50]⟩] 9) = wn at *
        refine wpAnyH_mono (S' := fun wy => wy.cell? ⟨pm, 2, none⟩ = some (.int .i64 x.clock) ∧ Blk gA #[.string ⟨#[105, 112]⟩, .string ⟨#[118, 111, 108]⟩, .string ⟨#[118, 111, 108, 50]⟩] 9 wy) (fun _ h => h.1) _ _ _ _ ?_
        have hS : (fun wy => wy.cell? ⟨pm, 2, none⟩ = some (.int .i64 x.clock) ∧ Blk gA #[.string ⟨#[105, 112]⟩, .string ⟨#[118, 111, 108]⟩, .string ⟨#[118, 111, 108, 50]⟩] 9 wy) wn := ⟨HI.out.S.blk.cell rfl, HA.out⟩
        refine ty 2 ⟨some 104, _, _, _, _, none⟩ (.pointer (some ⟨gA, j, none⟩)) rfl (by rfl) ?_ hS ?_
        ·intro wy hy
         clear hy
         first | (go_simp; done) | (go_simp; omega) | (go_simp; intro hh; omega)
        simp only [pA, pB, pC, pD]
        refine ty 3 ⟨some 105, _, _, _, _, none⟩ (.string hs0) rfl (by rfl) ?_ hS ?_
        ·intro wy hy
         have h := id hy
         have h0 := h.2.cell (o := j) (v := .string hs0) HHX.out
         clear hy
         go_simp
        simp only [pA, pB, pC, pD]
        refine ty 13 ⟨some 115, _, _, _, _, none⟩ (.agg #[.string hs0, .string (({ data := #[99] } : ByteArray) ++ s), .int .i64 0, .int .i64 (x.clock - (v12 : Int))]) rfl (by rfl) ?_ hS ?_
        ·intro wy hy
         clear hy
         go_simp
        simp only [pA, pB, pC, pD]
        refine rd1 15 ⟨none, _, _, _, _, none⟩ rfl (fun KK hKK => ?_)
        rw [if_pos (by rfl)]
        refine wp_store_mid 57 (.tmp 8) (.tmp 115) (by rfl) ga 0 #[.string hs0, .string (({ data := #[99] } : ByteArray) ++ s), .int .i64 0, .int .i64 (x.clock - (v12 : Int))] (by rfl) (by rfl) HG.out.there isz_Aks (by simp [Value.oneCell']) ?_
        replace HG : Hid (Blk ga #[.string hs0, .string (({ data := #[99] } : ByteArray) ++ s), .int .i64 0, .int .i64 (x.clock - (v12 : Int))] 57 (wn.setCells ga 0 [.string hs0, .string (({ data := #[99] } : ByteArray) ++ s), .int .i64 0, .int .i64 (x.clock - (v12 : Int))])) := HG.out.setAll #[.string hs0, .string (({ data := #[99] } : ByteArray) ++ s), .int .i64 0, .int .i64 (x.clock - (v12 : Int))] rfl
        replace HA : Hid (Blk gA #[.string ⟨#[105, 112]⟩, .string ⟨#[118, 111, 108]⟩, .string ⟨#[118, 111, 108, 50]⟩] 9 (wn.setCells ga 0 [.string hs0, .string (({ data := #[99] } : ByteArray) ++ s), .int .i64 0, .int .i64 (x.clock - (v12 : Int))])) := blk_setCells_other hne _ _ _ HA.out
        replace HI := Hid.intro (HI.out.sets HOT.out 0 [.string hs0, .string (({ data := #[99] } : ByteArray) ++ s), .int .i64 0, .int .i64 (x.clock - (v12 : Int))])
        refine hKK.out _ _ ⟨HI.out.S.blk.cell rfl, HA.out⟩ (fun hS => ?_)
        clear hKK KK
        generalize wn.setCells ga 0 [.string hs0, .string (({ data := #[99] } : ByteArray) ++ s), .int .i64 0, .int .i64 (x.clock - (v12 : Int))] = wn at *
        refine wpAnyH_done (by kernel_rfl) ?_ _
        go_wp2_with fail
        go_meet
        exact ⟨ga, ⟨hs0, ({ data := #[99] } : ByteArray) ++ s, 0, x.clock - (v12 : Int)⟩, rfl, ⟨hhs, by show ByteArray.size _ ≤ 100; rw [ByteArray.size_append, hs]; decide⟩, ⟨by show -20 ≤ x.clock - (v12 : Int); omega, by show x.clock - (v12 : Int) ≤ 60; omega⟩, HG, HOT, HI⟩
      ·skip
       as_aux_lemma =>
       go_simp
       have hba : Below wn.heap.size wn (wn.alloc (.cells #[.string ⟨#[]⟩, .string ⟨#[]⟩, .int .i64 0, .int .i64 0] 57)) := (Below.refl _ _).alloc (Nat.le_refl _) _
       have HG : Hid (Blk wn.heap.size #[.string ⟨#[]⟩, .string ⟨#[]⟩, .int .i64 0, .int .i64 0] 57 (wn.alloc (.cells #[.string ⟨#[]⟩, .string ⟨#[]⟩, .int .i64 0, .int .i64 0] 57))) := Blk.alloc _ _ _
       have HOT := Hid.intro (HI.out.new (Nat.le_refl _))
       replace HI := Hid.intro (HI.out.below hba)
       refine hKK.out _ _ (HI.out.S.blk.cell rfl) (fun hS => ?_)
       clear hKK KK hba
       generalize wn.heap.size = ga at *
       generalize wn.alloc (Obj.cells #[.string ⟨#[]⟩, .string ⟨#[]⟩, .int .i64 0, .int .i64 0] 57) = wn at *
       refine wpAnyH_ready (rs := [0, 11]) (by kernel_rfl) (by simp) (AllReadyH.cons (o := ⟨some 102, _, _, _, _, none⟩) rfl (fun KK hKK => ?_) (AllReadyH.cons (o := ⟨some 113, _, _, _, _, none⟩) rfl (fun KK hKK => ?_) AllReadyH.nil))
       ·skip
        as_aux_lemma =>
        go_simp
        have hba : Below wn.heap.size wn (wn.alloc (.cells #[.string ⟨#[105, 112]⟩, .string ⟨#[118, 111, 108]⟩, .string ⟨#[118, 111, 108, 50]⟩] 9)) := (Below.refl _ _).alloc (Nat.le_refl _) _
        have HA : Hid (Blk wn.heap.size #[.string ⟨#[105, 112]⟩, .string ⟨#[118, 111, 108]⟩, .string ⟨#[118, 111, 108, 50]⟩] 9 (wn.alloc (.cells #[.string ⟨#[105, 112]⟩, .string ⟨#[118, 111, 108]⟩, .string ⟨#[118, 111, 108, 50]⟩] 9))) := Blk.alloc _ _ _
        have hpA : wn.heap.size ≠ p := by have := HI.out.R.lt; omega
        replace HI := Hid.intro (HI.out.below hba)
        have hne : wn.heap.size ≠ ga := by have := HG.out.lt; omega
        replace HG := Hid.intro (HG.out.below hba HG.out.lt)
        skip
        refine hKK.out _ _ (HI.out.S.blk.cell rfl) (fun hS => ?_)
        clear hKK KK hba hS
        generalize wn.heap.size = gA at *
        generalize wn.alloc (Obj.cells #[.string ⟨#[105, 112]⟩, .string ⟨#[118, 111, 108]⟩, .string ⟨#[118, 111, 108, 50]⟩] 9) = wn at *
        refine wpAnyH_mono (S' := fun wy => wy.cell? ⟨pm, 2, none⟩ = some (.int .i64 x.clock) ∧ Blk gA #[.string ⟨#[105, 112]⟩, .string ⟨#[118, 111, 108]⟩, .string ⟨#[118, 111, 108, 50]⟩] 9 wy) (fun _ h => h.1) _ _ _ _ ?_
        have hS : (fun wy => wy.cell? ⟨pm, 2, none⟩ = some (.int .i64 x.clock) ∧ Blk gA #[.string ⟨#[105, 112]⟩, .string ⟨#[118, 111, 108]⟩, .string ⟨#[118, 111, 108, 50]⟩] 9 wy) wn := ⟨HI.out.S.blk.cell rfl, HA.out⟩
        refine ty 2 ⟨some 104, _, _, _, _, none⟩ (.pointer (some ⟨gA, j, none⟩)) rfl (by rfl) ?_ hS ?_
        ·intro wy hy
         clear hy
         first | (go_simp; done) | (go_simp; omega) | (go_simp; intro hh; omega)
        simp only [pA, pB, pC, pD]
        refine ty 3 ⟨some 105, _, _, _, _, none⟩ (.string hs0) rfl (by rfl) ?_ hS ?_
        ·intro wy hy
         have h := id hy
         have h0 := h.2.cell (o := j) (v := .string hs0) HHX.out
         clear hy
         go_simp
        simp only [pA, pB, pC, pD]
        refine rd1 11 ⟨some 113, _, _, _, _, none⟩ rfl (fun KK hKK => ?_)
        go_simp
        refine (pick_rd p (K + 1) 12 _ HI.out.R (by omega) (by omega) (by omega)).mono ?_
        rintro e wn ⟨v12, rfl, hv12, hr, hb, -⟩
        replace HA := Hid.intro (HA.out.bt hb HA.out.lt hpA)
        replace HG := Hid.intro (HG.out.bt hb HG.out.lt (by have := HI.out.hp; have := HOT.out.nw; omega))
        replace HI := Hid.intro (HI.out.bt hb hr)
        refine hKK.out _ _ ⟨HI.out.S.blk.cell rfl, HA.out⟩ (fun hS => ?_)
        clear hKK KK hb hr
        refine ty 12 ⟨some 114, _, _, _, _, none⟩ (.int .i64 (x.clock - (v12 : Int))) rfl (by rfl) ?_ hS ?_
        ·intro wy hy
         clear hy
         first | (go_simp; done) | (go_simp; rw [IntKind.wrap_i64]; omega) | (go_simp; omega)
        simp only [pA, pB, pC, pD]
        refine ty 13 ⟨some 115, _, _, _, _, none⟩ (.agg #[.string hs0, .string (({ data := #[99] } : ByteArray) ++ s), .int .i64 0, .int .i64 (x.clock - (v12 : Int))]) rfl (by rfl) ?_ hS ?_
        ·intro wy hy
         clear hy
         go_simp
        simp only [pA, pB, pC, pD]
        refine rd1 15 ⟨none, _, _, _, _, none⟩ rfl (fun KK hKK => ?_)
        rw [if_pos (by rfl)]
        refine wp_store_mid 57 (.tmp 8) (.tmp 115) (by rfl) ga 0 #[.string hs0, .string (({ data := #[99] } : ByteArray) ++ s), .int .i64 0, .int .i64 (x.clock - (v12 : Int))] (by rfl) (by rfl) HG.out.there isz_Aks (by simp [Value.oneCell']) ?_
        replace HG : Hid (Blk ga #[.string hs0, .string (({ data := #[99] } : ByteArray) ++ s), .int .i64 0, .int .i64 (x.clock - (v12 : Int))] 57 (wn.setCells ga 0 [.string hs0, .string (({ data := #[99] } : ByteArray) ++ s), .int .i64 0, .int .i64 (x.clock - (v12 : Int))])) := HG.out.setAll #[.string hs0, .string (({ data := #[99] } : ByteArray) ++ s), .int .i64 0, .int .i64 (x.clock - (v12 : Int))] rfl
        replace HA : Hid (Blk gA #[.string ⟨#[105, 112]⟩, .string ⟨#[118, 111, 108]⟩, .string ⟨#[118, 111, 108, 50]⟩] 9 (wn.setCells ga 0 [.string hs0, .string (({ data := #[99] } : ByteArray) ++ s), .int .i64 0, .int .i64 (x.clock - (v12 : Int))])) := blk_setCells_other hne _ _ _ HA.out
        replace HI := Hid.intro (HI.out.sets HOT.out 0 [.string hs0, .string (({ data := #[99] } : ByteArray) ++ s), .int .i64 0, .int .i64 (x.clock - (v12 : Int))])
        refine hKK.out _ _ ⟨HI.out.S.blk.cell rfl, HA.out⟩ (fun hS => ?_)
        clear hKK KK
        generalize wn.setCells ga 0 [.string hs0, .string (({ data := #[99] } : ByteArray) ++ s), .int .i64 0, .int .i64 (x.clock - (v12 : Int))] = wn at *
        refine wpAnyH_done (by kernel_rfl) ?_ _
        go_wp2_with fail
        go_meet
        exact ⟨ga, ⟨hs0, ({ data := #[99] } : ByteArray) ++ s, 0, x.clock - (v12 : Int)⟩, rfl, ⟨hhs, by show ByteArray.size _ ≤ 100; rw [ByteArray.size_append, hs]; decide⟩, ⟨by show -20 ≤ x.clock - (v12 : Int); omega, by show x.clock - (v12 : Int) ≤ 60; omega⟩, HG, HOT, HI⟩
       ·skip
        as_aux_lemma =>
        go_simp
        refine (pick_rd p (K + 1) 12 _ HI.out.R (by omega) (by omega) (by omega)).mono ?_
        rintro e wn ⟨v12, rfl, hv12, hr, hb, -⟩
        replace HG := Hid.intro (HG.out.bt hb HG.out.lt (by have := HI.out.hp; have := HOT.out.nw; omega))
        replace HI := Hid.intro (HI.out.bt hb hr)
        refine hKK.out _ _ (HI.out.S.blk.cell rfl) (fun hS => ?_)
        clear hKK KK hb hr
        refine ty 12 ⟨some 114, _, _, _, _, none⟩ (.int .i64 (x.clock - (v12 : Int))) rfl (by rfl) ?_ hS ?_
        ·intro wy hy
         clear hy
         first | (go_simp; done) | (go_simp; rw [IntKind.wrap_i64]; omega) | (go_simp; omega)
        simp only [pA, pB, pC, pD]
        refine rd1 0 ⟨some 102, _, _, _, _, none⟩ rfl (fun KK hKK => ?_)
        go_simp
        have hba : Below wn.heap.size wn (wn.alloc (.cells #[.string ⟨#[105, 112]⟩, .string ⟨#[118, 111, 108]⟩, .string ⟨#[118, 111, 108, 50]⟩] 9)) := (Below.refl _ _).alloc (Nat.le_refl _) _
        have HA : Hid (Blk wn.heap.size #[.string ⟨#[105, 112]⟩, .string ⟨#[118, 111, 108]⟩, .string ⟨#[118, 111, 108, 50]⟩] 9 (wn.alloc (.cells #[.string ⟨#[105, 112]⟩, .string ⟨#[118, 111, 108]⟩, .string ⟨#[118, 111, 108, 50]⟩] 9))) := Blk.alloc _ _ _
        have hpA : wn.heap.size ≠ p := by have := HI.out.R.lt; omega
        replace HI := Hid.intro (HI.out.below hba)
        have hne : wn.heap.size ≠ ga := by have := HG.out.lt; omega
        replace HG := Hid.intro (HG.out.below hba HG.out.lt)
        skip
        refine hKK.out _ _ (HI.out.S.blk.cell rfl) (fun hS => ?_)
        clear hKK KK hba hS
        generalize wn.heap.size = gA at *
        generalize wn.alloc (Obj.cells #[.string ⟨#[105, 112]⟩, .string ⟨#[118, 111, 108]⟩, .string ⟨#[118, 111, 108, 50]⟩] 9) = wn at *
        refine wpAnyH_mono (S' := fun wy => wy.cell? ⟨pm, 2, none⟩ = some (.int .i64 x.clock) ∧ Blk gA #[.string ⟨#[105, 112]⟩, .string ⟨#[118, 111, 108]⟩, .string ⟨#[118, 111, 108, 50]⟩] 9 wy) (fun _ h => h.1) _ _ _ _ ?_
        have hS : (fun wy => wy.cell? ⟨pm, 2, none⟩ = some (.int .i64 x.clock) ∧ Blk gA #[.string ⟨#[105, 112]⟩, .string ⟨#[118, 111, 108]⟩, .string ⟨#[118, 111, 108, 50]⟩] 9 wy) wn := ⟨HI.out.S.blk.cell rfl, HA.out⟩
        refine ty 2 ⟨some 104, _, _, _, _, none⟩ (.pointer (some ⟨gA, j, none⟩)) rfl (by rfl) ?_ hS ?_
        ·intro wy hy
         clear hy
         first | (go_simp; done) | (go_simp; omega) | (go_simp; intro hh; omega)
        simp only [pA, pB, pC, pD]
        refine ty 3 ⟨some 105, _, _, _, _, none⟩ (.string hs0) rfl (by rfl) ?_ hS ?_
        ·intro wy hy
         have h := id hy
         have h0 := h.2.cell (o := j) (v := .string hs0) HHX.out
         clear hy
         go_simp
        simp only [pA, pB, pC, pD]
        refine ty 13 ⟨some 115, _, _, _, _, none⟩ (.agg #[.string hs0, .string (({ data := #[99] } : ByteArray) ++ s), .int .i64 0, .int .i64 (x.clock - (v12 : Int))]) rfl (by rfl) ?_ hS ?_
        ·intro wy hy
         clear hy
         go_simp
        simp only [pA, pB, pC, pD]
        refine rd1 15 ⟨none, _, _, _, _, none⟩ rfl (fun KK hKK => ?_)
        rw [if_pos (by rfl)]
        refine wp_store_mid 57 (.tmp 8) (.tmp 115) (by rfl) ga 0 #[.string hs0, .string (({ data := #[99] } : ByteArray) ++ s), .int .i64 0, .int .i64 (x.clock - (v12 : Int))] (by rfl) (by rfl) HG.out.there isz_Aks (by simp [Value.oneCell']) ?_
        replace HG : Hid (Blk ga #[.string hs0, .string (({ data := #[99] } : ByteArray) ++ s), .int .i64 0, .int .i64 (x.clock - (v12 : Int))] 57 (wn.setCells ga 0 [.string hs0, .string (({ data := #[99] } : ByteArray) ++ s), .int .i64 0, .int .i64 (x.clock - (v12 : Int))])) := HG.out.setAll #[.string hs0, .string (({ data := #[99] } : ByteArray) ++ s), .int .i64 0, .int .i64 (x.clock - (v12 : Int))] rfl
        replace HA : Hid (Blk gA #[.string ⟨#[105, 112]⟩, .string ⟨#[118, 111, 108]⟩, .string ⟨#[118, 111, 108, 50]⟩] 9 (wn.setCells ga 0 [.string hs0, .string (({ data := #[99] } : ByteArray) ++ s), .int .i64 0, .int .i64 (x.clock - (v12 : Int))])) := blk_setCells_other hne _ _ _ HA.out
        replace HI := Hid.intro (HI.out.sets HOT.out 0 [.string hs0, .string (({ data := #[99] } : ByteArray) ++ s), .int .i64 0, .int .i64 (x.clock - (v12 : Int))])
        refine hKK.out _ _ ⟨HI.out.S.blk.cell rfl, HA.out⟩ (fun hS => ?_)
        clear hKK KK
        generalize wn.setCells ga 0 [.string hs0, .string (({ data := #[99] } : ByteArray) ++ s), .int .i64 0, .int .i64 (x.clock - (v12 : Int))] = wn at *
        refine wpAnyH_done (by kernel_rfl) ?_ _
        go_wp2_with fail
        go_meet
        exact ⟨ga, ⟨hs0, ({ data := #[99] } : ByteArray) ++ s, 0, x.clock - (v12 : Int)⟩, rfl, ⟨hhs, by show ByteArray.size _ ≤ 100; rw [ByteArray.size_append, hs]; decide⟩, ⟨by show -20 ≤ x.clock - (v12 : Int); omega, by show x.clock - (v12 : Int) ≤ 60; omega⟩, HG, HOT, HI⟩
     ·skip
      as_aux_lemma =>
      go_simp
      have hba : Below wn.heap.size wn (wn.alloc (.cells #[.string ⟨#[]⟩, .string ⟨#[]⟩, .int .i64 0, .int .i64 0] 57)) := (Below.refl _ _).alloc (Nat.le_refl _) _
      have HG : Hid (Blk wn.heap.size #[.string ⟨#[]⟩, .string ⟨#[]⟩, .int .i64 0, .int .i64 0] 57 (wn.alloc (.cells #[.string ⟨#[]⟩, .string ⟨#[]⟩, .int .i64 0, .int .i64 0] 57))) := Blk.alloc _ _ _
      have HOT := Hid.intro (HI.out.new (Nat.le_refl _))
      replace HI := Hid.intro (HI.out.below hba)
      refine hKK.out _ _ (HI.out.S.blk.cell rfl) (fun hS => ?_)
      clear hKK KK hba
      generalize wn.heap.size = ga at *
      generalize wn.alloc (Obj.cells #[.string ⟨#[]⟩, .string ⟨#[]⟩, .int .i64 0, .int .i64 0] 57) = wn at *
      refine wpAnyH_ready (rs := [0, 6]) (by kernel_rfl) (by simp) (AllReadyH.cons (o := ⟨some 102, _, _, _, _, none⟩) rfl (fun KK hKK => ?_) (AllReadyH.cons (o := ⟨some 108, _, _, _, _, none⟩) rfl (fun KK hKK => ?_) AllReadyH.nil))
      ·skip
       as_aux_lemma =>
       go_simp
       have hba : Below wn.heap.size wn (wn.alloc (.cells #[.string ⟨#[105, 112]⟩, .string ⟨#[118, 111, 108]⟩, .string ⟨#[118, 111, 108, 50]⟩] 9)) := (Below.refl _ _).alloc (Nat.le_refl _) _
       have HA : Hid (Blk wn.heap.size #[.string ⟨#[105, 112]⟩, .string ⟨#[118, 111, 108]⟩, .string ⟨#[118, 111, 108, 50]⟩] 9 (wn.alloc (.cells #[.string ⟨#[105, 112]⟩, .string ⟨#[118, 111, 108]⟩, .string ⟨#[118, 111, 108, 50]⟩] 9))) := Blk.alloc _ _ _
       have hpA : wn.heap.size ≠ p := by have := HI.out.R.lt; omega
       replace HI := Hid.intro (HI.out.below hba)
       have hne : wn.heap.size ≠ ga := by have := HG.out.lt; omega
       replace HG := Hid.intro (HG.out.below hba HG.out.lt)
       skip
       refine hKK.out _ _ (HI.out.S.blk.cell rfl) (fun hS => ?_)
       clear hKK KK hba hS
       generalize wn.heap.size = gA at *
       generalize wn.alloc (Obj.cells #[.string ⟨#[105, 112]⟩, .string ⟨#[118, 111, 108]⟩, .string ⟨#[118, 111, 108, 50]⟩] 9) = wn at *
       refine wpAnyH_mono (S' := fun wy => wy.cell? ⟨pm, 2, none⟩ = some (.int .i64 x.clock) ∧ Blk gA #[.string ⟨#[105, 112]⟩, .string ⟨#[118, 111, 108]⟩, .string ⟨#[118, 111, 108, 50]⟩] 9 wy) (fun _ h => h.1) _ _ _ _ ?_
       have hS : (fun wy => wy.cell? ⟨pm, 2, none⟩ = some (.int .i64 x.clock) ∧ Blk gA #[.string ⟨#[105, 112]⟩, .string ⟨#[118, 111, 108]⟩, .string ⟨#[118, 111, 108, 50]⟩] 9 wy) wn := ⟨HI.out.S.blk.cell rfl, HA.out⟩
       refine ty 2 ⟨some 104, _, _, _, _, none⟩ (.pointer (some ⟨gA, j, none⟩)) rfl (by rfl) ?_ hS ?_
       ·intro wy hy
        clear hy
        first | (go_simp; done) | (go_simp; omega) | (go_simp; intro hh; omega)
       simp only [pA, pB, pC, pD]
       refine ty 3 ⟨some 105, _, _, _, _, none⟩ (.string hs0) rfl (by rfl) ?_ hS ?_
       ·intro wy hy
        have h := id hy
        have h0 := h.2.cell (o := j) (v := .string hs0) HHX.out
        clear hy
        go_simp
       simp only [pA, pB, pC, pD]
       refine rd1 6 ⟨some 108, _, _, _, _, none⟩ rfl (fun KK hKK => ?_)
       go_simp
       refine (dec_any v4 _ (by omega)).mono ?_
       rintro e wn ⟨s, rfl, hs, hb⟩
       replace HA := Hid.intro (HA.out.below hb HA.out.lt)
       replace HG := Hid.intro (HG.out.below hb HG.out.lt)
       replace HI := Hid.intro (HI.out.below hb)
       refine hKK.out _ _ ⟨HI.out.S.blk.cell rfl, HA.out⟩ (fun hS => ?_)
       clear hKK KK hb
       refine ty 7 ⟨some 109, _, _, _, _, none⟩ (.string (({ data := #[99] } : ByteArray) ++ s)) rfl (by rfl) ?_ hS ?_
       ·intro wy hy
        clear hy
        go_simp
       simp only [pA, pB, pC, pD]
       refine rd1 11 ⟨some 113, _, _, _, _, none⟩ rfl (fun KK hKK => ?_)
       go_simp
       refine (pick_rd p (K + 1) 12 _ HI.out.R (by omega) (by omega) (by omega)).mono ?_
       rintro e wn ⟨v12, rfl, hv12, hr, hb, -⟩
       replace HA := Hid.intro (HA.out.bt hb HA.out.lt hpA)
       replace HG := Hid.intro (HG.out.bt hb HG.out.lt (by have := HI.out.hp; have := HOT.out.nw; omega))
       replace HI := Hid.intro (HI.out.bt hb hr)
       refine hKK.out _ _ ⟨HI.out.S.blk.cell rfl, HA.out⟩ (fun hS => ?_)
       clear hKK KK hb hr
       refine ty 12 ⟨some 114, _, _, _, _, none⟩ (.int .i64 (x.clock - (v12 : Int))) rfl (by rfl) ?_ hS ?_
       ·intro wy hy
        clear hy
        first | (go_simp; done) | (go_simp; rw [IntKind.wrap_i64]; omega) | (go_simp; omega)
       simp only [pA, pB, pC, pD]
       refine ty 13 ⟨some 115, _, _, _, _, none⟩ (.agg #[.string hs0, .string (({ data := #[99] } : ByteArray) ++ s), .int .i64 0, .int .i64 (x.clock - (v12 : Int))]) rfl (by rfl) ?_ hS ?_
       ·intro wy hy
        clear hy
        go_simp
       simp only [pA, pB, pC, pD]
       refine rd1 15 ⟨none, _, _, _, _, none⟩ rfl (fun KK hKK => ?_)
       rw [if_pos (by rfl)]
       refine wp_store_mid 57 (.tmp 8) (.tmp 115) (by rfl) ga 0 #[.string hs0, .string (({ data := #[99] } : ByteArray) ++ s), .int .i64 0, .int .i64 (x.clock - (v12 : Int))] (by rfl) (by rfl) HG.out.there isz_Aks (by simp [Value.oneCell']) ?_
       replace HG : Hid (Blk ga #[.string hs0, .string (({ data := #[99] } : ByteArray) ++ s), .int .i64 0, .int .i64 (x.clock - (v12 : Int))] 57 (wn.setCells ga 0 [.string hs0, .string (({ data := #[99] } : ByteArray) ++ s), .int .i64 0, .int .i64 (x.clock - (v12 : Int))])) := HG.out.setAll #[.string hs0, .string (({ data := #[99] } : ByteArray) ++ s), .int .i64 0, .int .i64 (x.clock - (v12 : Int))] rfl
       replace HA : Hid (Blk gA #[.string ⟨#[105, 112]⟩, .string ⟨#[118, 111, 108]⟩, .string ⟨#[118, 111, 108, 50]⟩] 9 (wn.setCells ga 0 [.string hs0, .string (({ data := #[99] } : ByteArray) ++ s), .int .i64 0, .int .i64 (x.clock - (v12 : Int))])) := blk_setCells_other hne _ _ _ HA.out
       replace HI := Hid.intro (HI.out.sets HOT.out 0 [.string hs0, .string (({ data := #[99] } : ByteArray) ++ s), .int .i64 0, .int .i64 (x.clock - (v12 : Int))])
       refine hKK.out _ _ ⟨HI.out.S.blk.cell rfl, HA.out⟩ (fun hS => ?_)
       clear hKK KK
       generalize wn.setCells ga 0 [.string hs0, .string (({ data := #[99] } : ByteArray) ++ s), .int .i64 0, .int .i64 (x.clock - (v12 : Int))] = wn at *
       refine wpAnyH_done (by kernel_rfl) ?_ _
       go_wp2_with fail
       go_meet
       exact ⟨ga, ⟨hs0, ({ data := #[99] } : ByteArray) ++ s, 0, x.clock - (v12 : Int)⟩, rfl, ⟨hhs, by show ByteArray.size _ ≤ 100; rw [ByteArray.size_append, hs]; decide⟩, ⟨by show -20 ≤ x.clock - (v12 : Int); omega, by show x.clock - (v12 : Int) ≤ 60; omega⟩, HG, HOT, HI⟩
      ·skip
       as_aux_lemma =>
       go_simp
       refine (dec_any v4 _ (by omega)).mono ?_
       rintro e wn ⟨s, rfl, hs, hb⟩
       replace HG := Hid.intro (HG.out.below hb HG.out.lt)
       replace HI := Hid.intro (HI.out.below hb)
       refine hKK.out _ _ (HI.out.S.blk.cell rfl) (fun hS => ?_)
       clear hKK KK hb
       refine ty 7 ⟨some 109, _, _, _, _, none⟩ (.string (({ data := #[99] } : ByteArray) ++ s)) rfl (by rfl) ?_ hS ?_
       ·intro wy hy
        clear hy
        go_simp
       simp only [pA, pB, pC, pD]
       refine wpAnyH_ready (rs := [0, 11]) (by kernel_rfl) (by simp) (AllReadyH.cons (o := ⟨some 102, _, _, _, _, none⟩) rfl (fun KK hKK => ?_) (AllReadyH.cons (o := ⟨some 113, _, _, _, _, none⟩) rfl (fun KK hKK => ?_) AllReadyH.nil))
       ·skip
        as_aux_lemma =>
        go_simp
        have hba : Below wn.heap.size wn (wn.alloc (.cells #[.string ⟨#[105, 112]⟩, .string ⟨#[118, 111, 108]⟩, .string ⟨#[118, 111, 108, 50]⟩] 9)) := (Below.refl _ _).alloc (Nat.le_refl _) _
        have HA : Hid (Blk wn.heap.size #[.string ⟨#[105, 112]⟩, .string ⟨#[118, 111, 108]⟩, .string ⟨#[118, 111, 108, 50]⟩] 9 (wn.alloc (.cells #[.string ⟨#[105, 112]⟩, .string ⟨#[118, 111, 108]⟩, .string ⟨#[118, 111, 108, 50]⟩] 9))) := Blk.alloc _ _ _
        have hpA : wn.heap.size ≠ p := by have := HI.out.R.lt; omega
        replace HI := Hid.intro (HI.out.below hba)
        have hne : wn.heap.size ≠ ga := by have := HG.out.lt; omega
        replace HG := Hid.intro (HG.out.below hba HG.out.lt)
        skip
        refine hKK.out _ _ (HI.out.S.blk.cell rfl) (fun hS => ?_)
        clear hKK KK hba hS
        generalize wn.heap.size = gA at *
        generalize wn.alloc (Obj.cells #[.string ⟨#[105, 112]⟩, .string ⟨#[118, 111, 108]⟩, .string ⟨#[118, 111, 108, 50]⟩] 9) = wn at *
        refine wpAnyH_mono (S' := fun wy => wy.cell? ⟨pm, 2, none⟩ = some (.int .i64 x.clock) ∧ Blk gA #[.string ⟨#[105, 112]⟩, .string ⟨#[118, 111, 108]⟩, .string ⟨#[118, 111, 108, 50]⟩] 9 wy) (fun _ h => h.1) _ _ _ _ ?_
        have hS : (fun wy => wy.cell? ⟨pm, 2, none⟩ = some (.int .i64 x.clock) ∧ Blk gA #[.string ⟨#[105, 112]⟩, .string ⟨#[118, 111, 108]⟩, .string ⟨#[118, 111, 108, 50]⟩] 9 wy) wn := ⟨HI.out.S.blk.cell rfl, HA.out⟩
        refine ty 2 ⟨some 104, _, _, _, _, none⟩ (.pointer (some ⟨gA, j, none⟩)) rfl (by rfl) ?_ hS ?_
        ·intro wy hy
         clear hy
         first | (go_simp; done) | (go_simp; omega) | (go_simp; intro hh; omega)
        simp only [pA, pB, pC, pD]
        refine ty 3 ⟨some 105, _, _, _, _, none⟩ (.string hs0) rfl (by rfl) ?_ hS ?_
        ·intro wy hy
         have h := id hy
         have h0 := h.2.cell (o := j) (v := .string hs0) HHX.out
         clear hy
         go_simp
        simp only [pA, pB, pC, pD]
        refine rd1 11 ⟨some 113, _, _, _, _, none⟩ rfl (fun KK hKK => ?_)
        go_simp
        refine (pick_rd p (K + 1) 12 _ HI.out.R (by omega) (by omega) (by omega)).mono ?_
        rintro e wn ⟨v12, rfl, hv12, hr, hb, -⟩
        replace HA := Hid.intro (HA.out.bt hb HA.out.lt hpA)
        replace HG := Hid.intro (HG.out.bt hb HG.out.lt (by have := HI.out.hp; have := HOT.out.nw; omega))
        replace HI := Hid.intro (HI.out.bt hb hr)
        refine hKK.out _ _ ⟨HI.out.S.blk.cell rfl, HA.out⟩ (fun hS => ?_)
        clear hKK KK hb hr
        refine ty 12 ⟨some 114, _, _, _, _, none⟩ (.int .i64 (x.clock - (v12 : Int))) rfl (by rfl) ?_ hS ?_
        ·intro wy hy
         clear hy
         first | (go_simp; done) | (go_simp; rw [IntKind.wrap_i64]; omega) | (go_simp; omega)
        simp only [pA, pB, pC, pD]
        refine ty 13 ⟨some 115, _, _, _, _, none⟩ (.agg #[.string hs0, .string (({ data := #[99] } : ByteArray) ++ s), .int .i64 0, .int .i64 (x.clock - (v12 : Int))]) rfl (by rfl) ?_ hS ?_
        ·intro wy hy
         clear hy
         go_simp
        simp only [pA, pB, pC, pD]
        refine rd1 15 ⟨none, _, _, _, _, none⟩ rfl (fun KK hKK => ?_)
        rw [if_pos (by rfl)]
        refine wp_store_mid 57 (.tmp 8) (.tmp 115) (by rfl) ga 0 #[.string hs0, .string (({ data := #[99] } : ByteArray) ++ s), .int .i64 0, .int .i64 (x.clock - (v12 : Int))] (by rfl) (by rfl) HG.out.there isz_Aks (by simp [Value.oneCell']) ?_
        replace HG : Hid (Blk ga #[.string hs0, .string (({ data := #[99] } : ByteArray) ++ s), .int .i64 0, .int .i64 (x.clock - (v12 : Int))] 57 (wn.setCells ga 0 [.string hs0, .string (({ data := #[99] } : ByteArray) ++ s), .int .i64 0, .int .i64 (x.clock - (v12 : Int))])) := HG.out.setAll #[.string hs0, .string (({ data := #[99] } : ByteArray) ++ s), .int .i64 0, .int .i64 (x.clock - (v12 : Int))] rfl
        replace HA : Hid (Blk gA #[.string ⟨#[105, 112]⟩, .string ⟨#[118, 111, 108]⟩, .string ⟨#[118, 111, 108, 50]⟩] 9 (wn.setCells ga 0 [.string hs0, .string (({ data := #[99] } : ByteArray) ++ s), .int .i64 0, .int .i64 (x.clock - (v12 : Int))])) := blk_setCells_other hne _ _ _ HA.out
        replace HI := Hid.intro (HI.out.sets HOT.out 0 [.string hs0, .string (({ data := #[99] } : ByteArray) ++ s), .int .i64 0, .int .i64 (x.clock - (v12 : Int))])
        refine hKK.out _ _ ⟨HI.out.S.blk.cell rfl, HA.out⟩ (fun hS => ?_)
        clear hKK KK
        generalize wn.setCells ga 0 [.string hs0, .string (({ data := #[99] } : ByteArray) ++ s), .int .i64 0, .int .i64 (x.clock - (v12 : Int))] = wn at *
        refine wpAnyH_done (by kernel_rfl) ?_ _
        go_wp2_with fail
        go_meet
        exact ⟨ga, ⟨hs0, ({ data := #[99] } : ByteArray) ++ s, 0, x.clock - (v12 : Int)⟩, rfl, ⟨hhs, by show ByteArray.size _ ≤ 100; rw [ByteArray.size_append, hs]; decide⟩, ⟨by show -20 ≤ x.clock - (v12 : Int); omega, by show x.clock - (v12 : Int) ≤ 60; omega⟩, HG, HOT, HI⟩
       ·skip
        as_aux_lemma =>
        go_simp
        refine (pick_rd p (K + 1) 12 _ HI.out.R (by omega) (by omega) (by omega)).mono ?_
        rintro e wn ⟨v12, rfl, hv12, hr, hb, -⟩
        replace HG := Hid.intro (HG.out.bt hb HG.out.lt (by have := HI.out.hp; have := HOT.out.nw; omega))
        replace HI := Hid.intro (HI.out.bt hb hr)
        refine hKK.out _ _ (HI.out.S.blk.cell rfl) (fun hS => ?_)
        clear hKK KK hb hr
        refine ty 12 ⟨some 114, _, _, _, _, none⟩ (.int .i64 (x.clock - (v12 : Int))) rfl (by rfl) ?_ hS ?_
        ·intro wy hy
         clear hy
         first | (go_simp; done) | (go_simp; rw [IntKind.wrap_i64]; omega) | (go_simp; omega)
        simp only [pA, pB, pC, pD]
        refine rd1 0 ⟨some 102, _, _, _, _, none⟩ rfl (fun KK hKK => ?_)
        go_simp
        have hba : Below wn.heap.size wn (wn.alloc (.cells #[.string ⟨#[105, 112]⟩, .string ⟨#[118, 111, 108]⟩, .string ⟨#[118, 111, 108, 50]⟩] 9)) := (Below.refl _ _).alloc (Nat.le_refl _) _
        have HA : Hid (Blk wn.heap.size #[.string ⟨#[105, 112]⟩, .string ⟨#[118, 111, 108]⟩, .string ⟨#[118, 111, 108, 50]⟩] 9 (wn.alloc (.cells #[.string ⟨#[105, 112]⟩, .string ⟨#[118, 111, 108]⟩, .string ⟨#[118, 111, 108, 50]⟩] 9))) := Blk.alloc _ _ _
        have hpA : wn.heap.size ≠ p := by have := HI.out.R.lt; omega
        replace HI := Hid.intro (HI.out.below hba)
        have hne : wn.heap.size ≠ ga := by have := HG.out.lt; omega
        replace HG := Hid.intro (HG.out.below hba HG.out.lt)
        skip
        refine hKK.out _ _ (HI.out.S.blk.cell rfl) (fun hS => ?_)
        clear hKK KK hba hS
        generalize wn.heap.size = gA at *
        generalize wn.alloc (Obj.cells #[.string ⟨#[105, 112]⟩, .string ⟨#[118, 111, 108]⟩, .string ⟨#[118, 111, 108, 50]⟩] 9) = wn at *
        refine wpAnyH_mono (S' := fun wy => wy.cell? ⟨pm, 2, none⟩ = some (.int .i64 x.clock) ∧ Blk gA #[.string ⟨#[105, 112]⟩, .string ⟨#[118, 111, 108]⟩, .string ⟨#[118, 111, 108, 50]⟩] 9 wy) (fun _ h => h.1) _ _ _ _ ?_
        have hS : (fun wy => wy.cell? ⟨pm, 2, none⟩ = some (.int .i64 x.clock) ∧ Blk gA #[.string ⟨#[105, 112]⟩, .string ⟨#[118, 111, 108]⟩, .string ⟨#[118, 111, 108, 50]⟩] 9 wy) wn := ⟨HI.out.S.blk.cell rfl, HA.out⟩
        refine ty 2 ⟨some 104, _, _, _, _, none⟩ (.pointer (some ⟨gA, j, none⟩)) rfl (by rfl) ?_ hS ?_
        ·intro wy hy
         clear hy
         first | (go_simp; done) | (go_simp; omega) | (go_simp; intro hh; omega)
        simp only [pA, pB, pC, pD]
        refine ty 3 ⟨some 105, _, _, _, _, none⟩ (.string hs0) rfl (by rfl) ?_ hS ?_
        ·intro wy hy
         have h := id hy
         have h0 := h.2.cell (o := j) (v := .string hs0) HHX.out
         clear hy
         go_simp
        simp only [pA, pB, pC, pD]
        refine ty 13 ⟨some 115, _, _, _, _, none⟩ (.agg #[.string hs0, .string (({ data := #[99] } : ByteArray) ++ s), .int .i64 0, .int .i64 (x.clock - (v12 : Int))]) rfl (by rfl) ?_ hS ?_
        ·intro wy hy
         clear hy
         go_simp
        simp only [pA, pB, pC, pD]
        refine rd1 15 ⟨none, _, _, _, _, none⟩ rfl (fun KK hKK => ?_)
        rw [if_pos (by rfl)]
        refine wp_store_mid 57 (.tmp 8) (.tmp 115) (by rfl) ga 0 #[.string hs0, .string (({ data := #[99] } : ByteArray) ++ s), .int .i64 0, .int .i64 (x.clock - (v12 : Int))] (by rfl) (by rfl) HG.out.there isz_Aks (by simp [Value.oneCell']) ?_
        replace HG : Hid (Blk ga #[.string hs0, .string (({ data := #[99] } : ByteArray) ++ s), .int .i64 0, .int .i64 (x.clock - (v12 : Int))] 57 (wn.setCells ga 0 [.string hs0, .string (({ data := #[99] } : ByteArray) ++ s), .int .i64 0, .int .i64 (x.clock - (v12 : Int))])) := HG.out.setAll #[.string hs0, .string (({ data := #[99] } : ByteArray) ++ s), .int .i64 0, .int .i64 (x.clock - (v12 : Int))] rfl
        replace HA : Hid (Blk gA #[.string ⟨#[105, 112]⟩, .string ⟨#[118, 111, 108]⟩, .string ⟨#[118, 111, 108, 50]⟩] 9 (wn.setCells ga 0 [.string hs0, .string (({ data := #[99] } : ByteArray) ++ s), .int .i64 0, .int .i64 (x.clock - (v12 : Int))])) := blk_setCells_other hne _ _ _ HA.out
        replace HI := Hid.intro (HI.out.sets HOT.out 0 [.string hs0, .string (({ data := #[99] } : ByteArray) ++ s), .int .i64 0, .int .i64 (x.clock - (v12 : Int))])
        refine hKK.out _ _ ⟨HI.out.S.blk.cell rfl, HA.out⟩ (fun hS => ?_)
        clear hKK KK
        generalize wn.setCells ga 0 [.string hs0, .string (({ data := #[99] } : ByteArray) ++ s), .int .i64 0, .int .i64 (x.clock - (v12 : Int))] = wn at *
        refine wpAnyH_done (by kernel_rfl) ?_ _
        go_wp2_with fail
        go_meet
        exact ⟨ga, ⟨hs0, ({ data := #[99] } : ByteArray) ++ s, 0, x.clock - (v12 : Int)⟩, rfl, ⟨hhs, by show ByteArray.size _ ≤ 100; rw [ByteArray.size_append, hs]; decide⟩, ⟨by show -20 ≤ x.clock - (v12 : Int); omega, by show x.clock - (v12 : Int) ≤ 60; omega⟩, HG, HOT, HI⟩
    ·skip
     as_aux_lemma =>
     go_simp
     have hba : Below wn.heap.size wn (wn.alloc (.cells #[.string ⟨#[]⟩, .string ⟨#[]⟩, .int .i64 0, .int .i64 0] 57)) := (Below.refl _ _).alloc (Nat.le_refl _) _
     have HG : Hid (Blk wn.heap.size #[.string ⟨#[]⟩, .string ⟨#[]⟩, .int .i64 0, .int .i64 0] 57 (wn.alloc (.cells #[.string ⟨#[]⟩, .string ⟨#[]⟩, .int .i64 0, .int .i64 0] 57))) := Blk.alloc _ _ _
     have HOT := Hid.intro (HI.out.new (Nat.le_refl _))
     replace HI := Hid.intro (HI.out.below hba)
     refine hKK.out _ _ (HI.out.S.blk.cell rfl) (fun hS => ?_)
     clear hKK KK hba
     generalize wn.heap.size = ga at *
     generalize wn.alloc (Obj.cells #[.string ⟨#[]⟩, .string ⟨#[]⟩, .int .i64 0, .int .i64 0] 57) = wn at *
     refine wpAnyH_ready (rs := [0, 5]) (by kernel_rfl) (by simp) (AllReadyH.cons (o := ⟨some 102, _, _, _, _, none⟩) rfl (fun KK hKK => ?_) (AllReadyH.cons (o := ⟨some 107, _, _, _, _, none⟩) rfl (fun KK hKK => ?_) AllReadyH.nil))
     ·skip
      as_aux_lemma =>
      go_simp
      have hba : Below wn.heap.size wn (wn.alloc (.cells #[.string ⟨#[105, 112]⟩, .string ⟨#[118, 111, 108]⟩, .string ⟨#[118, 111, 108, 50]⟩] 9)) := (Below.refl _ _).alloc (Nat.le_refl _) _
      have HA : Hid (Blk wn.heap.size #[.string ⟨#[105, 112]⟩, .string ⟨#[118, 111, 108]⟩, .string ⟨#[118, 111, 108, 50]⟩] 9 (wn.alloc (.cells #[.string ⟨#[105, 112]⟩, .string ⟨#[118, 111, 108]⟩, .string ⟨#[118, 111, 108, 50]⟩] 9))) := Blk.alloc _ _ _
      have hpA : wn.heap.size ≠ p := by have := HI.out.R.lt; omega
      replace HI := Hid.intro (HI.out.below hba)
      have hne : wn.heap.size ≠ ga := by have := HG.out.lt; omega
      replace HG := Hid.intro (HG.out.below hba HG.out.lt)
      skip
      refine hKK.out _ _ (HI.out.S.blk.cell rfl) (fun hS => ?_)
      clear hKK KK hba hS
      generalize wn.heap.size = gA at *
      generalize wn.alloc (Obj.cells #[.string ⟨#[105, 112]⟩, .string ⟨#[118, 111, 108]⟩, .string ⟨#[118, 111, 108, 50]⟩] 9) = wn at *
      refine wpAnyH_mono (S' := fun wy => wy.cell? ⟨pm, 2, none⟩ = some (.int .i64 x.clock) ∧ Blk gA #[.string ⟨#[105, 112]⟩, .string ⟨#[118, 111, 108]⟩, .string ⟨#[118, 111, 108, 50]⟩] 9 wy) (fun _ h => h.1) _ _ _ _ ?_
      have hS : (fun wy => wy.cell? ⟨pm, 2, none⟩ = some (.int .i64 x.clock) ∧ Blk gA #[.string ⟨#[105, 112]⟩, .string ⟨#[118, 111, 108]⟩, .string ⟨#[118, 111, 108, 50]⟩] 9 wy) wn := ⟨HI.out.S.blk.cell rfl, HA.out⟩
      refine ty 2 ⟨some 104, _, _, _, _, none⟩ (.pointer (some ⟨gA, j, none⟩)) rfl (by rfl) ?_ hS ?_
      ·intro wy hy
       clear hy
       first | (go_simp; done) | (go_simp; omega) | (go_simp; intro hh; omega)
      simp only [pA, pB, pC, pD]
      refine ty 3 ⟨some 105, _, _, _, _, none⟩ (.string hs0) rfl (by rfl) ?_ hS ?_
      ·intro wy hy
       have h := id hy
       have h0 := h.2.cell (o := j) (v := .string hs0) HHX.out
       clear hy
       go_simp
      simp only [pA, pB, pC, pD]
      refine rd1 5 ⟨some 107, _, _, _, _, none⟩ rfl (fun KK hKK => ?_)
      go_simp
      refine (pick_rd p (K) 4 _ HI.out.R (by omega) (by omega) (by omega)).mono ?_
      rintro e wn ⟨v4, rfl, hv4, hr, hb, -⟩
      replace HA := Hid.intro (HA.out.bt hb HA.out.lt hpA)
      replace HG := Hid.intro (HG.out.bt hb HG.out.lt (by have := HI.out.hp; have := HOT.out.nw; omega))
      replace HI := Hid.intro (HI.out.bt hb hr)
      refine hKK.out _ _ ⟨HI.out.S.blk.cell rfl, HA.out⟩ (fun hS => ?_)
      clear hKK KK hb hr
      refine rd1 6 ⟨some 108, _, _, _, _, none⟩ rfl (fun KK hKK => ?_)
      go_simp
      refine (dec_any v4 _ (by omega)).mono ?_
      rintro e wn ⟨s, rfl, hs, hb⟩
      replace HA := Hid.intro (HA.out.below hb HA.out.lt)
      replace HG := Hid.intro (HG.out.below hb HG.out.lt)
      replace HI := Hid.intro (HI.out.below hb)
      refine hKK.out _ _ ⟨HI.out.S.blk.cell rfl, HA.out⟩ (fun hS => ?_)
      clear hKK KK hb
      refine ty 7 ⟨some 109, _, _, _, _, none⟩ (.string (({ data := #[99] } : ByteArray) ++ s)) rfl (by rfl) ?_ hS ?_
      ·intro wy hy
       clear hy
       go_simp
      simp only [pA, pB, pC, pD]
      refine rd1 11 ⟨some 113, _, _, _, _, none⟩ rfl (fun KK hKK => ?_)
      go_simp
      refine (pick_rd p (K + 1) 12 _ HI.out.R (by omega) (by omega) (by omega)).mono ?_
      rintro e wn ⟨v12, rfl, hv12, hr, hb, -⟩
      replace HA := Hid.intro (HA.out.bt hb HA.out.lt hpA)
      replace HG := Hid.intro (HG.out.bt hb HG.out.lt (by have := HI.out.hp; have := HOT.out.nw; omega))
      replace HI := Hid.intro (HI.out.bt hb hr)
      refine hKK.out _ _ ⟨HI.out.S.blk.cell rfl, HA.out⟩ (fun hS => ?_)
      clear hKK KK hb hr
      refine ty 12 ⟨some 114, _, _, _, _, none⟩ (.int .i64 (x.clock - (v12 : Int))) rfl (by rfl) ?_ hS ?_
      ·intro wy hy
       clear hy
       first | (go_simp; done) | (go_simp; rw [IntKind.wrap_i64]; omega) | (go_simp; omega)
      simp only [pA, pB, pC, pD]
      refine ty 13 ⟨some 115, _, _, _, _, none⟩ (.agg #[.string hs0, .string (({ data := #[99] } : ByteArray) ++ s), .int .i64 0, .int .i64 (x.clock - (v12 : Int))]) rfl (by rfl) ?_ hS ?_
      ·intro wy hy
       clear hy
       go_simp
      simp only [pA, pB, pC, pD]
      refine rd1 15 ⟨none, _, _, _, _, none⟩ rfl (fun KK hKK => ?_)
      rw [if_pos (by rfl)]
      refine wp_store_mid 57 (.tmp 8) (.tmp 115) (by rfl) ga 0 #[.string hs0, .string (({ data := #[99] } : ByteArray) ++ s), .int .i64 0, .int .i64 (x.clock - (v12 : Int))] (by rfl) (by rfl) HG.out.there isz_Aks (by simp [Value.oneCell']) ?_
      replace HG : Hid (Blk ga #[.string hs0, .string (({ data := #[99] } : ByteArray) ++ s), .int .i64 0, .int .i64 (x.clock - (v12 : Int))] 57 (wn.setCells ga 0 [.string hs0, .string (({ data := #[99] } : ByteArray) ++ s), .int .i64 0, .int .i64 (x.clock - (v12 : Int))])) := HG.out.setAll #[.string hs0, .string (({ data := #[99] } : ByteArray) ++ s), .int .i64 0, .int .i64 (x.clock - (v12 : Int))] rfl
      replace HA : Hid (Blk gA #[.string ⟨#[105, 112]⟩, .string ⟨#[118, 111, 108]⟩, .string ⟨#[118, 111, 108, 50]⟩] 9 (wn.setCells ga 0 [.string hs0, .string (({ data := #[99] } : ByteArray) ++ s), .int .i64 0, .int .i64 (x.clock - (v12 : Int))])) := blk_setCells_other hne _ _ _ HA.out
      replace HI := Hid.intro (HI.out.sets HOT.out 0 [.string hs0, .string (({ data := #[99] } : ByteArray) ++ s), .int .i64 0, .int .i64 (x.clock - (v12 : Int))])
      refine hKK.out _ _ ⟨HI.out.S.blk.cell rfl, HA.out⟩ (fun hS => ?_)
      clear hKK KK
      generalize wn.setCells ga 0 [.string hs0, .string (({ data := #[99] } : ByteArray) ++ s), .int .i64 0, .int .i64 (x.clock - (v12 : Int))] = wn at *
      refine wpAnyH_done (by kernel_rfl) ?_ _
      go_wp2_with fail
      go_meet
      exact ⟨ga, ⟨hs0, ({ data := #[99] } : ByteArray) ++ s, 0, x.clock - (v12 : Int)⟩, rfl, ⟨hhs, by show ByteArray.size _ ≤ 100; rw [ByteArray.size_append, hs]; decide⟩, ⟨by show -20 ≤ x.clock - (v12 : Int); omega, by show x.clock - (v12 : Int) ≤ 60; omega⟩, HG, HOT, HI⟩
     ·skip
      as_aux_lemma =>
      go_simp
      refine (pick_rd p (K) 4 _ HI.out.R (by omega) (by omega) (by omega)).mono ?_
      rintro e wn ⟨v4, rfl, hv4, hr, hb, -⟩
      replace HG := Hid.intro (HG.out.bt hb HG.out.lt (by have := HI.out.hp; have := HOT.out.nw; omega))
      replace HI := Hid.intro (HI.out.bt hb hr)
      refine hKK.out _ _ (HI.out.S.blk.cell rfl) (fun hS => ?_)
      clear hKK KK hb hr
      refine wpAnyH_ready (rs := [0, 6]) (by kernel_rfl) (by simp) (AllReadyH.cons (o := ⟨some 102, _, _, _, _, none⟩) rfl (fun KK hKK => ?_) (AllReadyH.cons (o := ⟨some 108, _, _, _, _, none⟩) rfl (fun KK hKK => ?_) AllReadyH.nil))
      ·skip
       as_aux_lemma =>
       go_simp
       have hba : Below wn.heap.size wn (wn.alloc (.cells #[.string ⟨#[105, 112]⟩, .string ⟨#[118, 111, 108]⟩, .string ⟨#[118, 111, 108, 50]⟩] 9)) := (Below.refl _ _).alloc (Nat.le_refl _) _
       have HA : Hid (Blk wn.heap.size #[.string ⟨#[105, 112]⟩, .string ⟨#[118, 111, 108]⟩, .string ⟨#[118, 111, 108, 50]⟩] 9 (wn.alloc (.cells #[.string ⟨#[105, 112]⟩, .string ⟨#[118, 111, 108]⟩, .string ⟨#[118, 111, 108, 50]⟩] 9))) := Blk.alloc _ _ _
       have hpA : wn.heap.size ≠ p := by have := HI.out.R.lt; omega
       replace HI := Hid.intro (HI.out.below hba)
       have hne : wn.heap.size ≠ ga := by have := HG.out.lt; omega
       replace HG := Hid.intro (HG.out.below hba HG.out.lt)
       skip
       refine hKK.out _ _ (HI.out.S.blk.cell rfl) (fun hS => ?_)
       clear hKK KK hba hS
       generalize wn.heap.size = gA at *
       generalize wn.alloc (Obj.cells #[.string ⟨#[105, 112]⟩, .string ⟨#[118, 111, 108]⟩, .string ⟨#[118, 111, 108, 50]⟩] 9) = wn at *
       refine wpAnyH_mono (S' := fun wy => wy.cell? ⟨pm, 2, none⟩ = some (.int .i64 x.clock) ∧ Blk gA #[.string ⟨#[105, 112]⟩, .string ⟨#[118, 111, 108]⟩, .string ⟨#[118, 111, 108, 50]⟩] 9 wy) (fun _ h => h.1) _ _ _ _ ?_
       have hS : (fun wy => wy.cell? ⟨pm, 2, none⟩ = some (.int .i64 x.clock) ∧ Blk gA #[.string ⟨#[105, 112]⟩, .string ⟨#[118, 111, 108]⟩, .string ⟨#[118, 111, 108, 50]⟩] 9 wy) wn := ⟨HI.out.S.blk.cell rfl, HA.out⟩
       refine ty 2 ⟨some 104, _, _, _, _, none⟩ (.pointer (some ⟨gA, j, none⟩)) rfl (by rfl) ?_ hS ?_
       ·intro wy hy
        clear hy
        first | (go_simp; done) | (go_simp; omega) | (go_simp; intro hh; omega)
       simp only [pA, pB, pC, pD]
       refine ty 3 ⟨some 105, _, _, _, _, none⟩ (.string hs0) rfl (by rfl) ?_ hS ?_
       ·intro wy hy
        have h := id hy
        have h0 := h.2.cell (o := j) (v := .string hs0) HHX.out
        clear hy
        go_simp
       simp only [pA, pB, pC, pD]
       refine rd1 6 ⟨some 108, _, _, _, _, none⟩ rfl (fun KK hKK => ?_)
       go_simp
       refine (dec_any v4 _ (by omega)).mono ?_
       rintro e wn ⟨s, rfl, hs, hb⟩
       replace HA := Hid.intro (HA.out.below hb HA.out.lt)
       replace HG := Hid.intro (HG.out.below hb HG.out.lt)
       replace HI := Hid.intro (HI.out.below hb)
       refine hKK.out _ _ ⟨HI.out.S.blk.cell rfl, HA.out⟩ (fun hS => ?_)
       clear hKK KK hb
       refine ty 7 ⟨some 109, _, _, _, _, none⟩ (.string (({ data := #[99] } : ByteArray) ++ s)) rfl (by rfl) ?_ hS ?_
       ·intro wy hy
        clear hy
        go_simp
       simp only [pA, pB, pC, pD]
       refine rd1 11 ⟨some 113, _, _, _, _, none⟩ rfl (fun KK hKK => ?_)
       go_simp
       refine (pick_rd p (K + 1) 12 _ HI.out.R (by omega) (by omega) (by omega)).mono ?_
       rintro e wn ⟨v12, rfl, hv12, hr, hb, -⟩
       replace HA := Hid.intro (HA.out.bt hb HA.out.lt hpA)
       replace HG := Hid.intro (HG.out.bt hb HG.out.lt (by have := HI.out.hp; have := HOT.out.nw; omega))
       replace HI := Hid.intro (HI.out.bt hb hr)
       refine hKK.out _ _ ⟨HI.out.S.blk.cell rfl, HA.out⟩ (fun hS => ?_)
       clear hKK KK hb hr
       refine ty 12 ⟨some 114, _, _, _, _, none⟩ (.int .i64 (x.clock - (v12 : Int))) rfl (by rfl) ?_ hS ?_
       ·intro wy hy
        clear hy
        first | (go_simp; done) | (go_simp; rw [IntKind.wrap_i64]; omega) | (go_simp; omega)
       simp only [pA, pB, pC, pD]
       refine ty 13 ⟨some 115, _, _, _, _, none⟩ (.agg #[.string hs0, .string (({ data := #[99] } : ByteArray) ++ s), .int .i64 0, .int .i64 (x.clock - (v12 : Int))]) rfl (by rfl) ?_ hS ?_
       ·intro wy hy
        clear hy
        go_simp
       simp only [pA, pB, pC, pD]
       refine rd1 15 ⟨none, _, _, _, _, none⟩ rfl (fun KK hKK => ?_)
       rw [if_pos (by rfl)]
       refine wp_store_mid 57 (.tmp 8) (.tmp 115) (by rfl) ga 0 #[.string hs0, .string (({ data := #[99] } : ByteArray) ++ s), .int .i64 0, .int .i64 (x.clock - (v12 : Int))] (by rfl) (by rfl) HG.out.there isz_Aks (by simp [Value.oneCell']) ?_
       replace HG : Hid (Blk ga #[.string hs0, .string (({ data := #[99] } : ByteArray) ++ s), .int .i64 0, .int .i64 (x.clock - (v12 : Int))] 57 (wn.setCells ga 0 [.string hs0, .string (({ data := #[99] } : ByteArray) ++ s), .int .i64 0, .int .i64 (x.clock - (v12 : Int))])) := HG.out.setAll #[.string hs0, .string (({ data := #[99] } : ByteArray) ++ s), .int .i64 0, .int .i64 (x.clock - (v12 : Int))] rfl
       replace HA : Hid (Blk gA #[.string ⟨#[105, 112]⟩, .string ⟨#[118, 111, 108]⟩, .string ⟨#[118, 111, 108, 50]⟩] 9 (wn.setCells ga 0 [.string hs0, .string (({ data := #[99] } : ByteArray) ++ s), .int .i64 0, .int .i64 (x.clock - (v12 : Int))])) := blk_setCells_other hne _ _ _ HA.out
       replace HI := Hid.intro (HI.out.sets HOT.out 0 [.string hs0, .string (({ data := #[99] } : ByteArray) ++ s), .int .i64 0, .int .i64 (x.clock - (v12 : Int))])
       refine hKK.out _ _ ⟨HI.out.S.blk.cell rfl, HA.out⟩ (fun hS => ?_)
       clear hKK KK
       generalize wn.setCells ga 0 [.string hs0, .string (({ data := #[99] } : ByteArray) ++ s), .int .i64 0, .int .i64 (x.clock - (v12 : Int))] = wn at *
       refine wpAnyH_done (by kernel_rfl) ?_ _
       go_wp2_with fail
       go_meet
       exact ⟨ga, ⟨hs0, ({ data := #[99] } : ByteArray) ++ s, 0, x.clock - (v12 : Int)⟩, rfl, ⟨hhs, by show ByteArray.size _ ≤ 100; rw [ByteArray.size_append, hs]; decide⟩, ⟨by show -20 ≤ x.clock - (v12 : Int); omega, by show x.clock - (v12 : Int) ≤ 60; omega⟩, HG, HOT, HI⟩
      ·skip
       as_aux_lemma =>
       go_simp
       refine (dec_any v4 _ (by omega)).mono ?_
       rintro e wn ⟨s, rfl, hs, hb⟩
       replace HG := Hid.intro (HG.out.below hb HG.out.lt)
       replace HI := Hid.intro (HI.out.below hb)
       refine hKK.out _ _ (HI.out.S.blk.cell rfl) (fun hS => ?_)
       clear hKK KK hb
       refine ty 7 ⟨some 109, _, _, _, _, none⟩ (.string (({ data := #[99] } : ByteArray) ++ s)) rfl (by rfl) ?_ hS ?_
       ·intro wy hy
        clear hy
        go_simp
       simp only [pA, pB, pC, pD]
       refine wpAnyH_ready (rs := [0, 11]) (by kernel_rfl) (by simp) (AllReadyH.cons (o := ⟨some 102, _, _, _, _, none⟩) rfl (fun KK hKK => ?_) (AllReadyH.cons (o := ⟨some 113, _, _, _, _, none⟩) rfl (fun KK hKK => ?_) AllReadyH.nil))
       ·skip
        as_aux_lemma =>
        go_simp
        have hba : Below wn.heap.size wn (wn.alloc (.cells #[.string ⟨#[105, 112]⟩, .string ⟨#[118, 111, 108]⟩, .string ⟨#[118, 111, 108, 50]⟩] 9)) := (Below.refl _ _).alloc (Nat.le_refl _) _
        have HA : Hid (Blk wn.heap.size #[.string ⟨#[105, 112]⟩, .string ⟨#[118, 111, 108]⟩, .string ⟨#[118, 111, 108, 50]⟩] 9 (wn.alloc (.cells #[.string ⟨#[105, 112]⟩, .string ⟨#[118, 111, 108]⟩, .string ⟨#[118, 111, 108, 50]⟩] 9))) := Blk.alloc _ _ _
        have hpA : wn.heap.size ≠ p := by have := HI.out.R.lt; omega
        replace HI := Hid.intro (HI.out.below hba)
        have hne : wn.heap.size ≠ ga := by have := HG.out.lt; omega
        replace HG := Hid.intro (HG.out.below hba HG.out.lt)
        skip
        refine hKK.out _ _ (HI.out.S.blk.cell rfl) (fun hS => ?_)
        clear hKK KK hba hS
        generalize wn.heap.size = gA at *
        generalize wn.alloc (Obj.cells #[.string ⟨#[105, 112]⟩, .string ⟨#[118, 111, 108]⟩, .string ⟨#[118, 111, 108, 50]⟩] 9) = wn at *
        refine wpAnyH_mono (S' := fun wy => wy.cell? ⟨pm, 2, none⟩ = some (.int .i64 x.clock) ∧ Blk gA #[.string ⟨#[105, 112]⟩, .string ⟨#[118, 111, 108]⟩, .string ⟨#[118, 111, 108, 50]⟩] 9 wy) (fun _ h => h.1) _ _ _ _ ?_
        have hS : (fun wy => wy.cell? ⟨pm, 2, none⟩ = some (.int .i64 x.clock) ∧ Blk gA #[.string ⟨#[105, 112]⟩, .string ⟨#[118, 111, 108]⟩, .string ⟨#[118, 111, 108, 50]⟩] 9 wy) wn := ⟨HI.out.S.blk.cell rfl, HA.out⟩
        refine ty 2 ⟨some 104, _, _, _, _, none⟩ (.pointer (some ⟨gA, j, none⟩)) rfl (by rfl) ?_ hS ?_
        ·intro wy hy
         clear hy
         first | (go_simp; done) | (go_simp; omega) | (go_simp; intro hh; omega)
        simp only [pA, pB, pC, pD]
        refine ty 3 ⟨some 105, _, _, _, _, none⟩ (.string hs0) rfl (by rfl) ?_ hS ?_
        ·intro wy hy
         have h := id hy
         have h0 := h.2.cell (o := j) (v := .string hs0) HHX.out
         clear hy
         go_simp
        simp only [pA, pB, pC, pD]
        refine rd1 11 ⟨some 113, _, _, _, _, none⟩ rfl (fun KK hKK => ?_)
        go_simp
        refine (pick_rd p (K + 1) 12 _ HI.out.R (by omega) (by omega) (by omega)).mono ?_
        rintro e wn ⟨v12, rfl, hv12, hr, hb, -⟩
        replace HA := Hid.intro (HA.out.bt hb HA.out.lt hpA)
        replace HG := Hid.intro (HG.out.bt hb HG.out.lt (by have := HI.out.hp; have := HOT.out.nw; omega))
        replace HI := Hid.intro (HI.out.bt hb hr)
        refine hKK.out _ _ ⟨HI.out.S.blk.cell rfl, HA.out⟩ (fun hS => ?_)
        clear hKK KK hb hr
        refine ty 12 ⟨some 114, _, _, _, _, none⟩ (.int .i64 (x.clock - (v12 : Int))) rfl (by rfl) ?_ hS ?_
        ·intro wy hy
         clear hy
         first | (go_simp; done) | (go_simp; rw [IntKind.wrap_i64]; omega) | (go_simp; omega)
        simp only [pA, pB, pC, pD]
        refine ty 13 ⟨some 115, _, _, _, _, none⟩ (.agg #[.string hs0, .string (({ data := #[99] } : ByteArray) ++ s), .int .i64 0, .int .i64 (x.clock - (v12 : Int))]) rfl (by rfl) ?_ hS ?_
        ·intro wy hy
         clear hy
         go_simp
        simp only [pA, pB, pC, pD]
        refine rd1 15 ⟨none, _, _, _, _, none⟩ rfl (fun KK hKK => ?_)
        rw [if_pos (by rfl)]
        refine wp_store_mid 57 (.tmp 8) (.tmp 115) (by rfl) ga 0 #[.string hs0, .string (({ data := #[99] } : ByteArray) ++ s), .int .i64 0, .int .i64 (x.clock - (v12 : Int))] (by rfl) (by rfl) HG.out.there isz_Aks (by simp [Value.oneCell']) ?_
        replace HG : Hid (Blk ga #[.string hs0, .string (({ data := #[99] } : ByteArray) ++ s), .int .i64 0, .int .i64 (x.clock - (v12 : Int))] 57 (wn.setCells ga 0 [.string hs0, .string (({ data := #[99] } : ByteArray) ++ s), .int .i64 0, .int .i64 (x.clock - (v12 : Int))])) := HG.out.setAll #[.string hs0, .string (({ data := #[99] } : ByteArray) ++ s), .int .i64 0, .int .i64 (x.clock - (v12 : Int))] rfl
        replace HA : Hid (Blk gA #[.string ⟨#[105, 112]⟩, .string ⟨#[118, 111, 108]⟩, .string ⟨#[118, 111, 108, 50]⟩] 9 (wn.setCells ga 0 [.string hs0, .string (({ data := #[99] } : ByteArray) ++ s), .int .i64 0, .int .i64 (x.clock - (v12 : Int))])) := blk_setCells_other hne _ _ _ HA.out
        replace HI := Hid.intro (HI.out.sets HOT.out 0 [.string hs0, .string (({ data := #[99] } : ByteArray) ++ s), .int .i64 0, .int .i64 (x.clock - (v12 : Int))])
        refine hKK.out _ _ ⟨HI.out.S.blk.cell rfl, HA.out⟩ (fun hS => ?_)
        clear hKK KK
        generalize wn.setCells ga 0 [.string hs0, .string (({ data := #[99] } : ByteArray) ++ s), .int .i64 0, .int .i64 (x.clock - (v12 : Int))] = wn at *
        refine wpAnyH_done (by kernel_rfl) ?_ _
        go_wp2_with fail
        go_meet
        exact ⟨ga, ⟨hs0, ({ data := #[99] } : ByteArray) ++ s, 0, x.clock - (v12 : Int)⟩, rfl, ⟨hhs, by show ByteArray.size _ ≤ 100; rw [ByteArray.size_append, hs]; decide⟩, ⟨by show -20 ≤ x.clock - (v12 : Int); omega, by show x.clock - (v12 : Int) ≤ 60; omega⟩, HG, HOT, HI⟩
       ·skip
        as_aux_lemma =>
        go_simp
        refine (pick_rd p (K + 1) 12 _ HI.out.R (by omega) (by omega) (by omega)).mono ?_
        rintro e wn ⟨v12, rfl, hv12, hr, hb, -⟩
        replace HG := Hid.intro (HG.out.bt hb HG.out.lt (by have := HI.out.hp; have := HOT.out.nw; omega))
        replace HI := Hid.intro (HI.out.bt hb hr)
        refine hKK.out _ _ (HI.out.S.blk.cell rfl) (fun hS => ?_)
        clear hKK KK hb hr
        refine ty 12 ⟨some 114, _, _, _, _, none⟩ (.int .i64 (x.clock - (v12 : Int))) rfl (by rfl) ?_ hS ?_
        ·intro wy hy
         clear hy
         first | (go_simp; done) | (go_simp; rw [IntKind.wrap_i64]; omega) | (go_simp; omega)
        simp only [pA, pB, pC, pD]
        refine rd1 0 ⟨some 102, _, _, _, _, none⟩ rfl (fun KK hKK => ?_)
        go_simp
        have hba : Below wn.heap.size wn (wn.alloc (.cells #[.string ⟨#[105, 112]⟩, .string ⟨#[118, 111, 108]⟩, .string ⟨#[118, 111, 108, 50]⟩] 9)) := (Below.refl _ _).alloc (Nat.le_refl _) _
        have HA : Hid (Blk wn.heap.size #[.string ⟨#[105, 112]⟩, .string ⟨#[118, 111, 108]⟩, .string ⟨#[118, 111, 108, 50]⟩] 9 (wn.alloc (.cells #[.string ⟨#[105, 112]⟩, .string ⟨#[118, 111, 108]⟩, .string ⟨#[118, 111, 108, 50]⟩] 9))) := Blk.alloc _ _ _
        have hpA : wn.heap.size ≠ p := by have := HI.out.R.lt; omega
        replace HI := Hid.intro (HI.out.below hba)
        have hne : wn.heap.size ≠ ga := by have := HG.out.lt; omega
        replace HG := Hid.intro (HG.out.below hba HG.out.lt)
        skip
        refine hKK.out _ _ (HI.out.S.blk.cell rfl) (fun hS => ?_)
        clear hKK KK hba hS
        generalize wn.heap.size = gA at *
        generalize wn.alloc (Obj.cells #[.string ⟨#[105, 112]⟩, .string ⟨#[118, 111, 108]⟩, .string ⟨#[118, 111, 108, 50]⟩] 9) = wn at *
        refine wpAnyH_mono (S' := fun wy => wy.cell? ⟨pm, 2, none⟩ = some (.int .i64 x.clock) ∧ Blk gA #[.string ⟨#[105, 112]⟩, .string ⟨#[118, 111, 108]⟩, .string ⟨#[118, 111, 108, 50]⟩] 9 wy) (fun _ h => h.1) _ _ _ _ ?_
        have hS : (fun wy => wy.cell? ⟨pm, 2, none⟩ = some (.int .i64 x.clock) ∧ Blk gA #[.string ⟨#[105, 112]⟩, .string ⟨#[118, 111, 108]⟩, .string ⟨#[118, 111, 108, 50]⟩] 9 wy) wn := ⟨HI.out.S.blk.cell rfl, HA.out⟩
        refine ty 2 ⟨some 104, _, _, _, _, none⟩ (.pointer (some ⟨gA, j, none⟩)) rfl (by rfl) ?_ hS ?_
        ·intro wy hy
         clear hy
         first | (go_simp; done) | (go_simp; omega) | (go_simp; intro hh; omega)
        simp only [pA, pB, pC, pD]
        refine ty 3 ⟨some 105, _, _, _, _, none⟩ (.string hs0) rfl (by rfl) ?_ hS ?_
        ·intro wy hy
         have h := id hy
         have h0 := h.2.cell (o := j) (v := .string hs0) HHX.out
         clear hy
         go_simp
        simp only [pA, pB, pC, pD]
        refine ty 13 ⟨some 115, _, _, _, _, none⟩ (.agg #[.string hs0, .string (({ data := #[99] } : ByteArray) ++ s), .int .i64 0, .int .i64 (x.clock - (v12 : Int))]) rfl (by rfl) ?_ hS ?_
        ·intro wy hy
         clear hy
         go_simp
        simp only [pA, pB, pC, pD]
        refine rd1 15 ⟨none, _, _, _, _, none⟩ rfl (fun KK hKK => ?_)
        rw [if_pos (by rfl)]
        refine wp_store_mid 57 (.tmp 8) (.tmp 115) (by rfl) ga 0 #[.string hs0, .string (({ data := #[99] } : ByteArray) ++ s), .int .i64 0, .int .i64 (x.clock - (v12 : Int))] (by rfl) (by rfl) HG.out.there isz_Aks (by simp [Value.oneCell']) ?_
        replace HG : Hid (Blk ga #[.string hs0, .string (({ data := #[99] } : ByteArray) ++ s), .int .i64 0, .int .i64 (x.clock - (v12 : Int))] 57 (wn.setCells ga 0 [.string hs0, .string (({ data := #[99] } : ByteArray) ++ s), .int .i64 0, .int .i64 (x.clock - (v12 : Int))])) := HG.out.setAll #[.string hs0, .string (({ data := #[99] } : ByteArray) ++ s), .int .i64 0, .int .i64 (x.clock - (v12 : Int))] rfl
        replace HA : Hid (Blk gA #[.string ⟨#[105, 112]⟩, .string ⟨#[118, 111, 108]⟩, .string ⟨#[118, 111, 108, 50]⟩] 9 (wn.setCells ga 0 [.string hs0, .string (({ data := #[99] } : ByteArray) ++ s), .int .i64 0, .int .i64 (x.clock - (v12 : Int))])) := blk_setCells_other hne _ _ _ HA.out
        replace HI := Hid.intro (HI.out.sets HOT.out 0 [.string hs0, .string (({ data := #[99] } : ByteArray) ++ s), .int .i64 0, .int .i64 (x.clock - (v12 : Int))])
        refine hKK.out _ _ ⟨HI.out.S.blk.cell rfl, HA.out⟩ (fun hS => ?_)
        clear hKK KK
        generalize wn.setCells ga 0 [.string hs0, .string (({ data := #[99] } : ByteArray) ++ s), .int .i64 0, .int .i64 (x.clock - (v12 : Int))] = wn at *
        refine wpAnyH_done (by kernel_rfl) ?_ _
        go_wp2_with fail
        go_meet
        exact ⟨ga, ⟨hs0, ({ data := #[99] } : ByteArray) ++ s, 0, x.clock - (v12 : Int)⟩, rfl, ⟨hhs, by show ByteArray.size _ ≤ 100; rw [ByteArray.size_append, hs]; decide⟩, ⟨by show -20 ≤ x.clock - (v12 : Int); omega, by show x.clock - (v12 : Int) ≤ 60; omega⟩, HG, HOT, HI⟩
   case rest =>
    as_aux_lemma =>
    obtain ⟨ga, y, rfl, hy1, hy2, HG, HOT, HI1⟩ := hcut
    clear HI
    generalize wc = w1 at *
    go_wp2_with fail
    go_loopw [9] (fun i wr => ∃ (k : Nat) (y : Aks) (K1 : Nat), k ≤ x.runs.length ∧ i = .int .i64 k ∧ (y.hold.size ≤ 100 ∧ y.copy.size ≤ 100) ∧ (-20 ≤ y.at_ ∧ y.at_ ≤ 60) ∧ K1 ≤ K + 2 + k ∧ Hid (Blk ga #[.string y.hold, .string y.copy, .int .i64 y.first, .int .i64 y.at_] 57 wr) ∧ Hid (Inv p w.heap.size pm w x b5 q5 b6 q6 b7 q7 b8 q8 K1 wr)) (fun i _ => 4 - (intOf i).toNat)
    case atStart => exact ⟨0, y, K + 1 + 1, Nat.zero_le _, rfl, hy1, hy2, by omega, HG, HI1⟩
    case round =>
     as_aux_lemma =>
     clear HG HI1 hy1 hy2
     obtain ⟨k, y, K1, hk, rfl, hy1, hy2, hK1, HG, HI⟩ := hrel
     have k6 : wr.cell? ⟨pm, 6, none⟩ = some (.slice b6 x.runs.length q6) := HI.out.S.blk.cell rfl
     by_cases hlk : k < x.runs.length
     case neg =>
      as_aux_lemma =>
      have c3 : wr.cell? ⟨ga, 3, none⟩ = some (.int .i64 y.at_) := HG.out.cell rfl
      go_upto_if 148 with fail
      clear c3 k6 hlk
      go_cut [] (fun wz => ∃ y2 : Aks, (y2.hold.size ≤ 100 ∧ y2.copy.size ≤ 100) ∧ (0 ≤ y2.at_ ∧ y2.at_ ≤ 60) ∧ Hid (Blk ga #[.string y2.hold, .string y2.copy, .int .i64 y2.first, .int .i64 y2.at_] 57 wz) ∧ Hid (Inv p w.heap.size pm w x b5 q5 b6 q6 b7 q7 b8 q8 K1 wz))
      case first =>
       by_cases ha : y.at_ < 0
       case pos =>
        have ka : wr.cell? ⟨ga, 3, none⟩ = some (.int .i64 y.at_) := HG.out.cell rfl
        have fa : wr.frozen? ⟨ga, 3, none⟩ = false := HG.out.frozen _
        have HG3 := Hid.intro (HG.out.set 3 (.int .i64 0))
        have HI3 := Hid.intro (HI.out.set HOT.out 3 (.int .i64 0))
        go_wp2_with fail
        go_meet
        exact ⟨{ y with at_ := 0 }, hy1, ⟨by show (0 : Int) ≤ 0; omega, by show (0 : Int) ≤ 60; omega⟩, HG3, HI3⟩
       case neg =>
        go_wp2_with fail
        go_meet
        exact ⟨y, hy1, ⟨by omega, hy2.2⟩, HG, HI⟩
      case rest =>
       as_aux_lemma =>
       obtain ⟨y2, hz1, hz2, HG2, HI2⟩ := hcut
       clear HG HI hy1 hy2
       generalize wc = w2 at *
       go_upto_region 31 with fail
       refine wp_region_held_drew (S := fun wy => wy.cell? ⟨ga, 3, none⟩ = some (.int .i64 y2.at_)) (by kernel_rfl) (HG2.out.cell rfl) (fun hS => ?_)
       replace HI2 := Hid.intro HI2.out.drew
       replace HG2 := Hid.intro HG2.out.drew
       generalize w2.drew = wn at *
       refine ty 0 ⟨some 150, _, _, _, _, none⟩ (.pointer (some ⟨ga, 3, none⟩)) rfl (by rfl) ?_ hS ?_
       ·intro wy hy
        clear hy
        go_simp
       simp only [pA, pB, pC, pD]
       refine ty 1 ⟨some 151, _, _, _, _, none⟩ (.int .i64 y2.at_) rfl (by rfl) ?_ hS ?_
       ·intro wy hy
        have h0 := id hy
        clear hy
        go_simp
       simp only [pA, pB, pC, pD]
       refine ty 2 ⟨some 152, _, _, _, _, none⟩ (.pointer (some ⟨p, 0, none⟩)) rfl (by rfl) ?_ hS ?_
       ·intro wy hy
        clear hy
        go_simp
       simp only [pA, pB, pC, pD]
       refine rd1 3 ⟨some 153, _, _, _, _, none⟩ rfl (fun KK hKK => ?_)
       go_simp
       refine (pick_rd p K1 6 _ HI2.out.R (by omega) (by omega) (by omega)).mono ?_
       rintro e w3 ⟨v6, rfl, hv6, hr, hb, -⟩
       have HI3 := Hid.intro (HI2.out.bt hb hr)
       have HG3 := Hid.intro (HG2.out.bt hb HG2.out.lt (by have := HI2.out.hp; have := HOT.out.nw; omega))
       refine hKK.out _ _ (HG3.out.cell rfl) (fun hS => ?_)
       clear hKK KK hb hr HI2 HG2
       refine ty 4 ⟨some 154, _, _, _, _, none⟩ (.int .i64 (y2.at_ - (v6 : Int))) rfl (by rfl) ?_ hS ?_
       ·intro wy hy
        clear hy
        first | (go_simp; done) | (go_simp; rw [IntKind.wrap_i64]; omega) | (go_simp; omega)
       simp only [pA, pB, pC, pD]
       refine ty 5 ⟨some 155, _, _, _, _, none⟩ (.pointer (some ⟨ga, 2, none⟩)) rfl (by rfl) ?_ hS ?_
       ·intro wy hy
        clear hy
        go_simp
       simp only [pA, pB, pC, pD]
       have ka : w3.cell? ⟨ga, 2, none⟩ = some (.int .i64 y2.first) := HG3.out.cell rfl
       have fa : w3.frozen? ⟨ga, 2, none⟩ = false := HG3.out.frozen _
       have HG4 := Hid.intro (HG3.out.set 2 (.int .i64 (y2.at_ - (v6 : Int))))
       have HI4 := Hid.intro (HI3.out.set HOT.out 2 (.int .i64 (y2.at_ - (v6 : Int))))
       refine rd1 6 ⟨none, _, _, _, _, none⟩ rfl (fun KK hKK => ?_)
       go_simp
       refine hKK.out _ _ (HG4.out.cell rfl) (fun hS => ?_)
       clear hKK KK ka fa HI3 HG3 hS
       generalize w3.setCell ⟨ga, 2, none⟩ (.int .i64 (y2.at_ - (v6 : Int))) = w4 at *
       refine wpAnyH_done (by kernel_rfl) ?_ _
       have HG5 : Hid (Blk ga #[.string (⟨y2.hold, y2.copy, y2.at_ - (v6 : Int), y2.at_⟩ : Aks).hold, .string (⟨y2.hold, y2.copy, y2.at_ - (v6 : Int), y2.at_⟩ : Aks).copy, .int .i64 (⟨y2.hold, y2.copy, y2.at_ - (v6 : Int), y2.at_⟩ : Aks).first, .int .i64 (⟨y2.hold, y2.copy, y2.at_ - (v6 : Int), y2.at_⟩ : Aks).at_] 57 w4) := HG4.out
       obtain ⟨y3, hy3⟩ : ∃ y3 : Aks, y3 = ⟨y2.hold, y2.copy, y2.at_ - (v6 : Int), y2.at_⟩ := ⟨_, rfl⟩
       rw [← hy3] at HG5
       have hw1 : y3.hold.size ≤ 100 ∧ y3.copy.size ≤ 100 := by rw [hy3]; exact hz1
       clear hy3 HG4 hz1 hz2 hv6
       have c2 : w4.cell? ⟨ga, 2, none⟩ = some (.int .i64 y3.first) := HG5.out.cell rfl
       go_upto_if 158 with fail
       clear c2
       go_cut [] (fun wz => ∃ y4 : Aks, (y4.hold.size ≤ 100 ∧ y4.copy.size ≤ 100) ∧ Hid (Blk ga #[.string y4.hold, .string y4.copy, .int .i64 y4.first, .int .i64 y4.at_] 57 wz) ∧ Hid (Inv p w.heap.size pm w x b5 q5 b6 q6 b7 q7 b8 q8 (K1 + 1) wz))
       case first =>
        by_cases ha : y3.first < 0
        case pos =>
         have ka : w4.cell? ⟨ga, 2, none⟩ = some (.int .i64 y3.first) := HG5.out.cell rfl
         have fa : w4.frozen? ⟨ga, 2, none⟩ = false := HG5.out.frozen _
         have HG6 := Hid.intro (HG5.out.set 2 (.int .i64 0))
         have HI6 := Hid.intro (HI4.out.set HOT.out 2 (.int .i64 0))
         go_wp2_with fail
         go_meet
         exact ⟨{ y3 with first := 0 }, hw1, HG6, HI6⟩
        case neg =>
         go_wp2_with fail
         go_meet
         exact ⟨y3, hw1, HG5, HI4⟩
       case rest =>
        as_aux_lemma =>
        obtain ⟨y4, hu1, HG6, HI6⟩ := hcut
        clear HG5 HI4
        generalize wc = w6 at *
        go_wp2_with fail
        refine (pick_rd p (K1 + 1) 4 _ HI6.out.R (by omega) (by omega) (by omega)).mono ?_
        rintro e w7 ⟨v, rfl, hv, hr, hb, -⟩
        have HI7 := Hid.intro (HI6.out.bt hb hr)
        have HG7 := Hid.intro (HG6.out.bt hb HG6.out.lt (by have := HI6.out.hp; have := HOT.out.nw; omega))
        clear hr hb HI6 HG6
        rcases (by omega : v = 0 ∨ v = 1 ∨ v = 2 ∨ v = 3) with rfl | rfl | rfl | rfl
        ·skip
         as_aux_lemma =>
         have hfl : x.asks.length ≤ 3 := by omega
         have HIa := Hid.intro (HI7.out.alloc (Obj.cells #[.string y4.hold, .string y4.copy, .int .i64 y4.first, .int .i64 y4.at_] 57))
         have k7 : w7.cell? ⟨pm, 7, none⟩ = some (.slice b7 x.asks.length q7) := HI7.out.S.blk.cell rfl
         have HNN : Hid (∀ j u, (rcAks y4)[j]? = some u → (w7.alloc (Obj.cells #[.string y4.hold, .string y4.copy, .int .i64 y4.first, .int .i64 y4.at_] 57)).cell? ((⟨w7.heap.size, 0, none⟩ : Addr).add j) = some u) := by
          intro j u hj
          rw [Addr.add_mid]
          exact (Blk.alloc w7 #[.string y4.hold, .string y4.copy, .int .i64 y4.first, .int .i64 y4.at_] 57).rangeA j u hj
         have HN1 : Hid (∀ u ∈ rcAks y4, u.oneCell' = true) := fun u hu => rvAks_one [y4] u (by simp only [rvAks, List.append_nil]; exact hu)
         have hzw : w.heap.size + 1 ≤ w7.heap.size := HI7.out.Z.lt
         obtain ⟨NV, hnv⟩ : ∃ l, l = rcAks y4 := ⟨_, rfl⟩
         have HNV := Hid.intro hnv
         rw [← hnv] at HNN HN1
         have HNL : Hid (NV.length = 1 * 4) := by show _ = _; rw [HNV.out]; rfl
         clear hnv
         go_upto_region 22 with (first | (refine wpList_load_mid rfl 57 _ rfl ga 0 rfl [.string y4.hold, .string y4.copy, .int .i64 y4.first, .int .i64 y4.at_] _ HG7.out.rangeA Try.underlying57 rfl isz_Aks ?_) | (at_builtin; refine wpList_append_own_at _ rfl _ _ 25 rfl (w.heap.size + 1) 57 iA _ 4 48 Try.underlying25 hiA hz0 hz1 hz2 rfl (by decide) (.slice b7 x.asks.length q7) x.asks.length _ rfl HIa.out.S.L.r7 ⟨w7.heap.size, 0, none⟩ 1 1 NV rfl HNL.out HNN.out HN1.out (by unfold maxLen; omega) (by omega) (by simp; omega) ?_; intro v' w8 hown8 hgrow8 hnil8 hblk8; have hv8 : v' ≠ .slice none 0 0 := (fun e => by have h9 := (hnil8.1 e).2; cases h9); obtain ⟨g8, k8, rfl⟩ := rowf hown8 hv8; rw [own_blkO b7] at hgrow8 hblk8; have kx : w8.cell? ⟨pm, 7, none⟩ = some (.slice b7 x.asks.length q7) := (HIa.out.S.blk7 hgrow8).cell rfl; have fx : w8.frozen? ⟨pm, 7, none⟩ = false := (HIa.out.S.blk7 hgrow8).frozen _; have HG8 := Hid.intro hgrow8; have HB8 := Hid.intro hblk8; have HO8 := Hid.intro hown8; clear hown8 hgrow8 hnil8 hblk8 hv8))
         clear kx fx k7 HNN HN1 HNL
         have hyl : (x.asks ++ [y4]).length = x.asks.length + 1 := by simp
         have HI9 : Hid (Inv p w.heap.size pm w { x with asks := x.asks ++ [y4] } b5 q5 b6 q6 (some ⟨g8, 0, none⟩) k8 b8 q8 (K1 + 1 + 1) (w8.setCell ⟨pm, 7, none⟩ (.slice (some ⟨g8, 0, none⟩) (x.asks.length + 1) k8))) := by
          have h := HIa.out.grown7 (ys := x.asks ++ [y4]) (c7 := some ⟨g8, 0, none⟩) (k7 := k8) HG8.out (by rw [hyl, rvA_app]; simp only [rvAks, List.append_nil]; rw [← HNV.out]; exact HO8.out) (by rw [hyl]; exact HB8.out) (fun z hz => (List.mem_append.1 hz).elim (HI7.out.S.L.z7 z) (fun e => by rw [List.mem_singleton.1 e]; exact hu1))
          rw [hyl] at h
          exact h
         clear HG8 HB8 HO8 HNV HIa
         go_wp2_with fail
         go_roundw
         case rel => first | exact ⟨j + 1, { x with asks := x.asks ++ [y4] }, b5, q5, b6, q6, some ⟨g8, 0, none⟩, k8, b8, q8, K1 + 1 + 1, by omega, by go_num, ⟨hfw.l5, hfw.l6, by show (x.asks ++ [y4]).length ≤ 4; omega, by show x.gives.length ≤ 4; omega⟩, by show (x.asks ++ [y4]).length ≤ j + 1; omega, by show x.gives.length ≤ j + 1; omega, hck, by omega, HI9⟩ | ((repeat apply Exists.intro); exact ⟨⟨j + 1, { x with asks := x.asks ++ [y4] }, b5, q5, b6, q6, some ⟨g8, 0, none⟩, k8, b8, q8, K1 + 1 + 1, by omega, by go_num, ⟨hfw.l5, hfw.l6, by show (x.asks ++ [y4]).length ≤ 4; omega, by show x.gives.length ≤ 4; omega⟩, by show (x.asks ++ [y4]).length ≤ j + 1; omega, by show x.gives.length ≤ j + 1; omega, hck, by omega, HI9⟩, rfl⟩)
         case measure => simp [intOf]; omega
        ·skip
         as_aux_lemma =>
         have hfl : x.asks.length ≤ 3 := by omega
         have HIa := Hid.intro (HI7.out.alloc (Obj.cells #[.string y4.hold, .string y4.copy, .int .i64 y4.first, .int .i64 y4.at_] 57))
         have k7 : w7.cell? ⟨pm, 7, none⟩ = some (.slice b7 x.asks.length q7) := HI7.out.S.blk.cell rfl
         have HNN : Hid (∀ j u, (rcAks y4)[j]? = some u → (w7.alloc (Obj.cells #[.string y4.hold, .string y4.copy, .int .i64 y4.first, .int .i64 y4.at_] 57)).cell? ((⟨w7.heap.size, 0, none⟩ : Addr).add j) = some u) := by
          intro j u hj
          rw [Addr.add_mid]
          exact (Blk.alloc w7 #[.string y4.hold, .string y4.copy, .int .i64 y4.first, .int .i64 y4.at_] 57).rangeA j u hj
         have HN1 : Hid (∀ u ∈ rcAks y4, u.oneCell' = true) := fun u hu => rvAks_one [y4] u (by simp only [rvAks, List.append_nil]; exact hu)
         have hzw : w.heap.size + 1 ≤ w7.heap.size := HI7.out.Z.lt
         obtain ⟨NV, hnv⟩ : ∃ l, l = rcAks y4 := ⟨_, rfl⟩
         have HNV := Hid.intro hnv
         rw [← hnv] at HNN HN1
         have HNL : Hid (NV.length = 1 * 4) := by show _ = _; rw [HNV.out]; rfl
         clear hnv
         go_upto_region 22 with (first | (refine wpList_load_mid rfl 57 _ rfl ga 0 rfl [.string y4.hold, .string y4.copy, .int .i64 y4.first, .int .i64 y4.at_] _ HG7.out.rangeA Try.underlying57 rfl isz_Aks ?_) | (at_builtin; refine wpList_append_own_at _ rfl _ _ 25 rfl (w.heap.size + 1) 57 iA _ 4 48 Try.underlying25 hiA hz0 hz1 hz2 rfl (by decide) (.slice b7 x.asks.length q7) x.asks.length _ rfl HIa.out.S.L.r7 ⟨w7.heap.size, 0, none⟩ 1 1 NV rfl HNL.out HNN.out HN1.out (by unfold maxLen; omega) (by omega) (by simp; omega) ?_; intro v' w8 hown8 hgrow8 hnil8 hblk8; have hv8 : v' ≠ .slice none 0 0 := (fun e => by have h9 := (hnil8.1 e).2; cases h9); obtain ⟨g8, k8, rfl⟩ := rowf hown8 hv8; rw [own_blkO b7] at hgrow8 hblk8; have kx : w8.cell? ⟨pm, 7, none⟩ = some (.slice b7 x.asks.length q7) := (HIa.out.S.blk7 hgrow8).cell rfl; have fx : w8.frozen? ⟨pm, 7, none⟩ = false := (HIa.out.S.blk7 hgrow8).frozen _; have HG8 := Hid.intro hgrow8; have HB8 := Hid.intro hblk8; have HO8 := Hid.intro hown8; clear hown8 hgrow8 hnil8 hblk8 hv8))
         clear kx fx k7 HNN HN1 HNL
         have hyl : (x.asks ++ [y4]).length = x.asks.length + 1 := by simp
         have HI9 : Hid (Inv p w.heap.size pm w { x with asks := x.asks ++ [y4] } b5 q5 b6 q6 (some ⟨g8, 0, none⟩) k8 b8 q8 (K1 + 1 + 1) (w8.setCell ⟨pm, 7, none⟩ (.slice (some ⟨g8, 0, none⟩) (x.asks.length + 1) k8))) := by
          have h := HIa.out.grown7 (ys := x.asks ++ [y4]) (c7 := some ⟨g8, 0, none⟩) (k7 := k8) HG8.out (by rw [hyl, rvA_app]; simp only [rvAks, List.append_nil]; rw [← HNV.out]; exact HO8.out) (by rw [hyl]; exact HB8.out) (fun z hz => (List.mem_append.1 hz).elim (HI7.out.S.L.z7 z) (fun e => by rw [List.mem_singleton.1 e]; exact hu1))
          rw [hyl] at h
          exact h
         clear HG8 HB8 HO8 HNV HIa
         go_wp2_with fail
         go_roundw
         case rel => first | exact ⟨j + 1, { x with asks := x.asks ++ [y4] }, b5, q5, b6, q6, some ⟨g8, 0, none⟩, k8, b8, q8, K1 + 1 + 1, by omega, by go_num, ⟨hfw.l5, hfw.l6, by show (x.asks ++ [y4]).length ≤ 4; omega, by show x.gives.length ≤ 4; omega⟩, by show (x.asks ++ [y4]).length ≤ j + 1; omega, by show x.gives.length ≤ j + 1; omega, hck, by omega, HI9⟩ | ((repeat apply Exists.intro); exact ⟨⟨j + 1, { x with asks := x.asks ++ [y4] }, b5, q5, b6, q6, some ⟨g8, 0, none⟩, k8, b8, q8, K1 + 1 + 1, by omega, by go_num, ⟨hfw.l5, hfw.l6, by show (x.asks ++ [y4]).length ≤ 4; omega, by show x.gives.length ≤ 4; omega⟩, by show (x.asks ++ [y4]).length ≤ j + 1; omega, by show x.gives.length ≤ j + 1; omega, hck, by omega, HI9⟩, rfl⟩)
         case measure => simp [intOf]; omega
        ·skip
         as_aux_lemma =>
         have hfl : x.gives.length ≤ 3 := by omega
         have HIa := Hid.intro (HI7.out.alloc (Obj.cells #[.string y4.hold, .string y4.copy, .int .i64 y4.first, .int .i64 y4.at_] 57))
         have k7 : w7.cell? ⟨pm, 8, none⟩ = some (.slice b8 x.gives.length q8) := HI7.out.S.blk.cell rfl
         have HNN : Hid (∀ j u, (rcAks y4)[j]? = some u → (w7.alloc (Obj.cells #[.string y4.hold, .string y4.copy, .int .i64 y4.first, .int .i64 y4.at_] 57)).cell? ((⟨w7.heap.size, 0, none⟩ : Addr).add j) = some u) := by
          intro j u hj
          rw [Addr.add_mid]
          exact (Blk.alloc w7 #[.string y4.hold, .string y4.copy, .int .i64 y4.first, .int .i64 y4.at_] 57).rangeA j u hj
         have HN1 : Hid (∀ u ∈ rcAks y4, u.oneCell' = true) := fun u hu => rvAks_one [y4] u (by simp only [rvAks, List.append_nil]; exact hu)
         have hzw : w.heap.size + 1 ≤ w7.heap.size := HI7.out.Z.lt
         obtain ⟨NV, hnv⟩ : ∃ l, l = rcAks y4 := ⟨_, rfl⟩
         have HNV := Hid.intro hnv
         rw [← hnv] at HNN HN1
         have HNL : Hid (NV.length = 1 * 4) := by show _ = _; rw [HNV.out]; rfl
         clear hnv
         go_upto_region 22 with (first | (refine wpList_load_mid rfl 57 _ rfl ga 0 rfl [.string y4.hold, .string y4.copy, .int .i64 y4.first, .int .i64 y4.at_] _ HG7.out.rangeA Try.underlying57 rfl isz_Aks ?_) | (at_builtin; refine wpList_append_own_at _ rfl _ _ 25 rfl (w.heap.size + 1) 57 iA _ 4 48 Try.underlying25 hiA hz0 hz1 hz2 rfl (by decide) (.slice b8 x.gives.length q8) x.gives.length _ rfl HIa.out.S.L.r8 ⟨w7.heap.size, 0, none⟩ 1 1 NV rfl HNL.out HNN.out HN1.out (by unfold maxLen; omega) (by omega) (by simp; omega) ?_; intro v' w8 hown8 hgrow8 hnil8 hblk8; have hv8 : v' ≠ .slice none 0 0 := (fun e => by have h9 := (hnil8.1 e).2; cases h9); obtain ⟨g8, k8, rfl⟩ := rowf hown8 hv8; rw [own_blkO b8] at hgrow8 hblk8; have kx : w8.cell? ⟨pm, 8, none⟩ = some (.slice b8 x.gives.length q8) := (HIa.out.S.blk8 hgrow8).cell rfl; have fx : w8.frozen? ⟨pm, 8, none⟩ = false := (HIa.out.S.blk8 hgrow8).frozen _; have HG8 := Hid.intro hgrow8; have HB8 := Hid.intro hblk8; have HO8 := Hid.intro hown8; clear hown8 hgrow8 hnil8 hblk8 hv8))
         clear kx fx k7 HNN HN1 HNL
         have hyl : (x.gives ++ [y4]).length = x.gives.length + 1 := by simp
         have HI9 : Hid (Inv p w.heap.size pm w { x with gives := x.gives ++ [y4] } b5 q5 b6 q6 b7 q7 (some ⟨g8, 0, none⟩) k8 (K1 + 1 + 1) (w8.setCell ⟨pm, 8, none⟩ (.slice (some ⟨g8, 0, none⟩) (x.gives.length + 1) k8))) := by
          have h := HIa.out.grown8 (ys := x.gives ++ [y4]) (c8 := some ⟨g8, 0, none⟩) (k8 := k8) HG8.out (by rw [hyl, rvA_app]; simp only [rvAks, List.append_nil]; rw [← HNV.out]; exact HO8.out) (by rw [hyl]; exact HB8.out) (fun z hz => (List.mem_append.1 hz).elim (HI7.out.S.L.z8 z) (fun e => by rw [List.mem_singleton.1 e]; exact hu1))
          rw [hyl] at h
          exact h
         clear HG8 HB8 HO8 HNV HIa
         go_wp2_with fail
         go_roundw
         case rel => first | exact ⟨j + 1, { x with gives := x.gives ++ [y4] }, b5, q5, b6, q6, b7, q7, some ⟨g8, 0, none⟩, k8, K1 + 1 + 1, by omega, by go_num, ⟨hfw.l5, hfw.l6, by show x.asks.length ≤ 4; omega, by show (x.gives ++ [y4]).length ≤ 4; omega⟩, by show x.asks.length ≤ j + 1; omega, by show (x.gives ++ [y4]).length ≤ j + 1; omega, hck, by omega, HI9⟩ | ((repeat apply Exists.intro); exact ⟨⟨j + 1, { x with gives := x.gives ++ [y4] }, b5, q5, b6, q6, b7, q7, some ⟨g8, 0, none⟩, k8, K1 + 1 + 1, by omega, by go_num, ⟨hfw.l5, hfw.l6, by show x.asks.length ≤ 4; omega, by show (x.gives ++ [y4]).length ≤ 4; omega⟩, by show x.asks.length ≤ j + 1; omega, by show (x.gives ++ [y4]).length ≤ j + 1; omega, hck, by omega, HI9⟩, rfl⟩)
         case measure => simp [intOf]; omega
        ·skip
         go_wp2_with fail
         go_roundw
         case rel => first | exact ⟨j + 1, x, b5, q5, b6, q6, b7, q7, b8, q8, K1 + 1 + 1, by omega, by go_num, hfw, by omega, by omega, hck, by omega, HI7⟩ | ((repeat apply Exists.intro); exact ⟨⟨j + 1, x, b5, q5, b6, q6, b7, q7, b8, q8, K1 + 1 + 1, by omega, by go_num, hfw, by omega, by omega, hck, by omega, HI7⟩, rfl⟩)
         case measure => simp [intOf]; omega
     obtain ⟨rn, hrn⟩ : ∃ z, x.runs[k]? = some z := ⟨x.runs[k], List.getElem?_eq_getElem hlk⟩
     have HRN := Hid.intro hrn
     have HZR := Hid.intro (HI.out.S.L.z6 rn (List.mem_of_getElem? hrn))
     obtain ⟨g6, e6, hg1, hg2, hg3, hra, hth, hfz⟩ := HI.out.S.at6 hrn
     subst e6
     have HRA := Hid.intro hra
     clear hrn hra hth hfz
     have hga : ga < wr.heap.size := HG.out.lt
     have hgp : ga ≠ p := by have := HI.out.hp; have := HOT.out.nw; omega
     have hg6p : g6 ≠ p := by have := HI.out.hp; have := HI.out.hw; omega
     have hpl : pm < wr.heap.size := HI.out.pl
     have hpp : pm ≠ p := by have := HI.out.hp; have := HI.out.hw; have := HI.out.zp; omega
     go_upto_region 27 with fail
     cases hq : (rn.want.hold.toList == y.hold.toList) with
     | false =>
      as_aux_lemma =>
      refine wp_region_held_drew (S := fun wy => wy.cell? ⟨pm, 6, none⟩ = some (.slice (some ⟨g6, 0, none⟩) x.runs.length q6) ∧ wy.cell? ⟨g6, k * 11 + 2, none⟩ = some (.string rn.want.hold) ∧ wy.cell? ⟨ga, 0, none⟩ = some (.string y.hold)) (by kernel_rfl) ⟨k6, HRA.out 2 _ rfl, HG.out.cell rfl⟩ (fun hS => ?_)
      replace HI := Hid.intro HI.out.drew
      replace HG := Hid.intro HG.out.drew
      replace HRA : Hid (wr.drew.rangeAt g6 (k * 11) (rcRn rn)) := fun i v h => HRA.out i v h
      replace hga : ga < wr.drew.heap.size := hga
      replace hg2 : g6 < wr.drew.heap.size := hg2
      replace hpl : pm < wr.drew.heap.size := hpl
      clear k6
      generalize wr.drew = wn at *
      refine ty 0 ⟨some 123, _, _, _, _, none⟩ (.pointer (some ⟨pm, 6, none⟩)) rfl (by rfl) ?_ hS ?_
      ·intro wy hy
       clear hy
       go_simp
      simp only [pA, pB, pC, pD]
      refine ty 1 ⟨some 124, _, _, _, _, none⟩ (.slice (some ⟨g6, 0, none⟩) x.runs.length q6) rfl (by rfl) ?_ hS ?_
      ·intro wy hy
       obtain ⟨c6, c2, c0⟩ := id hy
       clear hy
       go_simp
      simp only [pA, pB, pC, pD]
      refine ty 2 ⟨some 125, _, _, _, _, none⟩ (.int .i64 (k : Int)) rfl (by rfl) ?_ hS ?_
      ·intro wy hy
       clear hy
       go_simp
      simp only [pA, pB, pC, pD]
      refine ty 3 ⟨some 126, _, _, _, _, none⟩ (.pointer (some ⟨g6, k * 11, none⟩)) rfl (by rfl) ?_ hS ?_
      ·intro wy hy
       clear hy
       first | (go_simp; done) | (go_simp; omega) | (go_simp; intro hh; omega)
      simp only [pA, pB, pC, pD]
      refine ty 4 ⟨some 127, _, _, _, _, none⟩ (.pointer (some ⟨g6, k * 11, none⟩)) rfl (by rfl) ?_ hS ?_
      ·intro wy hy
       clear hy
       go_simp
      simp only [pA, pB, pC, pD]
      refine ty 5 ⟨some 128, _, _, _, _, none⟩ (.pointer (some ⟨g6, k * 11 + 2, none⟩)) rfl (by rfl) ?_ hS ?_
      ·intro wy hy
       clear hy
       go_simp
      simp only [pA, pB, pC, pD]
      refine ty 6 ⟨some 129, _, _, _, _, none⟩ (.string rn.want.hold) rfl (by rfl) ?_ hS ?_
      ·intro wy hy
       obtain ⟨c6, c2, c0⟩ := id hy
       clear hy
       go_simp
      simp only [pA, pB, pC, pD]
      refine ty 7 ⟨some 130, _, _, _, _, none⟩ (.pointer (some ⟨ga, 0, none⟩)) rfl (by rfl) ?_ hS ?_
      ·intro wy hy
       clear hy
       go_simp
      simp only [pA, pB, pC, pD]
      refine ty 8 ⟨some 131, _, _, _, _, none⟩ (.string y.hold) rfl (by rfl) ?_ hS ?_
      ·intro wy hy
       obtain ⟨c6, c2, c0⟩ := id hy
       clear hy
       go_simp
      simp only [pA, pB, pC, pD]
      refine ty 9 ⟨some 132, _, _, _, _, none⟩ (.bool false) rfl (by rfl) ?_ hS ?_
      ·intro wy hy
       clear hy
       first | (go_simp; done) | (go_simp; exact hq) | (simp [go_sem, hq]; done)
      simp only [pA, pB, pC, pD]
      refine ty 10 ⟨some 133, _, _, _, _, none⟩ (.bool false) rfl (by rfl) ?_ hS ?_
      ·intro wy hy
       clear hy
       go_simp
      simp only [pA, pB, pC, pD]
      refine tk 11 ⟨some 134, _, _, _, _, some (10, true)⟩ undef rfl (Or.inr ⟨by rfl, rfl⟩) hS ?_
      simp only [pA, pB, pC, pD]
      refine tk 12 ⟨some 135, _, _, _, _, some (10, true)⟩ undef rfl (Or.inr ⟨by rfl, rfl⟩) hS ?_
      simp only [pA, pB, pC, pD]
      refine tk 13 ⟨some 136, _, _, _, _, some (10, true)⟩ undef rfl (Or.inr ⟨by rfl, rfl⟩) hS ?_
      simp only [pA, pB, pC, pD]
      refine ty 14 ⟨some 137, _, _, _, _, none⟩ (.bool false) rfl (by rfl) ?_ hS ?_
      ·intro wy hy
       clear hy
       go_simp
      simp only [pA, pB, pC, pD]
      refine wpAnyH_done (by kernel_rfl) ?_ _
      clear hS
      go_wp2_with fail
      go_roundw
      case rel => first | exact ⟨k + 1, y, K1, by omega, by go_num, hy1, hy2, by omega, HG, HI⟩ | ((repeat apply Exists.intro); exact ⟨⟨k + 1, y, K1, by omega, by go_num, hy1, hy2, by omega, HG, HI⟩, rfl⟩)
      case measure => simp [intOf]; omega
     | true =>
      as_aux_lemma =>
      refine wp_region_held_drew (S := fun wy => wy.cell? ⟨pm, 6, none⟩ = some (.slice (some ⟨g6, 0, none⟩) x.runs.length q6) ∧ wy.cell? ⟨g6, k * 11 + 2, none⟩ = some (.string rn.want.hold) ∧ wy.cell? ⟨ga, 0, none⟩ = some (.string y.hold)) (by kernel_rfl) ⟨k6, HRA.out 2 _ rfl, HG.out.cell rfl⟩ (fun hS => ?_)
      replace HI := Hid.intro HI.out.drew
      replace HG := Hid.intro HG.out.drew
      replace HRA : Hid (wr.drew.rangeAt g6 (k * 11) (rcRn rn)) := fun i v h => HRA.out i v h
      replace hga : ga < wr.drew.heap.size := hga
      replace hg2 : g6 < wr.drew.heap.size := hg2
      replace hpl : pm < wr.drew.heap.size := hpl
      clear k6
      generalize wr.drew = wn at *
      refine ty 0 ⟨some 123, _, _, _, _, none⟩ (.pointer (some ⟨pm, 6, none⟩)) rfl (by rfl) ?_ hS ?_
      ·intro wy hy
       clear hy
       go_simp
      simp only [pA, pB, pC, pD]
      refine ty 1 ⟨some 124, _, _, _, _, none⟩ (.slice (some ⟨g6, 0, none⟩) x.runs.length q6) rfl (by rfl) ?_ hS ?_
      ·intro wy hy
       obtain ⟨c6, c2, c0⟩ := id hy
       clear hy
       go_simp
      simp only [pA, pB, pC, pD]
      refine ty 2 ⟨some 125, _, _, _, _, none⟩ (.int .i64 (k : Int)) rfl (by rfl) ?_ hS ?_
      ·intro wy hy
       clear hy
       go_simp
      simp only [pA, pB, pC, pD]
      refine ty 3 ⟨some 126, _, _, _, _, none⟩ (.pointer (some ⟨g6, k * 11, none⟩)) rfl (by rfl) ?_ hS ?_
      ·intro wy hy
       clear hy
       first | (go_simp; done) | (go_simp; omega) | (go_simp; intro hh; omega)
      simp only [pA, pB, pC, pD]
      refine ty 4 ⟨some 127, _, _, _, _, none⟩ (.pointer (some ⟨g6, k * 11, none⟩)) rfl (by rfl) ?_ hS ?_
      ·intro wy hy
       clear hy
       go_simp
      simp only [pA, pB, pC, pD]
      refine ty 5 ⟨some 128, _, _, _, _, none⟩ (.pointer (some ⟨g6, k * 11 + 2, none⟩)) rfl (by rfl) ?_ hS ?_
      ·intro wy hy
       clear hy
       go_simp
      simp only [pA, pB, pC, pD]
      refine ty 6 ⟨some 129, _, _, _, _, none⟩ (.string rn.want.hold) rfl (by rfl) ?_ hS ?_
      ·intro wy hy
       obtain ⟨c6, c2, c0⟩ := id hy
       clear hy
       go_simp
      simp only [pA, pB, pC, pD]
      refine ty 7 ⟨some 130, _, _, _, _, none⟩ (.pointer (some ⟨ga, 0, none⟩)) rfl (by rfl) ?_ hS ?_
      ·intro wy hy
       clear hy
       go_simp
      simp only [pA, pB, pC, pD]
      refine ty 8 ⟨some 131, _, _, _, _, none⟩ (.string y.hold) rfl (by rfl) ?_ hS ?_
      ·intro wy hy
       obtain ⟨c6, c2, c0⟩ := id hy
       clear hy
       go_simp
      simp only [pA, pB, pC, pD]
      refine ty 9 ⟨some 132, _, _, _, _, none⟩ (.bool true) rfl (by rfl) ?_ hS ?_
      ·intro wy hy
       clear hy
       first | (go_simp; done) | (go_simp; exact hq) | (simp [go_sem, hq]; done)
      simp only [pA, pB, pC, pD]
      refine ty 10 ⟨some 133, _, _, _, _, none⟩ (.bool true) rfl (by rfl) ?_ hS ?_
      ·intro wy hy
       clear hy
       go_simp
      simp only [pA, pB, pC, pD]
      refine ty 11 ⟨some 134, _, _, _, _, some (10, true)⟩ (.pointer (some ⟨p, 0, none⟩)) rfl (by rfl) ?_ hS ?_
      ·intro wy hy
       clear hy
       go_simp
      simp only [pA, pB, pC, pD]
      refine rd1 12 ⟨some 135, _, _, _, _, some (10, true)⟩ rfl (fun KK hKK => ?_)
      go_simp
      refine (pick_rd p K1 4 _ HI.out.R (by omega) (by omega) (by omega)).mono ?_
      rintro e w2 ⟨v, rfl, hv, hr, hb, -⟩
      have HI2 := Hid.intro (HI.out.bt hb hr)
      have HG2 := Hid.intro (HG.out.bt hb HG.out.lt hgp)
      have HRA2 : Hid (w2.rangeAt g6 (k * 11) (rcRn rn)) := fun i v h => (hb.cell (a := ⟨g6, k * 11 + i, none⟩) hg2 hg6p).trans (HRA.out i v h)
      refine hKK.out _ _ ⟨(hb.cell (a := ⟨pm, 6, none⟩) hpl hpp).trans hS.1, (hb.cell (a := ⟨g6, k * 11 + 2, none⟩) hg2 hg6p).trans hS.2.1, (hb.cell (a := ⟨ga, 0, none⟩) hga hgp).trans hS.2.2⟩ (fun hS => ?_)
      clear hKK KK hb hr HI HG HRA
      obtain ⟨vb, hvb⟩ : ∃ vb, vb = decide (0 < v) := ⟨_, rfl⟩
      refine ty 13 ⟨some 136, _, _, _, _, some (10, true)⟩ (.bool vb) rfl (by rfl) ?_ hS ?_
      ·intro wy hy
       clear hy
       first | (go_simp; done) | (go_simp; exact hvb.symm) | (rw [hvb]; go_simp; done)
      simp only [pA, pB, pC, pD]
      refine ty 14 ⟨some 137, _, _, _, _, none⟩ (.bool vb) rfl (by rfl) ?_ hS ?_
      ·intro wy hy
       clear hy
       go_simp
      simp only [pA, pB, pC, pD]
      refine wpAnyH_done (by kernel_rfl) ?_ _
      clear hS hvb
      cases vb with
      | false =>
       go_wp2_with fail
       go_roundw
       case rel => first | exact ⟨k + 1, y, K1 + 1, by omega, by go_num, hy1, hy2, by omega, HG2, HI2⟩ | ((repeat apply Exists.intro); exact ⟨⟨k + 1, y, K1 + 1, by omega, by go_num, hy1, hy2, by omega, HG2, HI2⟩, rfl⟩)
       case measure => simp [intOf]; omega
      | true =>
       have k6 : w2.cell? ⟨pm, 6, none⟩ = some (.slice (some ⟨g6, 0, none⟩) x.runs.length q6) := HI2.out.S.blk.cell rfl
       have c0 : w2.cell? ⟨g6, k * 11, none⟩ = some (.string rn.want.copy) := HRA2.out 0 _ rfl
       have ka : w2.cell? ⟨ga, 1, none⟩ = some (.string y.copy) := HG2.out.cell rfl
       have fa : w2.frozen? ⟨ga, 1, none⟩ = false := HG2.out.frozen _
       have HG3 := Hid.intro (HG2.out.set 1 (.string rn.want.copy))
       have HI3 := Hid.intro (HI2.out.set HOT.out 1 (.string rn.want.copy))
       go_wp2_with fail
       go_roundw
       case rel => first | exact ⟨k + 1, { y with copy := rn.want.copy }, K1 + 1, by omega, by go_num, ⟨hy1.1, HZR.out.1⟩, hy2, by omega, HG3, HI3⟩ | ((repeat apply Exists.intro); exact ⟨⟨k + 1, { y with copy := rn.want.copy }, K1 + 1, by omega, by go_num, ⟨hy1.1, HZR.out.1⟩, hy2, by omega, HG3, HI3⟩, rfl⟩)
       case measure => simp [intOf]; omega

end Go.Proofs.Ytnifmiacobfplaa
