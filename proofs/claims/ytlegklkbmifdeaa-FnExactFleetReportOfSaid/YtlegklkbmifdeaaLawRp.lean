/-
  Walk: the law of FleetReportOf. Made by mklrp.py.
-/
import Derived.Test.YtlegklkbmifdeaaRps
import Derived.Test.YtlegklkbmifdeaaRpi
import Derived.Test.YtlegklkbmifdeaaRpm
namespace Go.Proofs.Ytlegklkbmifdeaa
open Go.RowKit

theorem iszL_Mte : (Try.prog.info? 26).map (·.size) = some 9 := by kernel_rfl

theorem range_lt {w : World} {g : Nat} {v : Value} {l : List Value} (h : w.rangeAt g 0 (v :: l)) : g < w.heap.size := block_lt_of_cell (h 0 v rfl)
theorem range_next {w w' : World} {g : Nat} {v : Value} {l : List Value} (h : w.rangeAt g 0 (v :: l)) (hb : Below w.heap.size w w') : w'.rangeAt g 0 (v :: l) := range_belowV h hb (range_lt h)
theorem range_keeps {w w' : World} {g H : Nat} {l : List Value} (h : w.rangeAt g 0 l) (hk : Keeps H w w') (hH : H ≤ g) : w'.rangeAt g 0 l := fun j v hj => (hk.2 g (0 + j) hH (block_lt_of_cell (h j v hj))).1.trans (h j v hj)

theorem rep_w (x : Mte) : wS wRan (repOf x).runs ≤ wMte x := by
  have key : ∀ l : List Rn, wS wRan (l.map ranOf) ≤ wS wRn l := fun l => by
    unfold wS
    rw [List.length_map, List.map_map]
    have : ∀ l : List Rn, (l.map (wRan ∘ ranOf)).sum ≤ (l.map wRn).sum := fun l => by
      induction l with
      | nil => exact Nat.le_refl _
      | cons a l ih =>
        simp only [List.map_cons, List.sum_cons]
        have : (wRan ∘ ranOf) a ≤ wRn a := Nat.le_add_right _ _
        omega
    have := this l
    omega
  unfold repOf
  split
  · have := key x.runs
    show wS wRan (x.runs.map ranOf) ≤ wMte x
    unfold wMte
    omega
  · exact Nat.zero_le _

set_option maxHeartbeats 16000000 in
set_option maxRecDepth 100000 in
theorem law_any (x : Mte) (a5 : Option Addr) (c5 : Nat) (a6 : Option Addr) (c6 : Nat) (a7 : Option Addr) (c7 : Nat) (a8 : Option Addr) (c8 : Nat) (lo : Nat) (w : World) (z0 : x.name.size ≤ maxLen) (n5 : SliceC WntC 7 lo w a5 x.wants) (n6 : SliceC RnC 11 lo w a6 x.runs) (n7 : SliceC AksC 4 lo w a7 x.asks) (n8 : SliceC AksC 4 lo w a8 x.gives) :
    Calls Try.prog 3 #[.agg #[.string x.name, .bool x.up, .int .i64 x.clock, .bool x.known, .int .i64 x.seen, .slice a5 x.wants.length c5, .slice a6 x.runs.length c6, .slice a7 x.asks.length c7, .slice a8 x.gives.length c8]] w fun e w' => e = .returned (.bool true) ∧ Below w.heap.size w w' := by
  have N5 := Hid.intro n5
  have N6 := Hid.intro n6
  have N7 := Hid.intro n7
  have N8 := Hid.intro n8
  have Z0 := Hid.intro z0
  clear n5 n6 n7 n8 z0
  have HA : Hid ((w.alloc (Obj.cells #[.string x.name, .bool x.up, .int .i64 x.clock, .bool x.known, .int .i64 x.seen, .slice a5 x.wants.length c5, .slice a6 x.runs.length c6, .slice a7 x.asks.length c7, .slice a8 x.gives.length c8] 26)).rangeAt w.heap.size 0 [.string x.name, .bool x.up, .int .i64 x.clock, .bool x.known, .int .i64 x.seen, .slice a5 x.wants.length c5, .slice a6 x.runs.length c6, .slice a7 x.asks.length c7, .slice a8 x.gives.length c8]) := (Blk.alloc w _ _).rangeA
  have hB : Below w.heap.size w (w.alloc (Obj.cells #[.string x.name, .bool x.up, .int .i64 x.clock, .bool x.known, .int .i64 x.seen, .slice a5 x.wants.length c5, .slice a6 x.runs.length c6, .slice a7 x.asks.length c7, .slice a8 x.gives.length c8] 26)) := (Below.refl _ w).alloc (Nat.le_refl _) _
  go_enter Try.func3, Try.ntmps3
  go_upto_region 1 with fail
  generalize w.alloc (Obj.cells #[.string x.name, .bool x.up, .int .i64 x.clock, .bool x.known, .int .i64 x.seen, .slice a5 x.wants.length c5, .slice a6 x.runs.length c6, .slice a7 x.asks.length c7, .slice a8 x.gives.length c8] 26) = w0 at *
  go_wp2_with (refine wpList_load_mid rfl 26 _ rfl w.heap.size 0 rfl [.string x.name, .bool x.up, .int .i64 x.clock, .bool x.known, .int .i64 x.seen, .slice a5 x.wants.length c5, .slice a6 x.runs.length c6, .slice a7 x.asks.length c7, .slice a8 x.gives.length c8] _ HA.out Try.underlying26 rfl iszL_Mte ?_)
  refine (szMte_any x a5 c5 a6 c6 a7 c7 a8 c8 lo 1048576 _ Z0.out (N5.out.below WntC.holds (B := w.heap.size) hB (Nat.le_refl _)) (N6.out.below RnC.holds (B := w.heap.size) hB (Nat.le_refl _)) (N7.out.below AksC.holds (B := w.heap.size) hB (Nat.le_refl _)) (N8.out.below AksC.holds (B := w.heap.size) hB (Nat.le_refl _)) (by omega) (by omega)).mono ?_
  rintro e w1 ⟨rfl, hb⟩
  replace HA : Hid (w1.rangeAt w.heap.size 0 [.string x.name, .bool x.up, .int .i64 x.clock, .bool x.known, .int .i64 x.seen, .slice a5 x.wants.length c5, .slice a6 x.runs.length c6, .slice a7 x.asks.length c7, .slice a8 x.gives.length c8]) := range_next HA.out hb
  replace hB : Below w.heap.size w w1 := hB.trans (hb.mono hB.size)
  clear hb
  by_cases hz : ((wMte x : Nat) : Int) ≤ 1048576
  case neg =>
    rw [szR_neg hz]
    go_wp2_with fail
    go_ret
    exact ⟨rfl, hB⟩
  rw [szR_pos hz]
  have HM : Hid (wMte x ≤ 1048576) := by show _ ≤ _; omega
  have HZ := Hid.intro (MSz.of HM.out)
  have hz0 : (0 : Int) ≤ 1048576 - (wMte x : Nat) := by omega
  clear hz
  generalize (1048576 : Int) - (wMte x : Nat) = R at *
  go_wp2_with (refine wpList_load_mid rfl 26 _ rfl w.heap.size 0 rfl [.string x.name, .bool x.up, .int .i64 x.clock, .bool x.known, .int .i64 x.seen, .slice a5 x.wants.length c5, .slice a6 x.runs.length c6, .slice a7 x.asks.length c7, .slice a8 x.gives.length c8] _ HA.out Try.underlying26 rfl iszL_Mte ?_)
  refine (toMte_any x a5 c5 a6 c6 a7 c7 a8 c8 lo _ (N5.out.below WntC.holds (B := w.heap.size) hB (Nat.le_refl _)) (N6.out.below RnC.holds (B := w.heap.size) hB (Nat.le_refl _)) (N7.out.below AksC.holds (B := w.heap.size) hB (Nat.le_refl _)) (N8.out.below AksC.holds (B := w.heap.size) hB (Nat.le_refl _)) HM.out).mono ?_
  rintro e w2 ⟨g5, g6, g7, g8, rfl, p5, p6, p7, p8, hb⟩
  replace HA : Hid (w2.rangeAt w.heap.size 0 [.string x.name, .bool x.up, .int .i64 x.clock, .bool x.known, .int .i64 x.seen, .slice a5 x.wants.length c5, .slice a6 x.runs.length c6, .slice a7 x.asks.length c7, .slice a8 x.gives.length c8]) := range_next HA.out hb
  replace hB : Below w.heap.size w w2 := hB.trans (hb.mono hB.size)
  clear hb
  go_wp2_with fail
  refine (specRep_any x (some ⟨g5, 0, none⟩) x.wants.length (some ⟨g6, 0, none⟩) x.runs.length (some ⟨g7, 0, none⟩) x.asks.length (some ⟨g8, 0, none⟩) x.gives.length w1.heap.size _ ⟨p5, p6, p7, p8, (fun _ _ _ e => by cases e; rfl), (fun _ _ _ e => by cases e; rfl), (fun _ _ _ e => by cases e; rfl), (fun _ _ _ e => by cases e; rfl)⟩ HZ.out).mono ?_
  rintro e w3 ⟨y, b6, q6, hy, rfl, o6, _, hb⟩
  replace HA : Hid (w3.rangeAt w.heap.size 0 [.string x.name, .bool x.up, .int .i64 x.clock, .bool x.known, .int .i64 x.seen, .slice a5 x.wants.length c5, .slice a6 x.runs.length c6, .slice a7 x.asks.length c7, .slice a8 x.gives.length c8]) := range_next HA.out hb
  replace hB : Below w.heap.size w w3 := hB.trans (hb.mono hB.size)
  have zA0 : w.heap.size < w3.heap.size := range_lt HA.out
  have HY := Hid.intro hy
  have HMY : Hid (wS wRan y.runs ≤ 1048576) := by rw [hy]; exact Nat.le_trans (rep_w x) HM.out
  have PO6 := Hid.intro o6
  clear hb p5 p6 p7 p8 o6 hy
  have hb : Below w3.heap.size w3 (w3.alloc (Obj.cells #[.string y.berth, .int .i64 y.seen, .slice b6 y.runs.length q6] 30)) := (Below.refl _ _).alloc (Nat.le_refl _) _
  have H4 : Hid ((w3.alloc (Obj.cells #[.string y.berth, .int .i64 y.seen, .slice b6 y.runs.length q6] 30)).rangeAt w3.heap.size 0 [.string y.berth, .int .i64 y.seen, .slice b6 y.runs.length q6]) := (Blk.alloc w3 _ _).rangeA
  have HB3 : Hid (Below w3.heap.size w3 (w3.alloc (Obj.cells #[.string y.berth, .int .i64 y.seen, .slice b6 y.runs.length q6] 30))) := hb
  replace HA : Hid ((w3.alloc (Obj.cells #[.string y.berth, .int .i64 y.seen, .slice b6 y.runs.length q6] 30)).rangeAt w.heap.size 0 [.string x.name, .bool x.up, .int .i64 x.clock, .bool x.known, .int .i64 x.seen, .slice a5 x.wants.length c5, .slice a6 x.runs.length c6, .slice a7 x.asks.length c7, .slice a8 x.gives.length c8]) := range_next HA.out hb
  replace hB : Below w.heap.size w (w3.alloc (Obj.cells #[.string y.berth, .int .i64 y.seen, .slice b6 y.runs.length q6] 30)) := hB.trans (hb.mono hB.size)
  clear hb
  go_upto_region 6 with fail
  generalize w3.alloc (Obj.cells #[.string y.berth, .int .i64 y.seen, .slice b6 y.runs.length q6] 30) = w4 at *
  have z4 : w3.heap.size < w4.heap.size := range_lt H4.out
  skip
  go_wp2_with (refine wpList_load_mid rfl 26 _ rfl w.heap.size 0 rfl [.string x.name, .bool x.up, .int .i64 x.clock, .bool x.known, .int .i64 x.seen, .slice a5 x.wants.length c5, .slice a6 x.runs.length c6, .slice a7 x.asks.length c7, .slice a8 x.gives.length c8] _ HA.out Try.underlying26 rfl iszL_Mte ?_)
  refine (toMte_any x a5 c5 a6 c6 a7 c7 a8 c8 lo _ (N5.out.below WntC.holds (B := w.heap.size) hB (Nat.le_refl _)) (N6.out.below RnC.holds (B := w.heap.size) hB (Nat.le_refl _)) (N7.out.below AksC.holds (B := w.heap.size) hB (Nat.le_refl _)) (N8.out.below AksC.holds (B := w.heap.size) hB (Nat.le_refl _)) HM.out).mono ?_
  rintro e w5 ⟨g5, g6, g7, g8, rfl, p5, p6, p7, p8, hb⟩
  replace HA : Hid (w5.rangeAt w.heap.size 0 [.string x.name, .bool x.up, .int .i64 x.clock, .bool x.known, .int .i64 x.seen, .slice a5 x.wants.length c5, .slice a6 x.runs.length c6, .slice a7 x.asks.length c7, .slice a8 x.gives.length c8]) := range_next HA.out hb
  replace H4 : Hid (w5.rangeAt w3.heap.size 0 [.string y.berth, .int .i64 y.seen, .slice b6 y.runs.length q6]) := range_next H4.out hb
  replace HB3 : Hid (Below w3.heap.size w3 w5) := HB3.out.trans (hb.mono HB3.out.size)
  replace hB : Below w.heap.size w w5 := hB.trans (hb.mono hB.size)
  have z5 := hb.size
  have Q5 := Hid.intro p5
  have Q6 := Hid.intro p6
  have Q7 := Hid.intro p7
  have Q8 := Hid.intro p8
  clear hb p5 p6 p7 p8
  have hb : Below w5.heap.size w5 (w5.alloc (Obj.cells #[.string x.name, .bool x.up, .int .i64 x.clock, .bool x.known, .int .i64 x.seen, .slice (some ⟨g5, 0, none⟩) x.wants.length x.wants.length, .slice (some ⟨g6, 0, none⟩) x.runs.length x.runs.length, .slice (some ⟨g7, 0, none⟩) x.asks.length x.asks.length, .slice (some ⟨g8, 0, none⟩) x.gives.length x.gives.length] 36)) := (Below.refl _ _).alloc (Nat.le_refl _) _
  have H5 : Hid ((w5.alloc (Obj.cells #[.string x.name, .bool x.up, .int .i64 x.clock, .bool x.known, .int .i64 x.seen, .slice (some ⟨g5, 0, none⟩) x.wants.length x.wants.length, .slice (some ⟨g6, 0, none⟩) x.runs.length x.runs.length, .slice (some ⟨g7, 0, none⟩) x.asks.length x.asks.length, .slice (some ⟨g8, 0, none⟩) x.gives.length x.gives.length] 36)).rangeAt w5.heap.size 0 [.string x.name, .bool x.up, .int .i64 x.clock, .bool x.known, .int .i64 x.seen, .slice (some ⟨g5, 0, none⟩) x.wants.length x.wants.length, .slice (some ⟨g6, 0, none⟩) x.runs.length x.runs.length, .slice (some ⟨g7, 0, none⟩) x.asks.length x.asks.length, .slice (some ⟨g8, 0, none⟩) x.gives.length x.gives.length]) := (Blk.alloc w5 _ _).rangeA
  have HB5 : Hid (Below w5.heap.size w5 (w5.alloc (Obj.cells #[.string x.name, .bool x.up, .int .i64 x.clock, .bool x.known, .int .i64 x.seen, .slice (some ⟨g5, 0, none⟩) x.wants.length x.wants.length, .slice (some ⟨g6, 0, none⟩) x.runs.length x.runs.length, .slice (some ⟨g7, 0, none⟩) x.asks.length x.asks.length, .slice (some ⟨g8, 0, none⟩) x.gives.length x.gives.length] 36))) := hb
  replace HA : Hid ((w5.alloc (Obj.cells #[.string x.name, .bool x.up, .int .i64 x.clock, .bool x.known, .int .i64 x.seen, .slice (some ⟨g5, 0, none⟩) x.wants.length x.wants.length, .slice (some ⟨g6, 0, none⟩) x.runs.length x.runs.length, .slice (some ⟨g7, 0, none⟩) x.asks.length x.asks.length, .slice (some ⟨g8, 0, none⟩) x.gives.length x.gives.length] 36)).rangeAt w.heap.size 0 [.string x.name, .bool x.up, .int .i64 x.clock, .bool x.known, .int .i64 x.seen, .slice a5 x.wants.length c5, .slice a6 x.runs.length c6, .slice a7 x.asks.length c7, .slice a8 x.gives.length c8]) := range_next HA.out hb
  replace H4 : Hid ((w5.alloc (Obj.cells #[.string x.name, .bool x.up, .int .i64 x.clock, .bool x.known, .int .i64 x.seen, .slice (some ⟨g5, 0, none⟩) x.wants.length x.wants.length, .slice (some ⟨g6, 0, none⟩) x.runs.length x.runs.length, .slice (some ⟨g7, 0, none⟩) x.asks.length x.asks.length, .slice (some ⟨g8, 0, none⟩) x.gives.length x.gives.length] 36)).rangeAt w3.heap.size 0 [.string y.berth, .int .i64 y.seen, .slice b6 y.runs.length q6]) := range_next H4.out hb
  replace HB3 : Hid (Below w3.heap.size w3 (w5.alloc (Obj.cells #[.string x.name, .bool x.up, .int .i64 x.clock, .bool x.known, .int .i64 x.seen, .slice (some ⟨g5, 0, none⟩) x.wants.length x.wants.length, .slice (some ⟨g6, 0, none⟩) x.runs.length x.runs.length, .slice (some ⟨g7, 0, none⟩) x.asks.length x.asks.length, .slice (some ⟨g8, 0, none⟩) x.gives.length x.gives.length] 36))) := HB3.out.trans (hb.mono HB3.out.size)
  replace hB : Below w.heap.size w (w5.alloc (Obj.cells #[.string x.name, .bool x.up, .int .i64 x.clock, .bool x.known, .int .i64 x.seen, .slice (some ⟨g5, 0, none⟩) x.wants.length x.wants.length, .slice (some ⟨g6, 0, none⟩) x.runs.length x.runs.length, .slice (some ⟨g7, 0, none⟩) x.asks.length x.asks.length, .slice (some ⟨g8, 0, none⟩) x.gives.length x.gives.length] 36)) := hB.trans (hb.mono hB.size)
  clear hb
  go_upto_region 7 with fail
  generalize w5.alloc (Obj.cells #[.string x.name, .bool x.up, .int .i64 x.clock, .bool x.known, .int .i64 x.seen, .slice (some ⟨g5, 0, none⟩) x.wants.length x.wants.length, .slice (some ⟨g6, 0, none⟩) x.runs.length x.runs.length, .slice (some ⟨g7, 0, none⟩) x.asks.length x.asks.length, .slice (some ⟨g8, 0, none⟩) x.gives.length x.gives.length] 36) = w6 at *
  have z6 : w5.heap.size < w6.heap.size := range_lt H5.out
  go_wp2_with (refine wpList_load_mid rfl 36 _ rfl w5.heap.size 0 rfl [.string x.name, .bool x.up, .int .i64 x.clock, .bool x.known, .int .i64 x.seen, .slice (some ⟨g5, 0, none⟩) x.wants.length x.wants.length, .slice (some ⟨g6, 0, none⟩) x.runs.length x.runs.length, .slice (some ⟨g7, 0, none⟩) x.asks.length x.asks.length, .slice (some ⟨g8, 0, none⟩) x.gives.length x.gives.length] _ H5.out Try.underlying36 rfl isz_Mte ?_)
  refine (implRep_any x (some ⟨g5, 0, none⟩) x.wants.length (some ⟨g6, 0, none⟩) x.runs.length (some ⟨g7, 0, none⟩) x.asks.length (some ⟨g8, 0, none⟩) x.gives.length w4.heap.size _ ⟨Q5.out.below WntC.holds HB5.out (Nat.le_refl _), Q6.out.below RnC.holds HB5.out (Nat.le_refl _), Q7.out.below AksC.holds HB5.out (Nat.le_refl _), Q8.out.below AksC.holds HB5.out (Nat.le_refl _), (fun _ _ _ e => by cases e; rfl), (fun _ _ _ e => by cases e; rfl), (fun _ _ _ e => by cases e; rfl), (fun _ _ _ e => by cases e; rfl)⟩ HZ.out).mono ?_
  rintro e w7 ⟨y', d6, r6, hy, rfl, hg, hu, hb⟩
  obtain rfl : y = y' := HY.out.trans hy.symm
  replace HA : Hid (w7.rangeAt w.heap.size 0 [.string x.name, .bool x.up, .int .i64 x.clock, .bool x.known, .int .i64 x.seen, .slice a5 x.wants.length c5, .slice a6 x.runs.length c6, .slice a7 x.asks.length c7, .slice a8 x.gives.length c8]) := range_next HA.out hb
  replace H4 : Hid (w7.rangeAt w3.heap.size 0 [.string y.berth, .int .i64 y.seen, .slice b6 y.runs.length q6]) := range_next H4.out hb
  replace H5 : Hid (w7.rangeAt w5.heap.size 0 [.string x.name, .bool x.up, .int .i64 x.clock, .bool x.known, .int .i64 x.seen, .slice (some ⟨g5, 0, none⟩) x.wants.length x.wants.length, .slice (some ⟨g6, 0, none⟩) x.runs.length x.runs.length, .slice (some ⟨g7, 0, none⟩) x.asks.length x.asks.length, .slice (some ⟨g8, 0, none⟩) x.gives.length x.gives.length]) := range_next H5.out hb
  replace HB3 : Hid (Below w3.heap.size w3 w7) := HB3.out.trans (hb.mono HB3.out.size)
  replace HB5 : Hid (Below w5.heap.size w5 w7) := HB5.out.trans (hb.mono HB5.out.size)
  replace hB : Below w.heap.size w w7 := hB.trans (hb.mono hB.size)
  have z7 := hb.size
  have GG := Hid.intro hg
  have UU := Hid.intro hu
  clear hb hg hu hy
  have hb : Below w7.heap.size w7 (w7.alloc (Obj.cells #[.string y.berth, .int .i64 y.seen, .slice d6 y.runs.length r6] 30)) := (Below.refl _ _).alloc (Nat.le_refl _) _
  have H6 : Hid ((w7.alloc (Obj.cells #[.string y.berth, .int .i64 y.seen, .slice d6 y.runs.length r6] 30)).rangeAt w7.heap.size 0 [.string y.berth, .int .i64 y.seen, .slice d6 y.runs.length r6]) := (Blk.alloc w7 _ _).rangeA
  replace HA : Hid ((w7.alloc (Obj.cells #[.string y.berth, .int .i64 y.seen, .slice d6 y.runs.length r6] 30)).rangeAt w.heap.size 0 [.string x.name, .bool x.up, .int .i64 x.clock, .bool x.known, .int .i64 x.seen, .slice a5 x.wants.length c5, .slice a6 x.runs.length c6, .slice a7 x.asks.length c7, .slice a8 x.gives.length c8]) := range_next HA.out hb
  replace H4 : Hid ((w7.alloc (Obj.cells #[.string y.berth, .int .i64 y.seen, .slice d6 y.runs.length r6] 30)).rangeAt w3.heap.size 0 [.string y.berth, .int .i64 y.seen, .slice b6 y.runs.length q6]) := range_next H4.out hb
  replace H5 : Hid ((w7.alloc (Obj.cells #[.string y.berth, .int .i64 y.seen, .slice d6 y.runs.length r6] 30)).rangeAt w5.heap.size 0 [.string x.name, .bool x.up, .int .i64 x.clock, .bool x.known, .int .i64 x.seen, .slice (some ⟨g5, 0, none⟩) x.wants.length x.wants.length, .slice (some ⟨g6, 0, none⟩) x.runs.length x.runs.length, .slice (some ⟨g7, 0, none⟩) x.asks.length x.asks.length, .slice (some ⟨g8, 0, none⟩) x.gives.length x.gives.length]) := range_next H5.out hb
  replace HB3 : Hid (Below w3.heap.size w3 (w7.alloc (Obj.cells #[.string y.berth, .int .i64 y.seen, .slice d6 y.runs.length r6] 30))) := HB3.out.trans (hb.mono HB3.out.size)
  replace HB5 : Hid (Below w5.heap.size w5 (w7.alloc (Obj.cells #[.string y.berth, .int .i64 y.seen, .slice d6 y.runs.length r6] 30))) := HB5.out.trans (hb.mono HB5.out.size)
  replace GG : Hid (SliceC RanC 3 w6.heap.size (w7.alloc (Obj.cells #[.string y.berth, .int .i64 y.seen, .slice d6 y.runs.length r6] 30)) d6 y.runs) := GG.out.keep RanC.holds (Keeps.of_below hb (Nat.le_refl _) _) (Nat.le_refl _)
  replace hB : Below w.heap.size w (w7.alloc (Obj.cells #[.string y.berth, .int .i64 y.seen, .slice d6 y.runs.length r6] 30)) := hB.trans (hb.mono hB.size)
  clear hb
  go_upto_region 8 with fail
  generalize w7.alloc (Obj.cells #[.string y.berth, .int .i64 y.seen, .slice d6 y.runs.length r6] 30) = w8 at *
  have zA : w.heap.size < w8.heap.size := range_lt HA.out
  go_wp2_with (first | (refine wpList_load_mid rfl 30 _ rfl w7.heap.size 0 rfl [.string y.berth, .int .i64 y.seen, .slice d6 y.runs.length r6] _ H6.out Try.underlying30 rfl isz_Rep ?_) | (refine wpList_load_mid rfl 30 _ rfl w3.heap.size 0 rfl [.string y.berth, .int .i64 y.seen, .slice b6 y.runs.length q6] _ H4.out Try.underlying30 rfl isz_Rep ?_))
  refine (eqRep_any y d6 r6 b6 q6 _ _ _ GG.out (PO6.out.below RanC.holds HB3.out (Nat.le_refl _)) HMY.out).mono ?_
  rintro e w9 ⟨rfl, hb⟩
  replace HA : Hid (w9.rangeAt w.heap.size 0 [.string x.name, .bool x.up, .int .i64 x.clock, .bool x.known, .int .i64 x.seen, .slice a5 x.wants.length c5, .slice a6 x.runs.length c6, .slice a7 x.asks.length c7, .slice a8 x.gives.length c8]) := range_next HA.out hb
  replace H4 : Hid (w9.rangeAt w3.heap.size 0 [.string y.berth, .int .i64 y.seen, .slice b6 y.runs.length q6]) := range_next H4.out hb
  replace H5 : Hid (w9.rangeAt w5.heap.size 0 [.string x.name, .bool x.up, .int .i64 x.clock, .bool x.known, .int .i64 x.seen, .slice (some ⟨g5, 0, none⟩) x.wants.length x.wants.length, .slice (some ⟨g6, 0, none⟩) x.runs.length x.runs.length, .slice (some ⟨g7, 0, none⟩) x.asks.length x.asks.length, .slice (some ⟨g8, 0, none⟩) x.gives.length x.gives.length]) := range_next H5.out hb
  replace HB3 : Hid (Below w3.heap.size w3 w9) := HB3.out.trans (hb.mono HB3.out.size)
  replace HB5 : Hid (Below w5.heap.size w5 w9) := HB5.out.trans (hb.mono HB5.out.size)
  replace GG : Hid (SliceC RanC 3 w6.heap.size w9 d6 y.runs) := GG.out.keep RanC.holds (Keeps.of_below hb (Nat.le_refl _) _) (Nat.le_refl _)
  replace H6 : Hid (w9.rangeAt w7.heap.size 0 [.string y.berth, .int .i64 y.seen, .slice d6 y.runs.length r6]) := range_next H6.out hb
  replace hB : Below w.heap.size w w9 := hB.trans (hb.mono hB.size)
  clear hb
  go_upto_region 10 with fail
  refine wp_region_held_drew (S := fun wy => wy.rangeAt w5.heap.size 0 [.string x.name, .bool x.up, .int .i64 x.clock, .bool x.known, .int .i64 x.seen, .slice (some ⟨g5, 0, none⟩) x.wants.length x.wants.length, .slice (some ⟨g6, 0, none⟩) x.runs.length x.runs.length, .slice (some ⟨g7, 0, none⟩) x.asks.length x.asks.length, .slice (some ⟨g8, 0, none⟩) x.gives.length x.gives.length] ∧ wy.rangeAt w.heap.size 0 [.string x.name, .bool x.up, .int .i64 x.clock, .bool x.known, .int .i64 x.seen, .slice a5 x.wants.length c5, .slice a6 x.runs.length c6, .slice a7 x.asks.length c7, .slice a8 x.gives.length c8]) (by kernel_rfl) ⟨range_drew H5.out, range_drew HA.out⟩ (fun hS => ?_)
  have hb : Below w9.heap.size w9 w9.drew := (Below.refl _ _).drew
  replace HA : Hid (w9.drew.rangeAt w.heap.size 0 [.string x.name, .bool x.up, .int .i64 x.clock, .bool x.known, .int .i64 x.seen, .slice a5 x.wants.length c5, .slice a6 x.runs.length c6, .slice a7 x.asks.length c7, .slice a8 x.gives.length c8]) := range_next HA.out hb
  replace H4 : Hid (w9.drew.rangeAt w3.heap.size 0 [.string y.berth, .int .i64 y.seen, .slice b6 y.runs.length q6]) := range_next H4.out hb
  replace H5 : Hid (w9.drew.rangeAt w5.heap.size 0 [.string x.name, .bool x.up, .int .i64 x.clock, .bool x.known, .int .i64 x.seen, .slice (some ⟨g5, 0, none⟩) x.wants.length x.wants.length, .slice (some ⟨g6, 0, none⟩) x.runs.length x.runs.length, .slice (some ⟨g7, 0, none⟩) x.asks.length x.asks.length, .slice (some ⟨g8, 0, none⟩) x.gives.length x.gives.length]) := range_next H5.out hb
  replace HB3 : Hid (Below w3.heap.size w3 w9.drew) := HB3.out.trans (hb.mono HB3.out.size)
  replace HB5 : Hid (Below w5.heap.size w5 w9.drew) := HB5.out.trans (hb.mono HB5.out.size)
  replace GG : Hid (SliceC RanC 3 w6.heap.size w9.drew d6 y.runs) := GG.out.keep RanC.holds (Keeps.of_below hb (Nat.le_refl _) _) (Nat.le_refl _)
  replace H6 : Hid (w9.drew.rangeAt w7.heap.size 0 [.string y.berth, .int .i64 y.seen, .slice d6 y.runs.length r6]) := range_next H6.out hb
  replace hB : Below w.heap.size w w9.drew := hB.trans (hb.mono hB.size)
  clear hb
  generalize w9.drew = wd at *
  refine wpAnyH_take (i := 0) (oi := { dst := some 27, op := _, type := _, pos := _, after := _, guard := none }) (v := .agg #[.string x.name, .bool x.up, .int .i64 x.clock, .bool x.known, .int .i64 x.seen, .slice (some ⟨g5, 0, none⟩) x.wants.length x.wants.length, .slice (some ⟨g6, 0, none⟩) x.runs.length x.runs.length, .slice (some ⟨g7, 0, none⟩) x.asks.length x.asks.length, .slice (some ⟨g8, 0, none⟩) x.gives.length x.gives.length]) rfl (by kernel_rfl) (by kernel_rfl) (by kernel_rfl) (fun _ _ _ h => h) (yieldsIf_load_mid (by rfl) _ _ rfl w5.heap.size (0) rfl [.string x.name, .bool x.up, .int .i64 x.clock, .bool x.known, .int .i64 x.seen, .slice (some ⟨g5, 0, none⟩) x.wants.length x.wants.length, .slice (some ⟨g6, 0, none⟩) x.runs.length x.runs.length, .slice (some ⟨g7, 0, none⟩) x.asks.length x.asks.length, .slice (some ⟨g8, 0, none⟩) x.gives.length x.gives.length] _ (fun _ h => h.1) Try.underlying36 rfl isz_Mte) hS ?_
  simp only [Act.put, List.setIfInBounds_toArray, List.set_cons_zero, List.set_cons_succ]
  refine wpAnyH_take (i := 1) (oi := { dst := some 28, op := _, type := _, pos := _, after := _, guard := none }) (v := .agg #[.string x.name, .bool x.up, .int .i64 x.clock, .bool x.known, .int .i64 x.seen, .slice a5 x.wants.length c5, .slice a6 x.runs.length c6, .slice a7 x.asks.length c7, .slice a8 x.gives.length c8]) rfl (by kernel_rfl) (by kernel_rfl) (by kernel_rfl) (fun _ _ _ h => h) (yieldsIf_load_mid (by rfl) _ _ rfl w.heap.size (0) rfl [.string x.name, .bool x.up, .int .i64 x.clock, .bool x.known, .int .i64 x.seen, .slice a5 x.wants.length c5, .slice a6 x.runs.length c6, .slice a7 x.asks.length c7, .slice a8 x.gives.length c8] _ (fun _ h => h.2) Try.underlying26 rfl iszL_Mte) hS ?_
  simp only [Act.put, List.setIfInBounds_toArray, List.set_cons_zero, List.set_cons_succ]
  refine wpAnyH_ready (rs := [2]) (by kernel_rfl) (by simp) (AllReadyH.cons (o := { dst := some 29, op := _, type := _, pos := _, after := _, guard := none }) rfl (fun K hK => ?_) AllReadyH.nil)
  go_simp
  refine (toMte_any x a5 c5 a6 c6 a7 c7 a8 c8 lo _ (N5.out.below WntC.holds (B := w.heap.size) hB (Nat.le_refl _)) (N6.out.below RnC.holds (B := w.heap.size) hB (Nat.le_refl _)) (N7.out.below AksC.holds (B := w.heap.size) hB (Nat.le_refl _)) (N8.out.below AksC.holds (B := w.heap.size) hB (Nat.le_refl _)) HM.out).mono ?_
  rintro e we ⟨h5, h6, h7, h8, rfl, p5, p6, p7, p8, hb⟩
  replace HA : Hid (we.rangeAt w.heap.size 0 [.string x.name, .bool x.up, .int .i64 x.clock, .bool x.known, .int .i64 x.seen, .slice a5 x.wants.length c5, .slice a6 x.runs.length c6, .slice a7 x.asks.length c7, .slice a8 x.gives.length c8]) := range_next HA.out hb
  replace H4 : Hid (we.rangeAt w3.heap.size 0 [.string y.berth, .int .i64 y.seen, .slice b6 y.runs.length q6]) := range_next H4.out hb
  replace H5 : Hid (we.rangeAt w5.heap.size 0 [.string x.name, .bool x.up, .int .i64 x.clock, .bool x.known, .int .i64 x.seen, .slice (some ⟨g5, 0, none⟩) x.wants.length x.wants.length, .slice (some ⟨g6, 0, none⟩) x.runs.length x.runs.length, .slice (some ⟨g7, 0, none⟩) x.asks.length x.asks.length, .slice (some ⟨g8, 0, none⟩) x.gives.length x.gives.length]) := range_next H5.out hb
  replace HB3 : Hid (Below w3.heap.size w3 we) := HB3.out.trans (hb.mono HB3.out.size)
  replace HB5 : Hid (Below w5.heap.size w5 we) := HB5.out.trans (hb.mono HB5.out.size)
  replace GG : Hid (SliceC RanC 3 w6.heap.size we d6 y.runs) := GG.out.keep RanC.holds (Keeps.of_below hb (Nat.le_refl _) _) (Nat.le_refl _)
  replace H6 : Hid (we.rangeAt w7.heap.size 0 [.string y.berth, .int .i64 y.seen, .slice d6 y.runs.length r6]) := range_next H6.out hb
  replace hB : Below w.heap.size w we := hB.trans (hb.mono hB.size)
  refine hK.out _ _ ⟨H5.out, HA.out⟩ (fun hS => ?_)
  clear hK K hb
  have T5 := Hid.intro p5
  have T6 := Hid.intro p6
  have T7 := Hid.intro p7
  have T8 := Hid.intro p8
  clear p5 p6 p7 p8
  refine wpAnyH_ready (rs := [3]) (by kernel_rfl) (by simp) (AllReadyH.cons (o := { dst := some 30, op := _, type := _, pos := _, after := _, guard := none }) rfl (fun K hK => ?_) AllReadyH.nil)
  go_simp
  refine (eqMte_any x (some ⟨g5, 0, none⟩) x.wants.length (some ⟨g6, 0, none⟩) x.runs.length (some ⟨g7, 0, none⟩) x.asks.length (some ⟨g8, 0, none⟩) x.gives.length (some ⟨h5, 0, none⟩) x.wants.length (some ⟨h6, 0, none⟩) x.runs.length (some ⟨h7, 0, none⟩) x.asks.length (some ⟨h8, 0, none⟩) x.gives.length _ _ _ (Q5.out.below WntC.holds HB5.out (Nat.le_refl _)) (Q6.out.below RnC.holds HB5.out (Nat.le_refl _)) (Q7.out.below AksC.holds HB5.out (Nat.le_refl _)) (Q8.out.below AksC.holds HB5.out (Nat.le_refl _)) T5.out T6.out T7.out T8.out HM.out).mono ?_
  rintro e wg ⟨rfl, hb⟩
  replace HA : Hid (wg.rangeAt w.heap.size 0 [.string x.name, .bool x.up, .int .i64 x.clock, .bool x.known, .int .i64 x.seen, .slice a5 x.wants.length c5, .slice a6 x.runs.length c6, .slice a7 x.asks.length c7, .slice a8 x.gives.length c8]) := range_next HA.out hb
  replace H4 : Hid (wg.rangeAt w3.heap.size 0 [.string y.berth, .int .i64 y.seen, .slice b6 y.runs.length q6]) := range_next H4.out hb
  replace H5 : Hid (wg.rangeAt w5.heap.size 0 [.string x.name, .bool x.up, .int .i64 x.clock, .bool x.known, .int .i64 x.seen, .slice (some ⟨g5, 0, none⟩) x.wants.length x.wants.length, .slice (some ⟨g6, 0, none⟩) x.runs.length x.runs.length, .slice (some ⟨g7, 0, none⟩) x.asks.length x.asks.length, .slice (some ⟨g8, 0, none⟩) x.gives.length x.gives.length]) := range_next H5.out hb
  replace HB3 : Hid (Below w3.heap.size w3 wg) := HB3.out.trans (hb.mono HB3.out.size)
  replace HB5 : Hid (Below w5.heap.size w5 wg) := HB5.out.trans (hb.mono HB5.out.size)
  replace GG : Hid (SliceC RanC 3 w6.heap.size wg d6 y.runs) := GG.out.keep RanC.holds (Keeps.of_below hb (Nat.le_refl _) _) (Nat.le_refl _)
  replace H6 : Hid (wg.rangeAt w7.heap.size 0 [.string y.berth, .int .i64 y.seen, .slice d6 y.runs.length r6]) := range_next H6.out hb
  replace hB : Below w.heap.size w wg := hB.trans (hb.mono hB.size)
  refine hK.out _ _ ⟨H5.out, HA.out⟩ (fun hS => ?_)
  clear hK K hb T5 T6 T7 T8
  refine wpAnyH_take (i := 4) (oi := { dst := some 31, op := _, type := _, pos := _, after := _, guard := none }) (v := .bool false) rfl (by kernel_rfl) (by kernel_rfl) (by kernel_rfl) (fun _ _ _ h => h) (Or.inl ⟨by rfl, ?_⟩) hS ?_
  · intro wy hy
    clear hy
    go_simp
  simp only [Act.put, List.setIfInBounds_toArray, List.set_cons_zero, List.set_cons_succ]
  refine wpAnyH_done (by kernel_rfl) ?_ _
  clear hS
  have HTX : Hid (1 + x.wants.length * 7 + x.runs.length * 11 + x.asks.length * 4 + x.gives.length * 4 ≤ 1073741824) := by have := HZ.out.l5; have := HZ.out.l6; have := HZ.out.l7; have := HZ.out.l8; show _ ≤ _; omega
  have HTY : Hid (1 + y.runs.length * 3 ≤ 1073741824) := by have h8 := HMY.out; have h9 := wS_len (f := wRan) (xs := y.runs); show _ ≤ _; omega
  go_wp2_with (refine wpList_load_mid rfl 36 _ rfl w5.heap.size 0 rfl [.string x.name, .bool x.up, .int .i64 x.clock, .bool x.known, .int .i64 x.seen, .slice (some ⟨g5, 0, none⟩) x.wants.length x.wants.length, .slice (some ⟨g6, 0, none⟩) x.runs.length x.runs.length, .slice (some ⟨g7, 0, none⟩) x.asks.length x.asks.length, .slice (some ⟨g8, 0, none⟩) x.gives.length x.gives.length] _ H5.out Try.underlying36 rfl isz_Mte ?_)
  refine (markMte_any x (some ⟨g5, 0, none⟩) x.wants.length (some ⟨g6, 0, none⟩) x.runs.length (some ⟨g7, 0, none⟩) x.asks.length (some ⟨g8, 0, none⟩) x.gives.length w4.heap.size 1 w5 wg wg ⟨Q5.out, Q6.out, Q7.out, Q8.out, (fun _ _ _ e => by cases e; rfl), (fun _ _ _ e => by cases e; rfl), (fun _ _ _ e => by cases e; rfl), (fun _ _ _ e => by cases e; rfl)⟩ (by omega) (Mkd.start HB5.out z5) (by omega) HTX.out).mono ?_
  rintro e wh ⟨rfl, hm⟩
  have hk : Keeps w5.heap.size wg wh := ⟨hm.bel.size, fun b o h1 h2 => hm.up b o h1 h2⟩
  replace HA : Hid (wh.rangeAt w.heap.size 0 [.string x.name, .bool x.up, .int .i64 x.clock, .bool x.known, .int .i64 x.seen, .slice a5 x.wants.length c5, .slice a6 x.runs.length c6, .slice a7 x.asks.length c7, .slice a8 x.gives.length c8]) := range_belowV HA.out hm.bel (by omega)
  replace H4 : Hid (wh.rangeAt w3.heap.size 0 [.string y.berth, .int .i64 y.seen, .slice b6 y.runs.length q6]) := range_belowV H4.out hm.bel z4
  replace HB3 : Hid (Below w3.heap.size w3 wh) := HB3.out.trans (hm.bel.mono (by omega))
  replace H6 : Hid (wh.rangeAt w7.heap.size 0 [.string y.berth, .int .i64 y.seen, .slice d6 y.runs.length r6]) := range_keeps H6.out hk (by omega)
  replace GG : Hid (SliceC RanC 3 w6.heap.size wh d6 y.runs) := GG.out.keep RanC.holds (hk.lower (by omega)) (Nat.le_refl _)
  replace hB : Below w.heap.size w wh := hB.trans (hm.bel.mono (by omega))
  clear hm hk H5 HB5 Q5 Q6 Q7 Q8 HTX
  generalize 1 + x.wants.length * 7 + x.runs.length * 11 + x.asks.length * 4 + x.gives.length * 4 = TX
  have hTX : (0 : Int) ≤ (TX : Int) := by omega
  have k0 : wh.cell? ⟨w7.heap.size, 0, none⟩ = some (.string y.berth) := H6.out 0 _ rfl
  have k1 : wh.cell? ⟨w7.heap.size, 1, none⟩ = some (.int .i64 y.seen) := H6.out 1 _ rfl
  have k2 : wh.cell? ⟨w7.heap.size, 2, none⟩ = some (.slice d6 y.runs.length r6) := H6.out 2 _ rfl
  have l0 : wh.cell? ⟨w3.heap.size, 0, none⟩ = some (.string y.berth) := H4.out 0 _ rfl
  have l1 : wh.cell? ⟨w3.heap.size, 1, none⟩ = some (.int .i64 y.seen) := H4.out 1 _ rfl
  have l2 : wh.cell? ⟨w3.heap.size, 2, none⟩ = some (.slice b6 y.runs.length q6) := H4.out 2 _ rfl
  go_wp2_with fail
  clear hTX k0 l0 k1 l1 k2 l2
  refine (eqRep_any y d6 r6 b6 q6 _ _ _ GG.out (PO6.out.below RanC.holds HB3.out (Nat.le_refl _)) HMY.out).mono ?_
  rintro e wi ⟨rfl, hb⟩
  replace HA : Hid (wi.rangeAt w.heap.size 0 [.string x.name, .bool x.up, .int .i64 x.clock, .bool x.known, .int .i64 x.seen, .slice a5 x.wants.length c5, .slice a6 x.runs.length c6, .slice a7 x.asks.length c7, .slice a8 x.gives.length c8]) := range_next HA.out hb
  replace H4 : Hid (wi.rangeAt w3.heap.size 0 [.string y.berth, .int .i64 y.seen, .slice b6 y.runs.length q6]) := range_next H4.out hb
  replace HB3 : Hid (Below w3.heap.size w3 wi) := HB3.out.trans (hb.mono HB3.out.size)
  replace GG : Hid (SliceC RanC 3 w6.heap.size wi d6 y.runs) := GG.out.keep RanC.holds (Keeps.of_below hb (Nat.le_refl _) _) (Nat.le_refl _)
  replace H6 : Hid (wi.rangeAt w7.heap.size 0 [.string y.berth, .int .i64 y.seen, .slice d6 y.runs.length r6]) := range_next H6.out hb
  replace hB : Below w.heap.size w wi := hB.trans (hb.mono hB.size)
  clear hb
  go_wp2_with (refine wpList_load_mid rfl 30 _ rfl w7.heap.size 0 rfl [.string y.berth, .int .i64 y.seen, .slice d6 y.runs.length r6] _ H6.out Try.underlying30 rfl isz_Rep ?_)
  refine (markRep_any y d6 r6 w6.heap.size w7.heap.size 1 wi GG.out UU.out z7 (Nat.le_of_lt (range_lt H6.out)) (by omega) (by omega) HTY.out).mono ?_
  rintro e wj ⟨rfl, hmk, hbl, hkk⟩
  have MK := Hid.intro hmk
  replace HA : Hid (wj.rangeAt w.heap.size 0 [.string x.name, .bool x.up, .int .i64 x.clock, .bool x.known, .int .i64 x.seen, .slice a5 x.wants.length c5, .slice a6 x.runs.length c6, .slice a7 x.asks.length c7, .slice a8 x.gives.length c8]) := range_belowV HA.out hbl (by omega)
  replace H4 : Hid (wj.rangeAt w3.heap.size 0 [.string y.berth, .int .i64 y.seen, .slice b6 y.runs.length q6]) := range_belowV H4.out hbl (by omega)
  replace HB3 : Hid (Below w3.heap.size w3 wj) := HB3.out.trans (hbl.mono (by omega))
  replace H6 : Hid (wj.rangeAt w7.heap.size 0 [.string y.berth, .int .i64 y.seen, .slice d6 y.runs.length r6]) := range_keeps H6.out hkk (Nat.le_refl _)
  replace hB : Below w.heap.size w wj := hB.trans (hbl.mono (by omega))
  clear hmk hbl hkk GG
  obtain ⟨TY, HTY2⟩ : ∃ T : Nat, Hid (T = 1 + y.runs.length * 3) := ⟨_, rfl⟩
  rw [← HTY2.out]
  have hTY : (0 : Int) ≤ (TY : Int) := by omega
  go_wp2_with (refine wpList_load_mid rfl 30 _ rfl w7.heap.size 0 rfl [.string y.berth, .int .i64 y.seen, .slice d6 y.runs.length r6] _ H6.out Try.underlying30 rfl isz_Rep ?_)
  refine (heldRep_any y d6 r6 1 _ MK.out (by omega) HTY.out).mono ?_
  rintro e wk ⟨rfl, hb⟩
  replace HA : Hid (wk.rangeAt w.heap.size 0 [.string x.name, .bool x.up, .int .i64 x.clock, .bool x.known, .int .i64 x.seen, .slice a5 x.wants.length c5, .slice a6 x.runs.length c6, .slice a7 x.asks.length c7, .slice a8 x.gives.length c8]) := range_next HA.out hb
  replace H4 : Hid (wk.rangeAt w3.heap.size 0 [.string y.berth, .int .i64 y.seen, .slice b6 y.runs.length q6]) := range_next H4.out hb
  replace HB3 : Hid (Below w3.heap.size w3 wk) := HB3.out.trans (hb.mono HB3.out.size)
  replace H6 : Hid (wk.rangeAt w7.heap.size 0 [.string y.berth, .int .i64 y.seen, .slice d6 y.runs.length r6]) := range_next H6.out hb
  replace MK : Hid (MkdRRan wk d6 y.runs.length 1) := MK.out.below hb
  replace hB : Below w.heap.size w wk := hB.trans (hb.mono hB.size)
  clear hb
  rw [← HTY2.out]
  go_wp2_with (refine wpList_load_mid rfl 26 _ rfl w.heap.size 0 rfl [.string x.name, .bool x.up, .int .i64 x.clock, .bool x.known, .int .i64 x.seen, .slice a5 x.wants.length c5, .slice a6 x.runs.length c6, .slice a7 x.asks.length c7, .slice a8 x.gives.length c8] _ HA.out Try.underlying26 rfl iszL_Mte ?_)
  refine (toMte_any x a5 c5 a6 c6 a7 c7 a8 c8 lo _ (N5.out.below WntC.holds (B := w.heap.size) hB (Nat.le_refl _)) (N6.out.below RnC.holds (B := w.heap.size) hB (Nat.le_refl _)) (N7.out.below AksC.holds (B := w.heap.size) hB (Nat.le_refl _)) (N8.out.below AksC.holds (B := w.heap.size) hB (Nat.le_refl _)) HM.out).mono ?_
  rintro e wl ⟨h5, h6, h7, h8, rfl, p5, p6, p7, p8, hb⟩
  replace HA : Hid (wl.rangeAt w.heap.size 0 [.string x.name, .bool x.up, .int .i64 x.clock, .bool x.known, .int .i64 x.seen, .slice a5 x.wants.length c5, .slice a6 x.runs.length c6, .slice a7 x.asks.length c7, .slice a8 x.gives.length c8]) := range_next HA.out hb
  replace H4 : Hid (wl.rangeAt w3.heap.size 0 [.string y.berth, .int .i64 y.seen, .slice b6 y.runs.length q6]) := range_next H4.out hb
  replace HB3 : Hid (Below w3.heap.size w3 wl) := HB3.out.trans (hb.mono HB3.out.size)
  replace H6 : Hid (wl.rangeAt w7.heap.size 0 [.string y.berth, .int .i64 y.seen, .slice d6 y.runs.length r6]) := range_next H6.out hb
  replace MK : Hid (MkdRRan wl d6 y.runs.length 1) := MK.out.below hb
  replace hB : Below w.heap.size w wl := hB.trans (hb.mono hB.size)
  clear hb
  go_wp2_with fail
  refine (implRep_any x (some ⟨h5, 0, none⟩) x.wants.length (some ⟨h6, 0, none⟩) x.runs.length (some ⟨h7, 0, none⟩) x.asks.length (some ⟨h8, 0, none⟩) x.gives.length wk.heap.size _ ⟨p5, p6, p7, p8, (fun _ _ _ e => by cases e; rfl), (fun _ _ _ e => by cases e; rfl), (fun _ _ _ e => by cases e; rfl), (fun _ _ _ e => by cases e; rfl)⟩ HZ.out).mono ?_
  rintro e wm ⟨y', s6, t6, hy, rfl, hg, _, hb⟩
  obtain rfl : y = y' := HY.out.trans hy.symm
  replace HA : Hid (wm.rangeAt w.heap.size 0 [.string x.name, .bool x.up, .int .i64 x.clock, .bool x.known, .int .i64 x.seen, .slice a5 x.wants.length c5, .slice a6 x.runs.length c6, .slice a7 x.asks.length c7, .slice a8 x.gives.length c8]) := range_next HA.out hb
  replace H4 : Hid (wm.rangeAt w3.heap.size 0 [.string y.berth, .int .i64 y.seen, .slice b6 y.runs.length q6]) := range_next H4.out hb
  replace HB3 : Hid (Below w3.heap.size w3 wm) := HB3.out.trans (hb.mono HB3.out.size)
  replace H6 : Hid (wm.rangeAt w7.heap.size 0 [.string y.berth, .int .i64 y.seen, .slice d6 y.runs.length r6]) := range_next H6.out hb
  replace MK : Hid (MkdRRan wm d6 y.runs.length 1) := MK.out.below hb
  replace hB : Below w.heap.size w wm := hB.trans (hb.mono hB.size)
  have GG := Hid.intro hg
  clear hb hg hy p5 p6 p7 p8
  have hb : Below wm.heap.size wm (wm.alloc (Obj.cells #[.string y.berth, .int .i64 y.seen, .slice s6 y.runs.length t6] 30)) := (Below.refl _ _).alloc (Nat.le_refl _) _
  have H7 : Hid ((wm.alloc (Obj.cells #[.string y.berth, .int .i64 y.seen, .slice s6 y.runs.length t6] 30)).rangeAt wm.heap.size 0 [.string y.berth, .int .i64 y.seen, .slice s6 y.runs.length t6]) := (Blk.alloc wm _ _).rangeA
  replace HA : Hid ((wm.alloc (Obj.cells #[.string y.berth, .int .i64 y.seen, .slice s6 y.runs.length t6] 30)).rangeAt w.heap.size 0 [.string x.name, .bool x.up, .int .i64 x.clock, .bool x.known, .int .i64 x.seen, .slice a5 x.wants.length c5, .slice a6 x.runs.length c6, .slice a7 x.asks.length c7, .slice a8 x.gives.length c8]) := range_next HA.out hb
  replace H4 : Hid ((wm.alloc (Obj.cells #[.string y.berth, .int .i64 y.seen, .slice s6 y.runs.length t6] 30)).rangeAt w3.heap.size 0 [.string y.berth, .int .i64 y.seen, .slice b6 y.runs.length q6]) := range_next H4.out hb
  replace HB3 : Hid (Below w3.heap.size w3 (wm.alloc (Obj.cells #[.string y.berth, .int .i64 y.seen, .slice s6 y.runs.length t6] 30))) := HB3.out.trans (hb.mono HB3.out.size)
  replace H6 : Hid ((wm.alloc (Obj.cells #[.string y.berth, .int .i64 y.seen, .slice s6 y.runs.length t6] 30)).rangeAt w7.heap.size 0 [.string y.berth, .int .i64 y.seen, .slice d6 y.runs.length r6]) := range_next H6.out hb
  replace MK : Hid (MkdRRan (wm.alloc (Obj.cells #[.string y.berth, .int .i64 y.seen, .slice s6 y.runs.length t6] 30)) d6 y.runs.length 1) := MK.out.below hb
  replace hB : Below w.heap.size w (wm.alloc (Obj.cells #[.string y.berth, .int .i64 y.seen, .slice s6 y.runs.length t6] 30)) := hB.trans (hb.mono hB.size)
  have GG2 := Hid.intro (GG.out.keep RanC.holds (Keeps.of_below hb (Nat.le_refl _) wl.heap.size) (Nat.le_refl _))
  clear hb GG
  go_upto_region 25 with fail
  generalize wm.alloc (Obj.cells #[.string y.berth, .int .i64 y.seen, .slice s6 y.runs.length t6] 30) = wn at *
  go_wp2_with (first | (refine wpList_load_mid rfl 30 _ rfl wm.heap.size 0 rfl [.string y.berth, .int .i64 y.seen, .slice s6 y.runs.length t6] _ H7.out Try.underlying30 rfl isz_Rep ?_) | (refine wpList_load_mid rfl 30 _ rfl w3.heap.size 0 rfl [.string y.berth, .int .i64 y.seen, .slice b6 y.runs.length q6] _ H4.out Try.underlying30 rfl isz_Rep ?_))
  refine (eqRep_any y s6 t6 b6 q6 _ _ _ GG2.out (PO6.out.below RanC.holds HB3.out (Nat.le_refl _)) HMY.out).mono ?_
  rintro e wo ⟨rfl, hb⟩
  replace HA : Hid (wo.rangeAt w.heap.size 0 [.string x.name, .bool x.up, .int .i64 x.clock, .bool x.known, .int .i64 x.seen, .slice a5 x.wants.length c5, .slice a6 x.runs.length c6, .slice a7 x.asks.length c7, .slice a8 x.gives.length c8]) := range_next HA.out hb
  replace H4 : Hid (wo.rangeAt w3.heap.size 0 [.string y.berth, .int .i64 y.seen, .slice b6 y.runs.length q6]) := range_next H4.out hb
  replace HB3 : Hid (Below w3.heap.size w3 wo) := HB3.out.trans (hb.mono HB3.out.size)
  replace H6 : Hid (wo.rangeAt w7.heap.size 0 [.string y.berth, .int .i64 y.seen, .slice d6 y.runs.length r6]) := range_next H6.out hb
  replace MK : Hid (MkdRRan wo d6 y.runs.length 1) := MK.out.below hb
  replace hB : Below w.heap.size w wo := hB.trans (hb.mono hB.size)
  clear hb H7 GG2
  go_wp2_with (refine wpList_load_mid rfl 30 _ rfl w7.heap.size 0 rfl [.string y.berth, .int .i64 y.seen, .slice d6 y.runs.length r6] _ H6.out Try.underlying30 rfl isz_Rep ?_)
  refine (heldRep_any y d6 r6 1 _ MK.out (by omega) HTY.out).mono ?_
  rintro e wp ⟨rfl, hb⟩
  replace HA : Hid (wp.rangeAt w.heap.size 0 [.string x.name, .bool x.up, .int .i64 x.clock, .bool x.known, .int .i64 x.seen, .slice a5 x.wants.length c5, .slice a6 x.runs.length c6, .slice a7 x.asks.length c7, .slice a8 x.gives.length c8]) := range_next HA.out hb
  replace H4 : Hid (wp.rangeAt w3.heap.size 0 [.string y.berth, .int .i64 y.seen, .slice b6 y.runs.length q6]) := range_next H4.out hb
  replace HB3 : Hid (Below w3.heap.size w3 wp) := HB3.out.trans (hb.mono HB3.out.size)
  replace H6 : Hid (wp.rangeAt w7.heap.size 0 [.string y.berth, .int .i64 y.seen, .slice d6 y.runs.length r6]) := range_next H6.out hb
  replace MK : Hid (MkdRRan wp d6 y.runs.length 1) := MK.out.below hb
  replace hB : Below w.heap.size w wp := hB.trans (hb.mono hB.size)
  clear hb
  rw [← HTY2.out]
  go_wp2_with fail
  go_ret
  exact ⟨rfl, hB⟩

end Go.Proofs.Ytlegklkbmifdeaa
