import Derived.Test.YtlangcodelcncaaGreatMkq
namespace Go.Proofs.YtlangcodelcncaaGreat
open Go.RowKit

theorem iszL_Mte : (Tryz.prog.info? 26).map (·.size) = some 9 := by kernel_rfl
theorem iszL_Pcl : (Tryz.prog.info? 28).map (·.size) = some 7 := by kernel_rfl

theorem range_lt {w : World} {g : Nat} {v : Value} {l : List Value} (h : w.rangeAt g 0 (v :: l)) : g < w.heap.size := block_lt_of_cell (h 0 v rfl)
theorem range_next {w w' : World} {g : Nat} {v : Value} {l : List Value} (h : w.rangeAt g 0 (v :: l)) (hb : Below w.heap.size w w') : w'.rangeAt g 0 (v :: l) := range_belowV h hb (range_lt h)
theorem range_keeps {w w' : World} {g H : Nat} {l : List Value} (h : w.rangeAt g 0 l) (hk : Keeps H w w') (hH : H ≤ g) : w'.rangeAt g 0 l := fun j v hj => (hk.2 g (0 + j) hH (block_lt_of_cell (h j v hj))).1.trans (h j v hj)

theorem G4.sl {x : Mte} {lo hi : Nat} {b5 b6 b7 b8 : Option Addr} {w : World} (h : G4 x lo hi b5 b6 b7 b8 w) : SliceC WntC 7 lo w b5 x.wants ∧ SliceC RnC 11 lo w b6 x.runs ∧ SliceC AksC 4 lo w b7 x.asks ∧ SliceC AksC 4 lo w b8 x.gives := by
  obtain ⟨h5, h6, h7, l5, l6, l7, l8, l9, u5, u6, u7, u8, s5, s6, s7, s8⟩ := h
  exact ⟨s5, s6.keep RnC.holds (Keeps.refl _ _) (by omega), s7.keep AksC.holds (Keeps.refl _ _) (by omega), s8.keep AksC.holds (Keeps.refl _ _) (by omega)⟩

set_option maxHeartbeats 32000000 in
set_option maxRecDepth 100000 in
theorem law_any (x : Mte) (a5 : Option Addr) (c5 : Nat) (a6 : Option Addr) (c6 : Nat) (a7 : Option Addr) (c7 : Nat) (a8 : Option Addr) (c8 : Nat) (q : Pcl) (a3 : Option Addr) (c3 : Nat) (lo : Nat) (w : World) (z0 : x.name.size ≤ maxLen) (n5 : SliceC WntC 7 lo w a5 x.wants) (n6 : SliceC RnC 11 lo w a6 x.runs) (n7 : SliceC AksC 4 lo w a7 x.asks) (n8 : SliceC AksC 4 lo w a8 x.gives) (z1 : q.berth.size ≤ maxLen) (z4 : q.hold.size ≤ maxLen) (z5 : q.copy.size ≤ maxLen) (n3 : SliceC WntC 7 lo w a3 q.wants) :
    Calls Tryz.prog 3 #[.agg #[.string x.name, .bool x.up, .int .i64 x.clock, .bool x.known, .int .i64 x.seen, .slice a5 x.wants.length c5, .slice a6 x.runs.length c6, .slice a7 x.asks.length c7, .slice a8 x.gives.length c8], .agg #[.int .i64 q.kind, .string q.berth, .int .i64 q.seen, .slice a3 q.wants.length c3, .string q.hold, .string q.copy, .int .i64 q.at_]] w fun e w' => e = .returned (.bool true) ∧ Below w.heap.size w w' := by
  have N5 := Hid.intro n5
  have N6 := Hid.intro n6
  have N7 := Hid.intro n7
  have N8 := Hid.intro n8
  have N3 := Hid.intro n3
  have Z0 := Hid.intro z0
  have Z1 := Hid.intro z1
  have Z4 := Hid.intro z4
  have Z5 := Hid.intro z5
  clear n5 n6 n7 n8 n3 z0 z1 z4 z5
  have hb0 : Below (w.alloc (Obj.cells #[.string x.name, .bool x.up, .int .i64 x.clock, .bool x.known, .int .i64 x.seen, .slice a5 x.wants.length c5, .slice a6 x.runs.length c6, .slice a7 x.asks.length c7, .slice a8 x.gives.length c8] 26)).heap.size (w.alloc (Obj.cells #[.string x.name, .bool x.up, .int .i64 x.clock, .bool x.known, .int .i64 x.seen, .slice a5 x.wants.length c5, .slice a6 x.runs.length c6, .slice a7 x.asks.length c7, .slice a8 x.gives.length c8] 26)) ((w.alloc (Obj.cells #[.string x.name, .bool x.up, .int .i64 x.clock, .bool x.known, .int .i64 x.seen, .slice a5 x.wants.length c5, .slice a6 x.runs.length c6, .slice a7 x.asks.length c7, .slice a8 x.gives.length c8] 26)).alloc (Obj.cells #[.int .i64 q.kind, .string q.berth, .int .i64 q.seen, .slice a3 q.wants.length c3, .string q.hold, .string q.copy, .int .i64 q.at_] 28)) := (Below.refl _ _).alloc (Nat.le_refl _) _
  have HA : Hid (((w.alloc (Obj.cells #[.string x.name, .bool x.up, .int .i64 x.clock, .bool x.known, .int .i64 x.seen, .slice a5 x.wants.length c5, .slice a6 x.runs.length c6, .slice a7 x.asks.length c7, .slice a8 x.gives.length c8] 26)).alloc (Obj.cells #[.int .i64 q.kind, .string q.berth, .int .i64 q.seen, .slice a3 q.wants.length c3, .string q.hold, .string q.copy, .int .i64 q.at_] 28)).rangeAt w.heap.size 0 [.string x.name, .bool x.up, .int .i64 x.clock, .bool x.known, .int .i64 x.seen, .slice a5 x.wants.length c5, .slice a6 x.runs.length c6, .slice a7 x.asks.length c7, .slice a8 x.gives.length c8]) := ((Blk.alloc w #[.string x.name, .bool x.up, .int .i64 x.clock, .bool x.known, .int .i64 x.seen, .slice a5 x.wants.length c5, .slice a6 x.runs.length c6, .slice a7 x.asks.length c7, .slice a8 x.gives.length c8] 26).below hb0 (Blk.alloc w #[.string x.name, .bool x.up, .int .i64 x.clock, .bool x.known, .int .i64 x.seen, .slice a5 x.wants.length c5, .slice a6 x.runs.length c6, .slice a7 x.asks.length c7, .slice a8 x.gives.length c8] 26).lt).rangeA
  have HP : Hid (((w.alloc (Obj.cells #[.string x.name, .bool x.up, .int .i64 x.clock, .bool x.known, .int .i64 x.seen, .slice a5 x.wants.length c5, .slice a6 x.runs.length c6, .slice a7 x.asks.length c7, .slice a8 x.gives.length c8] 26)).alloc (Obj.cells #[.int .i64 q.kind, .string q.berth, .int .i64 q.seen, .slice a3 q.wants.length c3, .string q.hold, .string q.copy, .int .i64 q.at_] 28)).rangeAt (w.heap.size + 1) 0 [.int .i64 q.kind, .string q.berth, .int .i64 q.seen, .slice a3 q.wants.length c3, .string q.hold, .string q.copy, .int .i64 q.at_]) := by
    have := Blk.alloc (w.alloc (Obj.cells #[.string x.name, .bool x.up, .int .i64 x.clock, .bool x.known, .int .i64 x.seen, .slice a5 x.wants.length c5, .slice a6 x.runs.length c6, .slice a7 x.asks.length c7, .slice a8 x.gives.length c8] 26)) #[.int .i64 q.kind, .string q.berth, .int .i64 q.seen, .slice a3 q.wants.length c3, .string q.hold, .string q.copy, .int .i64 q.at_] 28
    have h9 : Blk (w.heap.size + 1) #[.int .i64 q.kind, .string q.berth, .int .i64 q.seen, .slice a3 q.wants.length c3, .string q.hold, .string q.copy, .int .i64 q.at_] 28 ((w.alloc (Obj.cells #[.string x.name, .bool x.up, .int .i64 x.clock, .bool x.known, .int .i64 x.seen, .slice a5 x.wants.length c5, .slice a6 x.runs.length c6, .slice a7 x.asks.length c7, .slice a8 x.gives.length c8] 26)).alloc (Obj.cells #[.int .i64 q.kind, .string q.berth, .int .i64 q.seen, .slice a3 q.wants.length c3, .string q.hold, .string q.copy, .int .i64 q.at_] 28)) := by simpa using this
    exact h9.rangeA
  have hB : Below w.heap.size w ((w.alloc (Obj.cells #[.string x.name, .bool x.up, .int .i64 x.clock, .bool x.known, .int .i64 x.seen, .slice a5 x.wants.length c5, .slice a6 x.runs.length c6, .slice a7 x.asks.length c7, .slice a8 x.gives.length c8] 26)).alloc (Obj.cells #[.int .i64 q.kind, .string q.berth, .int .i64 q.seen, .slice a3 q.wants.length c3, .string q.hold, .string q.copy, .int .i64 q.at_] 28)) := by go_grown
  clear hb0
  go_enter Tryz.func3, Tryz.ntmps3
  go_upto_region 1 with fail
  generalize (w.alloc (Obj.cells #[.string x.name, .bool x.up, .int .i64 x.clock, .bool x.known, .int .i64 x.seen, .slice a5 x.wants.length c5, .slice a6 x.runs.length c6, .slice a7 x.asks.length c7, .slice a8 x.gives.length c8] 26)).alloc (Obj.cells #[.int .i64 q.kind, .string q.berth, .int .i64 q.seen, .slice a3 q.wants.length c3, .string q.hold, .string q.copy, .int .i64 q.at_] 28) = w0 at *
  go_wp2_with (refine wpList_load_mid rfl 26 _ rfl w.heap.size 0 rfl [.string x.name, .bool x.up, .int .i64 x.clock, .bool x.known, .int .i64 x.seen, .slice a5 x.wants.length c5, .slice a6 x.runs.length c6, .slice a7 x.asks.length c7, .slice a8 x.gives.length c8] _ HA.out Tryz.underlying26 rfl iszL_Mte ?_)
  refine (szMte_any x a5 c5 a6 c6 a7 c7 a8 c8 lo 1048576 _ Z0.out (N5.out.below WntC.holds (B := w.heap.size) hB (Nat.le_refl _)) (N6.out.below RnC.holds (B := w.heap.size) hB (Nat.le_refl _)) (N7.out.below AksC.holds (B := w.heap.size) hB (Nat.le_refl _)) (N8.out.below AksC.holds (B := w.heap.size) hB (Nat.le_refl _)) (by omega) (by omega)).mono ?_
  rintro e w1 ⟨rfl, hb⟩
  replace HA : Hid (w1.rangeAt w.heap.size 0 [.string x.name, .bool x.up, .int .i64 x.clock, .bool x.known, .int .i64 x.seen, .slice a5 x.wants.length c5, .slice a6 x.runs.length c6, .slice a7 x.asks.length c7, .slice a8 x.gives.length c8]) := range_next HA.out hb
  replace HP : Hid (w1.rangeAt (w.heap.size + 1) 0 [.int .i64 q.kind, .string q.berth, .int .i64 q.seen, .slice a3 q.wants.length c3, .string q.hold, .string q.copy, .int .i64 q.at_]) := range_next HP.out hb
  replace hB : Below w.heap.size w w1 := hB.trans (hb.mono hB.size)
  clear hb
  by_cases hz : ((wMte x : Nat) : Int) ≤ 1048576
  case neg =>
    rw [szR_neg hz]
    go_wp2_with fail
    go_ret
    exact ⟨rfl, hB⟩
  rw [szR_pos hz]
  have HM : Hid (wMte x ≤ 1048576) := by show _ ≤ _; omega
  have HZ := Hid.intro (MSz.of HM.out)
  have hz0 : (0 : Int) ≤ 1048576 - (wMte x : Nat) := by omega
  obtain ⟨R, hR⟩ : ∃ R : Int, R = 1048576 - (wMte x : Nat) := ⟨_, rfl⟩
  rw [← hR] at hz0 ⊢
  have HR0 := Hid.intro hR
  have hR1 : R ≤ 1048576 := by omega
  clear hz hR
  go_wp2_with (refine wpList_load_mid rfl 28 _ rfl (w.heap.size + 1) 0 rfl [.int .i64 q.kind, .string q.berth, .int .i64 q.seen, .slice a3 q.wants.length c3, .string q.hold, .string q.copy, .int .i64 q.at_] _ HP.out Tryz.underlying28 rfl iszL_Pcl ?_)
  refine (szPcl_any q a3 c3 lo R _ Z1.out Z4.out Z5.out (N3.out.below WntC.holds (B := w.heap.size) hB (Nat.le_refl _)) hz0 hR1).mono ?_
  rintro e w2 ⟨rfl, hb⟩
  replace HA : Hid (w2.rangeAt w.heap.size 0 [.string x.name, .bool x.up, .int .i64 x.clock, .bool x.known, .int .i64 x.seen, .slice a5 x.wants.length c5, .slice a6 x.runs.length c6, .slice a7 x.asks.length c7, .slice a8 x.gives.length c8]) := range_next HA.out hb
  replace HP : Hid (w2.rangeAt (w.heap.size + 1) 0 [.int .i64 q.kind, .string q.berth, .int .i64 q.seen, .slice a3 q.wants.length c3, .string q.hold, .string q.copy, .int .i64 q.at_]) := range_next HP.out hb
  replace hB : Below w.heap.size w w2 := hB.trans (hb.mono hB.size)
  clear hb
  by_cases hz : ((wPcl q : Nat) : Int) ≤ R
  case neg =>
    rw [szR_neg hz]
    go_wp2_with fail
    go_ret
    exact ⟨rfl, hB⟩
  rw [szR_pos hz]
  have HMM : Hid (wMte x + wPcl q ≤ 1048576) := by have := HR0.out; show _ ≤ _; omega
  have HMQ : Hid (wPcl q ≤ 1048576) := by have := HMM.out; show _ ≤ _; omega
  have HZQ := Hid.intro (PSz.of HMQ.out)
  have hz1 : (0 : Int) ≤ R - (wPcl q : Nat) := by omega
  clear hz HR0
  generalize R - (wPcl q : Nat) = R2 at *
  obtain ⟨y, hy⟩ : ∃ y, y = takeM x q := ⟨_, rfl⟩
  have HY := Hid.intro hy
  have HMY : Hid (wMte y ≤ 1048576) := by rw [hy]; exact Nat.le_trans (take_w x q) HMM.out
  have HZY := Hid.intro (MSz.of HMY.out)
  clear hy
  go_upto_region 8 with fail
  clear hz0 hz1 hR1
  have zA : w.heap.size < w2.heap.size := range_lt HA.out
  have zP : w.heap.size + 1 < w2.heap.size := range_lt HP.out
  go_cut [6] (fun v wz => ∃ (ga : Nat) (b5 : Option Addr) (q5 : Nat) (b6 : Option Addr) (q6 : Nat) (b7 : Option Addr) (q7 : Nat) (b8 : Option Addr) (q8 : Nat), v = .pointer (some ⟨ga, 0, none⟩) ∧ Hid (wz.rangeAt ga 0 [.string y.name, .bool y.up, .int .i64 y.clock, .bool y.known, .int .i64 y.seen, .slice b5 y.wants.length q5, .slice b6 y.runs.length q6, .slice b7 y.asks.length q7, .slice b8 y.gives.length q8]) ∧ Hid (SliceC WntC 7 0 wz b5 y.wants) ∧ Hid (SliceC RnC 11 0 wz b6 y.runs) ∧ Hid (SliceC AksC 4 0 wz b7 y.asks) ∧ Hid (SliceC AksC 4 0 wz b8 y.gives) ∧ Hid (Below w2.heap.size w2 wz))
  case first =>
    refine wp_region_held_drew (S := fun wy => wy.rangeAt w.heap.size 0 [.string x.name, .bool x.up, .int .i64 x.clock, .bool x.known, .int .i64 x.seen, .slice a5 x.wants.length c5, .slice a6 x.runs.length c6, .slice a7 x.asks.length c7, .slice a8 x.gives.length c8] ∧ wy.rangeAt (w.heap.size + 1) 0 [.int .i64 q.kind, .string q.berth, .int .i64 q.seen, .slice a3 q.wants.length c3, .string q.hold, .string q.copy, .int .i64 q.at_]) (by kernel_rfl) ⟨range_drew HA.out, range_drew HP.out⟩ (fun hS => ?_)
    have HB : Hid (Below w2.heap.size w2 w2.drew) := (Below.refl _ _).drew
    generalize w2.drew = wb at *
    refine wpAnyH_take (i := 0) (oi := ⟨some 24, _, _, _, _, none⟩) (v := .agg #[.string x.name, .bool x.up, .int .i64 x.clock, .bool x.known, .int .i64 x.seen, .slice a5 x.wants.length c5, .slice a6 x.runs.length c6, .slice a7 x.asks.length c7, .slice a8 x.gives.length c8]) rfl (by kernel_rfl) (by kernel_rfl) (by kernel_rfl) (fun _ _ _ h => h) (yieldsIf_load_mid (by rfl) _ _ rfl w.heap.size (0) rfl [.string x.name, .bool x.up, .int .i64 x.clock, .bool x.known, .int .i64 x.seen, .slice a5 x.wants.length c5, .slice a6 x.runs.length c6, .slice a7 x.asks.length c7, .slice a8 x.gives.length c8] _ (fun _ h => h.1) Tryz.underlying26 rfl iszL_Mte) hS ?_
    simp only [Act.put, List.setIfInBounds_toArray, List.set_cons_zero, List.set_cons_succ]
    refine wpAnyH_take (i := 2) (oi := ⟨some 26, _, _, _, _, none⟩) (v := .agg #[.int .i64 q.kind, .string q.berth, .int .i64 q.seen, .slice a3 q.wants.length c3, .string q.hold, .string q.copy, .int .i64 q.at_]) rfl (by kernel_rfl) (by kernel_rfl) (by kernel_rfl) (fun _ _ _ h => h) (yieldsIf_load_mid (by rfl) _ _ rfl (w.heap.size + 1) (0) rfl [.int .i64 q.kind, .string q.berth, .int .i64 q.seen, .slice a3 q.wants.length c3, .string q.hold, .string q.copy, .int .i64 q.at_] _ (fun _ h => h.2) Tryz.underlying28 rfl iszL_Pcl) hS ?_
    simp only [Act.put, List.setIfInBounds_toArray, List.set_cons_zero, List.set_cons_succ]
    refine wpAnyH_ready (rs := [1, 5]) (by kernel_rfl) (by simp) (AllReadyH.cons (o := ⟨some 25, _, _, _, _, none⟩) rfl (fun K hK => ?_) (AllReadyH.cons (o := ⟨some 6, _, _, _, _, none⟩) rfl (fun K hK => ?_) AllReadyH.nil))
    · skip
      have hBc := hB.trans (HB.out.mono hB.size)
      go_simp
      refine (toMte_any x a5 c5 a6 c6 a7 c7 a8 c8 lo _ (N5.out.below WntC.holds (B := w.heap.size) hBc (Nat.le_refl _)) (N6.out.below RnC.holds (B := w.heap.size) hBc (Nat.le_refl _)) (N7.out.below AksC.holds (B := w.heap.size) hBc (Nat.le_refl _)) (N8.out.below AksC.holds (B := w.heap.size) hBc (Nat.le_refl _)) HM.out).mono ?_
      rintro e wbm ⟨g5, g6, g7, g8, rfl, p5, p6, p7, p8, hb⟩
      replace HB := Hid.intro (HB.out.trans (hb.mono HB.out.size))
      have P5 := Hid.intro p5
      have P6 := Hid.intro p6
      have P7 := Hid.intro p7
      have P8 := Hid.intro p8
      refine hK.out _ _ ⟨range_belowV HA.out HB.out zA, range_belowV HP.out HB.out zP⟩ (fun hS => ?_)
      clear hK K hb hBc p5 p6 p7 p8
      refine wpAnyH_ready (rs := [3, 5]) (by kernel_rfl) (by simp) (AllReadyH.cons (o := ⟨some 27, _, _, _, _, none⟩) rfl (fun K hK => ?_) (AllReadyH.cons (o := ⟨some 6, _, _, _, _, none⟩) rfl (fun K hK => ?_) AllReadyH.nil))
      · skip
        have hBc := hB.trans (HB.out.mono hB.size)
        go_simp
        refine (toPcl_any q a3 c3 lo _ (N3.out.below WntC.holds (B := w.heap.size) hBc (Nat.le_refl _)) HMQ.out).mono ?_
        rintro e wbmp ⟨g3, rfl, p3, hb⟩
        replace HB := Hid.intro (HB.out.trans (hb.mono HB.out.size))
        replace P5 := Hid.intro (P5.out.below WntC.holds hb (Nat.le_refl _))
        replace P6 := Hid.intro (P6.out.below RnC.holds hb (Nat.le_refl _))
        replace P7 := Hid.intro (P7.out.below AksC.holds hb (Nat.le_refl _))
        replace P8 := Hid.intro (P8.out.below AksC.holds hb (Nat.le_refl _))
        have P3 := Hid.intro p3
        refine hK.out _ _ ⟨range_belowV HA.out HB.out zA, range_belowV HP.out HB.out zP⟩ (fun hS => ?_)
        clear hK K hb hBc p3
        refine wpAnyH_ready (rs := [4, 5]) (by kernel_rfl) (by simp) (AllReadyH.cons (o := ⟨some 28, _, _, _, _, none⟩) rfl (fun K hK => ?_) (AllReadyH.cons (o := ⟨some 6, _, _, _, _, none⟩) rfl (fun K hK => ?_) AllReadyH.nil))
        · skip
          go_simp
          refine (specTake_any x (some ⟨g5, 0, none⟩) x.wants.length (some ⟨g6, 0, none⟩) x.runs.length (some ⟨g7, 0, none⟩) x.asks.length (some ⟨g8, 0, none⟩) x.gives.length q (some ⟨g3, 0, none⟩) q.wants.length 0 _ ⟨P5.out.keep WntC.holds (Keeps.refl _ _) (Nat.zero_le _), P6.out.keep RnC.holds (Keeps.refl _ _) (Nat.zero_le _), P7.out.keep AksC.holds (Keeps.refl _ _) (Nat.zero_le _), P8.out.keep AksC.holds (Keeps.refl _ _) (Nat.zero_le _), (fun _ _ _ e => by cases e; rfl), (fun _ _ _ e => by cases e; rfl), (fun _ _ _ e => by cases e; rfl), (fun _ _ _ e => by cases e; rfl)⟩ ⟨(fun e => by cases e), (fun e => by cases e), (fun e => by cases e), (fun e => by cases e)⟩ HZ.out ⟨P3.out.keep WntC.holds (Keeps.refl _ _) (Nat.zero_le _), (fun _ _ _ e => by cases e; rfl), HZQ.out.z3, HZQ.out.l3, HZQ.out.zb, HZQ.out.zh, HZQ.out.zc⟩ (fun e => by cases e)).mono ?_
          rintro e wbmpc ⟨y', b5, q5, b6, q6, b7, q7, b8, q8, hy, rfl, o5, o6, o7, o8, hb⟩
          obtain rfl : y = y' := HY.out.trans hy.symm
          replace HB := Hid.intro (HB.out.trans (hb.mono HB.out.size))
          have O5 := Hid.intro o5
          have O6 := Hid.intro o6
          have O7 := Hid.intro o7
          have O8 := Hid.intro o8
          refine hK.out _ _ ⟨range_belowV HA.out HB.out zA, range_belowV HP.out HB.out zP⟩ (fun hS => ?_)
          clear hK K hb hy o5 o6 o7 o8 P3 P5 P6 P7 P8
          refine wpAnyH_ready (rs := [5]) (by kernel_rfl) (by simp) (AllReadyH.cons (o := ⟨some 6, _, _, _, _, none⟩) rfl (fun K hK => ?_) AllReadyH.nil)
          go_simp
          have HG := Hid.intro (Blk.alloc wbmpc #[.string ⟨#[]⟩, .bool false, .int .i64 0, .bool false, .int .i64 0, .slice none 0 0, .slice none 0 0, .slice none 0 0, .slice none 0 0] 35)
          have hb : Below wbmpc.heap.size wbmpc (wbmpc.alloc (Obj.cells #[.string ⟨#[]⟩, .bool false, .int .i64 0, .bool false, .int .i64 0, .slice none 0 0, .slice none 0 0, .slice none 0 0, .slice none 0 0] 35)) := (Below.refl _ _).alloc (Nat.le_refl _) _
          have hga : w2.heap.size ≤ wbmpc.heap.size := HB.out.size
          replace HB := Hid.intro (HB.out.trans (hb.mono HB.out.size))
          have hbA := Hid.intro hb
          refine hK.out _ _ ⟨range_belowV HA.out HB.out zA, range_belowV HP.out HB.out zP⟩ (fun hS => ?_)
          clear hK K hb
          generalize wbmpc.alloc (Obj.cells #[.string ⟨#[]⟩, .bool false, .int .i64 0, .bool false, .int .i64 0, .slice none 0 0, .slice none 0 0, .slice none 0 0, .slice none 0 0] 35) = wbmpca at *
          refine wpAnyH_ready (rs := [6]) (by kernel_rfl) (by simp) (AllReadyH.cons (o := ⟨none, _, _, _, _, none⟩) rfl (fun K hK => ?_) AllReadyH.nil)
          rw [if_pos (by rfl)]
          refine wp_store_mid 35 (.tmp 6) (.tmp 28) (by rfl) (wbmpc.heap.size) 0 #[.string y.name, .bool y.up, .int .i64 y.clock, .bool y.known, .int .i64 y.seen, .slice b5 y.wants.length q5, .slice b6 y.runs.length q6, .slice b7 y.asks.length q7, .slice b8 y.gives.length q8] (by rfl) (by rfl) HG.out.there isz_Mte (by simp [Value.oneCell']) ?_
          have HR : Hid ((wbmpca.setCells wbmpc.heap.size 0 [.string y.name, .bool y.up, .int .i64 y.clock, .bool y.known, .int .i64 y.seen, .slice b5 y.wants.length q5, .slice b6 y.runs.length q6, .slice b7 y.asks.length q7, .slice b8 y.gives.length q8]).rangeAt (wbmpc.heap.size) 0 [.string y.name, .bool y.up, .int .i64 y.clock, .bool y.known, .int .i64 y.seen, .slice b5 y.wants.length q5, .slice b6 y.runs.length q6, .slice b7 y.asks.length q7, .slice b8 y.gives.length q8]) := (HG.out.setAll #[.string y.name, .bool y.up, .int .i64 y.clock, .bool y.known, .int .i64 y.seen, .slice b5 y.wants.length q5, .slice b6 y.runs.length q6, .slice b7 y.asks.length q7, .slice b8 y.gives.length q8] rfl).rangeA
          replace O5 : Hid (SliceC WntC 7 0 (wbmpca.setCells wbmpc.heap.size 0 [.string y.name, .bool y.up, .int .i64 y.clock, .bool y.known, .int .i64 y.seen, .slice b5 y.wants.length q5, .slice b6 y.runs.length q6, .slice b7 y.asks.length q7, .slice b8 y.gives.length q8]) b5 y.wants) := (O5.out.below WntC.holds (below_setCells (Nat.le_refl _) _ _ _ hbA.out) (Nat.le_refl _)).keep WntC.holds (Keeps.refl _ _) (Nat.zero_le _)
          replace O6 : Hid (SliceC RnC 11 0 (wbmpca.setCells wbmpc.heap.size 0 [.string y.name, .bool y.up, .int .i64 y.clock, .bool y.known, .int .i64 y.seen, .slice b5 y.wants.length q5, .slice b6 y.runs.length q6, .slice b7 y.asks.length q7, .slice b8 y.gives.length q8]) b6 y.runs) := (O6.out.below RnC.holds (below_setCells (Nat.le_refl _) _ _ _ hbA.out) (Nat.le_refl _)).keep RnC.holds (Keeps.refl _ _) (Nat.zero_le _)
          replace O7 : Hid (SliceC AksC 4 0 (wbmpca.setCells wbmpc.heap.size 0 [.string y.name, .bool y.up, .int .i64 y.clock, .bool y.known, .int .i64 y.seen, .slice b5 y.wants.length q5, .slice b6 y.runs.length q6, .slice b7 y.asks.length q7, .slice b8 y.gives.length q8]) b7 y.asks) := (O7.out.below AksC.holds (below_setCells (Nat.le_refl _) _ _ _ hbA.out) (Nat.le_refl _)).keep AksC.holds (Keeps.refl _ _) (Nat.zero_le _)
          replace O8 : Hid (SliceC AksC 4 0 (wbmpca.setCells wbmpc.heap.size 0 [.string y.name, .bool y.up, .int .i64 y.clock, .bool y.known, .int .i64 y.seen, .slice b5 y.wants.length q5, .slice b6 y.runs.length q6, .slice b7 y.asks.length q7, .slice b8 y.gives.length q8]) b8 y.gives) := (O8.out.below AksC.holds (below_setCells (Nat.le_refl _) _ _ _ hbA.out) (Nat.le_refl _)).keep AksC.holds (Keeps.refl _ _) (Nat.zero_le _)
          replace HB : Hid (Below w2.heap.size w2 (wbmpca.setCells wbmpc.heap.size 0 [.string y.name, .bool y.up, .int .i64 y.clock, .bool y.known, .int .i64 y.seen, .slice b5 y.wants.length q5, .slice b6 y.runs.length q6, .slice b7 y.asks.length q7, .slice b8 y.gives.length q8])) := below_setCells (show w2.heap.size ≤ wbmpc.heap.size by omega) _ _ _ HB.out
          refine hK.out _ _ ⟨range_belowV HA.out HB.out zA, range_belowV HP.out HB.out zP⟩ (fun hS => ?_)
          clear hK K
          generalize (wbmpca.setCells wbmpc.heap.size 0 [.string y.name, .bool y.up, .int .i64 y.clock, .bool y.known, .int .i64 y.seen, .slice b5 y.wants.length q5, .slice b6 y.runs.length q6, .slice b7 y.asks.length q7, .slice b8 y.gives.length q8]) = wz at *
          refine wpAnyH_done (by kernel_rfl) ?_ _
          go_wp2_with fail
          go_meet
          exact ⟨wbmpc.heap.size, b5, q5, b6, q6, b7, q7, b8, q8, rfl, HR, O5, O6, O7, O8, HB⟩
        · skip
          go_simp
          have HG := Hid.intro (Blk.alloc wbmp #[.string ⟨#[]⟩, .bool false, .int .i64 0, .bool false, .int .i64 0, .slice none 0 0, .slice none 0 0, .slice none 0 0, .slice none 0 0] 35)
          have hb : Below wbmp.heap.size wbmp (wbmp.alloc (Obj.cells #[.string ⟨#[]⟩, .bool false, .int .i64 0, .bool false, .int .i64 0, .slice none 0 0, .slice none 0 0, .slice none 0 0, .slice none 0 0] 35)) := (Below.refl _ _).alloc (Nat.le_refl _) _
          have hga : w2.heap.size ≤ wbmp.heap.size := HB.out.size
          replace HB := Hid.intro (HB.out.trans (hb.mono HB.out.size))
          replace P5 := Hid.intro (P5.out.below WntC.holds hb (Nat.le_refl _))
          replace P6 := Hid.intro (P6.out.below RnC.holds hb (Nat.le_refl _))
          replace P7 := Hid.intro (P7.out.below AksC.holds hb (Nat.le_refl _))
          replace P8 := Hid.intro (P8.out.below AksC.holds hb (Nat.le_refl _))
          replace P3 := Hid.intro (P3.out.below WntC.holds hb (Nat.le_refl _))
          refine hK.out _ _ ⟨range_belowV HA.out HB.out zA, range_belowV HP.out HB.out zP⟩ (fun hS => ?_)
          clear hK K hb
          generalize wbmp.alloc (Obj.cells #[.string ⟨#[]⟩, .bool false, .int .i64 0, .bool false, .int .i64 0, .slice none 0 0, .slice none 0 0, .slice none 0 0, .slice none 0 0] 35) = wbmpa at *
          refine wpAnyH_ready (rs := [4]) (by kernel_rfl) (by simp) (AllReadyH.cons (o := ⟨some 28, _, _, _, _, none⟩) rfl (fun K hK => ?_) AllReadyH.nil)
          have hgl : wbmp.heap.size < wbmpa.heap.size := HG.out.lt
          go_simp
          refine (specTake_any x (some ⟨g5, 0, none⟩) x.wants.length (some ⟨g6, 0, none⟩) x.runs.length (some ⟨g7, 0, none⟩) x.asks.length (some ⟨g8, 0, none⟩) x.gives.length q (some ⟨g3, 0, none⟩) q.wants.length 0 _ ⟨P5.out.keep WntC.holds (Keeps.refl _ _) (Nat.zero_le _), P6.out.keep RnC.holds (Keeps.refl _ _) (Nat.zero_le _), P7.out.keep AksC.holds (Keeps.refl _ _) (Nat.zero_le _), P8.out.keep AksC.holds (Keeps.refl _ _) (Nat.zero_le _), (fun _ _ _ e => by cases e; rfl), (fun _ _ _ e => by cases e; rfl), (fun _ _ _ e => by cases e; rfl), (fun _ _ _ e => by cases e; rfl)⟩ ⟨(fun e => by cases e), (fun e => by cases e), (fun e => by cases e), (fun e => by cases e)⟩ HZ.out ⟨P3.out.keep WntC.holds (Keeps.refl _ _) (Nat.zero_le _), (fun _ _ _ e => by cases e; rfl), HZQ.out.z3, HZQ.out.l3, HZQ.out.zb, HZQ.out.zh, HZQ.out.zc⟩ (fun e => by cases e)).mono ?_
          rintro e wbmpac ⟨y', b5, q5, b6, q6, b7, q7, b8, q8, hy, rfl, o5, o6, o7, o8, hb⟩
          obtain rfl : y = y' := HY.out.trans hy.symm
          replace HB := Hid.intro (HB.out.trans (hb.mono HB.out.size))
          replace HG := Hid.intro (HG.out.below hb HG.out.lt)
          have O5 := Hid.intro o5
          have O6 := Hid.intro o6
          have O7 := Hid.intro o7
          have O8 := Hid.intro o8
          refine hK.out _ _ ⟨range_belowV HA.out HB.out zA, range_belowV HP.out HB.out zP⟩ (fun hS => ?_)
          clear hK K hb hy o5 o6 o7 o8 P3 P5 P6 P7 P8
          refine wpAnyH_ready (rs := [6]) (by kernel_rfl) (by simp) (AllReadyH.cons (o := ⟨none, _, _, _, _, none⟩) rfl (fun K hK => ?_) AllReadyH.nil)
          rw [if_pos (by rfl)]
          refine wp_store_mid 35 (.tmp 6) (.tmp 28) (by rfl) (wbmp.heap.size) 0 #[.string y.name, .bool y.up, .int .i64 y.clock, .bool y.known, .int .i64 y.seen, .slice b5 y.wants.length q5, .slice b6 y.runs.length q6, .slice b7 y.asks.length q7, .slice b8 y.gives.length q8] (by rfl) (by rfl) HG.out.there isz_Mte (by simp [Value.oneCell']) ?_
          have HR : Hid ((wbmpac.setCells wbmp.heap.size 0 [.string y.name, .bool y.up, .int .i64 y.clock, .bool y.known, .int .i64 y.seen, .slice b5 y.wants.length q5, .slice b6 y.runs.length q6, .slice b7 y.asks.length q7, .slice b8 y.gives.length q8]).rangeAt (wbmp.heap.size) 0 [.string y.name, .bool y.up, .int .i64 y.clock, .bool y.known, .int .i64 y.seen, .slice b5 y.wants.length q5, .slice b6 y.runs.length q6, .slice b7 y.asks.length q7, .slice b8 y.gives.length q8]) := (HG.out.setAll #[.string y.name, .bool y.up, .int .i64 y.clock, .bool y.known, .int .i64 y.seen, .slice b5 y.wants.length q5, .slice b6 y.runs.length q6, .slice b7 y.asks.length q7, .slice b8 y.gives.length q8] rfl).rangeA
          replace O5 : Hid (SliceC WntC 7 0 (wbmpac.setCells wbmp.heap.size 0 [.string y.name, .bool y.up, .int .i64 y.clock, .bool y.known, .int .i64 y.seen, .slice b5 y.wants.length q5, .slice b6 y.runs.length q6, .slice b7 y.asks.length q7, .slice b8 y.gives.length q8]) b5 y.wants) := O5.out.keep WntC.holds (Keeps.setCells (show wbmp.heap.size < wbmpa.heap.size by omega) _ _ _) (Nat.zero_le _)
          replace O6 : Hid (SliceC RnC 11 0 (wbmpac.setCells wbmp.heap.size 0 [.string y.name, .bool y.up, .int .i64 y.clock, .bool y.known, .int .i64 y.seen, .slice b5 y.wants.length q5, .slice b6 y.runs.length q6, .slice b7 y.asks.length q7, .slice b8 y.gives.length q8]) b6 y.runs) := O6.out.keep RnC.holds (Keeps.setCells (show wbmp.heap.size < wbmpa.heap.size by omega) _ _ _) (Nat.zero_le _)
          replace O7 : Hid (SliceC AksC 4 0 (wbmpac.setCells wbmp.heap.size 0 [.string y.name, .bool y.up, .int .i64 y.clock, .bool y.known, .int .i64 y.seen, .slice b5 y.wants.length q5, .slice b6 y.runs.length q6, .slice b7 y.asks.length q7, .slice b8 y.gives.length q8]) b7 y.asks) := O7.out.keep AksC.holds (Keeps.setCells (show wbmp.heap.size < wbmpa.heap.size by omega) _ _ _) (Nat.zero_le _)
          replace O8 : Hid (SliceC AksC 4 0 (wbmpac.setCells wbmp.heap.size 0 [.string y.name, .bool y.up, .int .i64 y.clock, .bool y.known, .int .i64 y.seen, .slice b5 y.wants.length q5, .slice b6 y.runs.length q6, .slice b7 y.asks.length q7, .slice b8 y.gives.length q8]) b8 y.gives) := O8.out.keep AksC.holds (Keeps.setCells (show wbmp.heap.size < wbmpa.heap.size by omega) _ _ _) (Nat.zero_le _)
          replace HB : Hid (Below w2.heap.size w2 (wbmpac.setCells wbmp.heap.size 0 [.string y.name, .bool y.up, .int .i64 y.clock, .bool y.known, .int .i64 y.seen, .slice b5 y.wants.length q5, .slice b6 y.runs.length q6, .slice b7 y.asks.length q7, .slice b8 y.gives.length q8])) := below_setCells (show w2.heap.size ≤ wbmp.heap.size by omega) _ _ _ HB.out
          refine hK.out _ _ ⟨range_belowV HA.out HB.out zA, range_belowV HP.out HB.out zP⟩ (fun hS => ?_)
          clear hK K
          generalize (wbmpac.setCells wbmp.heap.size 0 [.string y.name, .bool y.up, .int .i64 y.clock, .bool y.known, .int .i64 y.seen, .slice b5 y.wants.length q5, .slice b6 y.runs.length q6, .slice b7 y.asks.length q7, .slice b8 y.gives.length q8]) = wz at *
          refine wpAnyH_done (by kernel_rfl) ?_ _
          go_wp2_with fail
          go_meet
          exact ⟨wbmp.heap.size, b5, q5, b6, q6, b7, q7, b8, q8, rfl, HR, O5, O6, O7, O8, HB⟩
      · skip
        go_simp
        have HG := Hid.intro (Blk.alloc wbm #[.string ⟨#[]⟩, .bool false, .int .i64 0, .bool false, .int .i64 0, .slice none 0 0, .slice none 0 0, .slice none 0 0, .slice none 0 0] 35)
        have hb : Below wbm.heap.size wbm (wbm.alloc (Obj.cells #[.string ⟨#[]⟩, .bool false, .int .i64 0, .bool false, .int .i64 0, .slice none 0 0, .slice none 0 0, .slice none 0 0, .slice none 0 0] 35)) := (Below.refl _ _).alloc (Nat.le_refl _) _
        have hga : w2.heap.size ≤ wbm.heap.size := HB.out.size
        replace HB := Hid.intro (HB.out.trans (hb.mono HB.out.size))
        replace P5 := Hid.intro (P5.out.below WntC.holds hb (Nat.le_refl _))
        replace P6 := Hid.intro (P6.out.below RnC.holds hb (Nat.le_refl _))
        replace P7 := Hid.intro (P7.out.below AksC.holds hb (Nat.le_refl _))
        replace P8 := Hid.intro (P8.out.below AksC.holds hb (Nat.le_refl _))
        refine hK.out _ _ ⟨range_belowV HA.out HB.out zA, range_belowV HP.out HB.out zP⟩ (fun hS => ?_)
        clear hK K hb
        generalize wbm.alloc (Obj.cells #[.string ⟨#[]⟩, .bool false, .int .i64 0, .bool false, .int .i64 0, .slice none 0 0, .slice none 0 0, .slice none 0 0, .slice none 0 0] 35) = wbma at *
        refine wpAnyH_ready (rs := [3]) (by kernel_rfl) (by simp) (AllReadyH.cons (o := ⟨some 27, _, _, _, _, none⟩) rfl (fun K hK => ?_) AllReadyH.nil)
        have hBc := hB.trans (HB.out.mono hB.size)
        go_simp
        refine (toPcl_any q a3 c3 lo _ (N3.out.below WntC.holds (B := w.heap.size) hBc (Nat.le_refl _)) HMQ.out).mono ?_
        rintro e wbmap ⟨g3, rfl, p3, hb⟩
        replace HB := Hid.intro (HB.out.trans (hb.mono HB.out.size))
        replace P5 := Hid.intro (P5.out.below WntC.holds hb (Nat.le_refl _))
        replace P6 := Hid.intro (P6.out.below RnC.holds hb (Nat.le_refl _))
        replace P7 := Hid.intro (P7.out.below AksC.holds hb (Nat.le_refl _))
        replace P8 := Hid.intro (P8.out.below AksC.holds hb (Nat.le_refl _))
        replace HG := Hid.intro (HG.out.below hb HG.out.lt)
        have P3 := Hid.intro p3
        refine hK.out _ _ ⟨range_belowV HA.out HB.out zA, range_belowV HP.out HB.out zP⟩ (fun hS => ?_)
        clear hK K hb hBc p3
        refine wpAnyH_ready (rs := [4]) (by kernel_rfl) (by simp) (AllReadyH.cons (o := ⟨some 28, _, _, _, _, none⟩) rfl (fun K hK => ?_) AllReadyH.nil)
        have hgl : wbm.heap.size < wbmap.heap.size := HG.out.lt
        go_simp
        refine (specTake_any x (some ⟨g5, 0, none⟩) x.wants.length (some ⟨g6, 0, none⟩) x.runs.length (some ⟨g7, 0, none⟩) x.asks.length (some ⟨g8, 0, none⟩) x.gives.length q (some ⟨g3, 0, none⟩) q.wants.length 0 _ ⟨P5.out.keep WntC.holds (Keeps.refl _ _) (Nat.zero_le _), P6.out.keep RnC.holds (Keeps.refl _ _) (Nat.zero_le _), P7.out.keep AksC.holds (Keeps.refl _ _) (Nat.zero_le _), P8.out.keep AksC.holds (Keeps.refl _ _) (Nat.zero_le _), (fun _ _ _ e => by cases e; rfl), (fun _ _ _ e => by cases e; rfl), (fun _ _ _ e => by cases e; rfl), (fun _ _ _ e => by cases e; rfl)⟩ ⟨(fun e => by cases e), (fun e => by cases e), (fun e => by cases e), (fun e => by cases e)⟩ HZ.out ⟨P3.out.keep WntC.holds (Keeps.refl _ _) (Nat.zero_le _), (fun _ _ _ e => by cases e; rfl), HZQ.out.z3, HZQ.out.l3, HZQ.out.zb, HZQ.out.zh, HZQ.out.zc⟩ (fun e => by cases e)).mono ?_
        rintro e wbmapc ⟨y', b5, q5, b6, q6, b7, q7, b8, q8, hy, rfl, o5, o6, o7, o8, hb⟩
        obtain rfl : y = y' := HY.out.trans hy.symm
        replace HB := Hid.intro (HB.out.trans (hb.mono HB.out.size))
        replace HG := Hid.intro (HG.out.below hb HG.out.lt)
        have O5 := Hid.intro o5
        have O6 := Hid.intro o6
        have O7 := Hid.intro o7
        have O8 := Hid.intro o8
        refine hK.out _ _ ⟨range_belowV HA.out HB.out zA, range_belowV HP.out HB.out zP⟩ (fun hS => ?_)
        clear hK K hb hy o5 o6 o7 o8 P3 P5 P6 P7 P8
        refine wpAnyH_ready (rs := [6]) (by kernel_rfl) (by simp) (AllReadyH.cons (o := ⟨none, _, _, _, _, none⟩) rfl (fun K hK => ?_) AllReadyH.nil)
        rw [if_pos (by rfl)]
        refine wp_store_mid 35 (.tmp 6) (.tmp 28) (by rfl) (wbm.heap.size) 0 #[.string y.name, .bool y.up, .int .i64 y.clock, .bool y.known, .int .i64 y.seen, .slice b5 y.wants.length q5, .slice b6 y.runs.length q6, .slice b7 y.asks.length q7, .slice b8 y.gives.length q8] (by rfl) (by rfl) HG.out.there isz_Mte (by simp [Value.oneCell']) ?_
        have HR : Hid ((wbmapc.setCells wbm.heap.size 0 [.string y.name, .bool y.up, .int .i64 y.clock, .bool y.known, .int .i64 y.seen, .slice b5 y.wants.length q5, .slice b6 y.runs.length q6, .slice b7 y.asks.length q7, .slice b8 y.gives.length q8]).rangeAt (wbm.heap.size) 0 [.string y.name, .bool y.up, .int .i64 y.clock, .bool y.known, .int .i64 y.seen, .slice b5 y.wants.length q5, .slice b6 y.runs.length q6, .slice b7 y.asks.length q7, .slice b8 y.gives.length q8]) := (HG.out.setAll #[.string y.name, .bool y.up, .int .i64 y.clock, .bool y.known, .int .i64 y.seen, .slice b5 y.wants.length q5, .slice b6 y.runs.length q6, .slice b7 y.asks.length q7, .slice b8 y.gives.length q8] rfl).rangeA
        replace O5 : Hid (SliceC WntC 7 0 (wbmapc.setCells wbm.heap.size 0 [.string y.name, .bool y.up, .int .i64 y.clock, .bool y.known, .int .i64 y.seen, .slice b5 y.wants.length q5, .slice b6 y.runs.length q6, .slice b7 y.asks.length q7, .slice b8 y.gives.length q8]) b5 y.wants) := O5.out.keep WntC.holds (Keeps.setCells (show wbm.heap.size < wbmap.heap.size by omega) _ _ _) (Nat.zero_le _)
        replace O6 : Hid (SliceC RnC 11 0 (wbmapc.setCells wbm.heap.size 0 [.string y.name, .bool y.up, .int .i64 y.clock, .bool y.known, .int .i64 y.seen, .slice b5 y.wants.length q5, .slice b6 y.runs.length q6, .slice b7 y.asks.length q7, .slice b8 y.gives.length q8]) b6 y.runs) := O6.out.keep RnC.holds (Keeps.setCells (show wbm.heap.size < wbmap.heap.size by omega) _ _ _) (Nat.zero_le _)
        replace O7 : Hid (SliceC AksC 4 0 (wbmapc.setCells wbm.heap.size 0 [.string y.name, .bool y.up, .int .i64 y.clock, .bool y.known, .int .i64 y.seen, .slice b5 y.wants.length q5, .slice b6 y.runs.length q6, .slice b7 y.asks.length q7, .slice b8 y.gives.length q8]) b7 y.asks) := O7.out.keep AksC.holds (Keeps.setCells (show wbm.heap.size < wbmap.heap.size by omega) _ _ _) (Nat.zero_le _)
        replace O8 : Hid (SliceC AksC 4 0 (wbmapc.setCells wbm.heap.size 0 [.string y.name, .bool y.up, .int .i64 y.clock, .bool y.known, .int .i64 y.seen, .slice b5 y.wants.length q5, .slice b6 y.runs.length q6, .slice b7 y.asks.length q7, .slice b8 y.gives.length q8]) b8 y.gives) := O8.out.keep AksC.holds (Keeps.setCells (show wbm.heap.size < wbmap.heap.size by omega) _ _ _) (Nat.zero_le _)
        replace HB : Hid (Below w2.heap.size w2 (wbmapc.setCells wbm.heap.size 0 [.string y.name, .bool y.up, .int .i64 y.clock, .bool y.known, .int .i64 y.seen, .slice b5 y.wants.length q5, .slice b6 y.runs.length q6, .slice b7 y.asks.length q7, .slice b8 y.gives.length q8])) := below_setCells (show w2.heap.size ≤ wbm.heap.size by omega) _ _ _ HB.out
        refine hK.out _ _ ⟨range_belowV HA.out HB.out zA, range_belowV HP.out HB.out zP⟩ (fun hS => ?_)
        clear hK K
        generalize (wbmapc.setCells wbm.heap.size 0 [.string y.name, .bool y.up, .int .i64 y.clock, .bool y.known, .int .i64 y.seen, .slice b5 y.wants.length q5, .slice b6 y.runs.length q6, .slice b7 y.asks.length q7, .slice b8 y.gives.length q8]) = wz at *
        refine wpAnyH_done (by kernel_rfl) ?_ _
        go_wp2_with fail
        go_meet
        exact ⟨wbm.heap.size, b5, q5, b6, q6, b7, q7, b8, q8, rfl, HR, O5, O6, O7, O8, HB⟩
    · skip
      go_simp
      have HG := Hid.intro (Blk.alloc wb #[.string ⟨#[]⟩, .bool false, .int .i64 0, .bool false, .int .i64 0, .slice none 0 0, .slice none 0 0, .slice none 0 0, .slice none 0 0] 35)
      have hb : Below wb.heap.size wb (wb.alloc (Obj.cells #[.string ⟨#[]⟩, .bool false, .int .i64 0, .bool false, .int .i64 0, .slice none 0 0, .slice none 0 0, .slice none 0 0, .slice none 0 0] 35)) := (Below.refl _ _).alloc (Nat.le_refl _) _
      have hga : w2.heap.size ≤ wb.heap.size := HB.out.size
      replace HB := Hid.intro (HB.out.trans (hb.mono HB.out.size))
      refine hK.out _ _ ⟨range_belowV HA.out HB.out zA, range_belowV HP.out HB.out zP⟩ (fun hS => ?_)
      clear hK K hb
      generalize wb.alloc (Obj.cells #[.string ⟨#[]⟩, .bool false, .int .i64 0, .bool false, .int .i64 0, .slice none 0 0, .slice none 0 0, .slice none 0 0, .slice none 0 0] 35) = wba at *
      refine wpAnyH_ready (rs := [1]) (by kernel_rfl) (by simp) (AllReadyH.cons (o := ⟨some 25, _, _, _, _, none⟩) rfl (fun K hK => ?_) AllReadyH.nil)
      have hBc := hB.trans (HB.out.mono hB.size)
      go_simp
      refine (toMte_any x a5 c5 a6 c6 a7 c7 a8 c8 lo _ (N5.out.below WntC.holds (B := w.heap.size) hBc (Nat.le_refl _)) (N6.out.below RnC.holds (B := w.heap.size) hBc (Nat.le_refl _)) (N7.out.below AksC.holds (B := w.heap.size) hBc (Nat.le_refl _)) (N8.out.below AksC.holds (B := w.heap.size) hBc (Nat.le_refl _)) HM.out).mono ?_
      rintro e wbam ⟨g5, g6, g7, g8, rfl, p5, p6, p7, p8, hb⟩
      replace HB := Hid.intro (HB.out.trans (hb.mono HB.out.size))
      replace HG := Hid.intro (HG.out.below hb HG.out.lt)
      have P5 := Hid.intro p5
      have P6 := Hid.intro p6
      have P7 := Hid.intro p7
      have P8 := Hid.intro p8
      refine hK.out _ _ ⟨range_belowV HA.out HB.out zA, range_belowV HP.out HB.out zP⟩ (fun hS => ?_)
      clear hK K hb hBc p5 p6 p7 p8
      refine wpAnyH_ready (rs := [3]) (by kernel_rfl) (by simp) (AllReadyH.cons (o := ⟨some 27, _, _, _, _, none⟩) rfl (fun K hK => ?_) AllReadyH.nil)
      have hBc := hB.trans (HB.out.mono hB.size)
      go_simp
      refine (toPcl_any q a3 c3 lo _ (N3.out.below WntC.holds (B := w.heap.size) hBc (Nat.le_refl _)) HMQ.out).mono ?_
      rintro e wbamp ⟨g3, rfl, p3, hb⟩
      replace HB := Hid.intro (HB.out.trans (hb.mono HB.out.size))
      replace P5 := Hid.intro (P5.out.below WntC.holds hb (Nat.le_refl _))
      replace P6 := Hid.intro (P6.out.below RnC.holds hb (Nat.le_refl _))
      replace P7 := Hid.intro (P7.out.below AksC.holds hb (Nat.le_refl _))
      replace P8 := Hid.intro (P8.out.below AksC.holds hb (Nat.le_refl _))
      replace HG := Hid.intro (HG.out.below hb HG.out.lt)
      have P3 := Hid.intro p3
      refine hK.out _ _ ⟨range_belowV HA.out HB.out zA, range_belowV HP.out HB.out zP⟩ (fun hS => ?_)
      clear hK K hb hBc p3
      refine wpAnyH_ready (rs := [4]) (by kernel_rfl) (by simp) (AllReadyH.cons (o := ⟨some 28, _, _, _, _, none⟩) rfl (fun K hK => ?_) AllReadyH.nil)
      have hgl : wb.heap.size < wbamp.heap.size := HG.out.lt
      go_simp
      refine (specTake_any x (some ⟨g5, 0, none⟩) x.wants.length (some ⟨g6, 0, none⟩) x.runs.length (some ⟨g7, 0, none⟩) x.asks.length (some ⟨g8, 0, none⟩) x.gives.length q (some ⟨g3, 0, none⟩) q.wants.length 0 _ ⟨P5.out.keep WntC.holds (Keeps.refl _ _) (Nat.zero_le _), P6.out.keep RnC.holds (Keeps.refl _ _) (Nat.zero_le _), P7.out.keep AksC.holds (Keeps.refl _ _) (Nat.zero_le _), P8.out.keep AksC.holds (Keeps.refl _ _) (Nat.zero_le _), (fun _ _ _ e => by cases e; rfl), (fun _ _ _ e => by cases e; rfl), (fun _ _ _ e => by cases e; rfl), (fun _ _ _ e => by cases e; rfl)⟩ ⟨(fun e => by cases e), (fun e => by cases e), (fun e => by cases e), (fun e => by cases e)⟩ HZ.out ⟨P3.out.keep WntC.holds (Keeps.refl _ _) (Nat.zero_le _), (fun _ _ _ e => by cases e; rfl), HZQ.out.z3, HZQ.out.l3, HZQ.out.zb, HZQ.out.zh, HZQ.out.zc⟩ (fun e => by cases e)).mono ?_
      rintro e wbampc ⟨y', b5, q5, b6, q6, b7, q7, b8, q8, hy, rfl, o5, o6, o7, o8, hb⟩
      obtain rfl : y = y' := HY.out.trans hy.symm
      replace HB := Hid.intro (HB.out.trans (hb.mono HB.out.size))
      replace HG := Hid.intro (HG.out.below hb HG.out.lt)
      have O5 := Hid.intro o5
      have O6 := Hid.intro o6
      have O7 := Hid.intro o7
      have O8 := Hid.intro o8
      refine hK.out _ _ ⟨range_belowV HA.out HB.out zA, range_belowV HP.out HB.out zP⟩ (fun hS => ?_)
      clear hK K hb hy o5 o6 o7 o8 P3 P5 P6 P7 P8
      refine wpAnyH_ready (rs := [6]) (by kernel_rfl) (by simp) (AllReadyH.cons (o := ⟨none, _, _, _, _, none⟩) rfl (fun K hK => ?_) AllReadyH.nil)
      rw [if_pos (by rfl)]
      refine wp_store_mid 35 (.tmp 6) (.tmp 28) (by rfl) (wb.heap.size) 0 #[.string y.name, .bool y.up, .int .i64 y.clock, .bool y.known, .int .i64 y.seen, .slice b5 y.wants.length q5, .slice b6 y.runs.length q6, .slice b7 y.asks.length q7, .slice b8 y.gives.length q8] (by rfl) (by rfl) HG.out.there isz_Mte (by simp [Value.oneCell']) ?_
      have HR : Hid ((wbampc.setCells wb.heap.size 0 [.string y.name, .bool y.up, .int .i64 y.clock, .bool y.known, .int .i64 y.seen, .slice b5 y.wants.length q5, .slice b6 y.runs.length q6, .slice b7 y.asks.length q7, .slice b8 y.gives.length q8]).rangeAt (wb.heap.size) 0 [.string y.name, .bool y.up, .int .i64 y.clock, .bool y.known, .int .i64 y.seen, .slice b5 y.wants.length q5, .slice b6 y.runs.length q6, .slice b7 y.asks.length q7, .slice b8 y.gives.length q8]) := (HG.out.setAll #[.string y.name, .bool y.up, .int .i64 y.clock, .bool y.known, .int .i64 y.seen, .slice b5 y.wants.length q5, .slice b6 y.runs.length q6, .slice b7 y.asks.length q7, .slice b8 y.gives.length q8] rfl).rangeA
      replace O5 : Hid (SliceC WntC 7 0 (wbampc.setCells wb.heap.size 0 [.string y.name, .bool y.up, .int .i64 y.clock, .bool y.known, .int .i64 y.seen, .slice b5 y.wants.length q5, .slice b6 y.runs.length q6, .slice b7 y.asks.length q7, .slice b8 y.gives.length q8]) b5 y.wants) := O5.out.keep WntC.holds (Keeps.setCells (show wb.heap.size < wbamp.heap.size by omega) _ _ _) (Nat.zero_le _)
      replace O6 : Hid (SliceC RnC 11 0 (wbampc.setCells wb.heap.size 0 [.string y.name, .bool y.up, .int .i64 y.clock, .bool y.known, .int .i64 y.seen, .slice b5 y.wants.length q5, .slice b6 y.runs.length q6, .slice b7 y.asks.length q7, .slice b8 y.gives.length q8]) b6 y.runs) := O6.out.keep RnC.holds (Keeps.setCells (show wb.heap.size < wbamp.heap.size by omega) _ _ _) (Nat.zero_le _)
      replace O7 : Hid (SliceC AksC 4 0 (wbampc.setCells wb.heap.size 0 [.string y.name, .bool y.up, .int .i64 y.clock, .bool y.known, .int .i64 y.seen, .slice b5 y.wants.length q5, .slice b6 y.runs.length q6, .slice b7 y.asks.length q7, .slice b8 y.gives.length q8]) b7 y.asks) := O7.out.keep AksC.holds (Keeps.setCells (show wb.heap.size < wbamp.heap.size by omega) _ _ _) (Nat.zero_le _)
      replace O8 : Hid (SliceC AksC 4 0 (wbampc.setCells wb.heap.size 0 [.string y.name, .bool y.up, .int .i64 y.clock, .bool y.known, .int .i64 y.seen, .slice b5 y.wants.length q5, .slice b6 y.runs.length q6, .slice b7 y.asks.length q7, .slice b8 y.gives.length q8]) b8 y.gives) := O8.out.keep AksC.holds (Keeps.setCells (show wb.heap.size < wbamp.heap.size by omega) _ _ _) (Nat.zero_le _)
      replace HB : Hid (Below w2.heap.size w2 (wbampc.setCells wb.heap.size 0 [.string y.name, .bool y.up, .int .i64 y.clock, .bool y.known, .int .i64 y.seen, .slice b5 y.wants.length q5, .slice b6 y.runs.length q6, .slice b7 y.asks.length q7, .slice b8 y.gives.length q8])) := below_setCells (show w2.heap.size ≤ wb.heap.size by omega) _ _ _ HB.out
      refine hK.out _ _ ⟨range_belowV HA.out HB.out zA, range_belowV HP.out HB.out zP⟩ (fun hS => ?_)
      clear hK K
      generalize (wbampc.setCells wb.heap.size 0 [.string y.name, .bool y.up, .int .i64 y.clock, .bool y.known, .int .i64 y.seen, .slice b5 y.wants.length q5, .slice b6 y.runs.length q6, .slice b7 y.asks.length q7, .slice b8 y.gives.length q8]) = wz at *
      refine wpAnyH_done (by kernel_rfl) ?_ _
      go_wp2_with fail
      go_meet
      exact ⟨wb.heap.size, b5, q5, b6, q6, b7, q7, b8, q8, rfl, HR, O5, O6, O7, O8, HB⟩
  case rest =>
    obtain ⟨ga, b5, q5, b6, q6, b7, q7, b8, q8, rfl, H4, PO5, PO6, PO7, PO8, hbz⟩ := hcut
    have hb := hbz.out
    generalize wc = w4 at *
    replace HA : Hid (w4.rangeAt w.heap.size 0 [.string x.name, .bool x.up, .int .i64 x.clock, .bool x.known, .int .i64 x.seen, .slice a5 x.wants.length c5, .slice a6 x.runs.length c6, .slice a7 x.asks.length c7, .slice a8 x.gives.length c8]) := range_next HA.out hb
    replace HP : Hid (w4.rangeAt (w.heap.size + 1) 0 [.int .i64 q.kind, .string q.berth, .int .i64 q.seen, .slice a3 q.wants.length c3, .string q.hold, .string q.copy, .int .i64 q.at_]) := range_next HP.out hb
    replace hB : Below w.heap.size w w4 := hB.trans (hb.mono hB.size)
    have HB3 : Hid (Below w4.heap.size w4 w4) := Below.refl _ _
    have z4 : ga < w4.heap.size := range_lt H4.out
    have zA4 : w.heap.size + 1 < w4.heap.size := range_lt HP.out
    clear hb hbz zA zP
    go_wp2_with (refine wpList_load_mid rfl 26 _ rfl w.heap.size 0 rfl [.string x.name, .bool x.up, .int .i64 x.clock, .bool x.known, .int .i64 x.seen, .slice a5 x.wants.length c5, .slice a6 x.runs.length c6, .slice a7 x.asks.length c7, .slice a8 x.gives.length c8] _ HA.out Tryz.underlying26 rfl iszL_Mte ?_)
    refine (toMte_any x a5 c5 a6 c6 a7 c7 a8 c8 lo _ (N5.out.below WntC.holds (B := w.heap.size) hB (Nat.le_refl _)) (N6.out.below RnC.holds (B := w.heap.size) hB (Nat.le_refl _)) (N7.out.below AksC.holds (B := w.heap.size) hB (Nat.le_refl _)) (N8.out.below AksC.holds (B := w.heap.size) hB (Nat.le_refl _)) HM.out).mono ?_
    rintro e w5 ⟨g5, g6, g7, g8, rfl, p5, p6, p7, p8, hb⟩
    replace HA : Hid (w5.rangeAt w.heap.size 0 [.string x.name, .bool x.up, .int .i64 x.clock, .bool x.known, .int .i64 x.seen, .slice a5 x.wants.length c5, .slice a6 x.runs.length c6, .slice a7 x.asks.length c7, .slice a8 x.gives.length c8]) := range_next HA.out hb
    replace HP : Hid (w5.rangeAt (w.heap.size + 1) 0 [.int .i64 q.kind, .string q.berth, .int .i64 q.seen, .slice a3 q.wants.length c3, .string q.hold, .string q.copy, .int .i64 q.at_]) := range_next HP.out hb
    replace H4 : Hid (w5.rangeAt ga 0 [.string y.name, .bool y.up, .int .i64 y.clock, .bool y.known, .int .i64 y.seen, .slice b5 y.wants.length q5, .slice b6 y.runs.length q6, .slice b7 y.asks.length q7, .slice b8 y.gives.length q8]) := range_next H4.out hb
    replace HB3 : Hid (Below w4.heap.size w4 w5) := HB3.out.trans (hb.mono HB3.out.size)
    replace hB : Below w.heap.size w w5 := hB.trans (hb.mono hB.size)
    have z5 := hb.size
    have Q5 := Hid.intro p5
    have Q6 := Hid.intro p6
    have Q7 := Hid.intro p7
    have Q8 := Hid.intro p8
    clear hb p5 p6 p7 p8
    have hb : Below w5.heap.size w5 (w5.alloc (Obj.cells #[.string x.name, .bool x.up, .int .i64 x.clock, .bool x.known, .int .i64 x.seen, .slice (some ⟨g5, 0, none⟩) x.wants.length x.wants.length, .slice (some ⟨g6, 0, none⟩) x.runs.length x.runs.length, .slice (some ⟨g7, 0, none⟩) x.asks.length x.asks.length, .slice (some ⟨g8, 0, none⟩) x.gives.length x.gives.length] 35)) := (Below.refl _ _).alloc (Nat.le_refl _) _
    have H5 : Hid ((w5.alloc (Obj.cells #[.string x.name, .bool x.up, .int .i64 x.clock, .bool x.known, .int .i64 x.seen, .slice (some ⟨g5, 0, none⟩) x.wants.length x.wants.length, .slice (some ⟨g6, 0, none⟩) x.runs.length x.runs.length, .slice (some ⟨g7, 0, none⟩) x.asks.length x.asks.length, .slice (some ⟨g8, 0, none⟩) x.gives.length x.gives.length] 35)).rangeAt w5.heap.size 0 [.string x.name, .bool x.up, .int .i64 x.clock, .bool x.known, .int .i64 x.seen, .slice (some ⟨g5, 0, none⟩) x.wants.length x.wants.length, .slice (some ⟨g6, 0, none⟩) x.runs.length x.runs.length, .slice (some ⟨g7, 0, none⟩) x.asks.length x.asks.length, .slice (some ⟨g8, 0, none⟩) x.gives.length x.gives.length]) := (Blk.alloc w5 _ _).rangeA
    have HB5 : Hid (Below w5.heap.size w5 (w5.alloc (Obj.cells #[.string x.name, .bool x.up, .int .i64 x.clock, .bool x.known, .int .i64 x.seen, .slice (some ⟨g5, 0, none⟩) x.wants.length x.wants.length, .slice (some ⟨g6, 0, none⟩) x.runs.length x.runs.length, .slice (some ⟨g7, 0, none⟩) x.asks.length x.asks.length, .slice (some ⟨g8, 0, none⟩) x.gives.length x.gives.length] 35))) := hb
    replace HA : Hid ((w5.alloc (Obj.cells #[.string x.name, .bool x.up, .int .i64 x.clock, .bool x.known, .int .i64 x.seen, .slice (some ⟨g5, 0, none⟩) x.wants.length x.wants.length, .slice (some ⟨g6, 0, none⟩) x.runs.length x.runs.length, .slice (some ⟨g7, 0, none⟩) x.asks.length x.asks.length, .slice (some ⟨g8, 0, none⟩) x.gives.length x.gives.length] 35)).rangeAt w.heap.size 0 [.string x.name, .bool x.up, .int .i64 x.clock, .bool x.known, .int .i64 x.seen, .slice a5 x.wants.length c5, .slice a6 x.runs.length c6, .slice a7 x.asks.length c7, .slice a8 x.gives.length c8]) := range_next HA.out hb
    replace HP : Hid ((w5.alloc (Obj.cells #[.string x.name, .bool x.up, .int .i64 x.clock, .bool x.known, .int .i64 x.seen, .slice (some ⟨g5, 0, none⟩) x.wants.length x.wants.length, .slice (some ⟨g6, 0, none⟩) x.runs.length x.runs.length, .slice (some ⟨g7, 0, none⟩) x.asks.length x.asks.length, .slice (some ⟨g8, 0, none⟩) x.gives.length x.gives.length] 35)).rangeAt (w.heap.size + 1) 0 [.int .i64 q.kind, .string q.berth, .int .i64 q.seen, .slice a3 q.wants.length c3, .string q.hold, .string q.copy, .int .i64 q.at_]) := range_next HP.out hb
    replace H4 : Hid ((w5.alloc (Obj.cells #[.string x.name, .bool x.up, .int .i64 x.clock, .bool x.known, .int .i64 x.seen, .slice (some ⟨g5, 0, none⟩) x.wants.length x.wants.length, .slice (some ⟨g6, 0, none⟩) x.runs.length x.runs.length, .slice (some ⟨g7, 0, none⟩) x.asks.length x.asks.length, .slice (some ⟨g8, 0, none⟩) x.gives.length x.gives.length] 35)).rangeAt ga 0 [.string y.name, .bool y.up, .int .i64 y.clock, .bool y.known, .int .i64 y.seen, .slice b5 y.wants.length q5, .slice b6 y.runs.length q6, .slice b7 y.asks.length q7, .slice b8 y.gives.length q8]) := range_next H4.out hb
    replace HB3 : Hid (Below w4.heap.size w4 (w5.alloc (Obj.cells #[.string x.name, .bool x.up, .int .i64 x.clock, .bool x.known, .int .i64 x.seen, .slice (some ⟨g5, 0, none⟩) x.wants.length x.wants.length, .slice (some ⟨g6, 0, none⟩) x.runs.length x.runs.length, .slice (some ⟨g7, 0, none⟩) x.asks.length x.asks.length, .slice (some ⟨g8, 0, none⟩) x.gives.length x.gives.length] 35))) := HB3.out.trans (hb.mono HB3.out.size)
    replace hB : Below w.heap.size w (w5.alloc (Obj.cells #[.string x.name, .bool x.up, .int .i64 x.clock, .bool x.known, .int .i64 x.seen, .slice (some ⟨g5, 0, none⟩) x.wants.length x.wants.length, .slice (some ⟨g6, 0, none⟩) x.runs.length x.runs.length, .slice (some ⟨g7, 0, none⟩) x.asks.length x.asks.length, .slice (some ⟨g8, 0, none⟩) x.gives.length x.gives.length] 35)) := hB.trans (hb.mono hB.size)
    clear hb
    go_upto_region 10 with fail
    generalize w5.alloc (Obj.cells #[.string x.name, .bool x.up, .int .i64 x.clock, .bool x.known, .int .i64 x.seen, .slice (some ⟨g5, 0, none⟩) x.wants.length x.wants.length, .slice (some ⟨g6, 0, none⟩) x.runs.length x.runs.length, .slice (some ⟨g7, 0, none⟩) x.asks.length x.asks.length, .slice (some ⟨g8, 0, none⟩) x.gives.length x.gives.length] 35) = w6 at *
    have z6 : w5.heap.size < w6.heap.size := range_lt H5.out
    go_wp2_with (refine wpList_load_mid rfl 28 _ rfl (w.heap.size + 1) 0 rfl [.int .i64 q.kind, .string q.berth, .int .i64 q.seen, .slice a3 q.wants.length c3, .string q.hold, .string q.copy, .int .i64 q.at_] _ HP.out Tryz.underlying28 rfl iszL_Pcl ?_)
    refine (toPcl_any q a3 c3 lo _ (N3.out.below WntC.holds (B := w.heap.size) hB (Nat.le_refl _)) HMQ.out).mono ?_
    rintro e w7 ⟨x3, rfl, p3, hb⟩
    replace HA : Hid (w7.rangeAt w.heap.size 0 [.string x.name, .bool x.up, .int .i64 x.clock, .bool x.known, .int .i64 x.seen, .slice a5 x.wants.length c5, .slice a6 x.runs.length c6, .slice a7 x.asks.length c7, .slice a8 x.gives.length c8]) := range_next HA.out hb
    replace HP : Hid (w7.rangeAt (w.heap.size + 1) 0 [.int .i64 q.kind, .string q.berth, .int .i64 q.seen, .slice a3 q.wants.length c3, .string q.hold, .string q.copy, .int .i64 q.at_]) := range_next HP.out hb
    replace H4 : Hid (w7.rangeAt ga 0 [.string y.name, .bool y.up, .int .i64 y.clock, .bool y.known, .int .i64 y.seen, .slice b5 y.wants.length q5, .slice b6 y.runs.length q6, .slice b7 y.asks.length q7, .slice b8 y.gives.length q8]) := range_next H4.out hb
    replace H5 : Hid (w7.rangeAt w5.heap.size 0 [.string x.name, .bool x.up, .int .i64 x.clock, .bool x.known, .int .i64 x.seen, .slice (some ⟨g5, 0, none⟩) x.wants.length x.wants.length, .slice (some ⟨g6, 0, none⟩) x.runs.length x.runs.length, .slice (some ⟨g7, 0, none⟩) x.asks.length x.asks.length, .slice (some ⟨g8, 0, none⟩) x.gives.length x.gives.length]) := range_next H5.out hb
    replace HB3 : Hid (Below w4.heap.size w4 w7) := HB3.out.trans (hb.mono HB3.out.size)
    replace HB5 : Hid (Below w5.heap.size w5 w7) := HB5.out.trans (hb.mono HB5.out.size)
    replace hB : Below w.heap.size w w7 := hB.trans (hb.mono hB.size)
    have z7 := hb.size
    have Q3 := Hid.intro p3
    clear hb p3
    have hb : Below w7.heap.size w7 (w7.alloc (Obj.cells #[.int .i64 q.kind, .string q.berth, .int .i64 q.seen, .slice (some ⟨x3, 0, none⟩) q.wants.length q.wants.length, .string q.hold, .string q.copy, .int .i64 q.at_] 39)) := (Below.refl _ _).alloc (Nat.le_refl _) _
    have H8 : Hid ((w7.alloc (Obj.cells #[.int .i64 q.kind, .string q.berth, .int .i64 q.seen, .slice (some ⟨x3, 0, none⟩) q.wants.length q.wants.length, .string q.hold, .string q.copy, .int .i64 q.at_] 39)).rangeAt w7.heap.size 0 [.int .i64 q.kind, .string q.berth, .int .i64 q.seen, .slice (some ⟨x3, 0, none⟩) q.wants.length q.wants.length, .string q.hold, .string q.copy, .int .i64 q.at_]) := (Blk.alloc w7 _ _).rangeA
    have HB7 : Hid (Below w7.heap.size w7 (w7.alloc (Obj.cells #[.int .i64 q.kind, .string q.berth, .int .i64 q.seen, .slice (some ⟨x3, 0, none⟩) q.wants.length q.wants.length, .string q.hold, .string q.copy, .int .i64 q.at_] 39))) := hb
    replace HA : Hid ((w7.alloc (Obj.cells #[.int .i64 q.kind, .string q.berth, .int .i64 q.seen, .slice (some ⟨x3, 0, none⟩) q.wants.length q.wants.length, .string q.hold, .string q.copy, .int .i64 q.at_] 39)).rangeAt w.heap.size 0 [.string x.name, .bool x.up, .int .i64 x.clock, .bool x.known, .int .i64 x.seen, .slice a5 x.wants.length c5, .slice a6 x.runs.length c6, .slice a7 x.asks.length c7, .slice a8 x.gives.length c8]) := range_next HA.out hb
    replace HP : Hid ((w7.alloc (Obj.cells #[.int .i64 q.kind, .string q.berth, .int .i64 q.seen, .slice (some ⟨x3, 0, none⟩) q.wants.length q.wants.length, .string q.hold, .string q.copy, .int .i64 q.at_] 39)).rangeAt (w.heap.size + 1) 0 [.int .i64 q.kind, .string q.berth, .int .i64 q.seen, .slice a3 q.wants.length c3, .string q.hold, .string q.copy, .int .i64 q.at_]) := range_next HP.out hb
    replace H4 : Hid ((w7.alloc (Obj.cells #[.int .i64 q.kind, .string q.berth, .int .i64 q.seen, .slice (some ⟨x3, 0, none⟩) q.wants.length q.wants.length, .string q.hold, .string q.copy, .int .i64 q.at_] 39)).rangeAt ga 0 [.string y.name, .bool y.up, .int .i64 y.clock, .bool y.known, .int .i64 y.seen, .slice b5 y.wants.length q5, .slice b6 y.runs.length q6, .slice b7 y.asks.length q7, .slice b8 y.gives.length q8]) := range_next H4.out hb
    replace H5 : Hid ((w7.alloc (Obj.cells #[.int .i64 q.kind, .string q.berth, .int .i64 q.seen, .slice (some ⟨x3, 0, none⟩) q.wants.length q.wants.length, .string q.hold, .string q.copy, .int .i64 q.at_] 39)).rangeAt w5.heap.size 0 [.string x.name, .bool x.up, .int .i64 x.clock, .bool x.known, .int .i64 x.seen, .slice (some ⟨g5, 0, none⟩) x.wants.length x.wants.length, .slice (some ⟨g6, 0, none⟩) x.runs.length x.runs.length, .slice (some ⟨g7, 0, none⟩) x.asks.length x.asks.length, .slice (some ⟨g8, 0, none⟩) x.gives.length x.gives.length]) := range_next H5.out hb
    replace HB3 : Hid (Below w4.heap.size w4 (w7.alloc (Obj.cells #[.int .i64 q.kind, .string q.berth, .int .i64 q.seen, .slice (some ⟨x3, 0, none⟩) q.wants.length q.wants.length, .string q.hold, .string q.copy, .int .i64 q.at_] 39))) := HB3.out.trans (hb.mono HB3.out.size)
    replace HB5 : Hid (Below w5.heap.size w5 (w7.alloc (Obj.cells #[.int .i64 q.kind, .string q.berth, .int .i64 q.seen, .slice (some ⟨x3, 0, none⟩) q.wants.length q.wants.length, .string q.hold, .string q.copy, .int .i64 q.at_] 39))) := HB5.out.trans (hb.mono HB5.out.size)
    replace hB : Below w.heap.size w (w7.alloc (Obj.cells #[.int .i64 q.kind, .string q.berth, .int .i64 q.seen, .slice (some ⟨x3, 0, none⟩) q.wants.length q.wants.length, .string q.hold, .string q.copy, .int .i64 q.at_] 39)) := hB.trans (hb.mono hB.size)
    clear hb
    go_upto_region 11 with fail
    generalize w7.alloc (Obj.cells #[.int .i64 q.kind, .string q.berth, .int .i64 q.seen, .slice (some ⟨x3, 0, none⟩) q.wants.length q.wants.length, .string q.hold, .string q.copy, .int .i64 q.at_] 39) = w8 at *
    have z8 : w7.heap.size < w8.heap.size := range_lt H8.out
    go_wp2_with (first | (refine wpList_load_mid rfl 35 _ rfl w5.heap.size 0 rfl [.string x.name, .bool x.up, .int .i64 x.clock, .bool x.known, .int .i64 x.seen, .slice (some ⟨g5, 0, none⟩) x.wants.length x.wants.length, .slice (some ⟨g6, 0, none⟩) x.runs.length x.runs.length, .slice (some ⟨g7, 0, none⟩) x.asks.length x.asks.length, .slice (some ⟨g8, 0, none⟩) x.gives.length x.gives.length] _ H5.out Tryz.underlying35 rfl isz_Mte ?_) | (refine wpList_load_mid rfl 39 _ rfl w7.heap.size 0 rfl [.int .i64 q.kind, .string q.berth, .int .i64 q.seen, .slice (some ⟨x3, 0, none⟩) q.wants.length q.wants.length, .string q.hold, .string q.copy, .int .i64 q.at_] _ H8.out Tryz.underlying39 rfl isz_Pcl ?_))
    refine (implTake_any x (some ⟨g5, 0, none⟩) x.wants.length (some ⟨g6, 0, none⟩) x.runs.length (some ⟨g7, 0, none⟩) x.asks.length (some ⟨g8, 0, none⟩) x.gives.length q (some ⟨x3, 0, none⟩) q.wants.length 0 _ ⟨(Q5.out.below WntC.holds HB5.out (Nat.le_refl _)).keep WntC.holds (Keeps.refl _ _) (Nat.zero_le _), (Q6.out.below RnC.holds HB5.out (Nat.le_refl _)).keep RnC.holds (Keeps.refl _ _) (Nat.zero_le _), (Q7.out.below AksC.holds HB5.out (Nat.le_refl _)).keep AksC.holds (Keeps.refl _ _) (Nat.zero_le _), (Q8.out.below AksC.holds HB5.out (Nat.le_refl _)).keep AksC.holds (Keeps.refl _ _) (Nat.zero_le _), (fun _ _ _ e => by cases e; rfl), (fun _ _ _ e => by cases e; rfl), (fun _ _ _ e => by cases e; rfl), (fun _ _ _ e => by cases e; rfl)⟩ HZ.out ⟨(Q3.out.below WntC.holds HB7.out (Nat.le_refl _)).keep WntC.holds (Keeps.refl _ _) (Nat.zero_le _), (fun _ _ _ e => by cases e; rfl), HZQ.out.z3, HZQ.out.l3, HZQ.out.zb, HZQ.out.zh, HZQ.out.zc⟩).mono ?_
    rintro e w9 ⟨y', d5, r5, d6, r6, d7, r7, d8, r8, hy, rfl, hg, hb⟩
    obtain rfl : y = y' := HY.out.trans hy.symm
    replace HA : Hid (w9.rangeAt w.heap.size 0 [.string x.name, .bool x.up, .int .i64 x.clock, .bool x.known, .int .i64 x.seen, .slice a5 x.wants.length c5, .slice a6 x.runs.length c6, .slice a7 x.asks.length c7, .slice a8 x.gives.length c8]) := range_next HA.out hb
    replace HP : Hid (w9.rangeAt (w.heap.size + 1) 0 [.int .i64 q.kind, .string q.berth, .int .i64 q.seen, .slice a3 q.wants.length c3, .string q.hold, .string q.copy, .int .i64 q.at_]) := range_next HP.out hb
    replace H4 : Hid (w9.rangeAt ga 0 [.string y.name, .bool y.up, .int .i64 y.clock, .bool y.known, .int .i64 y.seen, .slice b5 y.wants.length q5, .slice b6 y.runs.length q6, .slice b7 y.asks.length q7, .slice b8 y.gives.length q8]) := range_next H4.out hb
    replace H5 : Hid (w9.rangeAt w5.heap.size 0 [.string x.name, .bool x.up, .int .i64 x.clock, .bool x.known, .int .i64 x.seen, .slice (some ⟨g5, 0, none⟩) x.wants.length x.wants.length, .slice (some ⟨g6, 0, none⟩) x.runs.length x.runs.length, .slice (some ⟨g7, 0, none⟩) x.asks.length x.asks.length, .slice (some ⟨g8, 0, none⟩) x.gives.length x.gives.length]) := range_next H5.out hb
    replace HB3 : Hid (Below w4.heap.size w4 w9) := HB3.out.trans (hb.mono HB3.out.size)
    replace HB5 : Hid (Below w5.heap.size w5 w9) := HB5.out.trans (hb.mono HB5.out.size)
    replace H8 : Hid (w9.rangeAt w7.heap.size 0 [.int .i64 q.kind, .string q.berth, .int .i64 q.seen, .slice (some ⟨x3, 0, none⟩) q.wants.length q.wants.length, .string q.hold, .string q.copy, .int .i64 q.at_]) := range_next H8.out hb
    replace HB7 : Hid (Below w7.heap.size w7 w9) := HB7.out.trans (hb.mono HB7.out.size)
    replace hB : Below w.heap.size w w9 := hB.trans (hb.mono hB.size)
    have z9 := hb.size
    have GG := Hid.intro hg
    clear hb hg hy
    have hb : Below w9.heap.size w9 (w9.alloc (Obj.cells #[.string y.name, .bool y.up, .int .i64 y.clock, .bool y.known, .int .i64 y.seen, .slice d5 y.wants.length r5, .slice d6 y.runs.length r6, .slice d7 y.asks.length r7, .slice d8 y.gives.length r8] 35)) := (Below.refl _ _).alloc (Nat.le_refl _) _
    have H6 : Hid ((w9.alloc (Obj.cells #[.string y.name, .bool y.up, .int .i64 y.clock, .bool y.known, .int .i64 y.seen, .slice d5 y.wants.length r5, .slice d6 y.runs.length r6, .slice d7 y.asks.length r7, .slice d8 y.gives.length r8] 35)).rangeAt w9.heap.size 0 [.string y.name, .bool y.up, .int .i64 y.clock, .bool y.known, .int .i64 y.seen, .slice d5 y.wants.length r5, .slice d6 y.runs.length r6, .slice d7 y.asks.length r7, .slice d8 y.gives.length r8]) := (Blk.alloc w9 _ _).rangeA
    replace HA : Hid ((w9.alloc (Obj.cells #[.string y.name, .bool y.up, .int .i64 y.clock, .bool y.known, .int .i64 y.seen, .slice d5 y.wants.length r5, .slice d6 y.runs.length r6, .slice d7 y.asks.length r7, .slice d8 y.gives.length r8] 35)).rangeAt w.heap.size 0 [.string x.name, .bool x.up, .int .i64 x.clock, .bool x.known, .int .i64 x.seen, .slice a5 x.wants.length c5, .slice a6 x.runs.length c6, .slice a7 x.asks.length c7, .slice a8 x.gives.length c8]) := range_next HA.out hb
    replace HP : Hid ((w9.alloc (Obj.cells #[.string y.name, .bool y.up, .int .i64 y.clock, .bool y.known, .int .i64 y.seen, .slice d5 y.wants.length r5, .slice d6 y.runs.length r6, .slice d7 y.asks.length r7, .slice d8 y.gives.length r8] 35)).rangeAt (w.heap.size + 1) 0 [.int .i64 q.kind, .string q.berth, .int .i64 q.seen, .slice a3 q.wants.length c3, .string q.hold, .string q.copy, .int .i64 q.at_]) := range_next HP.out hb
    replace H4 : Hid ((w9.alloc (Obj.cells #[.string y.name, .bool y.up, .int .i64 y.clock, .bool y.known, .int .i64 y.seen, .slice d5 y.wants.length r5, .slice d6 y.runs.length r6, .slice d7 y.asks.length r7, .slice d8 y.gives.length r8] 35)).rangeAt ga 0 [.string y.name, .bool y.up, .int .i64 y.clock, .bool y.known, .int .i64 y.seen, .slice b5 y.wants.length q5, .slice b6 y.runs.length q6, .slice b7 y.asks.length q7, .slice b8 y.gives.length q8]) := range_next H4.out hb
    replace H5 : Hid ((w9.alloc (Obj.cells #[.string y.name, .bool y.up, .int .i64 y.clock, .bool y.known, .int .i64 y.seen, .slice d5 y.wants.length r5, .slice d6 y.runs.length r6, .slice d7 y.asks.length r7, .slice d8 y.gives.length r8] 35)).rangeAt w5.heap.size 0 [.string x.name, .bool x.up, .int .i64 x.clock, .bool x.known, .int .i64 x.seen, .slice (some ⟨g5, 0, none⟩) x.wants.length x.wants.length, .slice (some ⟨g6, 0, none⟩) x.runs.length x.runs.length, .slice (some ⟨g7, 0, none⟩) x.asks.length x.asks.length, .slice (some ⟨g8, 0, none⟩) x.gives.length x.gives.length]) := range_next H5.out hb
    replace HB3 : Hid (Below w4.heap.size w4 (w9.alloc (Obj.cells #[.string y.name, .bool y.up, .int .i64 y.clock, .bool y.known, .int .i64 y.seen, .slice d5 y.wants.length r5, .slice d6 y.runs.length r6, .slice d7 y.asks.length r7, .slice d8 y.gives.length r8] 35))) := HB3.out.trans (hb.mono HB3.out.size)
    replace HB5 : Hid (Below w5.heap.size w5 (w9.alloc (Obj.cells #[.string y.name, .bool y.up, .int .i64 y.clock, .bool y.known, .int .i64 y.seen, .slice d5 y.wants.length r5, .slice d6 y.runs.length r6, .slice d7 y.asks.length r7, .slice d8 y.gives.length r8] 35))) := HB5.out.trans (hb.mono HB5.out.size)
    replace H8 : Hid ((w9.alloc (Obj.cells #[.string y.name, .bool y.up, .int .i64 y.clock, .bool y.known, .int .i64 y.seen, .slice d5 y.wants.length r5, .slice d6 y.runs.length r6, .slice d7 y.asks.length r7, .slice d8 y.gives.length r8] 35)).rangeAt w7.heap.size 0 [.int .i64 q.kind, .string q.berth, .int .i64 q.seen, .slice (some ⟨x3, 0, none⟩) q.wants.length q.wants.length, .string q.hold, .string q.copy, .int .i64 q.at_]) := range_next H8.out hb
    replace HB7 : Hid (Below w7.heap.size w7 (w9.alloc (Obj.cells #[.string y.name, .bool y.up, .int .i64 y.clock, .bool y.known, .int .i64 y.seen, .slice d5 y.wants.length r5, .slice d6 y.runs.length r6, .slice d7 y.asks.length r7, .slice d8 y.gives.length r8] 35))) := HB7.out.trans (hb.mono HB7.out.size)
    replace GG : Hid (G4 y w8.heap.size w9.heap.size d5 d6 d7 d8 (w9.alloc (Obj.cells #[.string y.name, .bool y.up, .int .i64 y.clock, .bool y.known, .int .i64 y.seen, .slice d5 y.wants.length r5, .slice d6 y.runs.length r6, .slice d7 y.asks.length r7, .slice d8 y.gives.length r8] 35))) := GG.out.keep (Keeps.of_below hb (Nat.le_refl _) _)
    replace hB : Below w.heap.size w (w9.alloc (Obj.cells #[.string y.name, .bool y.up, .int .i64 y.clock, .bool y.known, .int .i64 y.seen, .slice d5 y.wants.length r5, .slice d6 y.runs.length r6, .slice d7 y.asks.length r7, .slice d8 y.gives.length r8] 35)) := hB.trans (hb.mono hB.size)
    clear hb
    go_upto_region 12 with fail
    generalize w9.alloc (Obj.cells #[.string y.name, .bool y.up, .int .i64 y.clock, .bool y.known, .int .i64 y.seen, .slice d5 y.wants.length r5, .slice d6 y.runs.length r6, .slice d7 y.asks.length r7, .slice d8 y.gives.length r8] 35) = w10 at *
    have zA : w.heap.size < w10.heap.size := range_lt HA.out
    go_wp2_with (first | (refine wpList_load_mid rfl 35 _ rfl w9.heap.size 0 rfl [.string y.name, .bool y.up, .int .i64 y.clock, .bool y.known, .int .i64 y.seen, .slice d5 y.wants.length r5, .slice d6 y.runs.length r6, .slice d7 y.asks.length r7, .slice d8 y.gives.length r8] _ H6.out Tryz.underlying35 rfl isz_Mte ?_) | (refine wpList_load_mid rfl 35 _ rfl ga 0 rfl [.string y.name, .bool y.up, .int .i64 y.clock, .bool y.known, .int .i64 y.seen, .slice b5 y.wants.length q5, .slice b6 y.runs.length q6, .slice b7 y.asks.length q7, .slice b8 y.gives.length q8] _ H4.out Tryz.underlying35 rfl isz_Mte ?_))
    refine (eqMte_any y d5 r5 d6 r6 d7 r7 d8 r8 b5 q5 b6 q6 b7 q7 b8 q8 _ _ _ GG.out.sl.1 GG.out.sl.2.1 GG.out.sl.2.2.1 GG.out.sl.2.2.2 (PO5.out.below WntC.holds HB3.out (Nat.le_refl _)) (PO6.out.below RnC.holds HB3.out (Nat.le_refl _)) (PO7.out.below AksC.holds HB3.out (Nat.le_refl _)) (PO8.out.below AksC.holds HB3.out (Nat.le_refl _)) HMY.out).mono ?_
    rintro e w11 ⟨rfl, hb⟩
    replace HA : Hid (w11.rangeAt w.heap.size 0 [.string x.name, .bool x.up, .int .i64 x.clock, .bool x.known, .int .i64 x.seen, .slice a5 x.wants.length c5, .slice a6 x.runs.length c6, .slice a7 x.asks.length c7, .slice a8 x.gives.length c8]) := range_next HA.out hb
    replace HP : Hid (w11.rangeAt (w.heap.size + 1) 0 [.int .i64 q.kind, .string q.berth, .int .i64 q.seen, .slice a3 q.wants.length c3, .string q.hold, .string q.copy, .int .i64 q.at_]) := range_next HP.out hb
    replace H4 : Hid (w11.rangeAt ga 0 [.string y.name, .bool y.up, .int .i64 y.clock, .bool y.known, .int .i64 y.seen, .slice b5 y.wants.length q5, .slice b6 y.runs.length q6, .slice b7 y.asks.length q7, .slice b8 y.gives.length q8]) := range_next H4.out hb
    replace H5 : Hid (w11.rangeAt w5.heap.size 0 [.string x.name, .bool x.up, .int .i64 x.clock, .bool x.known, .int .i64 x.seen, .slice (some ⟨g5, 0, none⟩) x.wants.length x.wants.length, .slice (some ⟨g6, 0, none⟩) x.runs.length x.runs.length, .slice (some ⟨g7, 0, none⟩) x.asks.length x.asks.length, .slice (some ⟨g8, 0, none⟩) x.gives.length x.gives.length]) := range_next H5.out hb
    replace HB3 : Hid (Below w4.heap.size w4 w11) := HB3.out.trans (hb.mono HB3.out.size)
    replace HB5 : Hid (Below w5.heap.size w5 w11) := HB5.out.trans (hb.mono HB5.out.size)
    replace H8 : Hid (w11.rangeAt w7.heap.size 0 [.int .i64 q.kind, .string q.berth, .int .i64 q.seen, .slice (some ⟨x3, 0, none⟩) q.wants.length q.wants.length, .string q.hold, .string q.copy, .int .i64 q.at_]) := range_next H8.out hb
    replace HB7 : Hid (Below w7.heap.size w7 w11) := HB7.out.trans (hb.mono HB7.out.size)
    replace GG : Hid (G4 y w8.heap.size w9.heap.size d5 d6 d7 d8 w11) := GG.out.keep (Keeps.of_below hb (Nat.le_refl _) _)
    replace H6 : Hid (w11.rangeAt w9.heap.size 0 [.string y.name, .bool y.up, .int .i64 y.clock, .bool y.known, .int .i64 y.seen, .slice d5 y.wants.length r5, .slice d6 y.runs.length r6, .slice d7 y.asks.length r7, .slice d8 y.gives.length r8]) := range_next H6.out hb
    replace hB : Below w.heap.size w w11 := hB.trans (hb.mono hB.size)
    clear hb
    go_upto_region 14 with fail
    refine wp_region_held_drew (S := fun wy => wy.rangeAt w5.heap.size 0 [.string x.name, .bool x.up, .int .i64 x.clock, .bool x.known, .int .i64 x.seen, .slice (some ⟨g5, 0, none⟩) x.wants.length x.wants.length, .slice (some ⟨g6, 0, none⟩) x.runs.length x.runs.length, .slice (some ⟨g7, 0, none⟩) x.asks.length x.asks.length, .slice (some ⟨g8, 0, none⟩) x.gives.length x.gives.length] ∧ wy.rangeAt w.heap.size 0 [.string x.name, .bool x.up, .int .i64 x.clock, .bool x.known, .int .i64 x.seen, .slice a5 x.wants.length c5, .slice a6 x.runs.length c6, .slice a7 x.asks.length c7, .slice a8 x.gives.length c8]) (by kernel_rfl) ⟨range_drew H5.out, range_drew HA.out⟩ (fun hS => ?_)
    have hb : Below w11.heap.size w11 w11.drew := (Below.refl _ _).drew
    replace HA : Hid (w11.drew.rangeAt w.heap.size 0 [.string x.name, .bool x.up, .int .i64 x.clock, .bool x.known, .int .i64 x.seen, .slice a5 x.wants.length c5, .slice a6 x.runs.length c6, .slice a7 x.asks.length c7, .slice a8 x.gives.length c8]) := range_next HA.out hb
    replace HP : Hid (w11.drew.rangeAt (w.heap.size + 1) 0 [.int .i64 q.kind, .string q.berth, .int .i64 q.seen, .slice a3 q.wants.length c3, .string q.hold, .string q.copy, .int .i64 q.at_]) := range_next HP.out hb
    replace H4 : Hid (w11.drew.rangeAt ga 0 [.string y.name, .bool y.up, .int .i64 y.clock, .bool y.known, .int .i64 y.seen, .slice b5 y.wants.length q5, .slice b6 y.runs.length q6, .slice b7 y.asks.length q7, .slice b8 y.gives.length q8]) := range_next H4.out hb
    replace H5 : Hid (w11.drew.rangeAt w5.heap.size 0 [.string x.name, .bool x.up, .int .i64 x.clock, .bool x.known, .int .i64 x.seen, .slice (some ⟨g5, 0, none⟩) x.wants.length x.wants.length, .slice (some ⟨g6, 0, none⟩) x.runs.length x.runs.length, .slice (some ⟨g7, 0, none⟩) x.asks.length x.asks.length, .slice (some ⟨g8, 0, none⟩) x.gives.length x.gives.length]) := range_next H5.out hb
    replace HB3 : Hid (Below w4.heap.size w4 w11.drew) := HB3.out.trans (hb.mono HB3.out.size)
    replace HB5 : Hid (Below w5.heap.size w5 w11.drew) := HB5.out.trans (hb.mono HB5.out.size)
    replace H8 : Hid (w11.drew.rangeAt w7.heap.size 0 [.int .i64 q.kind, .string q.berth, .int .i64 q.seen, .slice (some ⟨x3, 0, none⟩) q.wants.length q.wants.length, .string q.hold, .string q.copy, .int .i64 q.at_]) := range_next H8.out hb
    replace HB7 : Hid (Below w7.heap.size w7 w11.drew) := HB7.out.trans (hb.mono HB7.out.size)
    replace GG : Hid (G4 y w8.heap.size w9.heap.size d5 d6 d7 d8 w11.drew) := GG.out.keep (Keeps.of_below hb (Nat.le_refl _) _)
    replace H6 : Hid (w11.drew.rangeAt w9.heap.size 0 [.string y.name, .bool y.up, .int .i64 y.clock, .bool y.known, .int .i64 y.seen, .slice d5 y.wants.length r5, .slice d6 y.runs.length r6, .slice d7 y.asks.length r7, .slice d8 y.gives.length r8]) := range_next H6.out hb
    replace hB : Below w.heap.size w w11.drew := hB.trans (hb.mono hB.size)
    clear hb
    generalize w11.drew = w12 at *
    refine wpAnyH_take (i := 0) (oi := ⟨some 40, _, _, _, _, none⟩) (v := .agg #[.string x.name, .bool x.up, .int .i64 x.clock, .bool x.known, .int .i64 x.seen, .slice (some ⟨g5, 0, none⟩) x.wants.length x.wants.length, .slice (some ⟨g6, 0, none⟩) x.runs.length x.runs.length, .slice (some ⟨g7, 0, none⟩) x.asks.length x.asks.length, .slice (some ⟨g8, 0, none⟩) x.gives.length x.gives.length]) rfl (by kernel_rfl) (by kernel_rfl) (by kernel_rfl) (fun _ _ _ h => h) (yieldsIf_load_mid (by rfl) _ _ rfl w5.heap.size (0) rfl [.string x.name, .bool x.up, .int .i64 x.clock, .bool x.known, .int .i64 x.seen, .slice (some ⟨g5, 0, none⟩) x.wants.length x.wants.length, .slice (some ⟨g6, 0, none⟩) x.runs.length x.runs.length, .slice (some ⟨g7, 0, none⟩) x.asks.length x.asks.length, .slice (some ⟨g8, 0, none⟩) x.gives.length x.gives.length] _ (fun _ h => h.1) Tryz.underlying35 rfl isz_Mte) hS ?_
    simp only [Act.put, List.setIfInBounds_toArray, List.set_cons_zero, List.set_cons_succ]
    refine wpAnyH_take (i := 1) (oi := ⟨some 41, _, _, _, _, none⟩) (v := .agg #[.string x.name, .bool x.up, .int .i64 x.clock, .bool x.known, .int .i64 x.seen, .slice a5 x.wants.length c5, .slice a6 x.runs.length c6, .slice a7 x.asks.length c7, .slice a8 x.gives.length c8]) rfl (by kernel_rfl) (by kernel_rfl) (by kernel_rfl) (fun _ _ _ h => h) (yieldsIf_load_mid (by rfl) _ _ rfl w.heap.size (0) rfl [.string x.name, .bool x.up, .int .i64 x.clock, .bool x.known, .int .i64 x.seen, .slice a5 x.wants.length c5, .slice a6 x.runs.length c6, .slice a7 x.asks.length c7, .slice a8 x.gives.length c8] _ (fun _ h => h.2) Tryz.underlying26 rfl iszL_Mte) hS ?_
    simp only [Act.put, List.setIfInBounds_toArray, List.set_cons_zero, List.set_cons_succ]
    refine wpAnyH_ready (rs := [2]) (by kernel_rfl) (by simp) (AllReadyH.cons (o := ⟨some 42, _, _, _, _, none⟩) rfl (fun K hK => ?_) AllReadyH.nil)
    go_simp
    refine (toMte_any x a5 c5 a6 c6 a7 c7 a8 c8 lo _ (N5.out.below WntC.holds (B := w.heap.size) hB (Nat.le_refl _)) (N6.out.below RnC.holds (B := w.heap.size) hB (Nat.le_refl _)) (N7.out.below AksC.holds (B := w.heap.size) hB (Nat.le_refl _)) (N8.out.below AksC.holds (B := w.heap.size) hB (Nat.le_refl _)) HM.out).mono ?_
    rintro e w13 ⟨h5, h6, h7, h8, rfl, p5, p6, p7, p8, hb⟩
    replace HA : Hid (w13.rangeAt w.heap.size 0 [.string x.name, .bool x.up, .int .i64 x.clock, .bool x.known, .int .i64 x.seen, .slice a5 x.wants.length c5, .slice a6 x.runs.length c6, .slice a7 x.asks.length c7, .slice a8 x.gives.length c8]) := range_next HA.out hb
    replace HP : Hid (w13.rangeAt (w.heap.size + 1) 0 [.int .i64 q.kind, .string q.berth, .int .i64 q.seen, .slice a3 q.wants.length c3, .string q.hold, .string q.copy, .int .i64 q.at_]) := range_next HP.out hb
    replace H4 : Hid (w13.rangeAt ga 0 [.string y.name, .bool y.up, .int .i64 y.clock, .bool y.known, .int .i64 y.seen, .slice b5 y.wants.length q5, .slice b6 y.runs.length q6, .slice b7 y.asks.length q7, .slice b8 y.gives.length q8]) := range_next H4.out hb
    replace H5 : Hid (w13.rangeAt w5.heap.size 0 [.string x.name, .bool x.up, .int .i64 x.clock, .bool x.known, .int .i64 x.seen, .slice (some ⟨g5, 0, none⟩) x.wants.length x.wants.length, .slice (some ⟨g6, 0, none⟩) x.runs.length x.runs.length, .slice (some ⟨g7, 0, none⟩) x.asks.length x.asks.length, .slice (some ⟨g8, 0, none⟩) x.gives.length x.gives.length]) := range_next H5.out hb
    replace HB3 : Hid (Below w4.heap.size w4 w13) := HB3.out.trans (hb.mono HB3.out.size)
    replace HB5 : Hid (Below w5.heap.size w5 w13) := HB5.out.trans (hb.mono HB5.out.size)
    replace H8 : Hid (w13.rangeAt w7.heap.size 0 [.int .i64 q.kind, .string q.berth, .int .i64 q.seen, .slice (some ⟨x3, 0, none⟩) q.wants.length q.wants.length, .string q.hold, .string q.copy, .int .i64 q.at_]) := range_next H8.out hb
    replace HB7 : Hid (Below w7.heap.size w7 w13) := HB7.out.trans (hb.mono HB7.out.size)
    replace GG : Hid (G4 y w8.heap.size w9.heap.size d5 d6 d7 d8 w13) := GG.out.keep (Keeps.of_below hb (Nat.le_refl _) _)
    replace H6 : Hid (w13.rangeAt w9.heap.size 0 [.string y.name, .bool y.up, .int .i64 y.clock, .bool y.known, .int .i64 y.seen, .slice d5 y.wants.length r5, .slice d6 y.runs.length r6, .slice d7 y.asks.length r7, .slice d8 y.gives.length r8]) := range_next H6.out hb
    replace hB : Below w.heap.size w w13 := hB.trans (hb.mono hB.size)
    refine hK.out _ _ ⟨H5.out, HA.out⟩ (fun hS => ?_)
    clear hK K hb
    have T5 := Hid.intro p5
    have T6 := Hid.intro p6
    have T7 := Hid.intro p7
    have T8 := Hid.intro p8
    clear p5 p6 p7 p8
    refine wpAnyH_ready (rs := [3]) (by kernel_rfl) (by simp) (AllReadyH.cons (o := ⟨some 43, _, _, _, _, none⟩) rfl (fun K hK => ?_) AllReadyH.nil)
    go_simp
    refine (eqMte_any x (some ⟨g5, 0, none⟩) x.wants.length (some ⟨g6, 0, none⟩) x.runs.length (some ⟨g7, 0, none⟩) x.asks.length (some ⟨g8, 0, none⟩) x.gives.length (some ⟨h5, 0, none⟩) x.wants.length (some ⟨h6, 0, none⟩) x.runs.length (some ⟨h7, 0, none⟩) x.asks.length (some ⟨h8, 0, none⟩) x.gives.length _ _ _ (Q5.out.below WntC.holds HB5.out (Nat.le_refl _)) (Q6.out.below RnC.holds HB5.out (Nat.le_refl _)) (Q7.out.below AksC.holds HB5.out (Nat.le_refl _)) (Q8.out.below AksC.holds HB5.out (Nat.le_refl _)) T5.out T6.out T7.out T8.out HM.out).mono ?_
    rintro e w14 ⟨rfl, hb⟩
    replace HA : Hid (w14.rangeAt w.heap.size 0 [.string x.name, .bool x.up, .int .i64 x.clock, .bool x.known, .int .i64 x.seen, .slice a5 x.wants.length c5, .slice a6 x.runs.length c6, .slice a7 x.asks.length c7, .slice a8 x.gives.length c8]) := range_next HA.out hb
    replace HP : Hid (w14.rangeAt (w.heap.size + 1) 0 [.int .i64 q.kind, .string q.berth, .int .i64 q.seen, .slice a3 q.wants.length c3, .string q.hold, .string q.copy, .int .i64 q.at_]) := range_next HP.out hb
    replace H4 : Hid (w14.rangeAt ga 0 [.string y.name, .bool y.up, .int .i64 y.clock, .bool y.known, .int .i64 y.seen, .slice b5 y.wants.length q5, .slice b6 y.runs.length q6, .slice b7 y.asks.length q7, .slice b8 y.gives.length q8]) := range_next H4.out hb
    replace H5 : Hid (w14.rangeAt w5.heap.size 0 [.string x.name, .bool x.up, .int .i64 x.clock, .bool x.known, .int .i64 x.seen, .slice (some ⟨g5, 0, none⟩) x.wants.length x.wants.length, .slice (some ⟨g6, 0, none⟩) x.runs.length x.runs.length, .slice (some ⟨g7, 0, none⟩) x.asks.length x.asks.length, .slice (some ⟨g8, 0, none⟩) x.gives.length x.gives.length]) := range_next H5.out hb
    replace HB3 : Hid (Below w4.heap.size w4 w14) := HB3.out.trans (hb.mono HB3.out.size)
    replace HB5 : Hid (Below w5.heap.size w5 w14) := HB5.out.trans (hb.mono HB5.out.size)
    replace H8 : Hid (w14.rangeAt w7.heap.size 0 [.int .i64 q.kind, .string q.berth, .int .i64 q.seen, .slice (some ⟨x3, 0, none⟩) q.wants.length q.wants.length, .string q.hold, .string q.copy, .int .i64 q.at_]) := range_next H8.out hb
    replace HB7 : Hid (Below w7.heap.size w7 w14) := HB7.out.trans (hb.mono HB7.out.size)
    replace GG : Hid (G4 y w8.heap.size w9.heap.size d5 d6 d7 d8 w14) := GG.out.keep (Keeps.of_below hb (Nat.le_refl _) _)
    replace H6 : Hid (w14.rangeAt w9.heap.size 0 [.string y.name, .bool y.up, .int .i64 y.clock, .bool y.known, .int .i64 y.seen, .slice d5 y.wants.length r5, .slice d6 y.runs.length r6, .slice d7 y.asks.length r7, .slice d8 y.gives.length r8]) := range_next H6.out hb
    replace hB : Below w.heap.size w w14 := hB.trans (hb.mono hB.size)
    refine hK.out _ _ ⟨H5.out, HA.out⟩ (fun hS => ?_)
    clear hK K hb T5 T6 T7 T8
    refine wpAnyH_take (i := 4) (oi := ⟨some 44, _, _, _, _, none⟩) (v := .bool false) rfl (by kernel_rfl) (by kernel_rfl) (by kernel_rfl) (fun _ _ _ h => h) (Or.inl ⟨by rfl, ?_⟩) hS ?_
    · intro wy hy
      clear hy
      go_simp
    simp only [Act.put, List.setIfInBounds_toArray, List.set_cons_zero, List.set_cons_succ]
    refine wpAnyH_done (by kernel_rfl) ?_ _
    clear hS
    go_upto_region 16 with fail
    refine wp_region_held_drew (S := fun wy => wy.rangeAt w7.heap.size 0 [.int .i64 q.kind, .string q.berth, .int .i64 q.seen, .slice (some ⟨x3, 0, none⟩) q.wants.length q.wants.length, .string q.hold, .string q.copy, .int .i64 q.at_] ∧ wy.rangeAt (w.heap.size + 1) 0 [.int .i64 q.kind, .string q.berth, .int .i64 q.seen, .slice a3 q.wants.length c3, .string q.hold, .string q.copy, .int .i64 q.at_]) (by kernel_rfl) ⟨range_drew H8.out, range_drew HP.out⟩ (fun hS => ?_)
    have hb : Below w14.heap.size w14 w14.drew := (Below.refl _ _).drew
    replace HA : Hid (w14.drew.rangeAt w.heap.size 0 [.string x.name, .bool x.up, .int .i64 x.clock, .bool x.known, .int .i64 x.seen, .slice a5 x.wants.length c5, .slice a6 x.runs.length c6, .slice a7 x.asks.length c7, .slice a8 x.gives.length c8]) := range_next HA.out hb
    replace HP : Hid (w14.drew.rangeAt (w.heap.size + 1) 0 [.int .i64 q.kind, .string q.berth, .int .i64 q.seen, .slice a3 q.wants.length c3, .string q.hold, .string q.copy, .int .i64 q.at_]) := range_next HP.out hb
    replace H4 : Hid (w14.drew.rangeAt ga 0 [.string y.name, .bool y.up, .int .i64 y.clock, .bool y.known, .int .i64 y.seen, .slice b5 y.wants.length q5, .slice b6 y.runs.length q6, .slice b7 y.asks.length q7, .slice b8 y.gives.length q8]) := range_next H4.out hb
    replace H5 : Hid (w14.drew.rangeAt w5.heap.size 0 [.string x.name, .bool x.up, .int .i64 x.clock, .bool x.known, .int .i64 x.seen, .slice (some ⟨g5, 0, none⟩) x.wants.length x.wants.length, .slice (some ⟨g6, 0, none⟩) x.runs.length x.runs.length, .slice (some ⟨g7, 0, none⟩) x.asks.length x.asks.length, .slice (some ⟨g8, 0, none⟩) x.gives.length x.gives.length]) := range_next H5.out hb
    replace HB3 : Hid (Below w4.heap.size w4 w14.drew) := HB3.out.trans (hb.mono HB3.out.size)
    replace HB5 : Hid (Below w5.heap.size w5 w14.drew) := HB5.out.trans (hb.mono HB5.out.size)
    replace H8 : Hid (w14.drew.rangeAt w7.heap.size 0 [.int .i64 q.kind, .string q.berth, .int .i64 q.seen, .slice (some ⟨x3, 0, none⟩) q.wants.length q.wants.length, .string q.hold, .string q.copy, .int .i64 q.at_]) := range_next H8.out hb
    replace HB7 : Hid (Below w7.heap.size w7 w14.drew) := HB7.out.trans (hb.mono HB7.out.size)
    replace GG : Hid (G4 y w8.heap.size w9.heap.size d5 d6 d7 d8 w14.drew) := GG.out.keep (Keeps.of_below hb (Nat.le_refl _) _)
    replace H6 : Hid (w14.drew.rangeAt w9.heap.size 0 [.string y.name, .bool y.up, .int .i64 y.clock, .bool y.known, .int .i64 y.seen, .slice d5 y.wants.length r5, .slice d6 y.runs.length r6, .slice d7 y.asks.length r7, .slice d8 y.gives.length r8]) := range_next H6.out hb
    replace hB : Below w.heap.size w w14.drew := hB.trans (hb.mono hB.size)
    clear hb
    generalize w14.drew = w15 at *
    refine wpAnyH_take (i := 0) (oi := ⟨some 45, _, _, _, _, none⟩) (v := .agg #[.int .i64 q.kind, .string q.berth, .int .i64 q.seen, .slice (some ⟨x3, 0, none⟩) q.wants.length q.wants.length, .string q.hold, .string q.copy, .int .i64 q.at_]) rfl (by kernel_rfl) (by kernel_rfl) (by kernel_rfl) (fun _ _ _ h => h) (yieldsIf_load_mid (by rfl) _ _ rfl w7.heap.size (0) rfl [.int .i64 q.kind, .string q.berth, .int .i64 q.seen, .slice (some ⟨x3, 0, none⟩) q.wants.length q.wants.length, .string q.hold, .string q.copy, .int .i64 q.at_] _ (fun _ h => h.1) Tryz.underlying39 rfl isz_Pcl) hS ?_
    simp only [Act.put, List.setIfInBounds_toArray, List.set_cons_zero, List.set_cons_succ]
    refine wpAnyH_take (i := 1) (oi := ⟨some 46, _, _, _, _, none⟩) (v := .agg #[.int .i64 q.kind, .string q.berth, .int .i64 q.seen, .slice a3 q.wants.length c3, .string q.hold, .string q.copy, .int .i64 q.at_]) rfl (by kernel_rfl) (by kernel_rfl) (by kernel_rfl) (fun _ _ _ h => h) (yieldsIf_load_mid (by rfl) _ _ rfl (w.heap.size + 1) (0) rfl [.int .i64 q.kind, .string q.berth, .int .i64 q.seen, .slice a3 q.wants.length c3, .string q.hold, .string q.copy, .int .i64 q.at_] _ (fun _ h => h.2) Tryz.underlying28 rfl iszL_Pcl) hS ?_
    simp only [Act.put, List.setIfInBounds_toArray, List.set_cons_zero, List.set_cons_succ]
    refine wpAnyH_ready (rs := [2]) (by kernel_rfl) (by simp) (AllReadyH.cons (o := ⟨some 47, _, _, _, _, none⟩) rfl (fun K hK => ?_) AllReadyH.nil)
    go_simp
    refine (toPcl_any q a3 c3 lo _ (N3.out.below WntC.holds (B := w.heap.size) hB (Nat.le_refl _)) HMQ.out).mono ?_
    rintro e w16 ⟨h3, rfl, p3, hb⟩
    replace HA : Hid (w16.rangeAt w.heap.size 0 [.string x.name, .bool x.up, .int .i64 x.clock, .bool x.known, .int .i64 x.seen, .slice a5 x.wants.length c5, .slice a6 x.runs.length c6, .slice a7 x.asks.length c7, .slice a8 x.gives.length c8]) := range_next HA.out hb
    replace HP : Hid (w16.rangeAt (w.heap.size + 1) 0 [.int .i64 q.kind, .string q.berth, .int .i64 q.seen, .slice a3 q.wants.length c3, .string q.hold, .string q.copy, .int .i64 q.at_]) := range_next HP.out hb
    replace H4 : Hid (w16.rangeAt ga 0 [.string y.name, .bool y.up, .int .i64 y.clock, .bool y.known, .int .i64 y.seen, .slice b5 y.wants.length q5, .slice b6 y.runs.length q6, .slice b7 y.asks.length q7, .slice b8 y.gives.length q8]) := range_next H4.out hb
    replace H5 : Hid (w16.rangeAt w5.heap.size 0 [.string x.name, .bool x.up, .int .i64 x.clock, .bool x.known, .int .i64 x.seen, .slice (some ⟨g5, 0, none⟩) x.wants.length x.wants.length, .slice (some ⟨g6, 0, none⟩) x.runs.length x.runs.length, .slice (some ⟨g7, 0, none⟩) x.asks.length x.asks.length, .slice (some ⟨g8, 0, none⟩) x.gives.length x.gives.length]) := range_next H5.out hb
    replace HB3 : Hid (Below w4.heap.size w4 w16) := HB3.out.trans (hb.mono HB3.out.size)
    replace HB5 : Hid (Below w5.heap.size w5 w16) := HB5.out.trans (hb.mono HB5.out.size)
    replace H8 : Hid (w16.rangeAt w7.heap.size 0 [.int .i64 q.kind, .string q.berth, .int .i64 q.seen, .slice (some ⟨x3, 0, none⟩) q.wants.length q.wants.length, .string q.hold, .string q.copy, .int .i64 q.at_]) := range_next H8.out hb
    replace HB7 : Hid (Below w7.heap.size w7 w16) := HB7.out.trans (hb.mono HB7.out.size)
    replace GG : Hid (G4 y w8.heap.size w9.heap.size d5 d6 d7 d8 w16) := GG.out.keep (Keeps.of_below hb (Nat.le_refl _) _)
    replace H6 : Hid (w16.rangeAt w9.heap.size 0 [.string y.name, .bool y.up, .int .i64 y.clock, .bool y.known, .int .i64 y.seen, .slice d5 y.wants.length r5, .slice d6 y.runs.length r6, .slice d7 y.asks.length r7, .slice d8 y.gives.length r8]) := range_next H6.out hb
    replace hB : Below w.heap.size w w16 := hB.trans (hb.mono hB.size)
    refine hK.out _ _ ⟨H8.out, HP.out⟩ (fun hS => ?_)
    clear hK K hb
    have T3 := Hid.intro p3
    clear p3
    refine wpAnyH_ready (rs := [3]) (by kernel_rfl) (by simp) (AllReadyH.cons (o := ⟨some 48, _, _, _, _, none⟩) rfl (fun K hK => ?_) AllReadyH.nil)
    go_simp
    refine (eqPcl_any q (some ⟨x3, 0, none⟩) q.wants.length (some ⟨h3, 0, none⟩) q.wants.length _ _ _ (Q3.out.below WntC.holds HB7.out (Nat.le_refl _)) T3.out HMQ.out).mono ?_
    rintro e wg ⟨rfl, hb⟩
    replace HA : Hid (wg.rangeAt w.heap.size 0 [.string x.name, .bool x.up, .int .i64 x.clock, .bool x.known, .int .i64 x.seen, .slice a5 x.wants.length c5, .slice a6 x.runs.length c6, .slice a7 x.asks.length c7, .slice a8 x.gives.length c8]) := range_next HA.out hb
    replace HP : Hid (wg.rangeAt (w.heap.size + 1) 0 [.int .i64 q.kind, .string q.berth, .int .i64 q.seen, .slice a3 q.wants.length c3, .string q.hold, .string q.copy, .int .i64 q.at_]) := range_next HP.out hb
    replace H4 : Hid (wg.rangeAt ga 0 [.string y.name, .bool y.up, .int .i64 y.clock, .bool y.known, .int .i64 y.seen, .slice b5 y.wants.length q5, .slice b6 y.runs.length q6, .slice b7 y.asks.length q7, .slice b8 y.gives.length q8]) := range_next H4.out hb
    replace H5 : Hid (wg.rangeAt w5.heap.size 0 [.string x.name, .bool x.up, .int .i64 x.clock, .bool x.known, .int .i64 x.seen, .slice (some ⟨g5, 0, none⟩) x.wants.length x.wants.length, .slice (some ⟨g6, 0, none⟩) x.runs.length x.runs.length, .slice (some ⟨g7, 0, none⟩) x.asks.length x.asks.length, .slice (some ⟨g8, 0, none⟩) x.gives.length x.gives.length]) := range_next H5.out hb
    replace HB3 : Hid (Below w4.heap.size w4 wg) := HB3.out.trans (hb.mono HB3.out.size)
    replace HB5 : Hid (Below w5.heap.size w5 wg) := HB5.out.trans (hb.mono HB5.out.size)
    replace H8 : Hid (wg.rangeAt w7.heap.size 0 [.int .i64 q.kind, .string q.berth, .int .i64 q.seen, .slice (some ⟨x3, 0, none⟩) q.wants.length q.wants.length, .string q.hold, .string q.copy, .int .i64 q.at_]) := range_next H8.out hb
    replace HB7 : Hid (Below w7.heap.size w7 wg) := HB7.out.trans (hb.mono HB7.out.size)
    replace GG : Hid (G4 y w8.heap.size w9.heap.size d5 d6 d7 d8 wg) := GG.out.keep (Keeps.of_below hb (Nat.le_refl _) _)
    replace H6 : Hid (wg.rangeAt w9.heap.size 0 [.string y.name, .bool y.up, .int .i64 y.clock, .bool y.known, .int .i64 y.seen, .slice d5 y.wants.length r5, .slice d6 y.runs.length r6, .slice d7 y.asks.length r7, .slice d8 y.gives.length r8]) := range_next H6.out hb
    replace hB : Below w.heap.size w wg := hB.trans (hb.mono hB.size)
    refine hK.out _ _ ⟨H8.out, HP.out⟩ (fun hS => ?_)
    clear hK K hb T3
    refine wpAnyH_take (i := 4) (oi := ⟨some 49, _, _, _, _, none⟩) (v := .bool false) rfl (by kernel_rfl) (by kernel_rfl) (by kernel_rfl) (fun _ _ _ h => h) (Or.inl ⟨by rfl, ?_⟩) hS ?_
    · intro wy hy
      clear hy
      go_simp
    simp only [Act.put, List.setIfInBounds_toArray, List.set_cons_zero, List.set_cons_succ]
    refine wpAnyH_done (by kernel_rfl) ?_ _
    clear hS
    have HTX : Hid (1 + x.wants.length * 7 + x.runs.length * 11 + x.asks.length * 4 + x.gives.length * 4 + q.wants.length * 7 ≤ 1073741824) := by have := HZ.out.l5; have := HZ.out.l6; have := HZ.out.l7; have := HZ.out.l8; have := HZQ.out.l3; show _ ≤ _; omega
    have HTY : Hid (1 + y.wants.length * 7 + y.runs.length * 11 + y.asks.length * 4 + y.gives.length * 4 ≤ 1073741824) := by have := HZY.out.l5; have := HZY.out.l6; have := HZY.out.l7; have := HZY.out.l8; show _ ≤ _; omega
    have QC : Hid (SliceC WntC 7 w6.heap.size wg (some ⟨x3, 0, none⟩) q.wants) := Q3.out.below WntC.holds HB7.out (Nat.le_refl _)
    go_wp2_with (refine wpList_load_mid rfl 35 _ rfl w5.heap.size 0 rfl [.string x.name, .bool x.up, .int .i64 x.clock, .bool x.known, .int .i64 x.seen, .slice (some ⟨g5, 0, none⟩) x.wants.length x.wants.length, .slice (some ⟨g6, 0, none⟩) x.runs.length x.runs.length, .slice (some ⟨g7, 0, none⟩) x.asks.length x.asks.length, .slice (some ⟨g8, 0, none⟩) x.gives.length x.gives.length] _ H5.out Tryz.underlying35 rfl isz_Mte ?_)
    refine (markMte_any x (some ⟨g5, 0, none⟩) x.wants.length (some ⟨g6, 0, none⟩) x.runs.length (some ⟨g7, 0, none⟩) x.asks.length (some ⟨g8, 0, none⟩) x.gives.length w4.heap.size 1 w5 wg wg ⟨Q5.out, Q6.out, Q7.out, Q8.out, (fun _ _ _ e => by cases e; rfl), (fun _ _ _ e => by cases e; rfl), (fun _ _ _ e => by cases e; rfl), (fun _ _ _ e => by cases e; rfl)⟩ (by omega) (Mkd.start HB5.out z5) (by omega) (by have := HTX.out; omega)).mono ?_
    rintro e wh ⟨rfl, hm⟩
    have hk : Keeps w5.heap.size wg wh := ⟨hm.bel.size, fun b o h1 h2 => hm.up b o h1 h2⟩
    replace HA : Hid (wh.rangeAt w.heap.size 0 [.string x.name, .bool x.up, .int .i64 x.clock, .bool x.known, .int .i64 x.seen, .slice a5 x.wants.length c5, .slice a6 x.runs.length c6, .slice a7 x.asks.length c7, .slice a8 x.gives.length c8]) := range_belowV HA.out hm.bel (by omega)
    replace HP : Hid (wh.rangeAt (w.heap.size + 1) 0 [.int .i64 q.kind, .string q.berth, .int .i64 q.seen, .slice a3 q.wants.length c3, .string q.hold, .string q.copy, .int .i64 q.at_]) := range_belowV HP.out hm.bel (by omega)
    replace H4 : Hid (wh.rangeAt ga 0 [.string y.name, .bool y.up, .int .i64 y.clock, .bool y.known, .int .i64 y.seen, .slice b5 y.wants.length q5, .slice b6 y.runs.length q6, .slice b7 y.asks.length q7, .slice b8 y.gives.length q8]) := range_belowV H4.out hm.bel (by omega)
    replace HB3 : Hid (Below w4.heap.size w4 wh) := HB3.out.trans (hm.bel.mono (by omega))
    replace hB : Below w.heap.size w wh := hB.trans (hm.bel.mono (by omega))
    replace H6 : Hid (wh.rangeAt w9.heap.size 0 [.string y.name, .bool y.up, .int .i64 y.clock, .bool y.known, .int .i64 y.seen, .slice d5 y.wants.length r5, .slice d6 y.runs.length r6, .slice d7 y.asks.length r7, .slice d8 y.gives.length r8]) := range_keeps H6.out hk (by omega)
    replace H8 : Hid (wh.rangeAt w7.heap.size 0 [.int .i64 q.kind, .string q.berth, .int .i64 q.seen, .slice (some ⟨x3, 0, none⟩) q.wants.length q.wants.length, .string q.hold, .string q.copy, .int .i64 q.at_]) := range_keeps H8.out hk (by omega)
    replace GG : Hid (G4 y w8.heap.size w9.heap.size d5 d6 d7 d8 wh) := GG.out.keep (hk.lower (by omega))
    replace QC : Hid (SliceC WntC 7 w6.heap.size wh (some ⟨x3, 0, none⟩) q.wants) := QC.out.keep WntC.holds (hk.lower (by omega)) (Nat.le_refl _)
    have z78 : w7.heap.size < wh.heap.size := range_lt H8.out
    clear hm hk H5 HB5 Q5 Q6 Q7 Q8
    obtain ⟨TX, hTX⟩ : ∃ T : Nat, T = 1 + x.wants.length * 7 + x.runs.length * 11 + x.asks.length * 4 + x.gives.length * 4 := ⟨_, rfl⟩
    rw [← hTX] at HTX ⊢
    have hTX0 : 0 < TX := by omega
    clear hTX
    go_wp2_with (refine wpList_load_mid rfl 39 _ rfl w7.heap.size 0 rfl [.int .i64 q.kind, .string q.berth, .int .i64 q.seen, .slice (some ⟨x3, 0, none⟩) q.wants.length q.wants.length, .string q.hold, .string q.copy, .int .i64 q.at_] _ H8.out Tryz.underlying39 rfl isz_Pcl ?_)
    refine (markPcl_any q (some ⟨x3, 0, none⟩) q.wants.length w6.heap.size TX (trunc wh w7.heap.size) wh wh (trunc3 Q3.out (Nat.le_refl _) QC.out (by omega)) (by omega) (Mkd.cut (by omega) (by omega)) hTX0 HTX.out).mono ?_
    rintro e wi ⟨rfl, hm⟩
    have hk : Keeps w7.heap.size wh wi := hm.keeps (by omega)
    replace HA : Hid (wi.rangeAt w.heap.size 0 [.string x.name, .bool x.up, .int .i64 x.clock, .bool x.known, .int .i64 x.seen, .slice a5 x.wants.length c5, .slice a6 x.runs.length c6, .slice a7 x.asks.length c7, .slice a8 x.gives.length c8]) := range_belowV HA.out hm.bel (by omega)
    replace HP : Hid (wi.rangeAt (w.heap.size + 1) 0 [.int .i64 q.kind, .string q.berth, .int .i64 q.seen, .slice a3 q.wants.length c3, .string q.hold, .string q.copy, .int .i64 q.at_]) := range_belowV HP.out hm.bel (by omega)
    replace H4 : Hid (wi.rangeAt ga 0 [.string y.name, .bool y.up, .int .i64 y.clock, .bool y.known, .int .i64 y.seen, .slice b5 y.wants.length q5, .slice b6 y.runs.length q6, .slice b7 y.asks.length q7, .slice b8 y.gives.length q8]) := range_belowV H4.out hm.bel (by omega)
    replace HB3 : Hid (Below w4.heap.size w4 wi) := HB3.out.trans (hm.bel.mono (by omega))
    replace hB : Below w.heap.size w wi := hB.trans (hm.bel.mono (by omega))
    replace H6 : Hid (wi.rangeAt w9.heap.size 0 [.string y.name, .bool y.up, .int .i64 y.clock, .bool y.known, .int .i64 y.seen, .slice d5 y.wants.length r5, .slice d6 y.runs.length r6, .slice d7 y.asks.length r7, .slice d8 y.gives.length r8]) := range_keeps H6.out hk (by omega)
    replace GG : Hid (G4 y w8.heap.size w9.heap.size d5 d6 d7 d8 wi) := GG.out.keep (hk.lower (by omega))
    clear hm hk H8 HB7 Q3 QC z78
    generalize TX + q.wants.length * 7 = TZ at *
    have hTZ : (0 : Int) ≤ (TZ : Int) := by omega
    have k0 : wi.cell? ⟨w9.heap.size, 0, none⟩ = some (.string y.name) := H6.out 0 _ rfl
    have k1 : wi.cell? ⟨w9.heap.size, 1, none⟩ = some (.bool y.up) := H6.out 1 _ rfl
    have k2 : wi.cell? ⟨w9.heap.size, 2, none⟩ = some (.int .i64 y.clock) := H6.out 2 _ rfl
    have k3 : wi.cell? ⟨w9.heap.size, 3, none⟩ = some (.bool y.known) := H6.out 3 _ rfl
    have k4 : wi.cell? ⟨w9.heap.size, 4, none⟩ = some (.int .i64 y.seen) := H6.out 4 _ rfl
    have k5 : wi.cell? ⟨w9.heap.size, 5, none⟩ = some (.slice d5 y.wants.length r5) := H6.out 5 _ rfl
    have k6 : wi.cell? ⟨w9.heap.size, 6, none⟩ = some (.slice d6 y.runs.length r6) := H6.out 6 _ rfl
    have k7 : wi.cell? ⟨w9.heap.size, 7, none⟩ = some (.slice d7 y.asks.length r7) := H6.out 7 _ rfl
    have k8 : wi.cell? ⟨w9.heap.size, 8, none⟩ = some (.slice d8 y.gives.length r8) := H6.out 8 _ rfl
    have l0 : wi.cell? ⟨ga, 0, none⟩ = some (.string y.name) := H4.out 0 _ rfl
    have l1 : wi.cell? ⟨ga, 1, none⟩ = some (.bool y.up) := H4.out 1 _ rfl
    have l2 : wi.cell? ⟨ga, 2, none⟩ = some (.int .i64 y.clock) := H4.out 2 _ rfl
    have l3 : wi.cell? ⟨ga, 3, none⟩ = some (.bool y.known) := H4.out 3 _ rfl
    have l4 : wi.cell? ⟨ga, 4, none⟩ = some (.int .i64 y.seen) := H4.out 4 _ rfl
    have l5 : wi.cell? ⟨ga, 5, none⟩ = some (.slice b5 y.wants.length q5) := H4.out 5 _ rfl
    have l6 : wi.cell? ⟨ga, 6, none⟩ = some (.slice b6 y.runs.length q6) := H4.out 6 _ rfl
    have l7 : wi.cell? ⟨ga, 7, none⟩ = some (.slice b7 y.asks.length q7) := H4.out 7 _ rfl
    have l8 : wi.cell? ⟨ga, 8, none⟩ = some (.slice b8 y.gives.length q8) := H4.out 8 _ rfl
    go_wp2_with fail
    clear hTZ k0 l0 k1 l1 k2 l2 k3 l3 k4 l4 k5 l5 k6 l6 k7 l7 k8 l8
    refine (eqMte_any y d5 r5 d6 r6 d7 r7 d8 r8 b5 q5 b6 q6 b7 q7 b8 q8 _ _ _ GG.out.sl.1 GG.out.sl.2.1 GG.out.sl.2.2.1 GG.out.sl.2.2.2 (PO5.out.below WntC.holds HB3.out (Nat.le_refl _)) (PO6.out.below RnC.holds HB3.out (Nat.le_refl _)) (PO7.out.below AksC.holds HB3.out (Nat.le_refl _)) (PO8.out.below AksC.holds HB3.out (Nat.le_refl _)) HMY.out).mono ?_
    rintro e wj ⟨rfl, hb⟩
    replace HA : Hid (wj.rangeAt w.heap.size 0 [.string x.name, .bool x.up, .int .i64 x.clock, .bool x.known, .int .i64 x.seen, .slice a5 x.wants.length c5, .slice a6 x.runs.length c6, .slice a7 x.asks.length c7, .slice a8 x.gives.length c8]) := range_next HA.out hb
    replace HP : Hid (wj.rangeAt (w.heap.size + 1) 0 [.int .i64 q.kind, .string q.berth, .int .i64 q.seen, .slice a3 q.wants.length c3, .string q.hold, .string q.copy, .int .i64 q.at_]) := range_next HP.out hb
    replace H4 : Hid (wj.rangeAt ga 0 [.string y.name, .bool y.up, .int .i64 y.clock, .bool y.known, .int .i64 y.seen, .slice b5 y.wants.length q5, .slice b6 y.runs.length q6, .slice b7 y.asks.length q7, .slice b8 y.gives.length q8]) := range_next H4.out hb
    replace HB3 : Hid (Below w4.heap.size w4 wj) := HB3.out.trans (hb.mono HB3.out.size)
    replace GG : Hid (G4 y w8.heap.size w9.heap.size d5 d6 d7 d8 wj) := GG.out.keep (Keeps.of_below hb (Nat.le_refl _) _)
    replace H6 : Hid (wj.rangeAt w9.heap.size 0 [.string y.name, .bool y.up, .int .i64 y.clock, .bool y.known, .int .i64 y.seen, .slice d5 y.wants.length r5, .slice d6 y.runs.length r6, .slice d7 y.asks.length r7, .slice d8 y.gives.length r8]) := range_next H6.out hb
    replace hB : Below w.heap.size w wj := hB.trans (hb.mono hB.size)
    clear hb
    go_wp2_with (refine wpList_load_mid rfl 35 _ rfl w9.heap.size 0 rfl [.string y.name, .bool y.up, .int .i64 y.clock, .bool y.known, .int .i64 y.seen, .slice d5 y.wants.length r5, .slice d6 y.runs.length r6, .slice d7 y.asks.length r7, .slice d8 y.gives.length r8] _ H6.out Tryz.underlying35 rfl isz_Mte ?_)
    refine (markG_any y d5 r5 d6 r6 d7 r7 d8 r8 w8.heap.size w9.heap.size 1 wj GG.out (by omega) (by omega) HTY.out).mono ?_
    rintro e wk ⟨rfl, hmk, hbl, hkk⟩
    have MK := Hid.intro hmk
    replace HA : Hid (wk.rangeAt w.heap.size 0 [.string x.name, .bool x.up, .int .i64 x.clock, .bool x.known, .int .i64 x.seen, .slice a5 x.wants.length c5, .slice a6 x.runs.length c6, .slice a7 x.asks.length c7, .slice a8 x.gives.length c8]) := range_belowV HA.out hbl (by omega)
    replace HP : Hid (wk.rangeAt (w.heap.size + 1) 0 [.int .i64 q.kind, .string q.berth, .int .i64 q.seen, .slice a3 q.wants.length c3, .string q.hold, .string q.copy, .int .i64 q.at_]) := range_belowV HP.out hbl (by omega)
    replace H4 : Hid (wk.rangeAt ga 0 [.string y.name, .bool y.up, .int .i64 y.clock, .bool y.known, .int .i64 y.seen, .slice b5 y.wants.length q5, .slice b6 y.runs.length q6, .slice b7 y.asks.length q7, .slice b8 y.gives.length q8]) := range_belowV H4.out hbl (by omega)
    replace HB3 : Hid (Below w4.heap.size w4 wk) := HB3.out.trans (hbl.mono (by omega))
    replace hB : Below w.heap.size w wk := hB.trans (hbl.mono (by omega))
    replace H6 : Hid (wk.rangeAt w9.heap.size 0 [.string y.name, .bool y.up, .int .i64 y.clock, .bool y.known, .int .i64 y.seen, .slice d5 y.wants.length r5, .slice d6 y.runs.length r6, .slice d7 y.asks.length r7, .slice d8 y.gives.length r8]) := range_keeps H6.out hkk (Nat.le_refl _)
    clear hmk hbl hkk GG
    obtain ⟨TY, HTY2⟩ : ∃ T : Nat, Hid (T = 1 + y.wants.length * 7 + y.runs.length * 11 + y.asks.length * 4 + y.gives.length * 4) := ⟨_, rfl⟩
    rw [← HTY2.out]
    have hTY : (0 : Int) ≤ (TY : Int) := by omega
    go_wp2_with (refine wpList_load_mid rfl 35 _ rfl w9.heap.size 0 rfl [.string y.name, .bool y.up, .int .i64 y.clock, .bool y.known, .int .i64 y.seen, .slice d5 y.wants.length r5, .slice d6 y.runs.length r6, .slice d7 y.asks.length r7, .slice d8 y.gives.length r8] _ H6.out Tryz.underlying35 rfl isz_Mte ?_)
    refine (heldMte_any y d5 r5 d6 r6 d7 r7 d8 r8 1 _ MK.out (by omega) HTY.out).mono ?_
    rintro e wl ⟨rfl, hb⟩
    replace HA : Hid (wl.rangeAt w.heap.size 0 [.string x.name, .bool x.up, .int .i64 x.clock, .bool x.known, .int .i64 x.seen, .slice a5 x.wants.length c5, .slice a6 x.runs.length c6, .slice a7 x.asks.length c7, .slice a8 x.gives.length c8]) := range_next HA.out hb
    replace HP : Hid (wl.rangeAt (w.heap.size + 1) 0 [.int .i64 q.kind, .string q.berth, .int .i64 q.seen, .slice a3 q.wants.length c3, .string q.hold, .string q.copy, .int .i64 q.at_]) := range_next HP.out hb
    replace H4 : Hid (wl.rangeAt ga 0 [.string y.name, .bool y.up, .int .i64 y.clock, .bool y.known, .int .i64 y.seen, .slice b5 y.wants.length q5, .slice b6 y.runs.length q6, .slice b7 y.asks.length q7, .slice b8 y.gives.length q8]) := range_next H4.out hb
    replace HB3 : Hid (Below w4.heap.size w4 wl) := HB3.out.trans (hb.mono HB3.out.size)
    replace H6 : Hid (wl.rangeAt w9.heap.size 0 [.string y.name, .bool y.up, .int .i64 y.clock, .bool y.known, .int .i64 y.seen, .slice d5 y.wants.length r5, .slice d6 y.runs.length r6, .slice d7 y.asks.length r7, .slice d8 y.gives.length r8]) := range_next H6.out hb
    replace MK : Hid (Mk4 y 1 d5 d6 d7 d8 wl) := MK.out.below hb
    replace hB : Below w.heap.size w wl := hB.trans (hb.mono hB.size)
    clear hb
    rw [← HTY2.out]
    go_upto_region 31 with fail
    clear zA
    have zA : w.heap.size < wl.heap.size := range_lt HA.out
    have zP : w.heap.size + 1 < wl.heap.size := range_lt HP.out
    go_cut [13] (fun v wz => ∃ (gd : Nat) (s5 : Option Addr) (t5 : Nat) (s6 : Option Addr) (t6 : Nat) (s7 : Option Addr) (t7 : Nat) (s8 : Option Addr) (t8 : Nat), v = .pointer (some ⟨gd, 0, none⟩) ∧ Hid (wz.rangeAt gd 0 [.string y.name, .bool y.up, .int .i64 y.clock, .bool y.known, .int .i64 y.seen, .slice s5 y.wants.length t5, .slice s6 y.runs.length t6, .slice s7 y.asks.length t7, .slice s8 y.gives.length t8]) ∧ Hid (SliceC WntC 7 0 wz s5 y.wants) ∧ Hid (SliceC RnC 11 0 wz s6 y.runs) ∧ Hid (SliceC AksC 4 0 wz s7 y.asks) ∧ Hid (SliceC AksC 4 0 wz s8 y.gives) ∧ Hid (Below wl.heap.size wl wz))
    case first =>
      refine wp_region_held_drew (S := fun wy => wy.rangeAt w.heap.size 0 [.string x.name, .bool x.up, .int .i64 x.clock, .bool x.known, .int .i64 x.seen, .slice a5 x.wants.length c5, .slice a6 x.runs.length c6, .slice a7 x.asks.length c7, .slice a8 x.gives.length c8] ∧ wy.rangeAt (w.heap.size + 1) 0 [.int .i64 q.kind, .string q.berth, .int .i64 q.seen, .slice a3 q.wants.length c3, .string q.hold, .string q.copy, .int .i64 q.at_]) (by kernel_rfl) ⟨range_drew HA.out, range_drew HP.out⟩ (fun hS => ?_)
      have HB : Hid (Below wl.heap.size wl wl.drew) := (Below.refl _ _).drew
      generalize wl.drew = wb at *
      refine wpAnyH_take (i := 0) (oi := ⟨some 75, _, _, _, _, none⟩) (v := .agg #[.string x.name, .bool x.up, .int .i64 x.clock, .bool x.known, .int .i64 x.seen, .slice a5 x.wants.length c5, .slice a6 x.runs.length c6, .slice a7 x.asks.length c7, .slice a8 x.gives.length c8]) rfl (by kernel_rfl) (by kernel_rfl) (by kernel_rfl) (fun _ _ _ h => h) (yieldsIf_load_mid (by rfl) _ _ rfl w.heap.size (0) rfl [.string x.name, .bool x.up, .int .i64 x.clock, .bool x.known, .int .i64 x.seen, .slice a5 x.wants.length c5, .slice a6 x.runs.length c6, .slice a7 x.asks.length c7, .slice a8 x.gives.length c8] _ (fun _ h => h.1) Tryz.underlying26 rfl iszL_Mte) hS ?_
      simp only [Act.put, List.setIfInBounds_toArray, List.set_cons_zero, List.set_cons_succ]
      refine wpAnyH_take (i := 2) (oi := ⟨some 77, _, _, _, _, none⟩) (v := .agg #[.int .i64 q.kind, .string q.berth, .int .i64 q.seen, .slice a3 q.wants.length c3, .string q.hold, .string q.copy, .int .i64 q.at_]) rfl (by kernel_rfl) (by kernel_rfl) (by kernel_rfl) (fun _ _ _ h => h) (yieldsIf_load_mid (by rfl) _ _ rfl (w.heap.size + 1) (0) rfl [.int .i64 q.kind, .string q.berth, .int .i64 q.seen, .slice a3 q.wants.length c3, .string q.hold, .string q.copy, .int .i64 q.at_] _ (fun _ h => h.2) Tryz.underlying28 rfl iszL_Pcl) hS ?_
      simp only [Act.put, List.setIfInBounds_toArray, List.set_cons_zero, List.set_cons_succ]
      refine wpAnyH_ready (rs := [1, 5]) (by kernel_rfl) (by simp) (AllReadyH.cons (o := ⟨some 76, _, _, _, _, none⟩) rfl (fun K hK => ?_) (AllReadyH.cons (o := ⟨some 13, _, _, _, _, none⟩) rfl (fun K hK => ?_) AllReadyH.nil))
      · skip
        have hBc := hB.trans (HB.out.mono hB.size)
        go_simp
        refine (toMte_any x a5 c5 a6 c6 a7 c7 a8 c8 lo _ (N5.out.below WntC.holds (B := w.heap.size) hBc (Nat.le_refl _)) (N6.out.below RnC.holds (B := w.heap.size) hBc (Nat.le_refl _)) (N7.out.below AksC.holds (B := w.heap.size) hBc (Nat.le_refl _)) (N8.out.below AksC.holds (B := w.heap.size) hBc (Nat.le_refl _)) HM.out).mono ?_
        rintro e wbm ⟨g5, g6, g7, g8, rfl, p5, p6, p7, p8, hb⟩
        replace HB := Hid.intro (HB.out.trans (hb.mono HB.out.size))
        have P5 := Hid.intro p5
        have P6 := Hid.intro p6
        have P7 := Hid.intro p7
        have P8 := Hid.intro p8
        refine hK.out _ _ ⟨range_belowV HA.out HB.out zA, range_belowV HP.out HB.out zP⟩ (fun hS => ?_)
        clear hK K hb hBc p5 p6 p7 p8
        refine wpAnyH_ready (rs := [3, 5]) (by kernel_rfl) (by simp) (AllReadyH.cons (o := ⟨some 78, _, _, _, _, none⟩) rfl (fun K hK => ?_) (AllReadyH.cons (o := ⟨some 13, _, _, _, _, none⟩) rfl (fun K hK => ?_) AllReadyH.nil))
        · skip
          have hBc := hB.trans (HB.out.mono hB.size)
          go_simp
          refine (toPcl_any q a3 c3 lo _ (N3.out.below WntC.holds (B := w.heap.size) hBc (Nat.le_refl _)) HMQ.out).mono ?_
          rintro e wbmp ⟨g3, rfl, p3, hb⟩
          replace HB := Hid.intro (HB.out.trans (hb.mono HB.out.size))
          replace P5 := Hid.intro (P5.out.below WntC.holds hb (Nat.le_refl _))
          replace P6 := Hid.intro (P6.out.below RnC.holds hb (Nat.le_refl _))
          replace P7 := Hid.intro (P7.out.below AksC.holds hb (Nat.le_refl _))
          replace P8 := Hid.intro (P8.out.below AksC.holds hb (Nat.le_refl _))
          have P3 := Hid.intro p3
          refine hK.out _ _ ⟨range_belowV HA.out HB.out zA, range_belowV HP.out HB.out zP⟩ (fun hS => ?_)
          clear hK K hb hBc p3
          refine wpAnyH_ready (rs := [4, 5]) (by kernel_rfl) (by simp) (AllReadyH.cons (o := ⟨some 79, _, _, _, _, none⟩) rfl (fun K hK => ?_) (AllReadyH.cons (o := ⟨some 13, _, _, _, _, none⟩) rfl (fun K hK => ?_) AllReadyH.nil))
          · skip
            go_simp
            refine (implTake_any x (some ⟨g5, 0, none⟩) x.wants.length (some ⟨g6, 0, none⟩) x.runs.length (some ⟨g7, 0, none⟩) x.asks.length (some ⟨g8, 0, none⟩) x.gives.length q (some ⟨g3, 0, none⟩) q.wants.length 0 _ ⟨P5.out.keep WntC.holds (Keeps.refl _ _) (Nat.zero_le _), P6.out.keep RnC.holds (Keeps.refl _ _) (Nat.zero_le _), P7.out.keep AksC.holds (Keeps.refl _ _) (Nat.zero_le _), P8.out.keep AksC.holds (Keeps.refl _ _) (Nat.zero_le _), (fun _ _ _ e => by cases e; rfl), (fun _ _ _ e => by cases e; rfl), (fun _ _ _ e => by cases e; rfl), (fun _ _ _ e => by cases e; rfl)⟩ HZ.out ⟨P3.out.keep WntC.holds (Keeps.refl _ _) (Nat.zero_le _), (fun _ _ _ e => by cases e; rfl), HZQ.out.z3, HZQ.out.l3, HZQ.out.zb, HZQ.out.zh, HZQ.out.zc⟩).mono ?_
            rintro e wbmpc ⟨y', s5, t5, s6, t6, s7, t7, s8, t8, hy, rfl, hg, hb⟩
            obtain ⟨o5, o6, o7, o8⟩ := hg.sl
            obtain rfl : y = y' := HY.out.trans hy.symm
            replace HB := Hid.intro (HB.out.trans (hb.mono HB.out.size))
            have O5 := Hid.intro o5
            have O6 := Hid.intro o6
            have O7 := Hid.intro o7
            have O8 := Hid.intro o8
            refine hK.out _ _ ⟨range_belowV HA.out HB.out zA, range_belowV HP.out HB.out zP⟩ (fun hS => ?_)
            clear hK K hb hy o5 o6 o7 o8 P3 P5 P6 P7 P8 hg
            refine wpAnyH_ready (rs := [5]) (by kernel_rfl) (by simp) (AllReadyH.cons (o := ⟨some 13, _, _, _, _, none⟩) rfl (fun K hK => ?_) AllReadyH.nil)
            go_simp
            have HG := Hid.intro (Blk.alloc wbmpc #[.string ⟨#[]⟩, .bool false, .int .i64 0, .bool false, .int .i64 0, .slice none 0 0, .slice none 0 0, .slice none 0 0, .slice none 0 0] 35)
            have hb : Below wbmpc.heap.size wbmpc (wbmpc.alloc (Obj.cells #[.string ⟨#[]⟩, .bool false, .int .i64 0, .bool false, .int .i64 0, .slice none 0 0, .slice none 0 0, .slice none 0 0, .slice none 0 0] 35)) := (Below.refl _ _).alloc (Nat.le_refl _) _
            have hga : wl.heap.size ≤ wbmpc.heap.size := HB.out.size
            replace HB := Hid.intro (HB.out.trans (hb.mono HB.out.size))
            have hbA := Hid.intro hb
            refine hK.out _ _ ⟨range_belowV HA.out HB.out zA, range_belowV HP.out HB.out zP⟩ (fun hS => ?_)
            clear hK K hb
            generalize wbmpc.alloc (Obj.cells #[.string ⟨#[]⟩, .bool false, .int .i64 0, .bool false, .int .i64 0, .slice none 0 0, .slice none 0 0, .slice none 0 0, .slice none 0 0] 35) = wbmpca at *
            refine wpAnyH_ready (rs := [6]) (by kernel_rfl) (by simp) (AllReadyH.cons (o := ⟨none, _, _, _, _, none⟩) rfl (fun K hK => ?_) AllReadyH.nil)
            rw [if_pos (by rfl)]
            refine wp_store_mid 35 (.tmp 13) (.tmp 79) (by rfl) (wbmpc.heap.size) 0 #[.string y.name, .bool y.up, .int .i64 y.clock, .bool y.known, .int .i64 y.seen, .slice s5 y.wants.length t5, .slice s6 y.runs.length t6, .slice s7 y.asks.length t7, .slice s8 y.gives.length t8] (by rfl) (by rfl) HG.out.there isz_Mte (by simp [Value.oneCell']) ?_
            have HR : Hid ((wbmpca.setCells wbmpc.heap.size 0 [.string y.name, .bool y.up, .int .i64 y.clock, .bool y.known, .int .i64 y.seen, .slice s5 y.wants.length t5, .slice s6 y.runs.length t6, .slice s7 y.asks.length t7, .slice s8 y.gives.length t8]).rangeAt (wbmpc.heap.size) 0 [.string y.name, .bool y.up, .int .i64 y.clock, .bool y.known, .int .i64 y.seen, .slice s5 y.wants.length t5, .slice s6 y.runs.length t6, .slice s7 y.asks.length t7, .slice s8 y.gives.length t8]) := (HG.out.setAll #[.string y.name, .bool y.up, .int .i64 y.clock, .bool y.known, .int .i64 y.seen, .slice s5 y.wants.length t5, .slice s6 y.runs.length t6, .slice s7 y.asks.length t7, .slice s8 y.gives.length t8] rfl).rangeA
            replace O5 : Hid (SliceC WntC 7 0 (wbmpca.setCells wbmpc.heap.size 0 [.string y.name, .bool y.up, .int .i64 y.clock, .bool y.known, .int .i64 y.seen, .slice s5 y.wants.length t5, .slice s6 y.runs.length t6, .slice s7 y.asks.length t7, .slice s8 y.gives.length t8]) s5 y.wants) := (O5.out.below WntC.holds (below_setCells (Nat.le_refl _) _ _ _ hbA.out) (Nat.le_refl _)).keep WntC.holds (Keeps.refl _ _) (Nat.zero_le _)
            replace O6 : Hid (SliceC RnC 11 0 (wbmpca.setCells wbmpc.heap.size 0 [.string y.name, .bool y.up, .int .i64 y.clock, .bool y.known, .int .i64 y.seen, .slice s5 y.wants.length t5, .slice s6 y.runs.length t6, .slice s7 y.asks.length t7, .slice s8 y.gives.length t8]) s6 y.runs) := (O6.out.below RnC.holds (below_setCells (Nat.le_refl _) _ _ _ hbA.out) (Nat.le_refl _)).keep RnC.holds (Keeps.refl _ _) (Nat.zero_le _)
            replace O7 : Hid (SliceC AksC 4 0 (wbmpca.setCells wbmpc.heap.size 0 [.string y.name, .bool y.up, .int .i64 y.clock, .bool y.known, .int .i64 y.seen, .slice s5 y.wants.length t5, .slice s6 y.runs.length t6, .slice s7 y.asks.length t7, .slice s8 y.gives.length t8]) s7 y.asks) := (O7.out.below AksC.holds (below_setCells (Nat.le_refl _) _ _ _ hbA.out) (Nat.le_refl _)).keep AksC.holds (Keeps.refl _ _) (Nat.zero_le _)
            replace O8 : Hid (SliceC AksC 4 0 (wbmpca.setCells wbmpc.heap.size 0 [.string y.name, .bool y.up, .int .i64 y.clock, .bool y.known, .int .i64 y.seen, .slice s5 y.wants.length t5, .slice s6 y.runs.length t6, .slice s7 y.asks.length t7, .slice s8 y.gives.length t8]) s8 y.gives) := (O8.out.below AksC.holds (below_setCells (Nat.le_refl _) _ _ _ hbA.out) (Nat.le_refl _)).keep AksC.holds (Keeps.refl _ _) (Nat.zero_le _)
            replace HB : Hid (Below wl.heap.size wl (wbmpca.setCells wbmpc.heap.size 0 [.string y.name, .bool y.up, .int .i64 y.clock, .bool y.known, .int .i64 y.seen, .slice s5 y.wants.length t5, .slice s6 y.runs.length t6, .slice s7 y.asks.length t7, .slice s8 y.gives.length t8])) := below_setCells (show wl.heap.size ≤ wbmpc.heap.size by omega) _ _ _ HB.out
            refine hK.out _ _ ⟨range_belowV HA.out HB.out zA, range_belowV HP.out HB.out zP⟩ (fun hS => ?_)
            clear hK K
            generalize (wbmpca.setCells wbmpc.heap.size 0 [.string y.name, .bool y.up, .int .i64 y.clock, .bool y.known, .int .i64 y.seen, .slice s5 y.wants.length t5, .slice s6 y.runs.length t6, .slice s7 y.asks.length t7, .slice s8 y.gives.length t8]) = wz at *
            refine wpAnyH_done (by kernel_rfl) ?_ _
            go_wp2_with fail
            go_meet
            exact ⟨wbmpc.heap.size, s5, t5, s6, t6, s7, t7, s8, t8, rfl, HR, O5, O6, O7, O8, HB⟩
          · skip
            go_simp
            have HG := Hid.intro (Blk.alloc wbmp #[.string ⟨#[]⟩, .bool false, .int .i64 0, .bool false, .int .i64 0, .slice none 0 0, .slice none 0 0, .slice none 0 0, .slice none 0 0] 35)
            have hb : Below wbmp.heap.size wbmp (wbmp.alloc (Obj.cells #[.string ⟨#[]⟩, .bool false, .int .i64 0, .bool false, .int .i64 0, .slice none 0 0, .slice none 0 0, .slice none 0 0, .slice none 0 0] 35)) := (Below.refl _ _).alloc (Nat.le_refl _) _
            have hga : wl.heap.size ≤ wbmp.heap.size := HB.out.size
            replace HB := Hid.intro (HB.out.trans (hb.mono HB.out.size))
            replace P5 := Hid.intro (P5.out.below WntC.holds hb (Nat.le_refl _))
            replace P6 := Hid.intro (P6.out.below RnC.holds hb (Nat.le_refl _))
            replace P7 := Hid.intro (P7.out.below AksC.holds hb (Nat.le_refl _))
            replace P8 := Hid.intro (P8.out.below AksC.holds hb (Nat.le_refl _))
            replace P3 := Hid.intro (P3.out.below WntC.holds hb (Nat.le_refl _))
            refine hK.out _ _ ⟨range_belowV HA.out HB.out zA, range_belowV HP.out HB.out zP⟩ (fun hS => ?_)
            clear hK K hb
            generalize wbmp.alloc (Obj.cells #[.string ⟨#[]⟩, .bool false, .int .i64 0, .bool false, .int .i64 0, .slice none 0 0, .slice none 0 0, .slice none 0 0, .slice none 0 0] 35) = wbmpa at *
            refine wpAnyH_ready (rs := [4]) (by kernel_rfl) (by simp) (AllReadyH.cons (o := ⟨some 79, _, _, _, _, none⟩) rfl (fun K hK => ?_) AllReadyH.nil)
            have hgl : wbmp.heap.size < wbmpa.heap.size := HG.out.lt
            go_simp
            refine (implTake_any x (some ⟨g5, 0, none⟩) x.wants.length (some ⟨g6, 0, none⟩) x.runs.length (some ⟨g7, 0, none⟩) x.asks.length (some ⟨g8, 0, none⟩) x.gives.length q (some ⟨g3, 0, none⟩) q.wants.length 0 _ ⟨P5.out.keep WntC.holds (Keeps.refl _ _) (Nat.zero_le _), P6.out.keep RnC.holds (Keeps.refl _ _) (Nat.zero_le _), P7.out.keep AksC.holds (Keeps.refl _ _) (Nat.zero_le _), P8.out.keep AksC.holds (Keeps.refl _ _) (Nat.zero_le _), (fun _ _ _ e => by cases e; rfl), (fun _ _ _ e => by cases e; rfl), (fun _ _ _ e => by cases e; rfl), (fun _ _ _ e => by cases e; rfl)⟩ HZ.out ⟨P3.out.keep WntC.holds (Keeps.refl _ _) (Nat.zero_le _), (fun _ _ _ e => by cases e; rfl), HZQ.out.z3, HZQ.out.l3, HZQ.out.zb, HZQ.out.zh, HZQ.out.zc⟩).mono ?_
            rintro e wbmpac ⟨y', s5, t5, s6, t6, s7, t7, s8, t8, hy, rfl, hg, hb⟩
            obtain ⟨o5, o6, o7, o8⟩ := hg.sl
            obtain rfl : y = y' := HY.out.trans hy.symm
            replace HB := Hid.intro (HB.out.trans (hb.mono HB.out.size))
            replace HG := Hid.intro (HG.out.below hb HG.out.lt)
            have O5 := Hid.intro o5
            have O6 := Hid.intro o6
            have O7 := Hid.intro o7
            have O8 := Hid.intro o8
            refine hK.out _ _ ⟨range_belowV HA.out HB.out zA, range_belowV HP.out HB.out zP⟩ (fun hS => ?_)
            clear hK K hb hy o5 o6 o7 o8 P3 P5 P6 P7 P8 hg
            refine wpAnyH_ready (rs := [6]) (by kernel_rfl) (by simp) (AllReadyH.cons (o := ⟨none, _, _, _, _, none⟩) rfl (fun K hK => ?_) AllReadyH.nil)
            rw [if_pos (by rfl)]
            refine wp_store_mid 35 (.tmp 13) (.tmp 79) (by rfl) (wbmp.heap.size) 0 #[.string y.name, .bool y.up, .int .i64 y.clock, .bool y.known, .int .i64 y.seen, .slice s5 y.wants.length t5, .slice s6 y.runs.length t6, .slice s7 y.asks.length t7, .slice s8 y.gives.length t8] (by rfl) (by rfl) HG.out.there isz_Mte (by simp [Value.oneCell']) ?_
            have HR : Hid ((wbmpac.setCells wbmp.heap.size 0 [.string y.name, .bool y.up, .int .i64 y.clock, .bool y.known, .int .i64 y.seen, .slice s5 y.wants.length t5, .slice s6 y.runs.length t6, .slice s7 y.asks.length t7, .slice s8 y.gives.length t8]).rangeAt (wbmp.heap.size) 0 [.string y.name, .bool y.up, .int .i64 y.clock, .bool y.known, .int .i64 y.seen, .slice s5 y.wants.length t5, .slice s6 y.runs.length t6, .slice s7 y.asks.length t7, .slice s8 y.gives.length t8]) := (HG.out.setAll #[.string y.name, .bool y.up, .int .i64 y.clock, .bool y.known, .int .i64 y.seen, .slice s5 y.wants.length t5, .slice s6 y.runs.length t6, .slice s7 y.asks.length t7, .slice s8 y.gives.length t8] rfl).rangeA
            replace O5 : Hid (SliceC WntC 7 0 (wbmpac.setCells wbmp.heap.size 0 [.string y.name, .bool y.up, .int .i64 y.clock, .bool y.known, .int .i64 y.seen, .slice s5 y.wants.length t5, .slice s6 y.runs.length t6, .slice s7 y.asks.length t7, .slice s8 y.gives.length t8]) s5 y.wants) := O5.out.keep WntC.holds (Keeps.setCells (show wbmp.heap.size < wbmpa.heap.size by omega) _ _ _) (Nat.zero_le _)
            replace O6 : Hid (SliceC RnC 11 0 (wbmpac.setCells wbmp.heap.size 0 [.string y.name, .bool y.up, .int .i64 y.clock, .bool y.known, .int .i64 y.seen, .slice s5 y.wants.length t5, .slice s6 y.runs.length t6, .slice s7 y.asks.length t7, .slice s8 y.gives.length t8]) s6 y.runs) := O6.out.keep RnC.holds (Keeps.setCells (show wbmp.heap.size < wbmpa.heap.size by omega) _ _ _) (Nat.zero_le _)
            replace O7 : Hid (SliceC AksC 4 0 (wbmpac.setCells wbmp.heap.size 0 [.string y.name, .bool y.up, .int .i64 y.clock, .bool y.known, .int .i64 y.seen, .slice s5 y.wants.length t5, .slice s6 y.runs.length t6, .slice s7 y.asks.length t7, .slice s8 y.gives.length t8]) s7 y.asks) := O7.out.keep AksC.holds (Keeps.setCells (show wbmp.heap.size < wbmpa.heap.size by omega) _ _ _) (Nat.zero_le _)
            replace O8 : Hid (SliceC AksC 4 0 (wbmpac.setCells wbmp.heap.size 0 [.string y.name, .bool y.up, .int .i64 y.clock, .bool y.known, .int .i64 y.seen, .slice s5 y.wants.length t5, .slice s6 y.runs.length t6, .slice s7 y.asks.length t7, .slice s8 y.gives.length t8]) s8 y.gives) := O8.out.keep AksC.holds (Keeps.setCells (show wbmp.heap.size < wbmpa.heap.size by omega) _ _ _) (Nat.zero_le _)
            replace HB : Hid (Below wl.heap.size wl (wbmpac.setCells wbmp.heap.size 0 [.string y.name, .bool y.up, .int .i64 y.clock, .bool y.known, .int .i64 y.seen, .slice s5 y.wants.length t5, .slice s6 y.runs.length t6, .slice s7 y.asks.length t7, .slice s8 y.gives.length t8])) := below_setCells (show wl.heap.size ≤ wbmp.heap.size by omega) _ _ _ HB.out
            refine hK.out _ _ ⟨range_belowV HA.out HB.out zA, range_belowV HP.out HB.out zP⟩ (fun hS => ?_)
            clear hK K
            generalize (wbmpac.setCells wbmp.heap.size 0 [.string y.name, .bool y.up, .int .i64 y.clock, .bool y.known, .int .i64 y.seen, .slice s5 y.wants.length t5, .slice s6 y.runs.length t6, .slice s7 y.asks.length t7, .slice s8 y.gives.length t8]) = wz at *
            refine wpAnyH_done (by kernel_rfl) ?_ _
            go_wp2_with fail
            go_meet
            exact ⟨wbmp.heap.size, s5, t5, s6, t6, s7, t7, s8, t8, rfl, HR, O5, O6, O7, O8, HB⟩
        · skip
          go_simp
          have HG := Hid.intro (Blk.alloc wbm #[.string ⟨#[]⟩, .bool false, .int .i64 0, .bool false, .int .i64 0, .slice none 0 0, .slice none 0 0, .slice none 0 0, .slice none 0 0] 35)
          have hb : Below wbm.heap.size wbm (wbm.alloc (Obj.cells #[.string ⟨#[]⟩, .bool false, .int .i64 0, .bool false, .int .i64 0, .slice none 0 0, .slice none 0 0, .slice none 0 0, .slice none 0 0] 35)) := (Below.refl _ _).alloc (Nat.le_refl _) _
          have hga : wl.heap.size ≤ wbm.heap.size := HB.out.size
          replace HB := Hid.intro (HB.out.trans (hb.mono HB.out.size))
          replace P5 := Hid.intro (P5.out.below WntC.holds hb (Nat.le_refl _))
          replace P6 := Hid.intro (P6.out.below RnC.holds hb (Nat.le_refl _))
          replace P7 := Hid.intro (P7.out.below AksC.holds hb (Nat.le_refl _))
          replace P8 := Hid.intro (P8.out.below AksC.holds hb (Nat.le_refl _))
          refine hK.out _ _ ⟨range_belowV HA.out HB.out zA, range_belowV HP.out HB.out zP⟩ (fun hS => ?_)
          clear hK K hb
          generalize wbm.alloc (Obj.cells #[.string ⟨#[]⟩, .bool false, .int .i64 0, .bool false, .int .i64 0, .slice none 0 0, .slice none 0 0, .slice none 0 0, .slice none 0 0] 35) = wbma at *
          refine wpAnyH_ready (rs := [3]) (by kernel_rfl) (by simp) (AllReadyH.cons (o := ⟨some 78, _, _, _, _, none⟩) rfl (fun K hK => ?_) AllReadyH.nil)
          have hBc := hB.trans (HB.out.mono hB.size)
          go_simp
          refine (toPcl_any q a3 c3 lo _ (N3.out.below WntC.holds (B := w.heap.size) hBc (Nat.le_refl _)) HMQ.out).mono ?_
          rintro e wbmap ⟨g3, rfl, p3, hb⟩
          replace HB := Hid.intro (HB.out.trans (hb.mono HB.out.size))
          replace P5 := Hid.intro (P5.out.below WntC.holds hb (Nat.le_refl _))
          replace P6 := Hid.intro (P6.out.below RnC.holds hb (Nat.le_refl _))
          replace P7 := Hid.intro (P7.out.below AksC.holds hb (Nat.le_refl _))
          replace P8 := Hid.intro (P8.out.below AksC.holds hb (Nat.le_refl _))
          replace HG := Hid.intro (HG.out.below hb HG.out.lt)
          have P3 := Hid.intro p3
          refine hK.out _ _ ⟨range_belowV HA.out HB.out zA, range_belowV HP.out HB.out zP⟩ (fun hS => ?_)
          clear hK K hb hBc p3
          refine wpAnyH_ready (rs := [4]) (by kernel_rfl) (by simp) (AllReadyH.cons (o := ⟨some 79, _, _, _, _, none⟩) rfl (fun K hK => ?_) AllReadyH.nil)
          have hgl : wbm.heap.size < wbmap.heap.size := HG.out.lt
          go_simp
          refine (implTake_any x (some ⟨g5, 0, none⟩) x.wants.length (some ⟨g6, 0, none⟩) x.runs.length (some ⟨g7, 0, none⟩) x.asks.length (some ⟨g8, 0, none⟩) x.gives.length q (some ⟨g3, 0, none⟩) q.wants.length 0 _ ⟨P5.out.keep WntC.holds (Keeps.refl _ _) (Nat.zero_le _), P6.out.keep RnC.holds (Keeps.refl _ _) (Nat.zero_le _), P7.out.keep AksC.holds (Keeps.refl _ _) (Nat.zero_le _), P8.out.keep AksC.holds (Keeps.refl _ _) (Nat.zero_le _), (fun _ _ _ e => by cases e; rfl), (fun _ _ _ e => by cases e; rfl), (fun _ _ _ e => by cases e; rfl), (fun _ _ _ e => by cases e; rfl)⟩ HZ.out ⟨P3.out.keep WntC.holds (Keeps.refl _ _) (Nat.zero_le _), (fun _ _ _ e => by cases e; rfl), HZQ.out.z3, HZQ.out.l3, HZQ.out.zb, HZQ.out.zh, HZQ.out.zc⟩).mono ?_
          rintro e wbmapc ⟨y', s5, t5, s6, t6, s7, t7, s8, t8, hy, rfl, hg, hb⟩
          obtain ⟨o5, o6, o7, o8⟩ := hg.sl
          obtain rfl : y = y' := HY.out.trans hy.symm
          replace HB := Hid.intro (HB.out.trans (hb.mono HB.out.size))
          replace HG := Hid.intro (HG.out.below hb HG.out.lt)
          have O5 := Hid.intro o5
          have O6 := Hid.intro o6
          have O7 := Hid.intro o7
          have O8 := Hid.intro o8
          refine hK.out _ _ ⟨range_belowV HA.out HB.out zA, range_belowV HP.out HB.out zP⟩ (fun hS => ?_)
          clear hK K hb hy o5 o6 o7 o8 P3 P5 P6 P7 P8 hg
          refine wpAnyH_ready (rs := [6]) (by kernel_rfl) (by simp) (AllReadyH.cons (o := ⟨none, _, _, _, _, none⟩) rfl (fun K hK => ?_) AllReadyH.nil)
          rw [if_pos (by rfl)]
          refine wp_store_mid 35 (.tmp 13) (.tmp 79) (by rfl) (wbm.heap.size) 0 #[.string y.name, .bool y.up, .int .i64 y.clock, .bool y.known, .int .i64 y.seen, .slice s5 y.wants.length t5, .slice s6 y.runs.length t6, .slice s7 y.asks.length t7, .slice s8 y.gives.length t8] (by rfl) (by rfl) HG.out.there isz_Mte (by simp [Value.oneCell']) ?_
          have HR : Hid ((wbmapc.setCells wbm.heap.size 0 [.string y.name, .bool y.up, .int .i64 y.clock, .bool y.known, .int .i64 y.seen, .slice s5 y.wants.length t5, .slice s6 y.runs.length t6, .slice s7 y.asks.length t7, .slice s8 y.gives.length t8]).rangeAt (wbm.heap.size) 0 [.string y.name, .bool y.up, .int .i64 y.clock, .bool y.known, .int .i64 y.seen, .slice s5 y.wants.length t5, .slice s6 y.runs.length t6, .slice s7 y.asks.length t7, .slice s8 y.gives.length t8]) := (HG.out.setAll #[.string y.name, .bool y.up, .int .i64 y.clock, .bool y.known, .int .i64 y.seen, .slice s5 y.wants.length t5, .slice s6 y.runs.length t6, .slice s7 y.asks.length t7, .slice s8 y.gives.length t8] rfl).rangeA
          replace O5 : Hid (SliceC WntC 7 0 (wbmapc.setCells wbm.heap.size 0 [.string y.name, .bool y.up, .int .i64 y.clock, .bool y.known, .int .i64 y.seen, .slice s5 y.wants.length t5, .slice s6 y.runs.length t6, .slice s7 y.asks.length t7, .slice s8 y.gives.length t8]) s5 y.wants) := O5.out.keep WntC.holds (Keeps.setCells (show wbm.heap.size < wbmap.heap.size by omega) _ _ _) (Nat.zero_le _)
          replace O6 : Hid (SliceC RnC 11 0 (wbmapc.setCells wbm.heap.size 0 [.string y.name, .bool y.up, .int .i64 y.clock, .bool y.known, .int .i64 y.seen, .slice s5 y.wants.length t5, .slice s6 y.runs.length t6, .slice s7 y.asks.length t7, .slice s8 y.gives.length t8]) s6 y.runs) := O6.out.keep RnC.holds (Keeps.setCells (show wbm.heap.size < wbmap.heap.size by omega) _ _ _) (Nat.zero_le _)
          replace O7 : Hid (SliceC AksC 4 0 (wbmapc.setCells wbm.heap.size 0 [.string y.name, .bool y.up, .int .i64 y.clock, .bool y.known, .int .i64 y.seen, .slice s5 y.wants.length t5, .slice s6 y.runs.length t6, .slice s7 y.asks.length t7, .slice s8 y.gives.length t8]) s7 y.asks) := O7.out.keep AksC.holds (Keeps.setCells (show wbm.heap.size < wbmap.heap.size by omega) _ _ _) (Nat.zero_le _)
          replace O8 : Hid (SliceC AksC 4 0 (wbmapc.setCells wbm.heap.size 0 [.string y.name, .bool y.up, .int .i64 y.clock, .bool y.known, .int .i64 y.seen, .slice s5 y.wants.length t5, .slice s6 y.runs.length t6, .slice s7 y.asks.length t7, .slice s8 y.gives.length t8]) s8 y.gives) := O8.out.keep AksC.holds (Keeps.setCells (show wbm.heap.size < wbmap.heap.size by omega) _ _ _) (Nat.zero_le _)
          replace HB : Hid (Below wl.heap.size wl (wbmapc.setCells wbm.heap.size 0 [.string y.name, .bool y.up, .int .i64 y.clock, .bool y.known, .int .i64 y.seen, .slice s5 y.wants.length t5, .slice s6 y.runs.length t6, .slice s7 y.asks.length t7, .slice s8 y.gives.length t8])) := below_setCells (show wl.heap.size ≤ wbm.heap.size by omega) _ _ _ HB.out
          refine hK.out _ _ ⟨range_belowV HA.out HB.out zA, range_belowV HP.out HB.out zP⟩ (fun hS => ?_)
          clear hK K
          generalize (wbmapc.setCells wbm.heap.size 0 [.string y.name, .bool y.up, .int .i64 y.clock, .bool y.known, .int .i64 y.seen, .slice s5 y.wants.length t5, .slice s6 y.runs.length t6, .slice s7 y.asks.length t7, .slice s8 y.gives.length t8]) = wz at *
          refine wpAnyH_done (by kernel_rfl) ?_ _
          go_wp2_with fail
          go_meet
          exact ⟨wbm.heap.size, s5, t5, s6, t6, s7, t7, s8, t8, rfl, HR, O5, O6, O7, O8, HB⟩
      · skip
        go_simp
        have HG := Hid.intro (Blk.alloc wb #[.string ⟨#[]⟩, .bool false, .int .i64 0, .bool false, .int .i64 0, .slice none 0 0, .slice none 0 0, .slice none 0 0, .slice none 0 0] 35)
        have hb : Below wb.heap.size wb (wb.alloc (Obj.cells #[.string ⟨#[]⟩, .bool false, .int .i64 0, .bool false, .int .i64 0, .slice none 0 0, .slice none 0 0, .slice none 0 0, .slice none 0 0] 35)) := (Below.refl _ _).alloc (Nat.le_refl _) _
        have hga : wl.heap.size ≤ wb.heap.size := HB.out.size
        replace HB := Hid.intro (HB.out.trans (hb.mono HB.out.size))
        refine hK.out _ _ ⟨range_belowV HA.out HB.out zA, range_belowV HP.out HB.out zP⟩ (fun hS => ?_)
        clear hK K hb
        generalize wb.alloc (Obj.cells #[.string ⟨#[]⟩, .bool false, .int .i64 0, .bool false, .int .i64 0, .slice none 0 0, .slice none 0 0, .slice none 0 0, .slice none 0 0] 35) = wba at *
        refine wpAnyH_ready (rs := [1]) (by kernel_rfl) (by simp) (AllReadyH.cons (o := ⟨some 76, _, _, _, _, none⟩) rfl (fun K hK => ?_) AllReadyH.nil)
        have hBc := hB.trans (HB.out.mono hB.size)
        go_simp
        refine (toMte_any x a5 c5 a6 c6 a7 c7 a8 c8 lo _ (N5.out.below WntC.holds (B := w.heap.size) hBc (Nat.le_refl _)) (N6.out.below RnC.holds (B := w.heap.size) hBc (Nat.le_refl _)) (N7.out.below AksC.holds (B := w.heap.size) hBc (Nat.le_refl _)) (N8.out.below AksC.holds (B := w.heap.size) hBc (Nat.le_refl _)) HM.out).mono ?_
        rintro e wbam ⟨g5, g6, g7, g8, rfl, p5, p6, p7, p8, hb⟩
        replace HB := Hid.intro (HB.out.trans (hb.mono HB.out.size))
        replace HG := Hid.intro (HG.out.below hb HG.out.lt)
        have P5 := Hid.intro p5
        have P6 := Hid.intro p6
        have P7 := Hid.intro p7
        have P8 := Hid.intro p8
        refine hK.out _ _ ⟨range_belowV HA.out HB.out zA, range_belowV HP.out HB.out zP⟩ (fun hS => ?_)
        clear hK K hb hBc p5 p6 p7 p8
        refine wpAnyH_ready (rs := [3]) (by kernel_rfl) (by simp) (AllReadyH.cons (o := ⟨some 78, _, _, _, _, none⟩) rfl (fun K hK => ?_) AllReadyH.nil)
        have hBc := hB.trans (HB.out.mono hB.size)
        go_simp
        refine (toPcl_any q a3 c3 lo _ (N3.out.below WntC.holds (B := w.heap.size) hBc (Nat.le_refl _)) HMQ.out).mono ?_
        rintro e wbamp ⟨g3, rfl, p3, hb⟩
        replace HB := Hid.intro (HB.out.trans (hb.mono HB.out.size))
        replace P5 := Hid.intro (P5.out.below WntC.holds hb (Nat.le_refl _))
        replace P6 := Hid.intro (P6.out.below RnC.holds hb (Nat.le_refl _))
        replace P7 := Hid.intro (P7.out.below AksC.holds hb (Nat.le_refl _))
        replace P8 := Hid.intro (P8.out.below AksC.holds hb (Nat.le_refl _))
        replace HG := Hid.intro (HG.out.below hb HG.out.lt)
        have P3 := Hid.intro p3
        refine hK.out _ _ ⟨range_belowV HA.out HB.out zA, range_belowV HP.out HB.out zP⟩ (fun hS => ?_)
        clear hK K hb hBc p3
        refine wpAnyH_ready (rs := [4]) (by kernel_rfl) (by simp) (AllReadyH.cons (o := ⟨some 79, _, _, _, _, none⟩) rfl (fun K hK => ?_) AllReadyH.nil)
        have hgl : wb.heap.size < wbamp.heap.size := HG.out.lt
        go_simp
        refine (implTake_any x (some ⟨g5, 0, none⟩) x.wants.length (some ⟨g6, 0, none⟩) x.runs.length (some ⟨g7, 0, none⟩) x.asks.length (some ⟨g8, 0, none⟩) x.gives.length q (some ⟨g3, 0, none⟩) q.wants.length 0 _ ⟨P5.out.keep WntC.holds (Keeps.refl _ _) (Nat.zero_le _), P6.out.keep RnC.holds (Keeps.refl _ _) (Nat.zero_le _), P7.out.keep AksC.holds (Keeps.refl _ _) (Nat.zero_le _), P8.out.keep AksC.holds (Keeps.refl _ _) (Nat.zero_le _), (fun _ _ _ e => by cases e; rfl), (fun _ _ _ e => by cases e; rfl), (fun _ _ _ e => by cases e; rfl), (fun _ _ _ e => by cases e; rfl)⟩ HZ.out ⟨P3.out.keep WntC.holds (Keeps.refl _ _) (Nat.zero_le _), (fun _ _ _ e => by cases e; rfl), HZQ.out.z3, HZQ.out.l3, HZQ.out.zb, HZQ.out.zh, HZQ.out.zc⟩).mono ?_
        rintro e wbampc ⟨y', s5, t5, s6, t6, s7, t7, s8, t8, hy, rfl, hg, hb⟩
        obtain ⟨o5, o6, o7, o8⟩ := hg.sl
        obtain rfl : y = y' := HY.out.trans hy.symm
        replace HB := Hid.intro (HB.out.trans (hb.mono HB.out.size))
        replace HG := Hid.intro (HG.out.below hb HG.out.lt)
        have O5 := Hid.intro o5
        have O6 := Hid.intro o6
        have O7 := Hid.intro o7
        have O8 := Hid.intro o8
        refine hK.out _ _ ⟨range_belowV HA.out HB.out zA, range_belowV HP.out HB.out zP⟩ (fun hS => ?_)
        clear hK K hb hy o5 o6 o7 o8 P3 P5 P6 P7 P8 hg
        refine wpAnyH_ready (rs := [6]) (by kernel_rfl) (by simp) (AllReadyH.cons (o := ⟨none, _, _, _, _, none⟩) rfl (fun K hK => ?_) AllReadyH.nil)
        rw [if_pos (by rfl)]
        refine wp_store_mid 35 (.tmp 13) (.tmp 79) (by rfl) (wb.heap.size) 0 #[.string y.name, .bool y.up, .int .i64 y.clock, .bool y.known, .int .i64 y.seen, .slice s5 y.wants.length t5, .slice s6 y.runs.length t6, .slice s7 y.asks.length t7, .slice s8 y.gives.length t8] (by rfl) (by rfl) HG.out.there isz_Mte (by simp [Value.oneCell']) ?_
        have HR : Hid ((wbampc.setCells wb.heap.size 0 [.string y.name, .bool y.up, .int .i64 y.clock, .bool y.known, .int .i64 y.seen, .slice s5 y.wants.length t5, .slice s6 y.runs.length t6, .slice s7 y.asks.length t7, .slice s8 y.gives.length t8]).rangeAt (wb.heap.size) 0 [.string y.name, .bool y.up, .int .i64 y.clock, .bool y.known, .int .i64 y.seen, .slice s5 y.wants.length t5, .slice s6 y.runs.length t6, .slice s7 y.asks.length t7, .slice s8 y.gives.length t8]) := (HG.out.setAll #[.string y.name, .bool y.up, .int .i64 y.clock, .bool y.known, .int .i64 y.seen, .slice s5 y.wants.length t5, .slice s6 y.runs.length t6, .slice s7 y.asks.length t7, .slice s8 y.gives.length t8] rfl).rangeA
        replace O5 : Hid (SliceC WntC 7 0 (wbampc.setCells wb.heap.size 0 [.string y.name, .bool y.up, .int .i64 y.clock, .bool y.known, .int .i64 y.seen, .slice s5 y.wants.length t5, .slice s6 y.runs.length t6, .slice s7 y.asks.length t7, .slice s8 y.gives.length t8]) s5 y.wants) := O5.out.keep WntC.holds (Keeps.setCells (show wb.heap.size < wbamp.heap.size by omega) _ _ _) (Nat.zero_le _)
        replace O6 : Hid (SliceC RnC 11 0 (wbampc.setCells wb.heap.size 0 [.string y.name, .bool y.up, .int .i64 y.clock, .bool y.known, .int .i64 y.seen, .slice s5 y.wants.length t5, .slice s6 y.runs.length t6, .slice s7 y.asks.length t7, .slice s8 y.gives.length t8]) s6 y.runs) := O6.out.keep RnC.holds (Keeps.setCells (show wb.heap.size < wbamp.heap.size by omega) _ _ _) (Nat.zero_le _)
        replace O7 : Hid (SliceC AksC 4 0 (wbampc.setCells wb.heap.size 0 [.string y.name, .bool y.up, .int .i64 y.clock, .bool y.known, .int .i64 y.seen, .slice s5 y.wants.length t5, .slice s6 y.runs.length t6, .slice s7 y.asks.length t7, .slice s8 y.gives.length t8]) s7 y.asks) := O7.out.keep AksC.holds (Keeps.setCells (show wb.heap.size < wbamp.heap.size by omega) _ _ _) (Nat.zero_le _)
        replace O8 : Hid (SliceC AksC 4 0 (wbampc.setCells wb.heap.size 0 [.string y.name, .bool y.up, .int .i64 y.clock, .bool y.known, .int .i64 y.seen, .slice s5 y.wants.length t5, .slice s6 y.runs.length t6, .slice s7 y.asks.length t7, .slice s8 y.gives.length t8]) s8 y.gives) := O8.out.keep AksC.holds (Keeps.setCells (show wb.heap.size < wbamp.heap.size by omega) _ _ _) (Nat.zero_le _)
        replace HB : Hid (Below wl.heap.size wl (wbampc.setCells wb.heap.size 0 [.string y.name, .bool y.up, .int .i64 y.clock, .bool y.known, .int .i64 y.seen, .slice s5 y.wants.length t5, .slice s6 y.runs.length t6, .slice s7 y.asks.length t7, .slice s8 y.gives.length t8])) := below_setCells (show wl.heap.size ≤ wb.heap.size by omega) _ _ _ HB.out
        refine hK.out _ _ ⟨range_belowV HA.out HB.out zA, range_belowV HP.out HB.out zP⟩ (fun hS => ?_)
        clear hK K
        generalize (wbampc.setCells wb.heap.size 0 [.string y.name, .bool y.up, .int .i64 y.clock, .bool y.known, .int .i64 y.seen, .slice s5 y.wants.length t5, .slice s6 y.runs.length t6, .slice s7 y.asks.length t7, .slice s8 y.gives.length t8]) = wz at *
        refine wpAnyH_done (by kernel_rfl) ?_ _
        go_wp2_with fail
        go_meet
        exact ⟨wb.heap.size, s5, t5, s6, t6, s7, t7, s8, t8, rfl, HR, O5, O6, O7, O8, HB⟩
    case rest =>
      obtain ⟨gd, s5, t5, s6, t6, s7, t7, s8, t8, rfl, H7, RO5, RO6, RO7, RO8, hbz⟩ := hcut
      have hb := hbz.out
      generalize wc = wn at *
      replace HA : Hid (wn.rangeAt w.heap.size 0 [.string x.name, .bool x.up, .int .i64 x.clock, .bool x.known, .int .i64 x.seen, .slice a5 x.wants.length c5, .slice a6 x.runs.length c6, .slice a7 x.asks.length c7, .slice a8 x.gives.length c8]) := range_next HA.out hb
      replace HP : Hid (wn.rangeAt (w.heap.size + 1) 0 [.int .i64 q.kind, .string q.berth, .int .i64 q.seen, .slice a3 q.wants.length c3, .string q.hold, .string q.copy, .int .i64 q.at_]) := range_next HP.out hb
      replace H4 : Hid (wn.rangeAt ga 0 [.string y.name, .bool y.up, .int .i64 y.clock, .bool y.known, .int .i64 y.seen, .slice b5 y.wants.length q5, .slice b6 y.runs.length q6, .slice b7 y.asks.length q7, .slice b8 y.gives.length q8]) := range_next H4.out hb
      replace HB3 : Hid (Below w4.heap.size w4 wn) := HB3.out.trans (hb.mono HB3.out.size)
      replace H6 : Hid (wn.rangeAt w9.heap.size 0 [.string y.name, .bool y.up, .int .i64 y.clock, .bool y.known, .int .i64 y.seen, .slice d5 y.wants.length r5, .slice d6 y.runs.length r6, .slice d7 y.asks.length r7, .slice d8 y.gives.length r8]) := range_next H6.out hb
      replace MK : Hid (Mk4 y 1 d5 d6 d7 d8 wn) := MK.out.below hb
      replace hB : Below w.heap.size w wn := hB.trans (hb.mono hB.size)
      clear hb hbz zA zP
      go_wp2_with (first | (refine wpList_load_mid rfl 35 _ rfl gd 0 rfl [.string y.name, .bool y.up, .int .i64 y.clock, .bool y.known, .int .i64 y.seen, .slice s5 y.wants.length t5, .slice s6 y.runs.length t6, .slice s7 y.asks.length t7, .slice s8 y.gives.length t8] _ H7.out Tryz.underlying35 rfl isz_Mte ?_) | (refine wpList_load_mid rfl 35 _ rfl ga 0 rfl [.string y.name, .bool y.up, .int .i64 y.clock, .bool y.known, .int .i64 y.seen, .slice b5 y.wants.length q5, .slice b6 y.runs.length q6, .slice b7 y.asks.length q7, .slice b8 y.gives.length q8] _ H4.out Tryz.underlying35 rfl isz_Mte ?_))
      refine (eqMte_any y s5 t5 s6 t6 s7 t7 s8 t8 b5 q5 b6 q6 b7 q7 b8 q8 _ _ _ RO5.out RO6.out RO7.out RO8.out (PO5.out.below WntC.holds HB3.out (Nat.le_refl _)) (PO6.out.below RnC.holds HB3.out (Nat.le_refl _)) (PO7.out.below AksC.holds HB3.out (Nat.le_refl _)) (PO8.out.below AksC.holds HB3.out (Nat.le_refl _)) HMY.out).mono ?_
      rintro e wo ⟨rfl, hb⟩
      replace HA : Hid (wo.rangeAt w.heap.size 0 [.string x.name, .bool x.up, .int .i64 x.clock, .bool x.known, .int .i64 x.seen, .slice a5 x.wants.length c5, .slice a6 x.runs.length c6, .slice a7 x.asks.length c7, .slice a8 x.gives.length c8]) := range_next HA.out hb
      replace HP : Hid (wo.rangeAt (w.heap.size + 1) 0 [.int .i64 q.kind, .string q.berth, .int .i64 q.seen, .slice a3 q.wants.length c3, .string q.hold, .string q.copy, .int .i64 q.at_]) := range_next HP.out hb
      replace H4 : Hid (wo.rangeAt ga 0 [.string y.name, .bool y.up, .int .i64 y.clock, .bool y.known, .int .i64 y.seen, .slice b5 y.wants.length q5, .slice b6 y.runs.length q6, .slice b7 y.asks.length q7, .slice b8 y.gives.length q8]) := range_next H4.out hb
      replace HB3 : Hid (Below w4.heap.size w4 wo) := HB3.out.trans (hb.mono HB3.out.size)
      replace H6 : Hid (wo.rangeAt w9.heap.size 0 [.string y.name, .bool y.up, .int .i64 y.clock, .bool y.known, .int .i64 y.seen, .slice d5 y.wants.length r5, .slice d6 y.runs.length r6, .slice d7 y.asks.length r7, .slice d8 y.gives.length r8]) := range_next H6.out hb
      replace MK : Hid (Mk4 y 1 d5 d6 d7 d8 wo) := MK.out.below hb
      replace hB : Below w.heap.size w wo := hB.trans (hb.mono hB.size)
      clear hb H7 RO5 RO6 RO7 RO8
      go_wp2_with (refine wpList_load_mid rfl 35 _ rfl w9.heap.size 0 rfl [.string y.name, .bool y.up, .int .i64 y.clock, .bool y.known, .int .i64 y.seen, .slice d5 y.wants.length r5, .slice d6 y.runs.length r6, .slice d7 y.asks.length r7, .slice d8 y.gives.length r8] _ H6.out Tryz.underlying35 rfl isz_Mte ?_)
      refine (heldMte_any y d5 r5 d6 r6 d7 r7 d8 r8 1 _ MK.out (by omega) HTY.out).mono ?_
      rintro e wq ⟨rfl, hb⟩
      replace HA : Hid (wq.rangeAt w.heap.size 0 [.string x.name, .bool x.up, .int .i64 x.clock, .bool x.known, .int .i64 x.seen, .slice a5 x.wants.length c5, .slice a6 x.runs.length c6, .slice a7 x.asks.length c7, .slice a8 x.gives.length c8]) := range_next HA.out hb
      replace HP : Hid (wq.rangeAt (w.heap.size + 1) 0 [.int .i64 q.kind, .string q.berth, .int .i64 q.seen, .slice a3 q.wants.length c3, .string q.hold, .string q.copy, .int .i64 q.at_]) := range_next HP.out hb
      replace H4 : Hid (wq.rangeAt ga 0 [.string y.name, .bool y.up, .int .i64 y.clock, .bool y.known, .int .i64 y.seen, .slice b5 y.wants.length q5, .slice b6 y.runs.length q6, .slice b7 y.asks.length q7, .slice b8 y.gives.length q8]) := range_next H4.out hb
      replace HB3 : Hid (Below w4.heap.size w4 wq) := HB3.out.trans (hb.mono HB3.out.size)
      replace H6 : Hid (wq.rangeAt w9.heap.size 0 [.string y.name, .bool y.up, .int .i64 y.clock, .bool y.known, .int .i64 y.seen, .slice d5 y.wants.length r5, .slice d6 y.runs.length r6, .slice d7 y.asks.length r7, .slice d8 y.gives.length r8]) := range_next H6.out hb
      replace MK : Hid (Mk4 y 1 d5 d6 d7 d8 wq) := MK.out.below hb
      replace hB : Below w.heap.size w wq := hB.trans (hb.mono hB.size)
      clear hb
      rw [← HTY2.out]
      go_wp2_with fail
      go_ret
      exact ⟨rfl, hB⟩

end Go.Proofs.YtlangcodelcncaaGreat
