import Derived.Test.YtlangcodelcncaaGreatWnt
namespace Go.Proofs.YtlangcodelcncaaGreat
open Go.RowKit

structure Pcl where
  kind : Int
  berth : ByteArray
  seen : Int
  wants : List Wnt
  hold : ByteArray
  copy : ByteArray
  at_ : Int

def wPcl (x : Pcl) : Nat := x.berth.size + (wS wWnt x.wants) + x.hold.size + x.copy.size

def PclC : Make Pcl := fun lo w f x => ∃ (a3 : Option Addr) (c3 : Nat), f 0 = some (.int .i64 x.kind) ∧ f 1 = some (.string x.berth) ∧ f 2 = some (.int .i64 x.seen) ∧ f 3 = some (.slice a3 x.wants.length c3) ∧ f 4 = some (.string x.hold) ∧ f 5 = some (.string x.copy) ∧ f 6 = some (.int .i64 x.at_) ∧ x.berth.size ≤ maxLen ∧ x.hold.size ≤ maxLen ∧ x.copy.size ≤ maxLen ∧ SliceC WntC 7 lo w a3 x.wants

theorem PclC.holds : Holds PclC 7 := by
  rintro lo lo' w w' f g x h k hl ⟨a3, c3, q0, q1, q2, q3, q4, q5, q6, z1, z4, z5, n3⟩
  exact ⟨a3, c3, (h 0 (by omega)).trans q0, (h 1 (by omega)).trans q1, (h 2 (by omega)).trans q2, (h 3 (by omega)).trans q3, (h 4 (by omega)).trans q4, (h 5 (by omega)).trans q5, (h 6 (by omega)).trans q6, z1, z4, z5, n3.keep WntC.holds k hl⟩

set_option maxHeartbeats 1000000 in
theorem szPcl_any (x : Pcl) (a3 : Option Addr) (c3 : Nat) (lo : Nat) (L : Int) (w : World) (z1 : x.berth.size ≤ maxLen) (z4 : x.hold.size ≤ maxLen) (z5 : x.copy.size ≤ maxLen) (n3 : SliceC WntC 7 lo w a3 x.wants) (h0 : 0 ≤ L) (h1 : L ≤ 1048576) :
    Calls Tryz.prog 6 #[.agg #[.int .i64 x.kind, .string x.berth, .int .i64 x.seen, .slice a3 x.wants.length c3, .string x.hold, .string x.copy, .int .i64 x.at_], .int .i64 L] w fun e w' => e = .returned (.int .i64 (szR (wPcl x) L)) ∧ Below w.heap.size w w' := by
  unfold maxLen at z1 z4 z5
  have N3 : Hid (SliceC WntC 7 lo w a3 x.wants) := n3
  clear n3
  have HW : Hid (wPcl x = x.berth.size + (wS wWnt x.wants) + x.hold.size + x.copy.size) := rfl
  generalize wPcl x = W at *
  by_cases d1 : L - (x.berth.size : Nat) < 0
  · go_enter Tryz.func6, Tryz.ntmps6
    go_wp2_with fail
    go_ret
    exact ⟨ret_int (by have := HW.out; unfold szR; rw [if_neg (by omega)]), by go_grown⟩
  · skip
    go_enter Tryz.func6, Tryz.ntmps6
    go_wp2_with fail
    refine (szWntS_any x.wants a3 c3 lo _ _ (N3.out.below WntC.holds (B := w.heap.size) (by go_grown) (Nat.le_refl _)) (by omega) (by omega)).mono ?_
    rintro e w1 ⟨rfl, hb1⟩
    have hB1 : Below w.heap.size w w1 := (show Below w.heap.size w _ by go_grown).trans (hb1.mono (by simp))
    have k1_4 : w1.cell? ⟨w.heap.size, 4, none⟩ = some (.string x.hold) := (hb1.cell (p := ⟨w.heap.size, 4, none⟩) (by simp)).trans (by simp)
    have k1_5 : w1.cell? ⟨w.heap.size, 5, none⟩ = some (.string x.copy) := (hb1.cell (p := ⟨w.heap.size, 5, none⟩) (by simp)).trans (by simp)
    have hs1 : w.heap.size < w1.heap.size := by have := hb1.size; simp at this; omega
    clear hb1
    by_cases d3 : (((wS wWnt x.wants) : Nat) : Int) ≤ L - (x.berth.size : Nat)
    · rw [szR_pos d3]
      by_cases d4 : L - (x.berth.size : Nat) - ((wS wWnt x.wants) : Nat) - (x.hold.size : Nat) < 0
      · go_wp2_with fail
        go_ret
        exact ⟨ret_int (by have := HW.out; unfold szR; rw [if_neg (by omega)]), hB1⟩
      · skip
        by_cases d5 : L - (x.berth.size : Nat) - ((wS wWnt x.wants) : Nat) - (x.hold.size : Nat) - (x.copy.size : Nat) < 0
        · go_wp2_with fail
          go_ret
          exact ⟨ret_int (by have := HW.out; unfold szR; rw [if_neg (by omega)]), hB1⟩
        · skip
          go_wp2_with fail
          go_ret
          exact ⟨ret_int (by have := HW.out; unfold szR; rw [if_pos (by omega)]; omega), hB1⟩
    · rw [szR_neg d3]
      go_wp2_with fail
      go_ret
      exact ⟨ret_int (by have := HW.out; unfold szR; rw [if_neg (by omega)]), hB1⟩

theorem isz_Pcl : (Tryz.prog.info? 39).map (·.size) = some 7 := by kernel_rfl

set_option maxHeartbeats 2000000 in
theorem toPcl_any (x : Pcl) (a3 : Option Addr) (c3 : Nat) (lo : Nat) (w : World) (n3 : SliceC WntC 7 lo w a3 x.wants) (hsm : wPcl x ≤ 1048576) :
    Calls Tryz.prog 9 #[.agg #[.int .i64 x.kind, .string x.berth, .int .i64 x.seen, .slice a3 x.wants.length c3, .string x.hold, .string x.copy, .int .i64 x.at_]] w fun e w' => ∃ g3, e = .returned (.agg #[.int .i64 x.kind, .string x.berth, .int .i64 x.seen, .slice (some ⟨g3, 0, none⟩) x.wants.length x.wants.length, .string x.hold, .string x.copy, .int .i64 x.at_]) ∧ SliceC WntC 7 w.heap.size w' (some ⟨g3, 0, none⟩) x.wants ∧ Below w.heap.size w w' := by
  have N3 : Hid (SliceC WntC 7 lo w a3 x.wants) := n3
  have M3 : wS wWnt x.wants ≤ 1048576 := by unfold wPcl at hsm; omega
  clear hsm n3
  go_enter Tryz.func9, Tryz.ntmps9
  go_wp2_with fail
  refine (toWntS_any x.wants a3 c3 lo _ (N3.out.below WntC.holds (B := w.heap.size) (by go_grown) (Nat.le_refl _)) M3).mono ?_
  rintro e w1 ⟨g3, rfl, hg3, hn3, hb1⟩
  have hz1 : w.heap.size + 1 + 1 < w1.heap.size := by have := hb1.size; simp at this; omega
  have ko1_0 : w1.cell? ⟨w.heap.size + 1 + 1, 0, none⟩ = some (.int .i64 x.kind) := (hb1.cell (p := ⟨w.heap.size + 1 + 1, 0, none⟩) (by first | (simp; done) | (simp; omega))).trans (by simp [go_sem])
  have fo1_0 : w1.frozen? ⟨w.heap.size + 1 + 1, 0, none⟩ = false := (hb1.frozen (p := ⟨w.heap.size + 1 + 1, 0, none⟩) (by first | (simp; done) | (simp; omega))).trans (by simp [go_sem])
  have kr1_0 : w1.cell? ⟨w.heap.size + 1, 0, none⟩ = some (.int .i64 0) := (hb1.cell (p := ⟨w.heap.size + 1, 0, none⟩) (by first | (simp; done) | (simp; omega))).trans (by simp [go_sem])
  have fr1_0 : w1.frozen? ⟨w.heap.size + 1, 0, none⟩ = false := (hb1.frozen (p := ⟨w.heap.size + 1, 0, none⟩) (by first | (simp; done) | (simp; omega))).trans (by simp [go_sem])
  have ko1_1 : w1.cell? ⟨w.heap.size + 1 + 1, 1, none⟩ = some (.string x.berth) := (hb1.cell (p := ⟨w.heap.size + 1 + 1, 1, none⟩) (by first | (simp; done) | (simp; omega))).trans (by simp [go_sem])
  have fo1_1 : w1.frozen? ⟨w.heap.size + 1 + 1, 1, none⟩ = false := (hb1.frozen (p := ⟨w.heap.size + 1 + 1, 1, none⟩) (by first | (simp; done) | (simp; omega))).trans (by simp [go_sem])
  have kr1_1 : w1.cell? ⟨w.heap.size + 1, 1, none⟩ = some (.string ⟨#[]⟩) := (hb1.cell (p := ⟨w.heap.size + 1, 1, none⟩) (by first | (simp; done) | (simp; omega))).trans (by simp [go_sem])
  have fr1_1 : w1.frozen? ⟨w.heap.size + 1, 1, none⟩ = false := (hb1.frozen (p := ⟨w.heap.size + 1, 1, none⟩) (by first | (simp; done) | (simp; omega))).trans (by simp [go_sem])
  have ko1_2 : w1.cell? ⟨w.heap.size + 1 + 1, 2, none⟩ = some (.int .i64 x.seen) := (hb1.cell (p := ⟨w.heap.size + 1 + 1, 2, none⟩) (by first | (simp; done) | (simp; omega))).trans (by simp [go_sem])
  have fo1_2 : w1.frozen? ⟨w.heap.size + 1 + 1, 2, none⟩ = false := (hb1.frozen (p := ⟨w.heap.size + 1 + 1, 2, none⟩) (by first | (simp; done) | (simp; omega))).trans (by simp [go_sem])
  have kr1_2 : w1.cell? ⟨w.heap.size + 1, 2, none⟩ = some (.int .i64 0) := (hb1.cell (p := ⟨w.heap.size + 1, 2, none⟩) (by first | (simp; done) | (simp; omega))).trans (by simp [go_sem])
  have fr1_2 : w1.frozen? ⟨w.heap.size + 1, 2, none⟩ = false := (hb1.frozen (p := ⟨w.heap.size + 1, 2, none⟩) (by first | (simp; done) | (simp; omega))).trans (by simp [go_sem])
  have ko1_3 : w1.cell? ⟨w.heap.size + 1 + 1, 3, none⟩ = some (.slice none 0 0) := (hb1.cell (p := ⟨w.heap.size + 1 + 1, 3, none⟩) (by first | (simp; done) | (simp; omega))).trans (by simp [go_sem])
  have fo1_3 : w1.frozen? ⟨w.heap.size + 1 + 1, 3, none⟩ = false := (hb1.frozen (p := ⟨w.heap.size + 1 + 1, 3, none⟩) (by first | (simp; done) | (simp; omega))).trans (by simp [go_sem])
  have kr1_3 : w1.cell? ⟨w.heap.size + 1, 3, none⟩ = some (.slice none 0 0) := (hb1.cell (p := ⟨w.heap.size + 1, 3, none⟩) (by first | (simp; done) | (simp; omega))).trans (by simp [go_sem])
  have fr1_3 : w1.frozen? ⟨w.heap.size + 1, 3, none⟩ = false := (hb1.frozen (p := ⟨w.heap.size + 1, 3, none⟩) (by first | (simp; done) | (simp; omega))).trans (by simp [go_sem])
  have ka1_4 : w1.cell? ⟨w.heap.size, 4, none⟩ = some (.string x.hold) := (hb1.cell (p := ⟨w.heap.size, 4, none⟩) (by first | (simp; done) | (simp; omega))).trans (by simp [go_sem])
  have ko1_4 : w1.cell? ⟨w.heap.size + 1 + 1, 4, none⟩ = some (.string ⟨#[]⟩) := (hb1.cell (p := ⟨w.heap.size + 1 + 1, 4, none⟩) (by first | (simp; done) | (simp; omega))).trans (by simp [go_sem])
  have fo1_4 : w1.frozen? ⟨w.heap.size + 1 + 1, 4, none⟩ = false := (hb1.frozen (p := ⟨w.heap.size + 1 + 1, 4, none⟩) (by first | (simp; done) | (simp; omega))).trans (by simp [go_sem])
  have kr1_4 : w1.cell? ⟨w.heap.size + 1, 4, none⟩ = some (.string ⟨#[]⟩) := (hb1.cell (p := ⟨w.heap.size + 1, 4, none⟩) (by first | (simp; done) | (simp; omega))).trans (by simp [go_sem])
  have fr1_4 : w1.frozen? ⟨w.heap.size + 1, 4, none⟩ = false := (hb1.frozen (p := ⟨w.heap.size + 1, 4, none⟩) (by first | (simp; done) | (simp; omega))).trans (by simp [go_sem])
  have ka1_5 : w1.cell? ⟨w.heap.size, 5, none⟩ = some (.string x.copy) := (hb1.cell (p := ⟨w.heap.size, 5, none⟩) (by first | (simp; done) | (simp; omega))).trans (by simp [go_sem])
  have ko1_5 : w1.cell? ⟨w.heap.size + 1 + 1, 5, none⟩ = some (.string ⟨#[]⟩) := (hb1.cell (p := ⟨w.heap.size + 1 + 1, 5, none⟩) (by first | (simp; done) | (simp; omega))).trans (by simp [go_sem])
  have fo1_5 : w1.frozen? ⟨w.heap.size + 1 + 1, 5, none⟩ = false := (hb1.frozen (p := ⟨w.heap.size + 1 + 1, 5, none⟩) (by first | (simp; done) | (simp; omega))).trans (by simp [go_sem])
  have kr1_5 : w1.cell? ⟨w.heap.size + 1, 5, none⟩ = some (.string ⟨#[]⟩) := (hb1.cell (p := ⟨w.heap.size + 1, 5, none⟩) (by first | (simp; done) | (simp; omega))).trans (by simp [go_sem])
  have fr1_5 : w1.frozen? ⟨w.heap.size + 1, 5, none⟩ = false := (hb1.frozen (p := ⟨w.heap.size + 1, 5, none⟩) (by first | (simp; done) | (simp; omega))).trans (by simp [go_sem])
  have ka1_6 : w1.cell? ⟨w.heap.size, 6, none⟩ = some (.int .i64 x.at_) := (hb1.cell (p := ⟨w.heap.size, 6, none⟩) (by first | (simp; done) | (simp; omega))).trans (by simp [go_sem])
  have ko1_6 : w1.cell? ⟨w.heap.size + 1 + 1, 6, none⟩ = some (.int .i64 0) := (hb1.cell (p := ⟨w.heap.size + 1 + 1, 6, none⟩) (by first | (simp; done) | (simp; omega))).trans (by simp [go_sem])
  have fo1_6 : w1.frozen? ⟨w.heap.size + 1 + 1, 6, none⟩ = false := (hb1.frozen (p := ⟨w.heap.size + 1 + 1, 6, none⟩) (by first | (simp; done) | (simp; omega))).trans (by simp [go_sem])
  have kr1_6 : w1.cell? ⟨w.heap.size + 1, 6, none⟩ = some (.int .i64 0) := (hb1.cell (p := ⟨w.heap.size + 1, 6, none⟩) (by first | (simp; done) | (simp; omega))).trans (by simp [go_sem])
  have fr1_6 : w1.frozen? ⟨w.heap.size + 1, 6, none⟩ = false := (hb1.frozen (p := ⟨w.heap.size + 1, 6, none⟩) (by first | (simp; done) | (simp; omega))).trans (by simp [go_sem])
  have hg3' : w.heap.size + 1 + 1 < g3 := by simp at hg3; omega
  have hB1 : Below w.heap.size w w1 := (show Below w.heap.size w _ by go_grown).trans (hb1.mono (by first | (simp; done) | (simp; omega)))
  have HN3 : Hid (SliceC WntC 7 (w.heap.size + 3) w1 (some ⟨g3, 0, none⟩) x.wants) := hn3.keep WntC.holds (Keeps.refl _ _) (by first | (simp; done) | (simp; omega))
  clear hn3 hb1 hg3
  have HPR : Hid (w1.rangeAt (w.heap.size + 1 + 1) 0 [.int .i64 x.kind, .string x.berth, .int .i64 x.seen]) := range_cons ko1_0 (range_cons ko1_1 (range_cons ko1_2 (range_nil _ _ _)))
  have HTO : Hid (w1.there (w.heap.size + 1 + 1) 3 4) := there_cons ko1_3 fo1_3 (there_cons ko1_4 fo1_4 (there_cons ko1_5 fo1_5 (there_cons ko1_6 fo1_6 (there_nil _ _ _))))
  have HTR : Hid (w1.there (w.heap.size + 1) 0 7) := there_cons kr1_0 fr1_0 (there_cons kr1_1 fr1_1 (there_cons kr1_2 fr1_2 (there_cons kr1_3 fr1_3 (there_cons kr1_4 fr1_4 (there_cons kr1_5 fr1_5 (there_cons kr1_6 fr1_6 (there_nil _ _ _)))))))
  clear kr1_0 fr1_0 kr1_1 fr1_1 kr1_2 fr1_2 kr1_3 fr1_3 kr1_4 fr1_4 kr1_5 fr1_5 kr1_6 fr1_6 ko1_0 fo1_0 ko1_1 fo1_1 ko1_2 fo1_2
  go_upto_region 9 with fail
  have HRG : Hid (World.rangeAt ((((w1.setCell ⟨w.heap.size + 1 + 1, 3, none⟩ (.slice (some ⟨g3, 0, none⟩) x.wants.length x.wants.length)).setCell ⟨w.heap.size + 1 + 1, 4, none⟩ (.string x.hold)).setCell ⟨w.heap.size + 1 + 1, 5, none⟩ (.string x.copy)).setCell ⟨w.heap.size + 1 + 1, 6, none⟩ (.int .i64 x.at_)) (w.heap.size + 1 + 1) 0 [.int .i64 x.kind, .string x.berth, .int .i64 x.seen, .slice (some ⟨g3, 0, none⟩) x.wants.length x.wants.length, .string x.hold, .string x.copy, .int .i64 x.at_]) := range_join (vs := [.slice (some ⟨g3, 0, none⟩) x.wants.length x.wants.length, .string x.hold, .string x.copy, .int .i64 x.at_]) HPR.out rfl HTO.out
  have HTG : Hid (World.there ((((w1.setCell ⟨w.heap.size + 1 + 1, 3, none⟩ (.slice (some ⟨g3, 0, none⟩) x.wants.length x.wants.length)).setCell ⟨w.heap.size + 1 + 1, 4, none⟩ (.string x.hold)).setCell ⟨w.heap.size + 1 + 1, 5, none⟩ (.string x.copy)).setCell ⟨w.heap.size + 1 + 1, 6, none⟩ (.int .i64 x.at_)) (w.heap.size + 1) 0 7) := World.there_setCells HTR.out (w.heap.size + 1 + 1) 3 [.slice (some ⟨g3, 0, none⟩) x.wants.length x.wants.length, .string x.hold, .string x.copy, .int .i64 x.at_]
  have HBG : Hid (Below w.heap.size w ((((w1.setCell ⟨w.heap.size + 1 + 1, 3, none⟩ (.slice (some ⟨g3, 0, none⟩) x.wants.length x.wants.length)).setCell ⟨w.heap.size + 1 + 1, 4, none⟩ (.string x.hold)).setCell ⟨w.heap.size + 1 + 1, 5, none⟩ (.string x.copy)).setCell ⟨w.heap.size + 1 + 1, 6, none⟩ (.int .i64 x.at_))) := below_setCells (b := w.heap.size + 1 + 1) (by omega) [.slice (some ⟨g3, 0, none⟩) x.wants.length x.wants.length, .string x.hold, .string x.copy, .int .i64 x.at_] 3 _ hB1
  have HG3 : Hid (SliceC WntC 7 (w.heap.size + 3) ((((w1.setCell ⟨w.heap.size + 1 + 1, 3, none⟩ (.slice (some ⟨g3, 0, none⟩) x.wants.length x.wants.length)).setCell ⟨w.heap.size + 1 + 1, 4, none⟩ (.string x.hold)).setCell ⟨w.heap.size + 1 + 1, 5, none⟩ (.string x.copy)).setCell ⟨w.heap.size + 1 + 1, 6, none⟩ (.int .i64 x.at_)) (some ⟨g3, 0, none⟩) x.wants) := HN3.out.keep WntC.holds (Keeps.setCells (b := w.heap.size + 1 + 1) (by omega) [.slice (some ⟨g3, 0, none⟩) x.wants.length x.wants.length, .string x.hold, .string x.copy, .int .i64 x.at_] 3 _) (Nat.le_refl _)
  clear ko1_3 fo1_3 ko1_4 fo1_4 ko1_5 fo1_5 ko1_6 fo1_6 ka1_4 ka1_5 ka1_6 HPR HTO HTR hz1 hB1 HN3 hg3'
  generalize ((((w1.setCell ⟨w.heap.size + 1 + 1, 3, none⟩ (.slice (some ⟨g3, 0, none⟩) x.wants.length x.wants.length)).setCell ⟨w.heap.size + 1 + 1, 4, none⟩ (.string x.hold)).setCell ⟨w.heap.size + 1 + 1, 5, none⟩ (.string x.copy)).setCell ⟨w.heap.size + 1 + 1, 6, none⟩ (.int .i64 x.at_)) = w9 at *
  obtain ⟨w10, hw10⟩ : ∃ w', w' = w9.setCells (w.heap.size + 1) 0 [.int .i64 x.kind, .string x.berth, .int .i64 x.seen, .slice (some ⟨g3, 0, none⟩) x.wants.length x.wants.length, .string x.hold, .string x.copy, .int .i64 x.at_] := ⟨_, rfl⟩
  have HR10 : Hid (w10.rangeAt (w.heap.size + 1) 0 [.int .i64 x.kind, .string x.berth, .int .i64 x.seen, .slice (some ⟨g3, 0, none⟩) x.wants.length x.wants.length, .string x.hold, .string x.copy, .int .i64 x.at_]) := by rw [hw10]; exact World.rangeAt_setCells_same _ _ _ _ HTG.out
  have HB10 : Hid (Below w.heap.size w w10) := by rw [hw10]; exact below_setCells (by omega) _ _ _ HBG.out
  have HS3 : Hid (SliceC WntC 7 w.heap.size w10 (some ⟨g3, 0, none⟩) x.wants) := by rw [hw10]; exact HG3.out.keep WntC.holds (Keeps.setCells (by omega) _ _ _) (by omega)
  have HW10 : Hid (w10 = w9.setCells (w.heap.size + 1) 0 [.int .i64 x.kind, .string x.berth, .int .i64 x.seen, .slice (some ⟨g3, 0, none⟩) x.wants.length x.wants.length, .string x.hold, .string x.copy, .int .i64 x.at_]) := hw10
  clear hw10 HBG HG3
  go_wp2_with (first | (refine wpList_load_mid rfl 39 _ rfl (w.heap.size + 1 + 1) 0 rfl [.int .i64 x.kind, .string x.berth, .int .i64 x.seen, .slice (some ⟨g3, 0, none⟩) x.wants.length x.wants.length, .string x.hold, .string x.copy, .int .i64 x.at_] _ HRG.out Tryz.underlying39 rfl isz_Pcl ?_) | (refine wpList_store_to rfl 39 _ _ rfl (w.heap.size + 1) 0 #[.int .i64 x.kind, .string x.berth, .int .i64 x.seen, .slice (some ⟨g3, 0, none⟩) x.wants.length x.wants.length, .string x.hold, .string x.copy, .int .i64 x.at_] rfl rfl HTG.out isz_Pcl (by simp [Value.oneCell']) w10 HW10.out ?_))
  exact bodyPost_ret (results_cell_mid rfl _ _ (w.heap.size + 1) [.int .i64 x.kind, .string x.berth, .int .i64 x.seen, .slice (some ⟨g3, 0, none⟩) x.wants.length x.wants.length, .string x.hold, .string x.copy, .int .i64 x.at_] _ rfl HR10.out Tryz.underlying39 rfl isz_Pcl) rfl ⟨g3, rfl, HS3.out, HB10.out⟩

set_option maxHeartbeats 2000000 in
theorem eqPcl_any (x : Pcl) (a3 : Option Addr) (c3 : Nat) (a3p : Option Addr) (c3p : Nat) (lo lo' : Nat) (w : World) (n3 : SliceC WntC 7 lo w a3 x.wants) (p3 : SliceC WntC 7 lo' w a3p x.wants) (hsm : wPcl x ≤ 1048576) :
    Calls Tryz.prog 12 #[.agg #[.int .i64 x.kind, .string x.berth, .int .i64 x.seen, .slice a3 x.wants.length c3, .string x.hold, .string x.copy, .int .i64 x.at_], .agg #[.int .i64 x.kind, .string x.berth, .int .i64 x.seen, .slice a3p x.wants.length c3p, .string x.hold, .string x.copy, .int .i64 x.at_]] w fun e w' => e = .returned (.bool true) ∧ Below w.heap.size w w' := by
  have N3 : Hid (SliceC WntC 7 lo w a3 x.wants) := n3
  have P3 : Hid (SliceC WntC 7 lo' w a3p x.wants) := p3
  have M3 : wS wWnt x.wants ≤ 1048576 := by unfold wPcl at hsm; omega
  clear hsm n3 p3
  go_enter Tryz.func12, Tryz.ntmps12
  go_wp2_with fail
  refine (eqWntS_any x.wants a3 a3p c3 c3p lo lo' _ (N3.out.below WntC.holds (B := w.heap.size) (by go_grown) (Nat.le_refl _)) (P3.out.below WntC.holds (B := w.heap.size) (by go_grown) (Nat.le_refl _)) M3).mono ?_
  rintro e w1 ⟨rfl, hb1⟩
  have hB1 : Below w.heap.size w w1 := (show Below w.heap.size w _ by go_grown).trans (hb1.mono (by simp; omega))
  have k1_4 : w1.cell? ⟨w.heap.size, 4, none⟩ = some (.string x.hold) := (hb1.cell (p := ⟨w.heap.size, 4, none⟩) (by simp; omega)).trans (by simp)
  have l1_4 : w1.cell? ⟨w.heap.size + 1, 4, none⟩ = some (.string x.hold) := (hb1.cell (p := ⟨w.heap.size + 1, 4, none⟩) (by simp)).trans (by simp)
  have k1_5 : w1.cell? ⟨w.heap.size, 5, none⟩ = some (.string x.copy) := (hb1.cell (p := ⟨w.heap.size, 5, none⟩) (by simp; omega)).trans (by simp)
  have l1_5 : w1.cell? ⟨w.heap.size + 1, 5, none⟩ = some (.string x.copy) := (hb1.cell (p := ⟨w.heap.size + 1, 5, none⟩) (by simp)).trans (by simp)
  have k1_6 : w1.cell? ⟨w.heap.size, 6, none⟩ = some (.int .i64 x.at_) := (hb1.cell (p := ⟨w.heap.size, 6, none⟩) (by simp; omega)).trans (by simp)
  have l1_6 : w1.cell? ⟨w.heap.size + 1, 6, none⟩ = some (.int .i64 x.at_) := (hb1.cell (p := ⟨w.heap.size + 1, 6, none⟩) (by simp)).trans (by simp)
  have hs1 : w.heap.size + 1 < w1.heap.size := by have := hb1.size; simp at this; omega
  clear hb1
  go_wp2_with fail
  go_ret
  exact ⟨rfl, hB1⟩

theorem info_Pcl : (Tryz.prog.info? 39).map (fun i => (i.zero, i.size, i.bytes)) = some (some (.agg #[.int .i64 0, .string ⟨#[]⟩, .int .i64 0, .slice none 0 0, .string ⟨#[]⟩, .string ⟨#[]⟩, .int .i64 0]), 7, 96) := by kernel_rfl

set_option maxHeartbeats 2000000 in
theorem eqPclS_any (xs : List Pcl) (a a' : Option Addr) (cap cap' lo lo' : Nat) (w : World) (hg : SliceC PclC 7 lo w a xs) (hh : SliceC PclC 7 lo' w a' xs) (hsm : wS wPcl xs ≤ 1048576) :
    Calls Tryz.prog 18 #[.slice a xs.length cap, .slice a' xs.length cap'] w fun e w' => e = .returned (.bool true) ∧ Below w.heap.size w w' := by
  have hlen : xs.length ≤ 1048576 := Nat.le_trans wS_len hsm
  have HG : Hid (SliceC PclC 7 lo w a xs) := hg
  have HH : Hid (SliceC PclC 7 lo' w a' xs) := hh
  have HSM : Hid (wS wPcl xs ≤ 1048576) := hsm
  clear hg hh hsm
  go_enter Tryz.func18, Tryz.ntmps18
  go_wp2_with fail
  go_loopw [5] (fun i wr => ∃ (k : Nat), k ≤ xs.length ∧ i = .int .i64 k ∧ Below w.heap.size w wr) (fun i _ => xs.length - (intOf i).toNat)
  case atStart => exact ⟨0, Nat.zero_le _, rfl, Below.refl _ _⟩
  case round =>
    obtain ⟨k, hk, rfl, hbel⟩ := hrel
    by_cases hlt : k < xs.length
    · obtain ⟨x, hx⟩ : ∃ x, xs[k]? = some x := ⟨xs[k], List.getElem?_eq_getElem hlt⟩
      obtain ⟨b, o, rfl, _, _, hc⟩ := (HG.out.below PclC.holds hbel (Nat.le_refl _)).at hx
      obtain ⟨b', o', rfl, _, _, hc'⟩ := (HH.out.below PclC.holds hbel (Nat.le_refl _)).at hx
      obtain ⟨a3, c3, q0, q1, q2, q3, q4, q5, q6, _, _, _, n3⟩ := hc
      obtain ⟨a3p, c3p, r0, r1, r2, r3, r4, r5, r6, _, _, _, p3⟩ := hc'
      simp only [Nat.add_zero] at q0 q1 q2 q3 q4 q5 q6 r0 r1 r2 r3 r4 r5 r6
      have hwx : wPcl x ≤ 1048576 := Nat.le_trans (wS_mem (List.mem_of_getElem? hx)) HSM.out
      have k0 := cell_regrown q0
      have l0 := cell_regrown r0
      have k1 := cell_regrown q1
      have l1 := cell_regrown r1
      have k2 := cell_regrown q2
      have l2 := cell_regrown r2
      have k3 := cell_regrown q3
      have l3 := cell_regrown r3
      have k4 := cell_regrown q4
      have l4 := cell_regrown r4
      have k5 := cell_regrown q5
      have l5 := cell_regrown r5
      have k6 := cell_regrown q6
      have l6 := cell_regrown r6
      have cE : ∀ d os, Calls Tryz.prog 12 #[.agg #[.int .i64 x.kind, .string x.berth, .int .i64 x.seen, .slice a3 x.wants.length c3, .string x.hold, .string x.copy, .int .i64 x.at_], .agg #[.int .i64 x.kind, .string x.berth, .int .i64 x.seen, .slice a3p x.wants.length c3p, .string x.hold, .string x.copy, .int .i64 x.at_]] (Sort.grow (redrawn wr d) os) fun e w'' => e = .returned (.bool true) ∧ ∃ p : Regrown, w'' = Sort.grow (redrawn wr p.d) p.os := fun d os => Calls.regrown_of (eqPcl_any x a3 c3 a3p c3p lo lo' _ (n3.below WntC.holds (below_regrown wr d os) (Nat.le_refl _)) (p3.below WntC.holds (below_regrown wr d os) (Nat.le_refl _)) hwx)
      have i0 : (0 : Int) ≤ (k : Int) := by omega
      have i1 : (k : Int) < (xs.length : Int) := by omega
      clear hx q0 q1 q2 q3 q4 q5 q6 r0 r1 r2 r3 r4 r5 r6 n3 p3 hwx
      go_wp2_with fail
      refine wp_region_quiet_below (by kernel_rfl) (by kernel_rfl) ?_
      repeat (quiet_step (first | exact cE _ _))
      refine wpQuiet_nil ?_
      intro _ hw'
      obtain ⟨⟨dq, osq⟩, hw''⟩ := hw'
      have hB := hbel.trans ((below_regrown wr dq osq).mono hbel.size)
      simp only [] at hw''
      rw [← hw''] at hB
      clear hw'' cE k0 l0 k1 l1 k2 l2 k3 l3 k4 l4 k5 l5 k6 l6
      go_wp2_with fail
      go_roundw
      case rel => exact ⟨k + 1, by omega, by go_num, hB⟩
      case measure => simp [intOf]; omega
    · go_wp2_with fail
      go_ret
      exact ⟨rfl, hbel⟩

end Go.Proofs.YtlangcodelcncaaGreat
