/-
  Walks over MateLand: sizes, copies, equality. Made by mk.py.
-/
import Derived.Test.YtlcjfiikiblcdaaGreatGrt
import Derived.Test.YtlcjfiikiblcdaaGreatPlm
namespace Go.Proofs.YtlcjfiikiblcdaaGreat
open Go.RowKit

structure Lnd where
  time : Int
  grants : List Grt
  places : List Plm

def wLnd (x : Lnd) : Nat := (wS wGrt x.grants) + (wS wPlm x.places)

/-- what its cells hold -/
def LndC : Make Lnd := fun lo w f x => ∃ (a1 : Option Addr) (c1 : Nat) (a2 : Option Addr) (c2 : Nat), f 0 = some (.int .i64 x.time) ∧ f 1 = some (.slice a1 x.grants.length c1) ∧ f 2 = some (.slice a2 x.places.length c2) ∧ SliceC GrtC 5 lo w a1 x.grants ∧ SliceC PlmC 3 lo w a2 x.places

theorem LndC.holds : Holds LndC 3 := by
  rintro lo lo' w w' f g x h k hl ⟨a1, c1, a2, c2, q0, q1, q2, n1, n2⟩
  exact ⟨a1, c1, a2, c2, (h 0 (by omega)).trans q0, (h 1 (by omega)).trans q1, (h 2 (by omega)).trans q2, n1.keep GrtC.holds k hl, n2.keep PlmC.holds k hl⟩

set_option maxHeartbeats 1000000 in
theorem szLnd_any (x : Lnd) (a1 : Option Addr) (c1 : Nat) (a2 : Option Addr) (c2 : Nat) (lo : Nat) (L : Int) (w : World)  (n1 : SliceC GrtC 5 lo w a1 x.grants) (n2 : SliceC PlmC 3 lo w a2 x.places) (h0 : 0 ≤ L) (h1 : L ≤ 1048576) :
    Calls Tryz.prog 34 #[.agg #[.int .i64 x.time, .slice a1 x.grants.length c1, .slice a2 x.places.length c2], .int .i64 L] w fun e w' => e = .returned (.int .i64 (szR (wLnd x) L)) ∧ Below w.heap.size w w' := by
  have N1 : Hid (SliceC GrtC 5 lo w a1 x.grants) := n1
  have N2 : Hid (SliceC PlmC 3 lo w a2 x.places) := n2
  clear n1 n2
  have HW : Hid (wLnd x = (wS wGrt x.grants) + (wS wPlm x.places)) := rfl
  generalize wLnd x = W at *
  go_enter Tryz.func34, Tryz.ntmps34
  go_wp2_with fail
  refine (szGrtS_any x.grants a1 c1 lo _ _ (N1.out.below GrtC.holds (B := w.heap.size) (by go_grown) (Nat.le_refl _)) (by omega) (by omega)).mono ?_
  rintro e w1 ⟨rfl, hb1⟩
  have hB1 : Below w.heap.size w w1 := (show Below w.heap.size w _ by go_grown).trans (hb1.mono (by simp))
  have k1_2 : w1.cell? ⟨w.heap.size, 2, none⟩ = some (.slice a2 x.places.length c2) := (hb1.cell (p := ⟨w.heap.size, 2, none⟩) (by simp)).trans (by simp)
  have hs1 : w.heap.size < w1.heap.size := by have := hb1.size; simp at this; omega
  clear hb1
  by_cases d1 : (((wS wGrt x.grants) : Nat) : Int) ≤ L
  · rw [szR_pos d1]
    go_wp2_with fail
    refine (szPlmS_any x.places a2 c2 lo _ _ (N2.out.below PlmC.holds (B := w.heap.size) (hB1) (Nat.le_refl _)) (by omega) (by omega)).mono ?_
    rintro e w2 ⟨rfl, hb2⟩
    have hB2 : Below w.heap.size w w2 := hB1.trans (hb2.mono (by omega))
    have hs2 : w.heap.size < w2.heap.size := by have := hb2.size; omega
    clear hb2 hB1 hs1 k1_2
    by_cases d2 : (((wS wPlm x.places) : Nat) : Int) ≤ L - ((wS wGrt x.grants) : Nat)
    · rw [szR_pos d2]
      go_wp2_with fail
      go_ret
      exact ⟨ret_int (by have := HW.out; unfold szR; rw [if_pos (by omega)]; omega), hB2⟩
    · rw [szR_neg d2]
      go_wp2_with fail
      go_ret
      exact ⟨ret_int (by have := HW.out; unfold szR; rw [if_neg (by omega)]), hB2⟩
  · rw [szR_neg d1]
    go_wp2_with fail
    go_ret
    exact ⟨ret_int (by have := HW.out; unfold szR; rw [if_neg (by omega)]), hB1⟩

theorem isz_Lnd : (Tryz.prog.info? 27).map (·.size) = some 3 := by kernel_rfl

set_option maxHeartbeats 2000000 in
theorem toLnd_any (x : Lnd) (a1 : Option Addr) (c1 : Nat) (a2 : Option Addr) (c2 : Nat) (lo : Nat) (w : World) (n1 : SliceC GrtC 5 lo w a1 x.grants) (n2 : SliceC PlmC 3 lo w a2 x.places) (hsm : wLnd x ≤ 1048576) :
    Calls Tryz.prog 39 #[.agg #[.int .i64 x.time, .slice a1 x.grants.length c1, .slice a2 x.places.length c2]] w fun e w' => ∃ g1 g2, e = .returned (.agg #[.int .i64 x.time, .slice (some ⟨g1, 0, none⟩) x.grants.length x.grants.length, .slice (some ⟨g2, 0, none⟩) x.places.length x.places.length]) ∧ SliceC GrtC 5 w.heap.size w' (some ⟨g1, 0, none⟩) x.grants ∧ SliceC PlmC 3 w.heap.size w' (some ⟨g2, 0, none⟩) x.places ∧ Below w.heap.size w w' := by
  have N1 : Hid (SliceC GrtC 5 lo w a1 x.grants) := n1
  have M1 : wS wGrt x.grants ≤ 1048576 := by unfold wLnd at hsm; omega
  have N2 : Hid (SliceC PlmC 3 lo w a2 x.places) := n2
  have M2 : wS wPlm x.places ≤ 1048576 := by unfold wLnd at hsm; omega
  clear hsm n1 n2
  go_enter Tryz.func39, Tryz.ntmps39
  go_wp2_with fail
  refine (toGrtS_any x.grants a1 c1 lo _ (N1.out.below GrtC.holds (B := w.heap.size) (by go_grown) (Nat.le_refl _)) M1).mono ?_
  rintro e w1 ⟨g1, rfl, hg1, hn1, hb1⟩
  have hz1 : w.heap.size + 1 + 1 < w1.heap.size := by have := hb1.size; simp at this; omega
  have ko1_0 : w1.cell? ⟨w.heap.size + 1 + 1, 0, none⟩ = some (.int .i64 x.time) := (hb1.cell (p := ⟨w.heap.size + 1 + 1, 0, none⟩) (by first | (simp; done) | (simp; omega))).trans (by simp [go_sem])
  have fo1_0 : w1.frozen? ⟨w.heap.size + 1 + 1, 0, none⟩ = false := (hb1.frozen (p := ⟨w.heap.size + 1 + 1, 0, none⟩) (by first | (simp; done) | (simp; omega))).trans (by simp [go_sem])
  have kr1_0 : w1.cell? ⟨w.heap.size + 1, 0, none⟩ = some (.int .i64 0) := (hb1.cell (p := ⟨w.heap.size + 1, 0, none⟩) (by first | (simp; done) | (simp; omega))).trans (by simp [go_sem])
  have fr1_0 : w1.frozen? ⟨w.heap.size + 1, 0, none⟩ = false := (hb1.frozen (p := ⟨w.heap.size + 1, 0, none⟩) (by first | (simp; done) | (simp; omega))).trans (by simp [go_sem])
  have ko1_1 : w1.cell? ⟨w.heap.size + 1 + 1, 1, none⟩ = some (.slice none 0 0) := (hb1.cell (p := ⟨w.heap.size + 1 + 1, 1, none⟩) (by first | (simp; done) | (simp; omega))).trans (by simp [go_sem])
  have fo1_1 : w1.frozen? ⟨w.heap.size + 1 + 1, 1, none⟩ = false := (hb1.frozen (p := ⟨w.heap.size + 1 + 1, 1, none⟩) (by first | (simp; done) | (simp; omega))).trans (by simp [go_sem])
  have kr1_1 : w1.cell? ⟨w.heap.size + 1, 1, none⟩ = some (.slice none 0 0) := (hb1.cell (p := ⟨w.heap.size + 1, 1, none⟩) (by first | (simp; done) | (simp; omega))).trans (by simp [go_sem])
  have fr1_1 : w1.frozen? ⟨w.heap.size + 1, 1, none⟩ = false := (hb1.frozen (p := ⟨w.heap.size + 1, 1, none⟩) (by first | (simp; done) | (simp; omega))).trans (by simp [go_sem])
  have ka1_2 : w1.cell? ⟨w.heap.size, 2, none⟩ = some (.slice a2 x.places.length c2) := (hb1.cell (p := ⟨w.heap.size, 2, none⟩) (by first | (simp; done) | (simp; omega))).trans (by simp [go_sem])
  have ko1_2 : w1.cell? ⟨w.heap.size + 1 + 1, 2, none⟩ = some (.slice none 0 0) := (hb1.cell (p := ⟨w.heap.size + 1 + 1, 2, none⟩) (by first | (simp; done) | (simp; omega))).trans (by simp [go_sem])
  have fo1_2 : w1.frozen? ⟨w.heap.size + 1 + 1, 2, none⟩ = false := (hb1.frozen (p := ⟨w.heap.size + 1 + 1, 2, none⟩) (by first | (simp; done) | (simp; omega))).trans (by simp [go_sem])
  have kr1_2 : w1.cell? ⟨w.heap.size + 1, 2, none⟩ = some (.slice none 0 0) := (hb1.cell (p := ⟨w.heap.size + 1, 2, none⟩) (by first | (simp; done) | (simp; omega))).trans (by simp [go_sem])
  have fr1_2 : w1.frozen? ⟨w.heap.size + 1, 2, none⟩ = false := (hb1.frozen (p := ⟨w.heap.size + 1, 2, none⟩) (by first | (simp; done) | (simp; omega))).trans (by simp [go_sem])
  have hg1' : w.heap.size + 1 + 1 < g1 := by simp at hg1; omega
  have hB1 : Below w.heap.size w w1 := (show Below w.heap.size w _ by go_grown).trans (hb1.mono (by first | (simp; done) | (simp; omega)))
  have HN1 : Hid (SliceC GrtC 5 (w.heap.size + 3) w1 (some ⟨g1, 0, none⟩) x.grants) := hn1.keep GrtC.holds (Keeps.refl _ _) (by first | (simp; done) | (simp; omega))
  clear hn1 hb1 hg1
  go_wp2_with fail
  refine (toPlmS_any x.places a2 c2 lo _ (N2.out.below PlmC.holds (B := w.heap.size) (by go_grown) (Nat.le_refl _)) M2).mono ?_
  rintro e w2 ⟨g2, rfl, hg2, hn2, hb2⟩
  have hz2 : w.heap.size + 1 + 1 < w2.heap.size := by have := hb2.size; simp at this; omega
  have ko2_0 : w2.cell? ⟨w.heap.size + 1 + 1, 0, none⟩ = some (.int .i64 x.time) := (hb2.cell (p := ⟨w.heap.size + 1 + 1, 0, none⟩) (by first | (simp; done) | (simp; omega))).trans (by simp [go_sem, ko1_0])
  have fo2_0 : w2.frozen? ⟨w.heap.size + 1 + 1, 0, none⟩ = false := (hb2.frozen (p := ⟨w.heap.size + 1 + 1, 0, none⟩) (by first | (simp; done) | (simp; omega))).trans (by simp [go_sem, fo1_0])
  have kr2_0 : w2.cell? ⟨w.heap.size + 1, 0, none⟩ = some (.int .i64 0) := (hb2.cell (p := ⟨w.heap.size + 1, 0, none⟩) (by first | (simp; done) | (simp; omega))).trans (by simp [go_sem, kr1_0])
  have fr2_0 : w2.frozen? ⟨w.heap.size + 1, 0, none⟩ = false := (hb2.frozen (p := ⟨w.heap.size + 1, 0, none⟩) (by first | (simp; done) | (simp; omega))).trans (by simp [go_sem, fr1_0])
  have ko2_1 : w2.cell? ⟨w.heap.size + 1 + 1, 1, none⟩ = some (.slice (some ⟨g1, 0, none⟩) x.grants.length x.grants.length) := (hb2.cell (p := ⟨w.heap.size + 1 + 1, 1, none⟩) (by first | (simp; done) | (simp; omega))).trans (by simp [go_sem, ko1_1])
  have fo2_1 : w2.frozen? ⟨w.heap.size + 1 + 1, 1, none⟩ = false := (hb2.frozen (p := ⟨w.heap.size + 1 + 1, 1, none⟩) (by first | (simp; done) | (simp; omega))).trans (by simp [go_sem, fo1_1])
  have kr2_1 : w2.cell? ⟨w.heap.size + 1, 1, none⟩ = some (.slice none 0 0) := (hb2.cell (p := ⟨w.heap.size + 1, 1, none⟩) (by first | (simp; done) | (simp; omega))).trans (by simp [go_sem, kr1_1])
  have fr2_1 : w2.frozen? ⟨w.heap.size + 1, 1, none⟩ = false := (hb2.frozen (p := ⟨w.heap.size + 1, 1, none⟩) (by first | (simp; done) | (simp; omega))).trans (by simp [go_sem, fr1_1])
  have ko2_2 : w2.cell? ⟨w.heap.size + 1 + 1, 2, none⟩ = some (.slice none 0 0) := (hb2.cell (p := ⟨w.heap.size + 1 + 1, 2, none⟩) (by first | (simp; done) | (simp; omega))).trans (by simp [go_sem, ko1_2])
  have fo2_2 : w2.frozen? ⟨w.heap.size + 1 + 1, 2, none⟩ = false := (hb2.frozen (p := ⟨w.heap.size + 1 + 1, 2, none⟩) (by first | (simp; done) | (simp; omega))).trans (by simp [go_sem, fo1_2])
  have kr2_2 : w2.cell? ⟨w.heap.size + 1, 2, none⟩ = some (.slice none 0 0) := (hb2.cell (p := ⟨w.heap.size + 1, 2, none⟩) (by first | (simp; done) | (simp; omega))).trans (by simp [go_sem, kr1_2])
  have fr2_2 : w2.frozen? ⟨w.heap.size + 1, 2, none⟩ = false := (hb2.frozen (p := ⟨w.heap.size + 1, 2, none⟩) (by first | (simp; done) | (simp; omega))).trans (by simp [go_sem, fr1_2])
  have hg2' : w.heap.size + 1 + 1 < g2 := by simp at hg2; omega
  have hB2 : Below w.heap.size w w2 := (show Below w.heap.size w _ by go_grown).trans (hb2.mono (by first | (simp; done) | (simp; omega)))
  have HN2 : Hid (SliceC PlmC 3 (w.heap.size + 3) w2 (some ⟨g2, 0, none⟩) x.places) := hn2.keep PlmC.holds (Keeps.refl _ _) (by first | (simp; done) | (simp; omega))
  have HN1' : Hid (SliceC GrtC 5 (w.heap.size + 3) w2 (some ⟨g1, 0, none⟩) x.grants) := HN1.out.keep GrtC.holds (Keeps.trans (by repeat (first | exact Keeps.refl _ _ | refine Keeps.trans ?_ (Keeps.set (by first | (simp; done) | (simp; omega)) _))) (Keeps.of_below hb2 (Nat.le_refl _) _)) (Nat.le_refl _)
  clear HN1
  have HN1 := HN1'
  clear HN1'
  clear hn2 hb2 hg2
  have HPR : Hid (w2.rangeAt (w.heap.size + 1 + 1) 0 [.int .i64 x.time, .slice (some ⟨g1, 0, none⟩) x.grants.length x.grants.length]) := range_cons ko2_0 (range_cons ko2_1 (range_nil _ _ _))
  have HTO : Hid (w2.there (w.heap.size + 1 + 1) 2 1) := there_cons ko2_2 fo2_2 (there_nil _ _ _)
  have HTR : Hid (w2.there (w.heap.size + 1) 0 3) := there_cons kr2_0 fr2_0 (there_cons kr2_1 fr2_1 (there_cons kr2_2 fr2_2 (there_nil _ _ _)))
  clear kr2_0 fr2_0 kr2_1 fr2_1 kr2_2 fr2_2 ko2_0 fo2_0 ko2_1 fo2_1
  go_upto_region 5 with fail
  have HRG : Hid (World.rangeAt (w2.setCell ⟨w.heap.size + 1 + 1, 2, none⟩ (.slice (some ⟨g2, 0, none⟩) x.places.length x.places.length)) (w.heap.size + 1 + 1) 0 [.int .i64 x.time, .slice (some ⟨g1, 0, none⟩) x.grants.length x.grants.length, .slice (some ⟨g2, 0, none⟩) x.places.length x.places.length]) := range_join (vs := [.slice (some ⟨g2, 0, none⟩) x.places.length x.places.length]) HPR.out rfl HTO.out
  have HTG : Hid (World.there (w2.setCell ⟨w.heap.size + 1 + 1, 2, none⟩ (.slice (some ⟨g2, 0, none⟩) x.places.length x.places.length)) (w.heap.size + 1) 0 3) := World.there_setCells HTR.out (w.heap.size + 1 + 1) 2 [.slice (some ⟨g2, 0, none⟩) x.places.length x.places.length]
  have HBG : Hid (Below w.heap.size w (w2.setCell ⟨w.heap.size + 1 + 1, 2, none⟩ (.slice (some ⟨g2, 0, none⟩) x.places.length x.places.length))) := below_setCells (b := w.heap.size + 1 + 1) (by omega) [.slice (some ⟨g2, 0, none⟩) x.places.length x.places.length] 2 _ hB2
  have HG1 : Hid (SliceC GrtC 5 (w.heap.size + 3) (w2.setCell ⟨w.heap.size + 1 + 1, 2, none⟩ (.slice (some ⟨g2, 0, none⟩) x.places.length x.places.length)) (some ⟨g1, 0, none⟩) x.grants) := HN1.out.keep GrtC.holds (Keeps.setCells (b := w.heap.size + 1 + 1) (by omega) [.slice (some ⟨g2, 0, none⟩) x.places.length x.places.length] 2 _) (Nat.le_refl _)
  have HG2 : Hid (SliceC PlmC 3 (w.heap.size + 3) (w2.setCell ⟨w.heap.size + 1 + 1, 2, none⟩ (.slice (some ⟨g2, 0, none⟩) x.places.length x.places.length)) (some ⟨g2, 0, none⟩) x.places) := HN2.out.keep PlmC.holds (Keeps.setCells (b := w.heap.size + 1 + 1) (by omega) [.slice (some ⟨g2, 0, none⟩) x.places.length x.places.length] 2 _) (Nat.le_refl _)
  clear ko2_2 fo2_2  HPR HTO HTR hz2 hB2 HN1 hg1' HN2 hg2'
  generalize (w2.setCell ⟨w.heap.size + 1 + 1, 2, none⟩ (.slice (some ⟨g2, 0, none⟩) x.places.length x.places.length)) = w9 at *
  obtain ⟨w10, hw10⟩ : ∃ w', w' = w9.setCells (w.heap.size + 1) 0 [.int .i64 x.time, .slice (some ⟨g1, 0, none⟩) x.grants.length x.grants.length, .slice (some ⟨g2, 0, none⟩) x.places.length x.places.length] := ⟨_, rfl⟩
  have HR10 : Hid (w10.rangeAt (w.heap.size + 1) 0 [.int .i64 x.time, .slice (some ⟨g1, 0, none⟩) x.grants.length x.grants.length, .slice (some ⟨g2, 0, none⟩) x.places.length x.places.length]) := by rw [hw10]; exact World.rangeAt_setCells_same _ _ _ _ HTG.out
  have HB10 : Hid (Below w.heap.size w w10) := by rw [hw10]; exact below_setCells (by omega) _ _ _ HBG.out
  have HS1 : Hid (SliceC GrtC 5 w.heap.size w10 (some ⟨g1, 0, none⟩) x.grants) := by rw [hw10]; exact HG1.out.keep GrtC.holds (Keeps.setCells (by omega) _ _ _) (by omega)
  have HS2 : Hid (SliceC PlmC 3 w.heap.size w10 (some ⟨g2, 0, none⟩) x.places) := by rw [hw10]; exact HG2.out.keep PlmC.holds (Keeps.setCells (by omega) _ _ _) (by omega)
  have HW10 : Hid (w10 = w9.setCells (w.heap.size + 1) 0 [.int .i64 x.time, .slice (some ⟨g1, 0, none⟩) x.grants.length x.grants.length, .slice (some ⟨g2, 0, none⟩) x.places.length x.places.length]) := hw10
  clear hw10 HBG HG1 HG2
  go_wp2_with (first | (refine wpList_load_mid rfl 27 _ rfl (w.heap.size + 1 + 1) 0 rfl [.int .i64 x.time, .slice (some ⟨g1, 0, none⟩) x.grants.length x.grants.length, .slice (some ⟨g2, 0, none⟩) x.places.length x.places.length] _ HRG.out Tryz.underlying27 rfl isz_Lnd ?_) | (refine wpList_store_to rfl 27 _ _ rfl (w.heap.size + 1) 0 #[.int .i64 x.time, .slice (some ⟨g1, 0, none⟩) x.grants.length x.grants.length, .slice (some ⟨g2, 0, none⟩) x.places.length x.places.length] rfl rfl HTG.out isz_Lnd (by simp [Value.oneCell']) w10 HW10.out ?_))
  exact bodyPost_ret (results_cell_mid rfl _ _ (w.heap.size + 1) [.int .i64 x.time, .slice (some ⟨g1, 0, none⟩) x.grants.length x.grants.length, .slice (some ⟨g2, 0, none⟩) x.places.length x.places.length] _ rfl HR10.out Tryz.underlying27 rfl isz_Lnd) rfl ⟨g1, g2, rfl, HS1.out, HS2.out, HB10.out⟩

set_option maxHeartbeats 2000000 in
theorem eqLnd_any (x : Lnd) (a1 : Option Addr) (c1 : Nat) (a2 : Option Addr) (c2 : Nat) (a1p : Option Addr) (c1p : Nat) (a2p : Option Addr) (c2p : Nat) (lo lo' : Nat) (w : World) (n1 : SliceC GrtC 5 lo w a1 x.grants) (n2 : SliceC PlmC 3 lo w a2 x.places) (p1 : SliceC GrtC 5 lo' w a1p x.grants) (p2 : SliceC PlmC 3 lo' w a2p x.places) (hsm : wLnd x ≤ 1048576) :
    Calls Tryz.prog 26 #[.agg #[.int .i64 x.time, .slice a1 x.grants.length c1, .slice a2 x.places.length c2], .agg #[.int .i64 x.time, .slice a1p x.grants.length c1p, .slice a2p x.places.length c2p]] w fun e w' => e = .returned (.bool true) ∧ Below w.heap.size w w' := by
  have N1 : Hid (SliceC GrtC 5 lo w a1 x.grants) := n1
  have P1 : Hid (SliceC GrtC 5 lo' w a1p x.grants) := p1
  have M1 : wS wGrt x.grants ≤ 1048576 := by unfold wLnd at hsm; omega
  have N2 : Hid (SliceC PlmC 3 lo w a2 x.places) := n2
  have P2 : Hid (SliceC PlmC 3 lo' w a2p x.places) := p2
  have M2 : wS wPlm x.places ≤ 1048576 := by unfold wLnd at hsm; omega
  clear hsm n1 p1 n2 p2
  go_enter Tryz.func26, Tryz.ntmps26
  go_wp2_with fail
  refine (eqGrtS_any x.grants a1 a1p c1 c1p lo lo' _ (N1.out.below GrtC.holds (B := w.heap.size) (by go_grown) (Nat.le_refl _)) (P1.out.below GrtC.holds (B := w.heap.size) (by go_grown) (Nat.le_refl _)) M1).mono ?_
  rintro e w1 ⟨rfl, hb1⟩
  have hB1 : Below w.heap.size w w1 := (show Below w.heap.size w _ by go_grown).trans (hb1.mono (by simp; omega))
  have k1_2 : w1.cell? ⟨w.heap.size, 2, none⟩ = some (.slice a2 x.places.length c2) := (hb1.cell (p := ⟨w.heap.size, 2, none⟩) (by simp; omega)).trans (by simp)
  have l1_2 : w1.cell? ⟨w.heap.size + 1, 2, none⟩ = some (.slice a2p x.places.length c2p) := (hb1.cell (p := ⟨w.heap.size + 1, 2, none⟩) (by simp)).trans (by simp)
  have hs1 : w.heap.size + 1 < w1.heap.size := by have := hb1.size; simp at this; omega
  clear hb1
  go_wp2_with fail
  refine (eqPlmS_any x.places a2 a2p c2 c2p lo lo' _ (N2.out.below PlmC.holds (B := w.heap.size) (hB1) (Nat.le_refl _)) (P2.out.below PlmC.holds (B := w.heap.size) (hB1) (Nat.le_refl _)) M2).mono ?_
  rintro e w2 ⟨rfl, hb2⟩
  have hB2 : Below w.heap.size w w2 := hB1.trans (hb2.mono (by omega))
  have hs2 : w.heap.size + 1 < w2.heap.size := by have := hb2.size; omega
  clear hb2 hB1 hs1 k1_2 l1_2
  go_wp2_with fail
  go_ret
  exact ⟨rfl, hB2⟩

theorem info_Lnd : (Tryz.prog.info? 27).map (fun i => (i.zero, i.size, i.bytes)) = some (some (.agg #[.int .i64 0, .slice none 0 0, .slice none 0 0]), 3, 56) := by kernel_rfl

end Go.Proofs.YtlcjfiikiblcdaaGreat
