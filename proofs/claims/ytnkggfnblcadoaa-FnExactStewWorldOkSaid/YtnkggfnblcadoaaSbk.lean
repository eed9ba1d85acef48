/-
  Walks over StewBook: sizes, copies, equality. Made by mk.py.
-/
import Derived.Test.YtnkggfnblcadoaaSsv
import Derived.Test.YtnkggfnblcadoaaScp
import Derived.Test.YtnkggfnblcadoaaSbt
namespace Go.Proofs.Ytnkggfnblcadoaa
open Go.RowKit

structure Sbk where
  now : Int
  services : List Ssv
  copies : List Scp
  berths : List Sbt

def wSbk (x : Sbk) : Nat := (wS wSsv x.services) + (wS wScp x.copies) + (wS wSbt x.berths)

/-- what its cells hold -/
def SbkC : Make Sbk := fun lo w f x => ∃ (a1 : Option Addr) (c1 : Nat) (a2 : Option Addr) (c2 : Nat) (a3 : Option Addr) (c3 : Nat), f 0 = some (.int .i64 x.now) ∧ f 1 = some (.slice a1 x.services.length c1) ∧ f 2 = some (.slice a2 x.copies.length c2) ∧ f 3 = some (.slice a3 x.berths.length c3) ∧ SliceC SsvC 13 lo w a1 x.services ∧ SliceC ScpC 7 lo w a2 x.copies ∧ SliceC SbtC 2 lo w a3 x.berths

theorem SbkC.holds : Holds SbkC 4 := by
  rintro lo lo' w w' f g x h k hl ⟨a1, c1, a2, c2, a3, c3, q0, q1, q2, q3, n1, n2, n3⟩
  exact ⟨a1, c1, a2, c2, a3, c3, (h 0 (by omega)).trans q0, (h 1 (by omega)).trans q1, (h 2 (by omega)).trans q2, (h 3 (by omega)).trans q3, n1.keep SsvC.holds k hl, n2.keep ScpC.holds k hl, n3.keep SbtC.holds k hl⟩

set_option maxHeartbeats 1000000 in
theorem szSbk_any (x : Sbk) (a1 : Option Addr) (c1 : Nat) (a2 : Option Addr) (c2 : Nat) (a3 : Option Addr) (c3 : Nat) (lo : Nat) (L : Int) (w : World)  (n1 : SliceC SsvC 13 lo w a1 x.services) (n2 : SliceC ScpC 7 lo w a2 x.copies) (n3 : SliceC SbtC 2 lo w a3 x.berths) (h0 : 0 ≤ L) (h1 : L ≤ 1048576) :
    Calls Try.prog 10 #[.agg #[.int .i64 x.now, .slice a1 x.services.length c1, .slice a2 x.copies.length c2, .slice a3 x.berths.length c3], .int .i64 L] w fun e w' => e = .returned (.int .i64 (szR (wSbk x) L)) ∧ Below w.heap.size w w' := by
  have N1 : Hid (SliceC SsvC 13 lo w a1 x.services) := n1
  have N2 : Hid (SliceC ScpC 7 lo w a2 x.copies) := n2
  have N3 : Hid (SliceC SbtC 2 lo w a3 x.berths) := n3
  clear n1 n2 n3
  have HW : Hid (wSbk x = (wS wSsv x.services) + (wS wScp x.copies) + (wS wSbt x.berths)) := rfl
  generalize wSbk x = W at *
  go_enter Try.func10, Try.ntmps10
  go_wp2_with fail
  refine (szSsvS_any x.services a1 c1 lo _ _ (N1.out.below SsvC.holds (B := w.heap.size) (by go_grown) (Nat.le_refl _)) (by omega) (by omega)).mono ?_
  rintro e w1 ⟨rfl, hb1⟩
  have hB1 : Below w.heap.size w w1 := (show Below w.heap.size w _ by go_grown).trans (hb1.mono (by simp))
  have k1_2 : w1.cell? ⟨w.heap.size, 2, none⟩ = some (.slice a2 x.copies.length c2) := (hb1.cell (p := ⟨w.heap.size, 2, none⟩) (by simp)).trans (by simp)
  have k1_3 : w1.cell? ⟨w.heap.size, 3, none⟩ = some (.slice a3 x.berths.length c3) := (hb1.cell (p := ⟨w.heap.size, 3, none⟩) (by simp)).trans (by simp)
  have hs1 : w.heap.size < w1.heap.size := by have := hb1.size; simp at this; omega
  clear hb1
  by_cases d1 : (((wS wSsv x.services) : Nat) : Int) ≤ L
  · rw [szR_pos d1]
    go_wp2_with fail
    refine (szScpS_any x.copies a2 c2 lo _ _ (N2.out.below ScpC.holds (B := w.heap.size) (hB1) (Nat.le_refl _)) (by omega) (by omega)).mono ?_
    rintro e w2 ⟨rfl, hb2⟩
    have hB2 : Below w.heap.size w w2 := hB1.trans (hb2.mono (by omega))
    have k2_3 : w2.cell? ⟨w.heap.size, 3, none⟩ = some (.slice a3 x.berths.length c3) := (hb2.cell (p := ⟨w.heap.size, 3, none⟩) hs1).trans k1_3
    have hs2 : w.heap.size < w2.heap.size := by have := hb2.size; omega
    clear hb2 hB1 hs1 k1_2 k1_3
    by_cases d2 : (((wS wScp x.copies) : Nat) : Int) ≤ L - ((wS wSsv x.services) : Nat)
    · rw [szR_pos d2]
      go_wp2_with fail
      refine (szSbtS_any x.berths a3 c3 lo _ _ (N3.out.below SbtC.holds (B := w.heap.size) (hB2) (Nat.le_refl _)) (by omega) (by omega)).mono ?_
      rintro e w3 ⟨rfl, hb3⟩
      have hB3 : Below w.heap.size w w3 := hB2.trans (hb3.mono (by omega))
      have hs3 : w.heap.size < w3.heap.size := by have := hb3.size; omega
      clear hb3 hB2 hs2 k2_3
      by_cases d3 : (((wS wSbt x.berths) : Nat) : Int) ≤ L - ((wS wSsv x.services) : Nat) - ((wS wScp x.copies) : Nat)
      · rw [szR_pos d3]
        go_wp2_with fail
        go_ret
        exact ⟨ret_int (by have := HW.out; unfold szR; rw [if_pos (by omega)]; omega), hB3⟩
      · rw [szR_neg d3]
        go_wp2_with fail
        go_ret
        exact ⟨ret_int (by have := HW.out; unfold szR; rw [if_neg (by omega)]), hB3⟩
    · rw [szR_neg d2]
      go_wp2_with fail
      go_ret
      exact ⟨ret_int (by have := HW.out; unfold szR; rw [if_neg (by omega)]), hB2⟩
  · rw [szR_neg d1]
    go_wp2_with fail
    go_ret
    exact ⟨ret_int (by have := HW.out; unfold szR; rw [if_neg (by omega)]), hB1⟩

theorem isz_Sbk : (Try.prog.info? 37).map (·.size) = some 4 := by kernel_rfl

set_option maxHeartbeats 2000000 in
theorem toSbk_any (x : Sbk) (a1 : Option Addr) (c1 : Nat) (a2 : Option Addr) (c2 : Nat) (a3 : Option Addr) (c3 : Nat) (lo : Nat) (w : World) (n1 : SliceC SsvC 13 lo w a1 x.services) (n2 : SliceC ScpC 7 lo w a2 x.copies) (n3 : SliceC SbtC 2 lo w a3 x.berths) (hsm : wSbk x ≤ 1048576) :
    Calls Try.prog 13 #[.agg #[.int .i64 x.now, .slice a1 x.services.length c1, .slice a2 x.copies.length c2, .slice a3 x.berths.length c3]] w fun e w' => ∃ g1 g2 g3, e = .returned (.agg #[.int .i64 x.now, .slice (some ⟨g1, 0, none⟩) x.services.length x.services.length, .slice (some ⟨g2, 0, none⟩) x.copies.length x.copies.length, .slice (some ⟨g3, 0, none⟩) x.berths.length x.berths.length]) ∧ SliceC SsvC 13 w.heap.size w' (some ⟨g1, 0, none⟩) x.services ∧ SliceC ScpC 7 w.heap.size w' (some ⟨g2, 0, none⟩) x.copies ∧ SliceC SbtC 2 w.heap.size w' (some ⟨g3, 0, none⟩) x.berths ∧ Below w.heap.size w w' := by
  have N1 : Hid (SliceC SsvC 13 lo w a1 x.services) := n1
  have M1 : wS wSsv x.services ≤ 1048576 := by unfold wSbk at hsm; omega
  have N2 : Hid (SliceC ScpC 7 lo w a2 x.copies) := n2
  have M2 : wS wScp x.copies ≤ 1048576 := by unfold wSbk at hsm; omega
  have N3 : Hid (SliceC SbtC 2 lo w a3 x.berths) := n3
  have M3 : wS wSbt x.berths ≤ 1048576 := by unfold wSbk at hsm; omega
  clear hsm n1 n2 n3
  go_enter Try.func13, Try.ntmps13
  go_wp2_with fail
  refine (toSsvS_any x.services a1 c1 lo _ (N1.out.below SsvC.holds (B := w.heap.size) (by go_grown) (Nat.le_refl _)) M1).mono ?_
  rintro e w1 ⟨g1, rfl, hg1, hn1, hb1⟩
  have hz1 : w.heap.size + 1 + 1 < w1.heap.size := by have := hb1.size; simp at this; omega
  have ko1_0 : w1.cell? ⟨w.heap.size + 1 + 1, 0, none⟩ = some (.int .i64 x.now) := (hb1.cell (p := ⟨w.heap.size + 1 + 1, 0, none⟩) (by first | (simp; done) | (simp; omega))).trans (by simp [go_sem])
  have fo1_0 : w1.frozen? ⟨w.heap.size + 1 + 1, 0, none⟩ = false := (hb1.frozen (p := ⟨w.heap.size + 1 + 1, 0, none⟩) (by first | (simp; done) | (simp; omega))).trans (by simp [go_sem])
  have kr1_0 : w1.cell? ⟨w.heap.size + 1, 0, none⟩ = some (.int .i64 0) := (hb1.cell (p := ⟨w.heap.size + 1, 0, none⟩) (by first | (simp; done) | (simp; omega))).trans (by simp [go_sem])
  have fr1_0 : w1.frozen? ⟨w.heap.size + 1, 0, none⟩ = false := (hb1.frozen (p := ⟨w.heap.size + 1, 0, none⟩) (by first | (simp; done) | (simp; omega))).trans (by simp [go_sem])
  have ko1_1 : w1.cell? ⟨w.heap.size + 1 + 1, 1, none⟩ = some (.slice none 0 0) := (hb1.cell (p := ⟨w.heap.size + 1 + 1, 1, none⟩) (by first | (simp; done) | (simp; omega))).trans (by simp [go_sem])
  have fo1_1 : w1.frozen? ⟨w.heap.size + 1 + 1, 1, none⟩ = false := (hb1.frozen (p := ⟨w.heap.size + 1 + 1, 1, none⟩) (by first | (simp; done) | (simp; omega))).trans (by simp [go_sem])
  have kr1_1 : w1.cell? ⟨w.heap.size + 1, 1, none⟩ = some (.slice none 0 0) := (hb1.cell (p := ⟨w.heap.size + 1, 1, none⟩) (by first | (simp; done) | (simp; omega))).trans (by simp [go_sem])
  have fr1_1 : w1.frozen? ⟨w.heap.size + 1, 1, none⟩ = false := (hb1.frozen (p := ⟨w.heap.size + 1, 1, none⟩) (by first | (simp; done) | (simp; omega))).trans (by simp [go_sem])
  have ka1_2 : w1.cell? ⟨w.heap.size, 2, none⟩ = some (.slice a2 x.copies.length c2) := (hb1.cell (p := ⟨w.heap.size, 2, none⟩) (by first | (simp; done) | (simp; omega))).trans (by simp [go_sem])
  have ko1_2 : w1.cell? ⟨w.heap.size + 1 + 1, 2, none⟩ = some (.slice none 0 0) := (hb1.cell (p := ⟨w.heap.size + 1 + 1, 2, none⟩) (by first | (simp; done) | (simp; omega))).trans (by simp [go_sem])
  have fo1_2 : w1.frozen? ⟨w.heap.size + 1 + 1, 2, none⟩ = false := (hb1.frozen (p := ⟨w.heap.size + 1 + 1, 2, none⟩) (by first | (simp; done) | (simp; omega))).trans (by simp [go_sem])
  have kr1_2 : w1.cell? ⟨w.heap.size + 1, 2, none⟩ = some (.slice none 0 0) := (hb1.cell (p := ⟨w.heap.size + 1, 2, none⟩) (by first | (simp; done) | (simp; omega))).trans (by simp [go_sem])
  have fr1_2 : w1.frozen? ⟨w.heap.size + 1, 2, none⟩ = false := (hb1.frozen (p := ⟨w.heap.size + 1, 2, none⟩) (by first | (simp; done) | (simp; omega))).trans (by simp [go_sem])
  have ka1_3 : w1.cell? ⟨w.heap.size, 3, none⟩ = some (.slice a3 x.berths.length c3) := (hb1.cell (p := ⟨w.heap.size, 3, none⟩) (by first | (simp; done) | (simp; omega))).trans (by simp [go_sem])
  have ko1_3 : w1.cell? ⟨w.heap.size + 1 + 1, 3, none⟩ = some (.slice none 0 0) := (hb1.cell (p := ⟨w.heap.size + 1 + 1, 3, none⟩) (by first | (simp; done) | (simp; omega))).trans (by simp [go_sem])
  have fo1_3 : w1.frozen? ⟨w.heap.size + 1 + 1, 3, none⟩ = false := (hb1.frozen (p := ⟨w.heap.size + 1 + 1, 3, none⟩) (by first | (simp; done) | (simp; omega))).trans (by simp [go_sem])
  have kr1_3 : w1.cell? ⟨w.heap.size + 1, 3, none⟩ = some (.slice none 0 0) := (hb1.cell (p := ⟨w.heap.size + 1, 3, none⟩) (by first | (simp; done) | (simp; omega))).trans (by simp [go_sem])
  have fr1_3 : w1.frozen? ⟨w.heap.size + 1, 3, none⟩ = false := (hb1.frozen (p := ⟨w.heap.size + 1, 3, none⟩) (by first | (simp; done) | (simp; omega))).trans (by simp [go_sem])
  have hg1' : w.heap.size + 1 + 1 < g1 := by simp at hg1; omega
  have hB1 : Below w.heap.size w w1 := (show Below w.heap.size w _ by go_grown).trans (hb1.mono (by first | (simp; done) | (simp; omega)))
  have HN1 : Hid (SliceC SsvC 13 (w.heap.size + 3) w1 (some ⟨g1, 0, none⟩) x.services) := hn1.keep SsvC.holds (Keeps.refl _ _) (by first | (simp; done) | (simp; omega))
  clear hn1 hb1 hg1
  go_wp2_with fail
  refine (toScpS_any x.copies a2 c2 lo _ (N2.out.below ScpC.holds (B := w.heap.size) (by go_grown) (Nat.le_refl _)) M2).mono ?_
  rintro e w2 ⟨g2, rfl, hg2, hn2, hb2⟩
  have hz2 : w.heap.size + 1 + 1 < w2.heap.size := by have := hb2.size; simp at this; omega
  have ko2_0 : w2.cell? ⟨w.heap.size + 1 + 1, 0, none⟩ = some (.int .i64 x.now) := (hb2.cell (p := ⟨w.heap.size + 1 + 1, 0, none⟩) (by first | (simp; done) | (simp; omega))).trans (by simp [go_sem, ko1_0])
  have fo2_0 : w2.frozen? ⟨w.heap.size + 1 + 1, 0, none⟩ = false := (hb2.frozen (p := ⟨w.heap.size + 1 + 1, 0, none⟩) (by first | (simp; done) | (simp; omega))).trans (by simp [go_sem, fo1_0])
  have kr2_0 : w2.cell? ⟨w.heap.size + 1, 0, none⟩ = some (.int .i64 0) := (hb2.cell (p := ⟨w.heap.size + 1, 0, none⟩) (by first | (simp; done) | (simp; omega))).trans (by simp [go_sem, kr1_0])
  have fr2_0 : w2.frozen? ⟨w.heap.size + 1, 0, none⟩ = false := (hb2.frozen (p := ⟨w.heap.size + 1, 0, none⟩) (by first | (simp; done) | (simp; omega))).trans (by simp [go_sem, fr1_0])
  have ko2_1 : w2.cell? ⟨w.heap.size + 1 + 1, 1, none⟩ = some (.slice (some ⟨g1, 0, none⟩) x.services.length x.services.length) := (hb2.cell (p := ⟨w.heap.size + 1 + 1, 1, none⟩) (by first | (simp; done) | (simp; omega))).trans (by simp [go_sem, ko1_1])
  have fo2_1 : w2.frozen? ⟨w.heap.size + 1 + 1, 1, none⟩ = false := (hb2.frozen (p := ⟨w.heap.size + 1 + 1, 1, none⟩) (by first | (simp; done) | (simp; omega))).trans (by simp [go_sem, fo1_1])
  have kr2_1 : w2.cell? ⟨w.heap.size + 1, 1, none⟩ = some (.slice none 0 0) := (hb2.cell (p := ⟨w.heap.size + 1, 1, none⟩) (by first | (simp; done) | (simp; omega))).trans (by simp [go_sem, kr1_1])
  have fr2_1 : w2.frozen? ⟨w.heap.size + 1, 1, none⟩ = false := (hb2.frozen (p := ⟨w.heap.size + 1, 1, none⟩) (by first | (simp; done) | (simp; omega))).trans (by simp [go_sem, fr1_1])
  have ko2_2 : w2.cell? ⟨w.heap.size + 1 + 1, 2, none⟩ = some (.slice none 0 0) := (hb2.cell (p := ⟨w.heap.size + 1 + 1, 2, none⟩) (by first | (simp; done) | (simp; omega))).trans (by simp [go_sem, ko1_2])
  have fo2_2 : w2.frozen? ⟨w.heap.size + 1 + 1, 2, none⟩ = false := (hb2.frozen (p := ⟨w.heap.size + 1 + 1, 2, none⟩) (by first | (simp; done) | (simp; omega))).trans (by simp [go_sem, fo1_2])
  have kr2_2 : w2.cell? ⟨w.heap.size + 1, 2, none⟩ = some (.slice none 0 0) := (hb2.cell (p := ⟨w.heap.size + 1, 2, none⟩) (by first | (simp; done) | (simp; omega))).trans (by simp [go_sem, kr1_2])
  have fr2_2 : w2.frozen? ⟨w.heap.size + 1, 2, none⟩ = false := (hb2.frozen (p := ⟨w.heap.size + 1, 2, none⟩) (by first | (simp; done) | (simp; omega))).trans (by simp [go_sem, fr1_2])
  have ka2_3 : w2.cell? ⟨w.heap.size, 3, none⟩ = some (.slice a3 x.berths.length c3) := (hb2.cell (p := ⟨w.heap.size, 3, none⟩) (by first | (simp; done) | (simp; omega))).trans (by simp [go_sem, ka1_3])
  have ko2_3 : w2.cell? ⟨w.heap.size + 1 + 1, 3, none⟩ = some (.slice none 0 0) := (hb2.cell (p := ⟨w.heap.size + 1 + 1, 3, none⟩) (by first | (simp; done) | (simp; omega))).trans (by simp [go_sem, ko1_3])
  have fo2_3 : w2.frozen? ⟨w.heap.size + 1 + 1, 3, none⟩ = false := (hb2.frozen (p := ⟨w.heap.size + 1 + 1, 3, none⟩) (by first | (simp; done) | (simp; omega))).trans (by simp [go_sem, fo1_3])
  have kr2_3 : w2.cell? ⟨w.heap.size + 1, 3, none⟩ = some (.slice none 0 0) := (hb2.cell (p := ⟨w.heap.size + 1, 3, none⟩) (by first | (simp; done) | (simp; omega))).trans (by simp [go_sem, kr1_3])
  have fr2_3 : w2.frozen? ⟨w.heap.size + 1, 3, none⟩ = false := (hb2.frozen (p := ⟨w.heap.size + 1, 3, none⟩) (by first | (simp; done) | (simp; omega))).trans (by simp [go_sem, fr1_3])
  have hg2' : w.heap.size + 1 + 1 < g2 := by simp at hg2; omega
  have hB2 : Below w.heap.size w w2 := (show Below w.heap.size w _ by go_grown).trans (hb2.mono (by first | (simp; done) | (simp; omega)))
  have HN2 : Hid (SliceC ScpC 7 (w.heap.size + 3) w2 (some ⟨g2, 0, none⟩) x.copies) := hn2.keep ScpC.holds (Keeps.refl _ _) (by first | (simp; done) | (simp; omega))
  have HN1' : Hid (SliceC SsvC 13 (w.heap.size + 3) w2 (some ⟨g1, 0, none⟩) x.services) := HN1.out.keep SsvC.holds (Keeps.trans (by repeat (first | exact Keeps.refl _ _ | refine Keeps.trans ?_ (Keeps.set (by first | (simp; done) | (simp; omega)) _))) (Keeps.of_below hb2 (Nat.le_refl _) _)) (Nat.le_refl _)
  clear HN1
  have HN1 := HN1'
  clear HN1'
  clear hn2 hb2 hg2
  go_wp2_with fail
  refine (toSbtS_any x.berths a3 c3 lo _ (N3.out.below SbtC.holds (B := w.heap.size) (by go_grown) (Nat.le_refl _)) M3).mono ?_
  rintro e w3 ⟨g3, rfl, hg3, hn3, hb3⟩
  have hz3 : w.heap.size + 1 + 1 < w3.heap.size := by have := hb3.size; simp at this; omega
  have ko3_0 : w3.cell? ⟨w.heap.size + 1 + 1, 0, none⟩ = some (.int .i64 x.now) := (hb3.cell (p := ⟨w.heap.size + 1 + 1, 0, none⟩) (by first | (simp; done) | (simp; omega))).trans (by simp [go_sem, ko2_0])
  have fo3_0 : w3.frozen? ⟨w.heap.size + 1 + 1, 0, none⟩ = false := (hb3.frozen (p := ⟨w.heap.size + 1 + 1, 0, none⟩) (by first | (simp; done) | (simp; omega))).trans (by simp [go_sem, fo2_0])
  have kr3_0 : w3.cell? ⟨w.heap.size + 1, 0, none⟩ = some (.int .i64 0) := (hb3.cell (p := ⟨w.heap.size + 1, 0, none⟩) (by first | (simp; done) | (simp; omega))).trans (by simp [go_sem, kr2_0])
  have fr3_0 : w3.frozen? ⟨w.heap.size + 1, 0, none⟩ = false := (hb3.frozen (p := ⟨w.heap.size + 1, 0, none⟩) (by first | (simp; done) | (simp; omega))).trans (by simp [go_sem, fr2_0])
  have ko3_1 : w3.cell? ⟨w.heap.size + 1 + 1, 1, none⟩ = some (.slice (some ⟨g1, 0, none⟩) x.services.length x.services.length) := (hb3.cell (p := ⟨w.heap.size + 1 + 1, 1, none⟩) (by first | (simp; done) | (simp; omega))).trans (by simp [go_sem, ko2_1])
  have fo3_1 : w3.frozen? ⟨w.heap.size + 1 + 1, 1, none⟩ = false := (hb3.frozen (p := ⟨w.heap.size + 1 + 1, 1, none⟩) (by first | (simp; done) | (simp; omega))).trans (by simp [go_sem, fo2_1])
  have kr3_1 : w3.cell? ⟨w.heap.size + 1, 1, none⟩ = some (.slice none 0 0) := (hb3.cell (p := ⟨w.heap.size + 1, 1, none⟩) (by first | (simp; done) | (simp; omega))).trans (by simp [go_sem, kr2_1])
  have fr3_1 : w3.frozen? ⟨w.heap.size + 1, 1, none⟩ = false := (hb3.frozen (p := ⟨w.heap.size + 1, 1, none⟩) (by first | (simp; done) | (simp; omega))).trans (by simp [go_sem, fr2_1])
  have ko3_2 : w3.cell? ⟨w.heap.size + 1 + 1, 2, none⟩ = some (.slice (some ⟨g2, 0, none⟩) x.copies.length x.copies.length) := (hb3.cell (p := ⟨w.heap.size + 1 + 1, 2, none⟩) (by first | (simp; done) | (simp; omega))).trans (by simp [go_sem, ko2_2])
  have fo3_2 : w3.frozen? ⟨w.heap.size + 1 + 1, 2, none⟩ = false := (hb3.frozen (p := ⟨w.heap.size + 1 + 1, 2, none⟩) (by first | (simp; done) | (simp; omega))).trans (by simp [go_sem, fo2_2])
  have kr3_2 : w3.cell? ⟨w.heap.size + 1, 2, none⟩ = some (.slice none 0 0) := (hb3.cell (p := ⟨w.heap.size + 1, 2, none⟩) (by first | (simp; done) | (simp; omega))).trans (by simp [go_sem, kr2_2])
  have fr3_2 : w3.frozen? ⟨w.heap.size + 1, 2, none⟩ = false := (hb3.frozen (p := ⟨w.heap.size + 1, 2, none⟩) (by first | (simp; done) | (simp; omega))).trans (by simp [go_sem, fr2_2])
  have ko3_3 : w3.cell? ⟨w.heap.size + 1 + 1, 3, none⟩ = some (.slice none 0 0) := (hb3.cell (p := ⟨w.heap.size + 1 + 1, 3, none⟩) (by first | (simp; done) | (simp; omega))).trans (by simp [go_sem, ko2_3])
  have fo3_3 : w3.frozen? ⟨w.heap.size + 1 + 1, 3, none⟩ = false := (hb3.frozen (p := ⟨w.heap.size + 1 + 1, 3, none⟩) (by first | (simp; done) | (simp; omega))).trans (by simp [go_sem, fo2_3])
  have kr3_3 : w3.cell? ⟨w.heap.size + 1, 3, none⟩ = some (.slice none 0 0) := (hb3.cell (p := ⟨w.heap.size + 1, 3, none⟩) (by first | (simp; done) | (simp; omega))).trans (by simp [go_sem, kr2_3])
  have fr3_3 : w3.frozen? ⟨w.heap.size + 1, 3, none⟩ = false := (hb3.frozen (p := ⟨w.heap.size + 1, 3, none⟩) (by first | (simp; done) | (simp; omega))).trans (by simp [go_sem, fr2_3])
  have hg3' : w.heap.size + 1 + 1 < g3 := by simp at hg3; omega
  have hB3 : Below w.heap.size w w3 := (show Below w.heap.size w _ by go_grown).trans (hb3.mono (by first | (simp; done) | (simp; omega)))
  have HN3 : Hid (SliceC SbtC 2 (w.heap.size + 3) w3 (some ⟨g3, 0, none⟩) x.berths) := hn3.keep SbtC.holds (Keeps.refl _ _) (by first | (simp; done) | (simp; omega))
  have HN1' : Hid (SliceC SsvC 13 (w.heap.size + 3) w3 (some ⟨g1, 0, none⟩) x.services) := HN1.out.keep SsvC.holds (Keeps.trans (by repeat (first | exact Keeps.refl _ _ | refine Keeps.trans ?_ (Keeps.set (by first | (simp; done) | (simp; omega)) _))) (Keeps.of_below hb3 (Nat.le_refl _) _)) (Nat.le_refl _)
  clear HN1
  have HN1 := HN1'
  clear HN1'
  have HN2' : Hid (SliceC ScpC 7 (w.heap.size + 3) w3 (some ⟨g2, 0, none⟩) x.copies) := HN2.out.keep ScpC.holds (Keeps.trans (by repeat (first | exact Keeps.refl _ _ | refine Keeps.trans ?_ (Keeps.set (by first | (simp; done) | (simp; omega)) _))) (Keeps.of_below hb3 (Nat.le_refl _) _)) (Nat.le_refl _)
  clear HN2
  have HN2 := HN2'
  clear HN2'
  clear hn3 hb3 hg3
  have HPR : Hid (w3.rangeAt (w.heap.size + 1 + 1) 0 [.int .i64 x.now, .slice (some ⟨g1, 0, none⟩) x.services.length x.services.length, .slice (some ⟨g2, 0, none⟩) x.copies.length x.copies.length]) := range_cons ko3_0 (range_cons ko3_1 (range_cons ko3_2 (range_nil _ _ _)))
  have HTO : Hid (w3.there (w.heap.size + 1 + 1) 3 1) := there_cons ko3_3 fo3_3 (there_nil _ _ _)
  have HTR : Hid (w3.there (w.heap.size + 1) 0 4) := there_cons kr3_0 fr3_0 (there_cons kr3_1 fr3_1 (there_cons kr3_2 fr3_2 (there_cons kr3_3 fr3_3 (there_nil _ _ _))))
  clear kr3_0 fr3_0 kr3_1 fr3_1 kr3_2 fr3_2 kr3_3 fr3_3 ko3_0 fo3_0 ko3_1 fo3_1 ko3_2 fo3_2
  go_upto_region 6 with fail
  have HRG : Hid (World.rangeAt (w3.setCell ⟨w.heap.size + 1 + 1, 3, none⟩ (.slice (some ⟨g3, 0, none⟩) x.berths.length x.berths.length)) (w.heap.size + 1 + 1) 0 [.int .i64 x.now, .slice (some ⟨g1, 0, none⟩) x.services.length x.services.length, .slice (some ⟨g2, 0, none⟩) x.copies.length x.copies.length, .slice (some ⟨g3, 0, none⟩) x.berths.length x.berths.length]) := range_join (vs := [.slice (some ⟨g3, 0, none⟩) x.berths.length x.berths.length]) HPR.out rfl HTO.out
  have HTG : Hid (World.there (w3.setCell ⟨w.heap.size + 1 + 1, 3, none⟩ (.slice (some ⟨g3, 0, none⟩) x.berths.length x.berths.length)) (w.heap.size + 1) 0 4) := World.there_setCells HTR.out (w.heap.size + 1 + 1) 3 [.slice (some ⟨g3, 0, none⟩) x.berths.length x.berths.length]
  have HBG : Hid (Below w.heap.size w (w3.setCell ⟨w.heap.size + 1 + 1, 3, none⟩ (.slice (some ⟨g3, 0, none⟩) x.berths.length x.berths.length))) := below_setCells (b := w.heap.size + 1 + 1) (by omega) [.slice (some ⟨g3, 0, none⟩) x.berths.length x.berths.length] 3 _ hB3
  have HG1 : Hid (SliceC SsvC 13 (w.heap.size + 3) (w3.setCell ⟨w.heap.size + 1 + 1, 3, none⟩ (.slice (some ⟨g3, 0, none⟩) x.berths.length x.berths.length)) (some ⟨g1, 0, none⟩) x.services) := HN1.out.keep SsvC.holds (Keeps.setCells (b := w.heap.size + 1 + 1) (by omega) [.slice (some ⟨g3, 0, none⟩) x.berths.length x.berths.length] 3 _) (Nat.le_refl _)
  have HG2 : Hid (SliceC ScpC 7 (w.heap.size + 3) (w3.setCell ⟨w.heap.size + 1 + 1, 3, none⟩ (.slice (some ⟨g3, 0, none⟩) x.berths.length x.berths.length)) (some ⟨g2, 0, none⟩) x.copies) := HN2.out.keep ScpC.holds (Keeps.setCells (b := w.heap.size + 1 + 1) (by omega) [.slice (some ⟨g3, 0, none⟩) x.berths.length x.berths.length] 3 _) (Nat.le_refl _)
  have HG3 : Hid (SliceC SbtC 2 (w.heap.size + 3) (w3.setCell ⟨w.heap.size + 1 + 1, 3, none⟩ (.slice (some ⟨g3, 0, none⟩) x.berths.length x.berths.length)) (some ⟨g3, 0, none⟩) x.berths) := HN3.out.keep SbtC.holds (Keeps.setCells (b := w.heap.size + 1 + 1) (by omega) [.slice (some ⟨g3, 0, none⟩) x.berths.length x.berths.length] 3 _) (Nat.le_refl _)
  clear ko3_3 fo3_3  HPR HTO HTR hz3 hB3 HN1 hg1' HN2 hg2' HN3 hg3'
  generalize (w3.setCell ⟨w.heap.size + 1 + 1, 3, none⟩ (.slice (some ⟨g3, 0, none⟩) x.berths.length x.berths.length)) = w9 at *
  obtain ⟨w10, hw10⟩ : ∃ w', w' = w9.setCells (w.heap.size + 1) 0 [.int .i64 x.now, .slice (some ⟨g1, 0, none⟩) x.services.length x.services.length, .slice (some ⟨g2, 0, none⟩) x.copies.length x.copies.length, .slice (some ⟨g3, 0, none⟩) x.berths.length x.berths.length] := ⟨_, rfl⟩
  have HR10 : Hid (w10.rangeAt (w.heap.size + 1) 0 [.int .i64 x.now, .slice (some ⟨g1, 0, none⟩) x.services.length x.services.length, .slice (some ⟨g2, 0, none⟩) x.copies.length x.copies.length, .slice (some ⟨g3, 0, none⟩) x.berths.length x.berths.length]) := by rw [hw10]; exact World.rangeAt_setCells_same _ _ _ _ HTG.out
  have HB10 : Hid (Below w.heap.size w w10) := by rw [hw10]; exact below_setCells (by omega) _ _ _ HBG.out
  have HS1 : Hid (SliceC SsvC 13 w.heap.size w10 (some ⟨g1, 0, none⟩) x.services) := by rw [hw10]; exact HG1.out.keep SsvC.holds (Keeps.setCells (by omega) _ _ _) (by omega)
  have HS2 : Hid (SliceC ScpC 7 w.heap.size w10 (some ⟨g2, 0, none⟩) x.copies) := by rw [hw10]; exact HG2.out.keep ScpC.holds (Keeps.setCells (by omega) _ _ _) (by omega)
  have HS3 : Hid (SliceC SbtC 2 w.heap.size w10 (some ⟨g3, 0, none⟩) x.berths) := by rw [hw10]; exact HG3.out.keep SbtC.holds (Keeps.setCells (by omega) _ _ _) (by omega)
  have HW10 : Hid (w10 = w9.setCells (w.heap.size + 1) 0 [.int .i64 x.now, .slice (some ⟨g1, 0, none⟩) x.services.length x.services.length, .slice (some ⟨g2, 0, none⟩) x.copies.length x.copies.length, .slice (some ⟨g3, 0, none⟩) x.berths.length x.berths.length]) := hw10
  clear hw10 HBG HG1 HG2 HG3
  go_wp2_with (first | (refine wpList_load_mid rfl 37 _ rfl (w.heap.size + 1 + 1) 0 rfl [.int .i64 x.now, .slice (some ⟨g1, 0, none⟩) x.services.length x.services.length, .slice (some ⟨g2, 0, none⟩) x.copies.length x.copies.length, .slice (some ⟨g3, 0, none⟩) x.berths.length x.berths.length] _ HRG.out Try.underlying37 rfl isz_Sbk ?_) | (refine wpList_store_to rfl 37 _ _ rfl (w.heap.size + 1) 0 #[.int .i64 x.now, .slice (some ⟨g1, 0, none⟩) x.services.length x.services.length, .slice (some ⟨g2, 0, none⟩) x.copies.length x.copies.length, .slice (some ⟨g3, 0, none⟩) x.berths.length x.berths.length] rfl rfl HTG.out isz_Sbk (by simp [Value.oneCell']) w10 HW10.out ?_))
  exact bodyPost_ret (results_cell_mid rfl _ _ (w.heap.size + 1) [.int .i64 x.now, .slice (some ⟨g1, 0, none⟩) x.services.length x.services.length, .slice (some ⟨g2, 0, none⟩) x.copies.length x.copies.length, .slice (some ⟨g3, 0, none⟩) x.berths.length x.berths.length] _ rfl HR10.out Try.underlying37 rfl isz_Sbk) rfl ⟨g1, g2, g3, rfl, HS1.out, HS2.out, HS3.out, HB10.out⟩

set_option maxHeartbeats 2000000 in
theorem eqSbk_any (x : Sbk) (a1 : Option Addr) (c1 : Nat) (a2 : Option Addr) (c2 : Nat) (a3 : Option Addr) (c3 : Nat) (a1p : Option Addr) (c1p : Nat) (a2p : Option Addr) (c2p : Nat) (a3p : Option Addr) (c3p : Nat) (lo lo' : Nat) (w : World) (n1 : SliceC SsvC 13 lo w a1 x.services) (n2 : SliceC ScpC 7 lo w a2 x.copies) (n3 : SliceC SbtC 2 lo w a3 x.berths) (p1 : SliceC SsvC 13 lo' w a1p x.services) (p2 : SliceC ScpC 7 lo' w a2p x.copies) (p3 : SliceC SbtC 2 lo' w a3p x.berths) (hsm : wSbk x ≤ 1048576) :
    Calls Try.prog 17 #[.agg #[.int .i64 x.now, .slice a1 x.services.length c1, .slice a2 x.copies.length c2, .slice a3 x.berths.length c3], .agg #[.int .i64 x.now, .slice a1p x.services.length c1p, .slice a2p x.copies.length c2p, .slice a3p x.berths.length c3p]] w fun e w' => e = .returned (.bool true) ∧ Below w.heap.size w w' := by
  have N1 : Hid (SliceC SsvC 13 lo w a1 x.services) := n1
  have P1 : Hid (SliceC SsvC 13 lo' w a1p x.services) := p1
  have M1 : wS wSsv x.services ≤ 1048576 := by unfold wSbk at hsm; omega
  have N2 : Hid (SliceC ScpC 7 lo w a2 x.copies) := n2
  have P2 : Hid (SliceC ScpC 7 lo' w a2p x.copies) := p2
  have M2 : wS wScp x.copies ≤ 1048576 := by unfold wSbk at hsm; omega
  have N3 : Hid (SliceC SbtC 2 lo w a3 x.berths) := n3
  have P3 : Hid (SliceC SbtC 2 lo' w a3p x.berths) := p3
  have M3 : wS wSbt x.berths ≤ 1048576 := by unfold wSbk at hsm; omega
  clear hsm n1 p1 n2 p2 n3 p3
  go_enter Try.func17, Try.ntmps17
  go_wp2_with fail
  refine (eqSsvS_any x.services a1 a1p c1 c1p lo lo' _ (N1.out.below SsvC.holds (B := w.heap.size) (by go_grown) (Nat.le_refl _)) (P1.out.below SsvC.holds (B := w.heap.size) (by go_grown) (Nat.le_refl _)) M1).mono ?_
  rintro e w1 ⟨rfl, hb1⟩
  have hB1 : Below w.heap.size w w1 := (show Below w.heap.size w _ by go_grown).trans (hb1.mono (by simp; omega))
  have k1_2 : w1.cell? ⟨w.heap.size, 2, none⟩ = some (.slice a2 x.copies.length c2) := (hb1.cell (p := ⟨w.heap.size, 2, none⟩) (by simp; omega)).trans (by simp)
  have l1_2 : w1.cell? ⟨w.heap.size + 1, 2, none⟩ = some (.slice a2p x.copies.length c2p) := (hb1.cell (p := ⟨w.heap.size + 1, 2, none⟩) (by simp)).trans (by simp)
  have k1_3 : w1.cell? ⟨w.heap.size, 3, none⟩ = some (.slice a3 x.berths.length c3) := (hb1.cell (p := ⟨w.heap.size, 3, none⟩) (by simp; omega)).trans (by simp)
  have l1_3 : w1.cell? ⟨w.heap.size + 1, 3, none⟩ = some (.slice a3p x.berths.length c3p) := (hb1.cell (p := ⟨w.heap.size + 1, 3, none⟩) (by simp)).trans (by simp)
  have hs1 : w.heap.size + 1 < w1.heap.size := by have := hb1.size; simp at this; omega
  clear hb1
  go_wp2_with fail
  refine (eqScpS_any x.copies a2 a2p c2 c2p lo lo' _ (N2.out.below ScpC.holds (B := w.heap.size) (hB1) (Nat.le_refl _)) (P2.out.below ScpC.holds (B := w.heap.size) (hB1) (Nat.le_refl _)) M2).mono ?_
  rintro e w2 ⟨rfl, hb2⟩
  have hB2 : Below w.heap.size w w2 := hB1.trans (hb2.mono (by omega))
  have k2_3 : w2.cell? ⟨w.heap.size, 3, none⟩ = some (.slice a3 x.berths.length c3) := (hb2.cell (p := ⟨w.heap.size, 3, none⟩) (show w.heap.size < w1.heap.size by omega)).trans k1_3
  have l2_3 : w2.cell? ⟨w.heap.size + 1, 3, none⟩ = some (.slice a3p x.berths.length c3p) := (hb2.cell (p := ⟨w.heap.size + 1, 3, none⟩) hs1).trans l1_3
  have hs2 : w.heap.size + 1 < w2.heap.size := by have := hb2.size; omega
  clear hb2 hB1 hs1 k1_2 l1_2 k1_3 l1_3
  go_wp2_with fail
  refine (eqSbtS_any x.berths a3 a3p c3 c3p lo lo' _ (N3.out.below SbtC.holds (B := w.heap.size) (hB2) (Nat.le_refl _)) (P3.out.below SbtC.holds (B := w.heap.size) (hB2) (Nat.le_refl _)) M3).mono ?_
  rintro e w3 ⟨rfl, hb3⟩
  have hB3 : Below w.heap.size w w3 := hB2.trans (hb3.mono (by omega))
  have hs3 : w.heap.size + 1 < w3.heap.size := by have := hb3.size; omega
  clear hb3 hB2 hs2 k2_3 l2_3
  go_wp2_with fail
  go_ret
  exact ⟨rfl, hB3⟩

set_option maxHeartbeats 1000000 in
theorem szSbkS_any (xs : List Sbk) (a : Option Addr) (cap lo : Nat) (L : Int) (w : World) (hin : SliceC SbkC 4 lo w a xs) (h0 : 0 ≤ L) (h1 : L ≤ 1048576) :
    Calls Try.prog 9 #[.slice a xs.length cap, .int .i64 L] w fun e w' => e = .returned (.int .i64 (szR (wS wSbk xs) L)) ∧ Below w.heap.size w w' := by
  have hlen := hin.1
  unfold maxLen at hlen
  have HI : Hid (SliceC SbkC 4 lo w a xs) := hin
  clear hin
  have HW : Hid (wS wSbk xs = xs.length + (xs.map wSbk).sum) := rfl
  generalize wS wSbk xs = W at *
  by_cases c1 : L - xs.length < 0
  · go_enter Try.func9, Try.ntmps9
    go_wp2_with fail
    go_ret
    exact ⟨ret_int (by have := HW.out; unfold szR; rw [if_neg (by omega)]), Below.refl _ _⟩
  · go_enter Try.func9, Try.ntmps9
    go_wp2_with fail
    go_loopw [1, 5] (fun l i wr => ∃ (k : Nat) (M : Int), k ≤ xs.length ∧ i = .int .i64 k ∧ l = .int .i64 M ∧ 0 ≤ M ∧ M ≤ 1048576 ∧ Hid (M = L - xs.length - ((xs.take k).map wSbk).sum) ∧ Below w.heap.size w wr) (fun _ i _ => xs.length - (intOf i).toNat)
    case atStart => exact ⟨0, _, Nat.zero_le _, rfl, rfl, by omega, by omega, by show _ = _; simp, Below.refl _ _⟩
    case round =>
      obtain ⟨k, M, hk, rfl, rfl, hM0, hM1, hM, hbel⟩ := hrel
      by_cases hlt : k < xs.length
      · obtain ⟨x, hx⟩ : ∃ x, xs[k]? = some x := ⟨xs[k], List.getElem?_eq_getElem hlt⟩
        obtain ⟨b, o, rfl, _, _, hc⟩ := (HI.out.below SbkC.holds hbel (Nat.le_refl _)).at hx
        obtain ⟨a1, c1, a2, c2, a3, c3, q0, q1, q2, q3, n1, n2, n3⟩ := hc
        simp only [Nat.add_zero] at q0 q1 q2 q3
        have HX : Hid (((xs.take (k + 1)).map wSbk).sum = ((xs.take k).map wSbk).sum + wSbk x) := sum_take _ _ _ _ hx
        have HY : Hid (((xs.take (k + 1)).map wSbk).sum ≤ (xs.map wSbk).sum) := sum_take_le _ _ _
        have CT := szSbk_any x a1 c1 a2 c2 a3 c3 lo M wr n1 n2 n3 hM0 hM1
        have HCT := Hid.intro CT
        clear hx CT
        by_cases hr : (wSbk x : Int) ≤ M
        · rw [szR_pos hr] at HCT
          generalize hV : wSbk x = V at *
          clear hV
          go_wp2_with fail
          refine HCT.out.mono ?_
          rintro e w1 ⟨rfl, hb1⟩
          clear HCT
          go_wp2_with fail
          go_roundw
          case rel =>
            refine ⟨k + 1, M - V, by omega, by go_num, rfl, by omega, by omega, ?_, hbel.trans (hb1.mono hbel.size)⟩
            have := hM.out
            have := HX.out
            show _ = _
            omega
          case measure => simp [intOf]; omega
        · rw [szR_neg hr] at HCT
          generalize hV : wSbk x = V at *
          clear hV
          go_wp2_with fail
          refine HCT.out.mono ?_
          rintro e w1 ⟨rfl, hb1⟩
          clear HCT
          go_wp2_with fail
          go_ret
          refine ⟨ret_int ?_, hbel.trans (hb1.mono hbel.size)⟩
          have := HW.out
          have := HX.out
          have := HY.out
          have := hM.out
          unfold szR
          rw [if_neg (by omega)]
      · go_wp2_with fail
        go_ret
        refine ⟨ret_int ?_, hbel⟩
        have hke : k = xs.length := by omega
        subst hke
        have h3 := hM.out
        have h4 := HW.out
        simp only [List.take_length] at h3
        unfold szR
        rw [if_pos (by omega)]
        omega

theorem info_Sbk : (Try.prog.info? 37).map (fun i => (i.zero, i.size, i.bytes)) = some (some (.agg #[.int .i64 0, .slice none 0 0, .slice none 0 0, .slice none 0 0]), 4, 80) := by kernel_rfl

set_option maxHeartbeats 2000000 in
theorem toSbkS_any (xs : List Sbk) (a : Option Addr) (cap lo : Nat) (w : World) (hin : SliceC SbkC 4 lo w a xs) (hsm : wS wSbk xs ≤ 1048576) :
    Calls Try.prog 12 #[.slice a xs.length cap] w fun e w' => ∃ g, e = .returned (.slice (some ⟨g, 0, none⟩) xs.length xs.length) ∧ w.heap.size ≤ g ∧ SliceC SbkC 4 w.heap.size w' (some ⟨g, 0, none⟩) xs ∧ Below w.heap.size w w' := by
  obtain ⟨i0, hi, hz0, hz1, hz2⟩ := info_parts info_Sbk
  have hlen : xs.length ≤ 1048576 := Nat.le_trans wS_len hsm
  have HI : Hid (SliceC SbkC 4 lo w a xs) := hin
  have HSM : Hid (wS wSbk xs ≤ 1048576) := hsm
  clear hin hsm
  go_enter Try.func12, Try.ntmps12
  go_wp2_with (at_make; refine wpList_make_full _ rfl _ _ 32 rfl w.heap.size 37 i0 _ 4 Try.underlying32 hi hz0 hz1 .i64 .i64 _ _ xs.length rfl rfl rfl rfl (by rw [hz2]; omega) (by unfold maxLen; omega) (Nat.le_refl _) ?_; intro w1 hown hgrow)
  have hb1 : Below w.heap.size w w1 := (Below.refl _ _).grown hgrow (Nat.le_refl _) (fun k h => by cases h)
  have hsz1 := (hown.lt w.heap.size rfl).2
  generalize hX : (madeCells _ (xs.length * 4)).toList = xs0 at hown
  clear hX hgrow hi hz0 hz1 hz2
  go_loopw [4] (fun i wr => ∃ (k : Nat) (cs : List Value), k ≤ xs.length ∧ i = .int .i64 k ∧ w.heap.size < wr.heap.size ∧ wr.ownsRow w.heap.size 37 4 (.slice (some ⟨w.heap.size, 0, none⟩) xs.length xs.length) xs.length cs ∧ RowC SbkC 4 (w.heap.size + 1) wr cs xs k ∧ Below w.heap.size w wr) (fun i _ => xs.length - (intOf i).toNat)
  case atStart => exact ⟨0, xs0, Nat.zero_le _, rfl, hsz1, hown, fun j n h => by omega, hb1⟩
  case round =>
    clear hown hb1 hsz1
    obtain ⟨k, cs, hk, rfl, hszr, hown, hfil, hbel⟩ := hrel
    by_cases hlt : k < xs.length
    · obtain ⟨x, hx⟩ : ∃ x, xs[k]? = some x := ⟨xs[k], List.getElem?_eq_getElem hlt⟩
      obtain ⟨b, o, rfl, _, _, hc⟩ := (HI.out.below SbkC.holds hbel (Nat.le_refl _)).at hx
      obtain ⟨a1, c1, a2, c2, a3, c3, q0, q1, q2, q3, n1, n2, n3⟩ := hc
      simp only [Nat.add_zero] at q0 q1 q2 q3
      have HN : Hid (xs[k]? = some x) := hx
      have hwx : wSbk x ≤ 1048576 := Nat.le_trans (wS_mem (List.mem_of_getElem? hx)) HSM.out
      have HO : Hid (wr.ownsRow w.heap.size 37 4 (.slice (some ⟨w.heap.size, 0, none⟩) xs.length xs.length) xs.length cs) := hown
      have HF : Hid (RowC SbkC 4 (w.heap.size + 1) wr cs xs k) := hfil
      have HS : Hid (w.heap.size < wr.heap.size) := hszr
      have CT := toSbk_any x a1 c1 a2 c2 a3 c3 lo wr n1 n2 n3 hwx
      have HCT := Hid.intro CT
      clear hx hown hfil CT hszr
      go_wp2_with fail
      refine HCT.out.mono ?_
      rintro e w2 ⟨g1, g2, g3, rfl, m1, m2, m3, hb2⟩
      clear HCT q0 q1 q2 q3 n1 n2 n3
      have ho2 := ownsRow_below HO.out hb2
      have HB2 : Hid (Below w.heap.size w w2) := hbel.trans (hb2.mono hbel.size)
      have HF2 : Hid (RowC SbkC 4 (w.heap.size + 1) w2 cs xs k) := HF.out.keep SbkC.holds (Keeps.of_below hb2 (Nat.le_refl _) _)
      have hs2 : Hid (w.heap.size < w2.heap.size) := Nat.lt_of_lt_of_le HS.out hb2.size
      have HR : Hid (SbkC (w.heap.size + 1) w2 (fun i => ([.int .i64 x.now, .slice (some ⟨g1, 0, none⟩) x.services.length x.services.length, .slice (some ⟨g2, 0, none⟩) x.copies.length x.copies.length, .slice (some ⟨g3, 0, none⟩) x.berths.length x.berths.length] : List Value)[i]?) x) := ⟨_, _, _, _, _, _, rfl, rfl, rfl, rfl, m1.keep SsvC.holds (Keeps.refl _ _) (by have := hbel.size; have := HS.out; omega), m2.keep ScpC.holds (Keeps.refl _ _) (by have := hbel.size; have := HS.out; omega), m3.keep SbtC.holds (Keeps.refl _ _) (by have := hbel.size; have := HS.out; omega)⟩
      have hxl : cs.length = xs.length * 4 := ho2.1
      have HT : Hid (w2.there w.heap.size (k * 4) 4) := ownsRow_there ho2 (by omega)
      have HL : Hid (cs.length = xs.length * 4) := hxl
      have HO2 : Hid (w2.ownsRow w.heap.size 37 4 (.slice (some ⟨w.heap.size, 0, none⟩) xs.length xs.length) xs.length cs) := ho2
      clear hxl ho2 HO hb2 hwx m1 m2 m3
      obtain ⟨w3, hw3⟩ : ∃ w', w' = w2.setCells w.heap.size (k * 4) [.int .i64 x.now, .slice (some ⟨g1, 0, none⟩) x.services.length x.services.length, .slice (some ⟨g2, 0, none⟩) x.copies.length x.copies.length, .slice (some ⟨g3, 0, none⟩) x.berths.length x.berths.length] := ⟨_, rfl⟩
      have HW3 : Hid (w3 = w2.setCells w.heap.size (k * 4) [.int .i64 x.now, .slice (some ⟨g1, 0, none⟩) x.services.length x.services.length, .slice (some ⟨g2, 0, none⟩) x.copies.length x.copies.length, .slice (some ⟨g3, 0, none⟩) x.berths.length x.berths.length]) := hw3
      have HS3 : Hid (w.heap.size < w3.heap.size) := by rw [hw3, size_setCells]; exact hs2
      have HO3 : Hid (w3.ownsRow w.heap.size 37 4 (.slice (some ⟨w.heap.size, 0, none⟩) xs.length xs.length) xs.length (setRun cs (k * 4) [.int .i64 x.now, .slice (some ⟨g1, 0, none⟩) x.services.length x.services.length, .slice (some ⟨g2, 0, none⟩) x.copies.length x.copies.length, .slice (some ⟨g3, 0, none⟩) x.berths.length x.berths.length])) := by rw [hw3]; exact ownsRow_run _ _ _ _ HO2.out
      have HB3 : Hid (Below w.heap.size w w3) := by rw [hw3]; exact below_setCells (Nat.le_refl _) _ _ _ HB2.out
      have HR3 : Hid (RowC SbkC 4 (w.heap.size + 1) w3 (setRun cs (k * 4) [.int .i64 x.now, .slice (some ⟨g1, 0, none⟩) x.services.length x.services.length, .slice (some ⟨g2, 0, none⟩) x.copies.length x.copies.length, .slice (some ⟨g3, 0, none⟩) x.berths.length x.berths.length]) xs (k + 1)) := by
        rw [hw3]
        exact (HF2.out.step (vs := [.int .i64 x.now, .slice (some ⟨g1, 0, none⟩) x.services.length x.services.length, .slice (some ⟨g2, 0, none⟩) x.copies.length x.copies.length, .slice (some ⟨g3, 0, none⟩) x.berths.length x.berths.length]) SbkC.holds HN.out rfl (by have := HL.out; omega) HR.out).keep SbkC.holds (Keeps.setCells (by omega) _ _ _)
      clear hw3 HB2 HF2 hs2 HR HL HO2
      go_wp2_with (refine wpList_store_to rfl 37 _ _ rfl w.heap.size (k * 4) #[.int .i64 x.now, .slice (some ⟨g1, 0, none⟩) x.services.length x.services.length, .slice (some ⟨g2, 0, none⟩) x.copies.length x.copies.length, .slice (some ⟨g3, 0, none⟩) x.berths.length x.berths.length] (by first | rfl | (simp [go_sem]; done)) rfl HT.out isz_Sbk (by simp [Value.oneCell']) w3 HW3.out ?_)
      go_roundw
      case rel => exact ⟨k + 1, _, by omega, by go_num, HS3.out, HO3.out, HR3.out, HB3.out⟩
      case measure => simp [intOf]; omega
    · have HO : Hid (wr.ownsRow w.heap.size 37 4 (.slice (some ⟨w.heap.size, 0, none⟩) xs.length xs.length) xs.length cs) := hown
      have HF : Hid (RowC SbkC 4 (w.heap.size + 1) wr cs xs k) := hfil
      clear hown hfil
      go_wp2_with fail
      go_ret
      have hke : k = xs.length := by omega
      subst hke
      exact ⟨_, rfl, Nat.le_refl _, sliceC_of_row HO.out HF.out SbkC.holds HI.out.1 (by omega) (Nat.le_refl _), hbel⟩

set_option maxHeartbeats 2000000 in
theorem eqSbkS_any (xs : List Sbk) (a a' : Option Addr) (cap cap' lo lo' : Nat) (w : World) (hg : SliceC SbkC 4 lo w a xs) (hh : SliceC SbkC 4 lo' w a' xs) (hsm : wS wSbk xs ≤ 1048576) :
    Calls Try.prog 16 #[.slice a xs.length cap, .slice a' xs.length cap'] w fun e w' => e = .returned (.bool true) ∧ Below w.heap.size w w' := by
  have hlen : xs.length ≤ 1048576 := Nat.le_trans wS_len hsm
  have HG : Hid (SliceC SbkC 4 lo w a xs) := hg
  have HH : Hid (SliceC SbkC 4 lo' w a' xs) := hh
  have HSM : Hid (wS wSbk xs ≤ 1048576) := hsm
  clear hg hh hsm
  go_enter Try.func16, Try.ntmps16
  go_wp2_with fail
  go_loopw [5] (fun i wr => ∃ (k : Nat), k ≤ xs.length ∧ i = .int .i64 k ∧ Below w.heap.size w wr) (fun i _ => xs.length - (intOf i).toNat)
  case atStart => exact ⟨0, Nat.zero_le _, rfl, Below.refl _ _⟩
  case round =>
    obtain ⟨k, hk, rfl, hbel⟩ := hrel
    by_cases hlt : k < xs.length
    · obtain ⟨x, hx⟩ : ∃ x, xs[k]? = some x := ⟨xs[k], List.getElem?_eq_getElem hlt⟩
      obtain ⟨b, o, rfl, _, _, hc⟩ := (HG.out.below SbkC.holds hbel (Nat.le_refl _)).at hx
      obtain ⟨b', o', rfl, _, _, hc'⟩ := (HH.out.below SbkC.holds hbel (Nat.le_refl _)).at hx
      obtain ⟨a1, c1, a2, c2, a3, c3, q0, q1, q2, q3, n1, n2, n3⟩ := hc
      obtain ⟨a1p, c1p, a2p, c2p, a3p, c3p, r0, r1, r2, r3, p1, p2, p3⟩ := hc'
      simp only [Nat.add_zero] at q0 q1 q2 q3 r0 r1 r2 r3
      have hwx : wSbk x ≤ 1048576 := Nat.le_trans (wS_mem (List.mem_of_getElem? hx)) HSM.out
      have k0 := cell_regrown q0
      have l0 := cell_regrown r0
      have k1 := cell_regrown q1
      have l1 := cell_regrown r1
      have k2 := cell_regrown q2
      have l2 := cell_regrown r2
      have k3 := cell_regrown q3
      have l3 := cell_regrown r3
      have cE : ∀ d os, Calls Try.prog 17 #[.agg #[.int .i64 x.now, .slice a1 x.services.length c1, .slice a2 x.copies.length c2, .slice a3 x.berths.length c3], .agg #[.int .i64 x.now, .slice a1p x.services.length c1p, .slice a2p x.copies.length c2p, .slice a3p x.berths.length c3p]] (Sort.grow (redrawn wr d) os) fun e w'' => e = .returned (.bool true) ∧ ∃ p : Regrown, w'' = Sort.grow (redrawn wr p.d) p.os := fun d os => Calls.regrown_of (eqSbk_any x a1 c1 a2 c2 a3 c3 a1p c1p a2p c2p a3p c3p lo lo' _ (n1.below SsvC.holds (below_regrown wr d os) (Nat.le_refl _)) (n2.below ScpC.holds (below_regrown wr d os) (Nat.le_refl _)) (n3.below SbtC.holds (below_regrown wr d os) (Nat.le_refl _)) (p1.below SsvC.holds (below_regrown wr d os) (Nat.le_refl _)) (p2.below ScpC.holds (below_regrown wr d os) (Nat.le_refl _)) (p3.below SbtC.holds (below_regrown wr d os) (Nat.le_refl _)) hwx)
      have i0 : (0 : Int) ≤ (k : Int) := by omega
      have i1 : (k : Int) < (xs.length : Int) := by omega
      clear hx q0 q1 q2 q3 r0 r1 r2 r3 n1 p1 n2 p2 n3 p3 hwx
      go_wp2_with fail
      refine wp_region_quiet_below (by kernel_rfl) (by kernel_rfl) ?_
      repeat (quiet_step (first | exact cE _ _))
      refine wpQuiet_nil ?_
      intro _ hw'
      obtain ⟨⟨dq, osq⟩, hw''⟩ := hw'
      have hB := hbel.trans ((below_regrown wr dq osq).mono hbel.size)
      simp only [] at hw''
      rw [← hw''] at hB
      clear hw'' cE k0 l0 k1 l1 k2 l2 k3 l3
      go_wp2_with fail
      go_roundw
      case rel => exact ⟨k + 1, by omega, by go_num, hB⟩
      case measure => simp [intOf]; omega
    · go_wp2_with fail
      go_ret
      exact ⟨rfl, hbel⟩

end Go.Proofs.Ytnkggfnblcadoaa
