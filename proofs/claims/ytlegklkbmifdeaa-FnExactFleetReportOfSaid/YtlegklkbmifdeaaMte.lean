/-
  Walks over Mate: sizes, copies, equality. Made by mk.py.
-/
import Derived.Test.YtlegklkbmifdeaaRn
import Derived.Test.YtlegklkbmifdeaaAks
namespace Go.Proofs.Ytlegklkbmifdeaa
open Go.RowKit

structure Mte where
  name : ByteArray
  up : Bool
  clock : Int
  known : Bool
  seen : Int
  wants : List Wnt
  runs : List Rn
  asks : List Aks
  gives : List Aks

def wMte (x : Mte) : Nat := x.name.size + (wS wWnt x.wants) + (wS wRn x.runs) + (wS wAks x.asks) + (wS wAks x.gives)

/-- what its cells hold -/
def MteC : Make Mte := fun lo w f x => ∃ (a5 : Option Addr) (c5 : Nat) (a6 : Option Addr) (c6 : Nat) (a7 : Option Addr) (c7 : Nat) (a8 : Option Addr) (c8 : Nat), f 0 = some (.string x.name) ∧ f 1 = some (.bool x.up) ∧ f 2 = some (.int .i64 x.clock) ∧ f 3 = some (.bool x.known) ∧ f 4 = some (.int .i64 x.seen) ∧ f 5 = some (.slice a5 x.wants.length c5) ∧ f 6 = some (.slice a6 x.runs.length c6) ∧ f 7 = some (.slice a7 x.asks.length c7) ∧ f 8 = some (.slice a8 x.gives.length c8) ∧ x.name.size ≤ maxLen ∧ SliceC WntC 7 lo w a5 x.wants ∧ SliceC RnC 11 lo w a6 x.runs ∧ SliceC AksC 4 lo w a7 x.asks ∧ SliceC AksC 4 lo w a8 x.gives

theorem MteC.holds : Holds MteC 9 := by
  rintro lo lo' w w' f g x h k hl ⟨a5, c5, a6, c6, a7, c7, a8, c8, q0, q1, q2, q3, q4, q5, q6, q7, q8, z0, n5, n6, n7, n8⟩
  exact ⟨a5, c5, a6, c6, a7, c7, a8, c8, (h 0 (by omega)).trans q0, (h 1 (by omega)).trans q1, (h 2 (by omega)).trans q2, (h 3 (by omega)).trans q3, (h 4 (by omega)).trans q4, (h 5 (by omega)).trans q5, (h 6 (by omega)).trans q6, (h 7 (by omega)).trans q7, (h 8 (by omega)).trans q8, z0, n5.keep WntC.holds k hl, n6.keep RnC.holds k hl, n7.keep AksC.holds k hl, n8.keep AksC.holds k hl⟩

set_option maxHeartbeats 1000000 in
theorem szMte_any (x : Mte) (a5 : Option Addr) (c5 : Nat) (a6 : Option Addr) (c6 : Nat) (a7 : Option Addr) (c7 : Nat) (a8 : Option Addr) (c8 : Nat) (lo : Nat) (L : Int) (w : World) (z0 : x.name.size ≤ maxLen) (n5 : SliceC WntC 7 lo w a5 x.wants) (n6 : SliceC RnC 11 lo w a6 x.runs) (n7 : SliceC AksC 4 lo w a7 x.asks) (n8 : SliceC AksC 4 lo w a8 x.gives) (h0 : 0 ≤ L) (h1 : L ≤ 1048576) :
    Calls Try.prog 4 #[.agg #[.string x.name, .bool x.up, .int .i64 x.clock, .bool x.known, .int .i64 x.seen, .slice a5 x.wants.length c5, .slice a6 x.runs.length c6, .slice a7 x.asks.length c7, .slice a8 x.gives.length c8], .int .i64 L] w fun e w' => e = .returned (.int .i64 (szR (wMte x) L)) ∧ Below w.heap.size w w' := by
  unfold maxLen at z0
  have N5 : Hid (SliceC WntC 7 lo w a5 x.wants) := n5
  have N6 : Hid (SliceC RnC 11 lo w a6 x.runs) := n6
  have N7 : Hid (SliceC AksC 4 lo w a7 x.asks) := n7
  have N8 : Hid (SliceC AksC 4 lo w a8 x.gives) := n8
  clear n5 n6 n7 n8
  have HW : Hid (wMte x = x.name.size + (wS wWnt x.wants) + (wS wRn x.runs) + (wS wAks x.asks) + (wS wAks x.gives)) := rfl
  generalize wMte x = W at *
  by_cases d0 : L - (x.name.size : Nat) < 0
  · go_enter Try.func4, Try.ntmps4
    go_wp2_with fail
    go_ret
    exact ⟨ret_int (by have := HW.out; unfold szR; rw [if_neg (by omega)]), by go_grown⟩
  · skip
    go_enter Try.func4, Try.ntmps4
    go_wp2_with fail
    refine (szWntS_any x.wants a5 c5 lo _ _ (N5.out.below WntC.holds (B := w.heap.size) (by go_grown) (Nat.le_refl _)) (by omega) (by omega)).mono ?_
    rintro e w1 ⟨rfl, hb1⟩
    have hB1 : Below w.heap.size w w1 := (show Below w.heap.size w _ by go_grown).trans (hb1.mono (by simp))
    have k1_6 : w1.cell? ⟨w.heap.size, 6, none⟩ = some (.slice a6 x.runs.length c6) := (hb1.cell (p := ⟨w.heap.size, 6, none⟩) (by simp)).trans (by simp)
    have k1_7 : w1.cell? ⟨w.heap.size, 7, none⟩ = some (.slice a7 x.asks.length c7) := (hb1.cell (p := ⟨w.heap.size, 7, none⟩) (by simp)).trans (by simp)
    have k1_8 : w1.cell? ⟨w.heap.size, 8, none⟩ = some (.slice a8 x.gives.length c8) := (hb1.cell (p := ⟨w.heap.size, 8, none⟩) (by simp)).trans (by simp)
    have hs1 : w.heap.size < w1.heap.size := by have := hb1.size; simp at this; omega
    clear hb1
    by_cases d5 : (((wS wWnt x.wants) : Nat) : Int) ≤ L - (x.name.size : Nat)
    · rw [szR_pos d5]
      go_wp2_with fail
      refine (szRnS_any x.runs a6 c6 lo _ _ (N6.out.below RnC.holds (B := w.heap.size) (hB1) (Nat.le_refl _)) (by omega) (by omega)).mono ?_
      rintro e w2 ⟨rfl, hb2⟩
      have hB2 : Below w.heap.size w w2 := hB1.trans (hb2.mono (by omega))
      have k2_7 : w2.cell? ⟨w.heap.size, 7, none⟩ = some (.slice a7 x.asks.length c7) := (hb2.cell (p := ⟨w.heap.size, 7, none⟩) hs1).trans k1_7
      have k2_8 : w2.cell? ⟨w.heap.size, 8, none⟩ = some (.slice a8 x.gives.length c8) := (hb2.cell (p := ⟨w.heap.size, 8, none⟩) hs1).trans k1_8
      have hs2 : w.heap.size < w2.heap.size := by have := hb2.size; omega
      clear hb2 hB1 hs1 k1_6 k1_7 k1_8
      by_cases d6 : (((wS wRn x.runs) : Nat) : Int) ≤ L - (x.name.size : Nat) - ((wS wWnt x.wants) : Nat)
      · rw [szR_pos d6]
        go_wp2_with fail
        refine (szAksS_any x.asks a7 c7 lo _ _ (N7.out.below AksC.holds (B := w.heap.size) (hB2) (Nat.le_refl _)) (by omega) (by omega)).mono ?_
        rintro e w3 ⟨rfl, hb3⟩
        have hB3 : Below w.heap.size w w3 := hB2.trans (hb3.mono (by omega))
        have k3_8 : w3.cell? ⟨w.heap.size, 8, none⟩ = some (.slice a8 x.gives.length c8) := (hb3.cell (p := ⟨w.heap.size, 8, none⟩) hs2).trans k2_8
        have hs3 : w.heap.size < w3.heap.size := by have := hb3.size; omega
        clear hb3 hB2 hs2 k2_7 k2_8
        by_cases d7 : (((wS wAks x.asks) : Nat) : Int) ≤ L - (x.name.size : Nat) - ((wS wWnt x.wants) : Nat) - ((wS wRn x.runs) : Nat)
        · rw [szR_pos d7]
          go_wp2_with fail
          refine (szAksS_any x.gives a8 c8 lo _ _ (N8.out.below AksC.holds (B := w.heap.size) (hB3) (Nat.le_refl _)) (by omega) (by omega)).mono ?_
          rintro e w4 ⟨rfl, hb4⟩
          have hB4 : Below w.heap.size w w4 := hB3.trans (hb4.mono (by omega))
          have hs4 : w.heap.size < w4.heap.size := by have := hb4.size; omega
          clear hb4 hB3 hs3 k3_8
          by_cases d8 : (((wS wAks x.gives) : Nat) : Int) ≤ L - (x.name.size : Nat) - ((wS wWnt x.wants) : Nat) - ((wS wRn x.runs) : Nat) - ((wS wAks x.asks) : Nat)
          · rw [szR_pos d8]
            go_wp2_with fail
            go_ret
            exact ⟨ret_int (by have := HW.out; unfold szR; rw [if_pos (by omega)]; omega), hB4⟩
          · rw [szR_neg d8]
            go_wp2_with fail
            go_ret
            exact ⟨ret_int (by have := HW.out; unfold szR; rw [if_neg (by omega)]), hB4⟩
        · rw [szR_neg d7]
          go_wp2_with fail
          go_ret
          exact ⟨ret_int (by have := HW.out; unfold szR; rw [if_neg (by omega)]), hB3⟩
      · rw [szR_neg d6]
        go_wp2_with fail
        go_ret
        exact ⟨ret_int (by have := HW.out; unfold szR; rw [if_neg (by omega)]), hB2⟩
    · rw [szR_neg d5]
      go_wp2_with fail
      go_ret
      exact ⟨ret_int (by have := HW.out; unfold szR; rw [if_neg (by omega)]), hB1⟩

theorem isz_Mte : (Try.prog.info? 36).map (·.size) = some 9 := by kernel_rfl

set_option maxHeartbeats 2000000 in
theorem toMte_any (x : Mte) (a5 : Option Addr) (c5 : Nat) (a6 : Option Addr) (c6 : Nat) (a7 : Option Addr) (c7 : Nat) (a8 : Option Addr) (c8 : Nat) (lo : Nat) (w : World) (n5 : SliceC WntC 7 lo w a5 x.wants) (n6 : SliceC RnC 11 lo w a6 x.runs) (n7 : SliceC AksC 4 lo w a7 x.asks) (n8 : SliceC AksC 4 lo w a8 x.gives) (hsm : wMte x ≤ 1048576) :
    Calls Try.prog 6 #[.agg #[.string x.name, .bool x.up, .int .i64 x.clock, .bool x.known, .int .i64 x.seen, .slice a5 x.wants.length c5, .slice a6 x.runs.length c6, .slice a7 x.asks.length c7, .slice a8 x.gives.length c8]] w fun e w' => ∃ g5 g6 g7 g8, e = .returned (.agg #[.string x.name, .bool x.up, .int .i64 x.clock, .bool x.known, .int .i64 x.seen, .slice (some ⟨g5, 0, none⟩) x.wants.length x.wants.length, .slice (some ⟨g6, 0, none⟩) x.runs.length x.runs.length, .slice (some ⟨g7, 0, none⟩) x.asks.length x.asks.length, .slice (some ⟨g8, 0, none⟩) x.gives.length x.gives.length]) ∧ SliceC WntC 7 w.heap.size w' (some ⟨g5, 0, none⟩) x.wants ∧ SliceC RnC 11 w.heap.size w' (some ⟨g6, 0, none⟩) x.runs ∧ SliceC AksC 4 w.heap.size w' (some ⟨g7, 0, none⟩) x.asks ∧ SliceC AksC 4 w.heap.size w' (some ⟨g8, 0, none⟩) x.gives ∧ Below w.heap.size w w' := by
  have N5 : Hid (SliceC WntC 7 lo w a5 x.wants) := n5
  have M5 : wS wWnt x.wants ≤ 1048576 := by unfold wMte at hsm; omega
  have N6 : Hid (SliceC RnC 11 lo w a6 x.runs) := n6
  have M6 : wS wRn x.runs ≤ 1048576 := by unfold wMte at hsm; omega
  have N7 : Hid (SliceC AksC 4 lo w a7 x.asks) := n7
  have M7 : wS wAks x.asks ≤ 1048576 := by unfold wMte at hsm; omega
  have N8 : Hid (SliceC AksC 4 lo w a8 x.gives) := n8
  have M8 : wS wAks x.gives ≤ 1048576 := by unfold wMte at hsm; omega
  clear hsm n5 n6 n7 n8
  go_enter Try.func6, Try.ntmps6
  go_wp2_with fail
  refine (toWntS_any x.wants a5 c5 lo _ (N5.out.below WntC.holds (B := w.heap.size) (by go_grown) (Nat.le_refl _)) M5).mono ?_
  rintro e w1 ⟨g5, rfl, hg5, hn5, hb1⟩
  have hz1 : w.heap.size + 1 + 1 < w1.heap.size := by have := hb1.size; simp at this; omega
  have ko1_0 : w1.cell? ⟨w.heap.size + 1 + 1, 0, none⟩ = some (.string x.name) := (hb1.cell (p := ⟨w.heap.size + 1 + 1, 0, none⟩) (by first | (simp; done) | (simp; omega))).trans (by simp [go_sem])
  have fo1_0 : w1.frozen? ⟨w.heap.size + 1 + 1, 0, none⟩ = false := (hb1.frozen (p := ⟨w.heap.size + 1 + 1, 0, none⟩) (by first | (simp; done) | (simp; omega))).trans (by simp [go_sem])
  have kr1_0 : w1.cell? ⟨w.heap.size + 1, 0, none⟩ = some (.string ⟨#[]⟩) := (hb1.cell (p := ⟨w.heap.size + 1, 0, none⟩) (by first | (simp; done) | (simp; omega))).trans (by simp [go_sem])
  have fr1_0 : w1.frozen? ⟨w.heap.size + 1, 0, none⟩ = false := (hb1.frozen (p := ⟨w.heap.size + 1, 0, none⟩) (by first | (simp; done) | (simp; omega))).trans (by simp [go_sem])
  have ko1_1 : w1.cell? ⟨w.heap.size + 1 + 1, 1, none⟩ = some (.bool x.up) := (hb1.cell (p := ⟨w.heap.size + 1 + 1, 1, none⟩) (by first | (simp; done) | (simp; omega))).trans (by simp [go_sem])
  have fo1_1 : w1.frozen? ⟨w.heap.size + 1 + 1, 1, none⟩ = false := (hb1.frozen (p := ⟨w.heap.size + 1 + 1, 1, none⟩) (by first | (simp; done) | (simp; omega))).trans (by simp [go_sem])
  have kr1_1 : w1.cell? ⟨w.heap.size + 1, 1, none⟩ = some (.bool false) := (hb1.cell (p := ⟨w.heap.size + 1, 1, none⟩) (by first | (simp; done) | (simp; omega))).trans (by simp [go_sem])
  have fr1_1 : w1.frozen? ⟨w.heap.size + 1, 1, none⟩ = false := (hb1.frozen (p := ⟨w.heap.size + 1, 1, none⟩) (by first | (simp; done) | (simp; omega))).trans (by simp [go_sem])
  have ko1_2 : w1.cell? ⟨w.heap.size + 1 + 1, 2, none⟩ = some (.int .i64 x.clock) := (hb1.cell (p := ⟨w.heap.size + 1 + 1, 2, none⟩) (by first | (simp; done) | (simp; omega))).trans (by simp [go_sem])
  have fo1_2 : w1.frozen? ⟨w.heap.size + 1 + 1, 2, none⟩ = false := (hb1.frozen (p := ⟨w.heap.size + 1 + 1, 2, none⟩) (by first | (simp; done) | (simp; omega))).trans (by simp [go_sem])
  have kr1_2 : w1.cell? ⟨w.heap.size + 1, 2, none⟩ = some (.int .i64 0) := (hb1.cell (p := ⟨w.heap.size + 1, 2, none⟩) (by first | (simp; done) | (simp; omega))).trans (by simp [go_sem])
  have fr1_2 : w1.frozen? ⟨w.heap.size + 1, 2, none⟩ = false := (hb1.frozen (p := ⟨w.heap.size + 1, 2, none⟩) (by first | (simp; done) | (simp; omega))).trans (by simp [go_sem])
  have ko1_3 : w1.cell? ⟨w.heap.size + 1 + 1, 3, none⟩ = some (.bool x.known) := (hb1.cell (p := ⟨w.heap.size + 1 + 1, 3, none⟩) (by first | (simp; done) | (simp; omega))).trans (by simp [go_sem])
  have fo1_3 : w1.frozen? ⟨w.heap.size + 1 + 1, 3, none⟩ = false := (hb1.frozen (p := ⟨w.heap.size + 1 + 1, 3, none⟩) (by first | (simp; done) | (simp; omega))).trans (by simp [go_sem])
  have kr1_3 : w1.cell? ⟨w.heap.size + 1, 3, none⟩ = some (.bool false) := (hb1.cell (p := ⟨w.heap.size + 1, 3, none⟩) (by first | (simp; done) | (simp; omega))).trans (by simp [go_sem])
  have fr1_3 : w1.frozen? ⟨w.heap.size + 1, 3, none⟩ = false := (hb1.frozen (p := ⟨w.heap.size + 1, 3, none⟩) (by first | (simp; done) | (simp; omega))).trans (by simp [go_sem])
  have ko1_4 : w1.cell? ⟨w.heap.size + 1 + 1, 4, none⟩ = some (.int .i64 x.seen) := (hb1.cell (p := ⟨w.heap.size + 1 + 1, 4, none⟩) (by first | (simp; done) | (simp; omega))).trans (by simp [go_sem])
  have fo1_4 : w1.frozen? ⟨w.heap.size + 1 + 1, 4, none⟩ = false := (hb1.frozen (p := ⟨w.heap.size + 1 + 1, 4, none⟩) (by first | (simp; done) | (simp; omega))).trans (by simp [go_sem])
  have kr1_4 : w1.cell? ⟨w.heap.size + 1, 4, none⟩ = some (.int .i64 0) := (hb1.cell (p := ⟨w.heap.size + 1, 4, none⟩) (by first | (simp; done) | (simp; omega))).trans (by simp [go_sem])
  have fr1_4 : w1.frozen? ⟨w.heap.size + 1, 4, none⟩ = false := (hb1.frozen (p := ⟨w.heap.size + 1, 4, none⟩) (by first | (simp; done) | (simp; omega))).trans (by simp [go_sem])
  have ko1_5 : w1.cell? ⟨w.heap.size + 1 + 1, 5, none⟩ = some (.slice none 0 0) := (hb1.cell (p := ⟨w.heap.size + 1 + 1, 5, none⟩) (by first | (simp; done) | (simp; omega))).trans (by simp [go_sem])
  have fo1_5 : w1.frozen? ⟨w.heap.size + 1 + 1, 5, none⟩ = false := (hb1.frozen (p := ⟨w.heap.size + 1 + 1, 5, none⟩) (by first | (simp; done) | (simp; omega))).trans (by simp [go_sem])
  have kr1_5 : w1.cell? ⟨w.heap.size + 1, 5, none⟩ = some (.slice none 0 0) := (hb1.cell (p := ⟨w.heap.size + 1, 5, none⟩) (by first | (simp; done) | (simp; omega))).trans (by simp [go_sem])
  have fr1_5 : w1.frozen? ⟨w.heap.size + 1, 5, none⟩ = false := (hb1.frozen (p := ⟨w.heap.size + 1, 5, none⟩) (by first | (simp; done) | (simp; omega))).trans (by simp [go_sem])
  have ka1_6 : w1.cell? ⟨w.heap.size, 6, none⟩ = some (.slice a6 x.runs.length c6) := (hb1.cell (p := ⟨w.heap.size, 6, none⟩) (by first | (simp; done) | (simp; omega))).trans (by simp [go_sem])
  have ko1_6 : w1.cell? ⟨w.heap.size + 1 + 1, 6, none⟩ = some (.slice none 0 0) := (hb1.cell (p := ⟨w.heap.size + 1 + 1, 6, none⟩) (by first | (simp; done) | (simp; omega))).trans (by simp [go_sem])
  have fo1_6 : w1.frozen? ⟨w.heap.size + 1 + 1, 6, none⟩ = false := (hb1.frozen (p := ⟨w.heap.size + 1 + 1, 6, none⟩) (by first | (simp; done) | (simp; omega))).trans (by simp [go_sem])
  have kr1_6 : w1.cell? ⟨w.heap.size + 1, 6, none⟩ = some (.slice none 0 0) := (hb1.cell (p := ⟨w.heap.size + 1, 6, none⟩) (by first | (simp; done) | (simp; omega))).trans (by simp [go_sem])
  have fr1_6 : w1.frozen? ⟨w.heap.size + 1, 6, none⟩ = false := (hb1.frozen (p := ⟨w.heap.size + 1, 6, none⟩) (by first | (simp; done) | (simp; omega))).trans (by simp [go_sem])
  have ka1_7 : w1.cell? ⟨w.heap.size, 7, none⟩ = some (.slice a7 x.asks.length c7) := (hb1.cell (p := ⟨w.heap.size, 7, none⟩) (by first | (simp; done) | (simp; omega))).trans (by simp [go_sem])
  have ko1_7 : w1.cell? ⟨w.heap.size + 1 + 1, 7, none⟩ = some (.slice none 0 0) := (hb1.cell (p := ⟨w.heap.size + 1 + 1, 7, none⟩) (by first | (simp; done) | (simp; omega))).trans (by simp [go_sem])
  have fo1_7 : w1.frozen? ⟨w.heap.size + 1 + 1, 7, none⟩ = false := (hb1.frozen (p := ⟨w.heap.size + 1 + 1, 7, none⟩) (by first | (simp; done) | (simp; omega))).trans (by simp [go_sem])
  have kr1_7 : w1.cell? ⟨w.heap.size + 1, 7, none⟩ = some (.slice none 0 0) := (hb1.cell (p := ⟨w.heap.size + 1, 7, none⟩) (by first | (simp; done) | (simp; omega))).trans (by simp [go_sem])
  have fr1_7 : w1.frozen? ⟨w.heap.size + 1, 7, none⟩ = false := (hb1.frozen (p := ⟨w.heap.size + 1, 7, none⟩) (by first | (simp; done) | (simp; omega))).trans (by simp [go_sem])
  have ka1_8 : w1.cell? ⟨w.heap.size, 8, none⟩ = some (.slice a8 x.gives.length c8) := (hb1.cell (p := ⟨w.heap.size, 8, none⟩) (by first | (simp; done) | (simp; omega))).trans (by simp [go_sem])
  have ko1_8 : w1.cell? ⟨w.heap.size + 1 + 1, 8, none⟩ = some (.slice none 0 0) := (hb1.cell (p := ⟨w.heap.size + 1 + 1, 8, none⟩) (by first | (simp; done) | (simp; omega))).trans (by simp [go_sem])
  have fo1_8 : w1.frozen? ⟨w.heap.size + 1 + 1, 8, none⟩ = false := (hb1.frozen (p := ⟨w.heap.size + 1 + 1, 8, none⟩) (by first | (simp; done) | (simp; omega))).trans (by simp [go_sem])
  have kr1_8 : w1.cell? ⟨w.heap.size + 1, 8, none⟩ = some (.slice none 0 0) := (hb1.cell (p := ⟨w.heap.size + 1, 8, none⟩) (by first | (simp; done) | (simp; omega))).trans (by simp [go_sem])
  have fr1_8 : w1.frozen? ⟨w.heap.size + 1, 8, none⟩ = false := (hb1.frozen (p := ⟨w.heap.size + 1, 8, none⟩) (by first | (simp; done) | (simp; omega))).trans (by simp [go_sem])
  have hg5' : w.heap.size + 1 + 1 < g5 := by simp at hg5; omega
  have hB1 : Below w.heap.size w w1 := (show Below w.heap.size w _ by go_grown).trans (hb1.mono (by first | (simp; done) | (simp; omega)))
  have HN5 : Hid (SliceC WntC 7 (w.heap.size + 3) w1 (some ⟨g5, 0, none⟩) x.wants) := hn5.keep WntC.holds (Keeps.refl _ _) (by first | (simp; done) | (simp; omega))
  clear hn5 hb1 hg5
  go_wp2_with fail
  refine (toRnS_any x.runs a6 c6 lo _ (N6.out.below RnC.holds (B := w.heap.size) (by go_grown) (Nat.le_refl _)) M6).mono ?_
  rintro e w2 ⟨g6, rfl, hg6, hn6, hb2⟩
  have hz2 : w.heap.size + 1 + 1 < w2.heap.size := by have := hb2.size; simp at this; omega
  have ko2_0 : w2.cell? ⟨w.heap.size + 1 + 1, 0, none⟩ = some (.string x.name) := (hb2.cell (p := ⟨w.heap.size + 1 + 1, 0, none⟩) (by first | (simp; done) | (simp; omega))).trans (by simp [go_sem, ko1_0])
  have fo2_0 : w2.frozen? ⟨w.heap.size + 1 + 1, 0, none⟩ = false := (hb2.frozen (p := ⟨w.heap.size + 1 + 1, 0, none⟩) (by first | (simp; done) | (simp; omega))).trans (by simp [go_sem, fo1_0])
  have kr2_0 : w2.cell? ⟨w.heap.size + 1, 0, none⟩ = some (.string ⟨#[]⟩) := (hb2.cell (p := ⟨w.heap.size + 1, 0, none⟩) (by first | (simp; done) | (simp; omega))).trans (by simp [go_sem, kr1_0])
  have fr2_0 : w2.frozen? ⟨w.heap.size + 1, 0, none⟩ = false := (hb2.frozen (p := ⟨w.heap.size + 1, 0, none⟩) (by first | (simp; done) | (simp; omega))).trans (by simp [go_sem, fr1_0])
  have ko2_1 : w2.cell? ⟨w.heap.size + 1 + 1, 1, none⟩ = some (.bool x.up) := (hb2.cell (p := ⟨w.heap.size + 1 + 1, 1, none⟩) (by first | (simp; done) | (simp; omega))).trans (by simp [go_sem, ko1_1])
  have fo2_1 : w2.frozen? ⟨w.heap.size + 1 + 1, 1, none⟩ = false := (hb2.frozen (p := ⟨w.heap.size + 1 + 1, 1, none⟩) (by first | (simp; done) | (simp; omega))).trans (by simp [go_sem, fo1_1])
  have kr2_1 : w2.cell? ⟨w.heap.size + 1, 1, none⟩ = some (.bool false) := (hb2.cell (p := ⟨w.heap.size + 1, 1, none⟩) (by first | (simp; done) | (simp; omega))).trans (by simp [go_sem, kr1_1])
  have fr2_1 : w2.frozen? ⟨w.heap.size + 1, 1, none⟩ = false := (hb2.frozen (p := ⟨w.heap.size + 1, 1, none⟩) (by first | (simp; done) | (simp; omega))).trans (by simp [go_sem, fr1_1])
  have ko2_2 : w2.cell? ⟨w.heap.size + 1 + 1, 2, none⟩ = some (.int .i64 x.clock) := (hb2.cell (p := ⟨w.heap.size + 1 + 1, 2, none⟩) (by first | (simp; done) | (simp; omega))).trans (by simp [go_sem, ko1_2])
  have fo2_2 : w2.frozen? ⟨w.heap.size + 1 + 1, 2, none⟩ = false := (hb2.frozen (p := ⟨w.heap.size + 1 + 1, 2, none⟩) (by first | (simp; done) | (simp; omega))).trans (by simp [go_sem, fo1_2])
  have kr2_2 : w2.cell? ⟨w.heap.size + 1, 2, none⟩ = some (.int .i64 0) := (hb2.cell (p := ⟨w.heap.size + 1, 2, none⟩) (by first | (simp; done) | (simp; omega))).trans (by simp [go_sem, kr1_2])
  have fr2_2 : w2.frozen? ⟨w.heap.size + 1, 2, none⟩ = false := (hb2.frozen (p := ⟨w.heap.size + 1, 2, none⟩) (by first | (simp; done) | (simp; omega))).trans (by simp [go_sem, fr1_2])
  have ko2_3 : w2.cell? ⟨w.heap.size + 1 + 1, 3, none⟩ = some (.bool x.known) := (hb2.cell (p := ⟨w.heap.size + 1 + 1, 3, none⟩) (by first | (simp; done) | (simp; omega))).trans (by simp [go_sem, ko1_3])
  have fo2_3 : w2.frozen? ⟨w.heap.size + 1 + 1, 3, none⟩ = false := (hb2.frozen (p := ⟨w.heap.size + 1 + 1, 3, none⟩) (by first | (simp; done) | (simp; omega))).trans (by simp [go_sem, fo1_3])
  have kr2_3 : w2.cell? ⟨w.heap.size + 1, 3, none⟩ = some (.bool false) := (hb2.cell (p := ⟨w.heap.size + 1, 3, none⟩) (by first | (simp; done) | (simp; omega))).trans (by simp [go_sem, kr1_3])
  have fr2_3 : w2.frozen? ⟨w.heap.size + 1, 3, none⟩ = false := (hb2.frozen (p := ⟨w.heap.size + 1, 3, none⟩) (by first | (simp; done) | (simp; omega))).trans (by simp [go_sem, fr1_3])
  have ko2_4 : w2.cell? ⟨w.heap.size + 1 + 1, 4, none⟩ = some (.int .i64 x.seen) := (hb2.cell (p := ⟨w.heap.size + 1 + 1, 4, none⟩) (by first | (simp; done) | (simp; omega))).trans (by simp [go_sem, ko1_4])
  have fo2_4 : w2.frozen? ⟨w.heap.size + 1 + 1, 4, none⟩ = false := (hb2.frozen (p := ⟨w.heap.size + 1 + 1, 4, none⟩) (by first | (simp; done) | (simp; omega))).trans (by simp [go_sem, fo1_4])
  have kr2_4 : w2.cell? ⟨w.heap.size + 1, 4, none⟩ = some (.int .i64 0) := (hb2.cell (p := ⟨w.heap.size + 1, 4, none⟩) (by first | (simp; done) | (simp; omega))).trans (by simp [go_sem, kr1_4])
  have fr2_4 : w2.frozen? ⟨w.heap.size + 1, 4, none⟩ = false := (hb2.frozen (p := ⟨w.heap.size + 1, 4, none⟩) (by first | (simp; done) | (simp; omega))).trans (by simp [go_sem, fr1_4])
  have ko2_5 : w2.cell? ⟨w.heap.size + 1 + 1, 5, none⟩ = some (.slice (some ⟨g5, 0, none⟩) x.wants.length x.wants.length) := (hb2.cell (p := ⟨w.heap.size + 1 + 1, 5, none⟩) (by first | (simp; done) | (simp; omega))).trans (by simp [go_sem, ko1_5])
  have fo2_5 : w2.frozen? ⟨w.heap.size + 1 + 1, 5, none⟩ = false := (hb2.frozen (p := ⟨w.heap.size + 1 + 1, 5, none⟩) (by first | (simp; done) | (simp; omega))).trans (by simp [go_sem, fo1_5])
  have kr2_5 : w2.cell? ⟨w.heap.size + 1, 5, none⟩ = some (.slice none 0 0) := (hb2.cell (p := ⟨w.heap.size + 1, 5, none⟩) (by first | (simp; done) | (simp; omega))).trans (by simp [go_sem, kr1_5])
  have fr2_5 : w2.frozen? ⟨w.heap.size + 1, 5, none⟩ = false := (hb2.frozen (p := ⟨w.heap.size + 1, 5, none⟩) (by first | (simp; done) | (simp; omega))).trans (by simp [go_sem, fr1_5])
  have ko2_6 : w2.cell? ⟨w.heap.size + 1 + 1, 6, none⟩ = some (.slice none 0 0) := (hb2.cell (p := ⟨w.heap.size + 1 + 1, 6, none⟩) (by first | (simp; done) | (simp; omega))).trans (by simp [go_sem, ko1_6])
  have fo2_6 : w2.frozen? ⟨w.heap.size + 1 + 1, 6, none⟩ = false := (hb2.frozen (p := ⟨w.heap.size + 1 + 1, 6, none⟩) (by first | (simp; done) | (simp; omega))).trans (by simp [go_sem, fo1_6])
  have kr2_6 : w2.cell? ⟨w.heap.size + 1, 6, none⟩ = some (.slice none 0 0) := (hb2.cell (p := ⟨w.heap.size + 1, 6, none⟩) (by first | (simp; done) | (simp; omega))).trans (by simp [go_sem, kr1_6])
  have fr2_6 : w2.frozen? ⟨w.heap.size + 1, 6, none⟩ = false := (hb2.frozen (p := ⟨w.heap.size + 1, 6, none⟩) (by first | (simp; done) | (simp; omega))).trans (by simp [go_sem, fr1_6])
  have ka2_7 : w2.cell? ⟨w.heap.size, 7, none⟩ = some (.slice a7 x.asks.length c7) := (hb2.cell (p := ⟨w.heap.size, 7, none⟩) (by first | (simp; done) | (simp; omega))).trans (by simp [go_sem, ka1_7])
  have ko2_7 : w2.cell? ⟨w.heap.size + 1 + 1, 7, none⟩ = some (.slice none 0 0) := (hb2.cell (p := ⟨w.heap.size + 1 + 1, 7, none⟩) (by first | (simp; done) | (simp; omega))).trans (by simp [go_sem, ko1_7])
  have fo2_7 : w2.frozen? ⟨w.heap.size + 1 + 1, 7, none⟩ = false := (hb2.frozen (p := ⟨w.heap.size + 1 + 1, 7, none⟩) (by first | (simp; done) | (simp; omega))).trans (by simp [go_sem, fo1_7])
  have kr2_7 : w2.cell? ⟨w.heap.size + 1, 7, none⟩ = some (.slice none 0 0) := (hb2.cell (p := ⟨w.heap.size + 1, 7, none⟩) (by first | (simp; done) | (simp; omega))).trans (by simp [go_sem, kr1_7])
  have fr2_7 : w2.frozen? ⟨w.heap.size + 1, 7, none⟩ = false := (hb2.frozen (p := ⟨w.heap.size + 1, 7, none⟩) (by first | (simp; done) | (simp; omega))).trans (by simp [go_sem, fr1_7])
  have ka2_8 : w2.cell? ⟨w.heap.size, 8, none⟩ = some (.slice a8 x.gives.length c8) := (hb2.cell (p := ⟨w.heap.size, 8, none⟩) (by first | (simp; done) | (simp; omega))).trans (by simp [go_sem, ka1_8])
  have ko2_8 : w2.cell? ⟨w.heap.size + 1 + 1, 8, none⟩ = some (.slice none 0 0) := (hb2.cell (p := ⟨w.heap.size + 1 + 1, 8, none⟩) (by first | (simp; done) | (simp; omega))).trans (by simp [go_sem, ko1_8])
  have fo2_8 : w2.frozen? ⟨w.heap.size + 1 + 1, 8, none⟩ = false := (hb2.frozen (p := ⟨w.heap.size + 1 + 1, 8, none⟩) (by first | (simp; done) | (simp; omega))).trans (by simp [go_sem, fo1_8])
  have kr2_8 : w2.cell? ⟨w.heap.size + 1, 8, none⟩ = some (.slice none 0 0) := (hb2.cell (p := ⟨w.heap.size + 1, 8, none⟩) (by first | (simp; done) | (simp; omega))).trans (by simp [go_sem, kr1_8])
  have fr2_8 : w2.frozen? ⟨w.heap.size + 1, 8, none⟩ = false := (hb2.frozen (p := ⟨w.heap.size + 1, 8, none⟩) (by first | (simp; done) | (simp; omega))).trans (by simp [go_sem, fr1_8])
  have hg6' : w.heap.size + 1 + 1 < g6 := by simp at hg6; omega
  have hB2 : Below w.heap.size w w2 := (show Below w.heap.size w _ by go_grown).trans (hb2.mono (by first | (simp; done) | (simp; omega)))
  have HN6 : Hid (SliceC RnC 11 (w.heap.size + 3) w2 (some ⟨g6, 0, none⟩) x.runs) := hn6.keep RnC.holds (Keeps.refl _ _) (by first | (simp; done) | (simp; omega))
  have HN5' : Hid (SliceC WntC 7 (w.heap.size + 3) w2 (some ⟨g5, 0, none⟩) x.wants) := HN5.out.keep WntC.holds (Keeps.trans (by repeat (first | exact Keeps.refl _ _ | refine Keeps.trans ?_ (Keeps.set (by first | (simp; done) | (simp; omega)) _))) (Keeps.of_below hb2 (Nat.le_refl _) _)) (Nat.le_refl _)
  clear HN5
  have HN5 := HN5'
  clear HN5'
  clear hn6 hb2 hg6
  go_wp2_with fail
  refine (toAksS_any x.asks a7 c7 lo _ (N7.out.below AksC.holds (B := w.heap.size) (by go_grown) (Nat.le_refl _)) M7).mono ?_
  rintro e w3 ⟨g7, rfl, hg7, hn7, hb3⟩
  have hz3 : w.heap.size + 1 + 1 < w3.heap.size := by have := hb3.size; simp at this; omega
  have ko3_0 : w3.cell? ⟨w.heap.size + 1 + 1, 0, none⟩ = some (.string x.name) := (hb3.cell (p := ⟨w.heap.size + 1 + 1, 0, none⟩) (by first | (simp; done) | (simp; omega))).trans (by simp [go_sem, ko2_0])
  have fo3_0 : w3.frozen? ⟨w.heap.size + 1 + 1, 0, none⟩ = false := (hb3.frozen (p := ⟨w.heap.size + 1 + 1, 0, none⟩) (by first | (simp; done) | (simp; omega))).trans (by simp [go_sem, fo2_0])
  have kr3_0 : w3.cell? ⟨w.heap.size + 1, 0, none⟩ = some (.string ⟨#[]⟩) := (hb3.cell (p := ⟨w.heap.size + 1, 0, none⟩) (by first | (simp; done) | (simp; omega))).trans (by simp [go_sem, kr2_0])
  have fr3_0 : w3.frozen? ⟨w.heap.size + 1, 0, none⟩ = false := (hb3.frozen (p := ⟨w.heap.size + 1, 0, none⟩) (by first | (simp; done) | (simp; omega))).trans (by simp [go_sem, fr2_0])
  have ko3_1 : w3.cell? ⟨w.heap.size + 1 + 1, 1, none⟩ = some (.bool x.up) := (hb3.cell (p := ⟨w.heap.size + 1 + 1, 1, none⟩) (by first | (simp; done) | (simp; omega))).trans (by simp [go_sem, ko2_1])
  have fo3_1 : w3.frozen? ⟨w.heap.size + 1 + 1, 1, none⟩ = false := (hb3.frozen (p := ⟨w.heap.size + 1 + 1, 1, none⟩) (by first | (simp; done) | (simp; omega))).trans (by simp [go_sem, fo2_1])
  have kr3_1 : w3.cell? ⟨w.heap.size + 1, 1, none⟩ = some (.bool false) := (hb3.cell (p := ⟨w.heap.size + 1, 1, none⟩) (by first | (simp; done) | (simp; omega))).trans (by simp [go_sem, kr2_1])
  have fr3_1 : w3.frozen? ⟨w.heap.size + 1, 1, none⟩ = false := (hb3.frozen (p := ⟨w.heap.size + 1, 1, none⟩) (by first | (simp; done) | (simp; omega))).trans (by simp [go_sem, fr2_1])
  have ko3_2 : w3.cell? ⟨w.heap.size + 1 + 1, 2, none⟩ = some (.int .i64 x.clock) := (hb3.cell (p := ⟨w.heap.size + 1 + 1, 2, none⟩) (by first | (simp; done) | (simp; omega))).trans (by simp [go_sem, ko2_2])
  have fo3_2 : w3.frozen? ⟨w.heap.size + 1 + 1, 2, none⟩ = false := (hb3.frozen (p := ⟨w.heap.size + 1 + 1, 2, none⟩) (by first | (simp; done) | (simp; omega))).trans (by simp [go_sem, fo2_2])
  have kr3_2 : w3.cell? ⟨w.heap.size + 1, 2, none⟩ = some (.int .i64 0) := (hb3.cell (p := ⟨w.heap.size + 1, 2, none⟩) (by first | (simp; done) | (simp; omega))).trans (by simp [go_sem, kr2_2])
  have fr3_2 : w3.frozen? ⟨w.heap.size + 1, 2, none⟩ = false := (hb3.frozen (p := ⟨w.heap.size + 1, 2, none⟩) (by first | (simp; done) | (simp; omega))).trans (by simp [go_sem, fr2_2])
  have ko3_3 : w3.cell? ⟨w.heap.size + 1 + 1, 3, none⟩ = some (.bool x.known) := (hb3.cell (p := ⟨w.heap.size + 1 + 1, 3, none⟩) (by first | (simp; done) | (simp; omega))).trans (by simp [go_sem, ko2_3])
  have fo3_3 : w3.frozen? ⟨w.heap.size + 1 + 1, 3, none⟩ = false := (hb3.frozen (p := ⟨w.heap.size + 1 + 1, 3, none⟩) (by first | (simp; done) | (simp; omega))).trans (by simp [go_sem, fo2_3])
  have kr3_3 : w3.cell? ⟨w.heap.size + 1, 3, none⟩ = some (.bool false) := (hb3.cell (p := ⟨w.heap.size + 1, 3, none⟩) (by first | (simp; done) | (simp; omega))).trans (by simp [go_sem, kr2_3])
  have fr3_3 : w3.frozen? ⟨w.heap.size + 1, 3, none⟩ = false := (hb3.frozen (p := ⟨w.heap.size + 1, 3, none⟩) (by first | (simp; done) | (simp; omega))).trans (by simp [go_sem, fr2_3])
  have ko3_4 : w3.cell? ⟨w.heap.size + 1 + 1, 4, none⟩ = some (.int .i64 x.seen) := (hb3.cell (p := ⟨w.heap.size + 1 + 1, 4, none⟩) (by first | (simp; done) | (simp; omega))).trans (by simp [go_sem, ko2_4])
  have fo3_4 : w3.frozen? ⟨w.heap.size + 1 + 1, 4, none⟩ = false := (hb3.frozen (p := ⟨w.heap.size + 1 + 1, 4, none⟩) (by first | (simp; done) | (simp; omega))).trans (by simp [go_sem, fo2_4])
  have kr3_4 : w3.cell? ⟨w.heap.size + 1, 4, none⟩ = some (.int .i64 0) := (hb3.cell (p := ⟨w.heap.size + 1, 4, none⟩) (by first | (simp; done) | (simp; omega))).trans (by simp [go_sem, kr2_4])
  have fr3_4 : w3.frozen? ⟨w.heap.size + 1, 4, none⟩ = false := (hb3.frozen (p := ⟨w.heap.size + 1, 4, none⟩) (by first | (simp; done) | (simp; omega))).trans (by simp [go_sem, fr2_4])
  have ko3_5 : w3.cell? ⟨w.heap.size + 1 + 1, 5, none⟩ = some (.slice (some ⟨g5, 0, none⟩) x.wants.length x.wants.length) := (hb3.cell (p := ⟨w.heap.size + 1 + 1, 5, none⟩) (by first | (simp; done) | (simp; omega))).trans (by simp [go_sem, ko2_5])
  have fo3_5 : w3.frozen? ⟨w.heap.size + 1 + 1, 5, none⟩ = false := (hb3.frozen (p := ⟨w.heap.size + 1 + 1, 5, none⟩) (by first | (simp; done) | (simp; omega))).trans (by simp [go_sem, fo2_5])
  have kr3_5 : w3.cell? ⟨w.heap.size + 1, 5, none⟩ = some (.slice none 0 0) := (hb3.cell (p := ⟨w.heap.size + 1, 5, none⟩) (by first | (simp; done) | (simp; omega))).trans (by simp [go_sem, kr2_5])
  have fr3_5 : w3.frozen? ⟨w.heap.size + 1, 5, none⟩ = false := (hb3.frozen (p := ⟨w.heap.size + 1, 5, none⟩) (by first | (simp; done) | (simp; omega))).trans (by simp [go_sem, fr2_5])
  have ko3_6 : w3.cell? ⟨w.heap.size + 1 + 1, 6, none⟩ = some (.slice (some ⟨g6, 0, none⟩) x.runs.length x.runs.length) := (hb3.cell (p := ⟨w.heap.size + 1 + 1, 6, none⟩) (by first | (simp; done) | (simp; omega))).trans (by simp [go_sem, ko2_6])
  have fo3_6 : w3.frozen? ⟨w.heap.size + 1 + 1, 6, none⟩ = false := (hb3.frozen (p := ⟨w.heap.size + 1 + 1, 6, none⟩) (by first | (simp; done) | (simp; omega))).trans (by simp [go_sem, fo2_6])
  have kr3_6 : w3.cell? ⟨w.heap.size + 1, 6, none⟩ = some (.slice none 0 0) := (hb3.cell (p := ⟨w.heap.size + 1, 6, none⟩) (by first | (simp; done) | (simp; omega))).trans (by simp [go_sem, kr2_6])
  have fr3_6 : w3.frozen? ⟨w.heap.size + 1, 6, none⟩ = false := (hb3.frozen (p := ⟨w.heap.size + 1, 6, none⟩) (by first | (simp; done) | (simp; omega))).trans (by simp [go_sem, fr2_6])
  have ko3_7 : w3.cell? ⟨w.heap.size + 1 + 1, 7, none⟩ = some (.slice none 0 0) := (hb3.cell (p := ⟨w.heap.size + 1 + 1, 7, none⟩) (by first | (simp; done) | (simp; omega))).trans (by simp [go_sem, ko2_7])
  have fo3_7 : w3.frozen? ⟨w.heap.size + 1 + 1, 7, none⟩ = false := (hb3.frozen (p := ⟨w.heap.size + 1 + 1, 7, none⟩) (by first | (simp; done) | (simp; omega))).trans (by simp [go_sem, fo2_7])
  have kr3_7 : w3.cell? ⟨w.heap.size + 1, 7, none⟩ = some (.slice none 0 0) := (hb3.cell (p := ⟨w.heap.size + 1, 7, none⟩) (by first | (simp; done) | (simp; omega))).trans (by simp [go_sem, kr2_7])
  have fr3_7 : w3.frozen? ⟨w.heap.size + 1, 7, none⟩ = false := (hb3.frozen (p := ⟨w.heap.size + 1, 7, none⟩) (by first | (simp; done) | (simp; omega))).trans (by simp [go_sem, fr2_7])
  have ka3_8 : w3.cell? ⟨w.heap.size, 8, none⟩ = some (.slice a8 x.gives.length c8) := (hb3.cell (p := ⟨w.heap.size, 8, none⟩) (by first | (simp; done) | (simp; omega))).trans (by simp [go_sem, ka2_8])
  have ko3_8 : w3.cell? ⟨w.heap.size + 1 + 1, 8, none⟩ = some (.slice none 0 0) := (hb3.cell (p := ⟨w.heap.size + 1 + 1, 8, none⟩) (by first | (simp; done) | (simp; omega))).trans (by simp [go_sem, ko2_8])
  have fo3_8 : w3.frozen? ⟨w.heap.size + 1 + 1, 8, none⟩ = false := (hb3.frozen (p := ⟨w.heap.size + 1 + 1, 8, none⟩) (by first | (simp; done) | (simp; omega))).trans (by simp [go_sem, fo2_8])
  have kr3_8 : w3.cell? ⟨w.heap.size + 1, 8, none⟩ = some (.slice none 0 0) := (hb3.cell (p := ⟨w.heap.size + 1, 8, none⟩) (by first | (simp; done) | (simp; omega))).trans (by simp [go_sem, kr2_8])
  have fr3_8 : w3.frozen? ⟨w.heap.size + 1, 8, none⟩ = false := (hb3.frozen (p := ⟨w.heap.size + 1, 8, none⟩) (by first | (simp; done) | (simp; omega))).trans (by simp [go_sem, fr2_8])
  have hg7' : w.heap.size + 1 + 1 < g7 := by simp at hg7; omega
  have hB3 : Below w.heap.size w w3 := (show Below w.heap.size w _ by go_grown).trans (hb3.mono (by first | (simp; done) | (simp; omega)))
  have HN7 : Hid (SliceC AksC 4 (w.heap.size + 3) w3 (some ⟨g7, 0, none⟩) x.asks) := hn7.keep AksC.holds (Keeps.refl _ _) (by first | (simp; done) | (simp; omega))
  have HN5' : Hid (SliceC WntC 7 (w.heap.size + 3) w3 (some ⟨g5, 0, none⟩) x.wants) := HN5.out.keep WntC.holds (Keeps.trans (by repeat (first | exact Keeps.refl _ _ | refine Keeps.trans ?_ (Keeps.set (by first | (simp; done) | (simp; omega)) _))) (Keeps.of_below hb3 (Nat.le_refl _) _)) (Nat.le_refl _)
  clear HN5
  have HN5 := HN5'
  clear HN5'
  have HN6' : Hid (SliceC RnC 11 (w.heap.size + 3) w3 (some ⟨g6, 0, none⟩) x.runs) := HN6.out.keep RnC.holds (Keeps.trans (by repeat (first | exact Keeps.refl _ _ | refine Keeps.trans ?_ (Keeps.set (by first | (simp; done) | (simp; omega)) _))) (Keeps.of_below hb3 (Nat.le_refl _) _)) (Nat.le_refl _)
  clear HN6
  have HN6 := HN6'
  clear HN6'
  clear hn7 hb3 hg7
  go_wp2_with fail
  refine (toAksS_any x.gives a8 c8 lo _ (N8.out.below AksC.holds (B := w.heap.size) (by go_grown) (Nat.le_refl _)) M8).mono ?_
  rintro e w4 ⟨g8, rfl, hg8, hn8, hb4⟩
  have hz4 : w.heap.size + 1 + 1 < w4.heap.size := by have := hb4.size; simp at this; omega
  have ko4_0 : w4.cell? ⟨w.heap.size + 1 + 1, 0, none⟩ = some (.string x.name) := (hb4.cell (p := ⟨w.heap.size + 1 + 1, 0, none⟩) (by first | (simp; done) | (simp; omega))).trans (by simp [go_sem, ko3_0])
  have fo4_0 : w4.frozen? ⟨w.heap.size + 1 + 1, 0, none⟩ = false := (hb4.frozen (p := ⟨w.heap.size + 1 + 1, 0, none⟩) (by first | (simp; done) | (simp; omega))).trans (by simp [go_sem, fo3_0])
  have kr4_0 : w4.cell? ⟨w.heap.size + 1, 0, none⟩ = some (.string ⟨#[]⟩) := (hb4.cell (p := ⟨w.heap.size + 1, 0, none⟩) (by first | (simp; done) | (simp; omega))).trans (by simp [go_sem, kr3_0])
  have fr4_0 : w4.frozen? ⟨w.heap.size + 1, 0, none⟩ = false := (hb4.frozen (p := ⟨w.heap.size + 1, 0, none⟩) (by first | (simp; done) | (simp; omega))).trans (by simp [go_sem, fr3_0])
  have ko4_1 : w4.cell? ⟨w.heap.size + 1 + 1, 1, none⟩ = some (.bool x.up) := (hb4.cell (p := ⟨w.heap.size + 1 + 1, 1, none⟩) (by first | (simp; done) | (simp; omega))).trans (by simp [go_sem, ko3_1])
  have fo4_1 : w4.frozen? ⟨w.heap.size + 1 + 1, 1, none⟩ = false := (hb4.frozen (p := ⟨w.heap.size + 1 + 1, 1, none⟩) (by first | (simp; done) | (simp; omega))).trans (by simp [go_sem, fo3_1])
  have kr4_1 : w4.cell? ⟨w.heap.size + 1, 1, none⟩ = some (.bool false) := (hb4.cell (p := ⟨w.heap.size + 1, 1, none⟩) (by first | (simp; done) | (simp; omega))).trans (by simp [go_sem, kr3_1])
  have fr4_1 : w4.frozen? ⟨w.heap.size + 1, 1, none⟩ = false := (hb4.frozen (p := ⟨w.heap.size + 1, 1, none⟩) (by first | (simp; done) | (simp; omega))).trans (by simp [go_sem, fr3_1])
  have ko4_2 : w4.cell? ⟨w.heap.size + 1 + 1, 2, none⟩ = some (.int .i64 x.clock) := (hb4.cell (p := ⟨w.heap.size + 1 + 1, 2, none⟩) (by first | (simp; done) | (simp; omega))).trans (by simp [go_sem, ko3_2])
  have fo4_2 : w4.frozen? ⟨w.heap.size + 1 + 1, 2, none⟩ = false := (hb4.frozen (p := ⟨w.heap.size + 1 + 1, 2, none⟩) (by first | (simp; done) | (simp; omega))).trans (by simp [go_sem, fo3_2])
  have kr4_2 : w4.cell? ⟨w.heap.size + 1, 2, none⟩ = some (.int .i64 0) := (hb4.cell (p := ⟨w.heap.size + 1, 2, none⟩) (by first | (simp; done) | (simp; omega))).trans (by simp [go_sem, kr3_2])
  have fr4_2 : w4.frozen? ⟨w.heap.size + 1, 2, none⟩ = false := (hb4.frozen (p := ⟨w.heap.size + 1, 2, none⟩) (by first | (simp; done) | (simp; omega))).trans (by simp [go_sem, fr3_2])
  have ko4_3 : w4.cell? ⟨w.heap.size + 1 + 1, 3, none⟩ = some (.bool x.known) := (hb4.cell (p := ⟨w.heap.size + 1 + 1, 3, none⟩) (by first | (simp; done) | (simp; omega))).trans (by simp [go_sem, ko3_3])
  have fo4_3 : w4.frozen? ⟨w.heap.size + 1 + 1, 3, none⟩ = false := (hb4.frozen (p := ⟨w.heap.size + 1 + 1, 3, none⟩) (by first | (simp; done) | (simp; omega))).trans (by simp [go_sem, fo3_3])
  have kr4_3 : w4.cell? ⟨w.heap.size + 1, 3, none⟩ = some (.bool false) := (hb4.cell (p := ⟨w.heap.size + 1, 3, none⟩) (by first | (simp; done) | (simp; omega))).trans (by simp [go_sem, kr3_3])
  have fr4_3 : w4.frozen? ⟨w.heap.size + 1, 3, none⟩ = false := (hb4.frozen (p := ⟨w.heap.size + 1, 3, none⟩) (by first | (simp; done) | (simp; omega))).trans (by simp [go_sem, fr3_3])
  have ko4_4 : w4.cell? ⟨w.heap.size + 1 + 1, 4, none⟩ = some (.int .i64 x.seen) := (hb4.cell (p := ⟨w.heap.size + 1 + 1, 4, none⟩) (by first | (simp; done) | (simp; omega))).trans (by simp [go_sem, ko3_4])
  have fo4_4 : w4.frozen? ⟨w.heap.size + 1 + 1, 4, none⟩ = false := (hb4.frozen (p := ⟨w.heap.size + 1 + 1, 4, none⟩) (by first | (simp; done) | (simp; omega))).trans (by simp [go_sem, fo3_4])
  have kr4_4 : w4.cell? ⟨w.heap.size + 1, 4, none⟩ = some (.int .i64 0) := (hb4.cell (p := ⟨w.heap.size + 1, 4, none⟩) (by first | (simp; done) | (simp; omega))).trans (by simp [go_sem, kr3_4])
  have fr4_4 : w4.frozen? ⟨w.heap.size + 1, 4, none⟩ = false := (hb4.frozen (p := ⟨w.heap.size + 1, 4, none⟩) (by first | (simp; done) | (simp; omega))).trans (by simp [go_sem, fr3_4])
  have ko4_5 : w4.cell? ⟨w.heap.size + 1 + 1, 5, none⟩ = some (.slice (some ⟨g5, 0, none⟩) x.wants.length x.wants.length) := (hb4.cell (p := ⟨w.heap.size + 1 + 1, 5, none⟩) (by first | (simp; done) | (simp; omega))).trans (by simp [go_sem, ko3_5])
  have fo4_5 : w4.frozen? ⟨w.heap.size + 1 + 1, 5, none⟩ = false := (hb4.frozen (p := ⟨w.heap.size + 1 + 1, 5, none⟩) (by first | (simp; done) | (simp; omega))).trans (by simp [go_sem, fo3_5])
  have kr4_5 : w4.cell? ⟨w.heap.size + 1, 5, none⟩ = some (.slice none 0 0) := (hb4.cell (p := ⟨w.heap.size + 1, 5, none⟩) (by first | (simp; done) | (simp; omega))).trans (by simp [go_sem, kr3_5])
  have fr4_5 : w4.frozen? ⟨w.heap.size + 1, 5, none⟩ = false := (hb4.frozen (p := ⟨w.heap.size + 1, 5, none⟩) (by first | (simp; done) | (simp; omega))).trans (by simp [go_sem, fr3_5])
  have ko4_6 : w4.cell? ⟨w.heap.size + 1 + 1, 6, none⟩ = some (.slice (some ⟨g6, 0, none⟩) x.runs.length x.runs.length) := (hb4.cell (p := ⟨w.heap.size + 1 + 1, 6, none⟩) (by first | (simp; done) | (simp; omega))).trans (by simp [go_sem, ko3_6])
  have fo4_6 : w4.frozen? ⟨w.heap.size + 1 + 1, 6, none⟩ = false := (hb4.frozen (p := ⟨w.heap.size + 1 + 1, 6, none⟩) (by first | (simp; done) | (simp; omega))).trans (by simp [go_sem, fo3_6])
  have kr4_6 : w4.cell? ⟨w.heap.size + 1, 6, none⟩ = some (.slice none 0 0) := (hb4.cell (p := ⟨w.heap.size + 1, 6, none⟩) (by first | (simp; done) | (simp; omega))).trans (by simp [go_sem, kr3_6])
  have fr4_6 : w4.frozen? ⟨w.heap.size + 1, 6, none⟩ = false := (hb4.frozen (p := ⟨w.heap.size + 1, 6, none⟩) (by first | (simp; done) | (simp; omega))).trans (by simp [go_sem, fr3_6])
  have ko4_7 : w4.cell? ⟨w.heap.size + 1 + 1, 7, none⟩ = some (.slice (some ⟨g7, 0, none⟩) x.asks.length x.asks.length) := (hb4.cell (p := ⟨w.heap.size + 1 + 1, 7, none⟩) (by first | (simp; done) | (simp; omega))).trans (by simp [go_sem, ko3_7])
  have fo4_7 : w4.frozen? ⟨w.heap.size + 1 + 1, 7, none⟩ = false := (hb4.frozen (p := ⟨w.heap.size + 1 + 1, 7, none⟩) (by first | (simp; done) | (simp; omega))).trans (by simp [go_sem, fo3_7])
  have kr4_7 : w4.cell? ⟨w.heap.size + 1, 7, none⟩ = some (.slice none 0 0) := (hb4.cell (p := ⟨w.heap.size + 1, 7, none⟩) (by first | (simp; done) | (simp; omega))).trans (by simp [go_sem, kr3_7])
  have fr4_7 : w4.frozen? ⟨w.heap.size + 1, 7, none⟩ = false := (hb4.frozen (p := ⟨w.heap.size + 1, 7, none⟩) (by first | (simp; done) | (simp; omega))).trans (by simp [go_sem, fr3_7])
  have ko4_8 : w4.cell? ⟨w.heap.size + 1 + 1, 8, none⟩ = some (.slice none 0 0) := (hb4.cell (p := ⟨w.heap.size + 1 + 1, 8, none⟩) (by first | (simp; done) | (simp; omega))).trans (by simp [go_sem, ko3_8])
  have fo4_8 : w4.frozen? ⟨w.heap.size + 1 + 1, 8, none⟩ = false := (hb4.frozen (p := ⟨w.heap.size + 1 + 1, 8, none⟩) (by first | (simp; done) | (simp; omega))).trans (by simp [go_sem, fo3_8])
  have kr4_8 : w4.cell? ⟨w.heap.size + 1, 8, none⟩ = some (.slice none 0 0) := (hb4.cell (p := ⟨w.heap.size + 1, 8, none⟩) (by first | (simp; done) | (simp; omega))).trans (by simp [go_sem, kr3_8])
  have fr4_8 : w4.frozen? ⟨w.heap.size + 1, 8, none⟩ = false := (hb4.frozen (p := ⟨w.heap.size + 1, 8, none⟩) (by first | (simp; done) | (simp; omega))).trans (by simp [go_sem, fr3_8])
  have hg8' : w.heap.size + 1 + 1 < g8 := by simp at hg8; omega
  have hB4 : Below w.heap.size w w4 := (show Below w.heap.size w _ by go_grown).trans (hb4.mono (by first | (simp; done) | (simp; omega)))
  have HN8 : Hid (SliceC AksC 4 (w.heap.size + 3) w4 (some ⟨g8, 0, none⟩) x.gives) := hn8.keep AksC.holds (Keeps.refl _ _) (by first | (simp; done) | (simp; omega))
  have HN5' : Hid (SliceC WntC 7 (w.heap.size + 3) w4 (some ⟨g5, 0, none⟩) x.wants) := HN5.out.keep WntC.holds (Keeps.trans (by repeat (first | exact Keeps.refl _ _ | refine Keeps.trans ?_ (Keeps.set (by first | (simp; done) | (simp; omega)) _))) (Keeps.of_below hb4 (Nat.le_refl _) _)) (Nat.le_refl _)
  clear HN5
  have HN5 := HN5'
  clear HN5'
  have HN6' : Hid (SliceC RnC 11 (w.heap.size + 3) w4 (some ⟨g6, 0, none⟩) x.runs) := HN6.out.keep RnC.holds (Keeps.trans (by repeat (first | exact Keeps.refl _ _ | refine Keeps.trans ?_ (Keeps.set (by first | (simp; done) | (simp; omega)) _))) (Keeps.of_below hb4 (Nat.le_refl _) _)) (Nat.le_refl _)
  clear HN6
  have HN6 := HN6'
  clear HN6'
  have HN7' : Hid (SliceC AksC 4 (w.heap.size + 3) w4 (some ⟨g7, 0, none⟩) x.asks) := HN7.out.keep AksC.holds (Keeps.trans (by repeat (first | exact Keeps.refl _ _ | refine Keeps.trans ?_ (Keeps.set (by first | (simp; done) | (simp; omega)) _))) (Keeps.of_below hb4 (Nat.le_refl _) _)) (Nat.le_refl _)
  clear HN7
  have HN7 := HN7'
  clear HN7'
  clear hn8 hb4 hg8
  have HPR : Hid (w4.rangeAt (w.heap.size + 1 + 1) 0 [.string x.name, .bool x.up, .int .i64 x.clock, .bool x.known, .int .i64 x.seen, .slice (some ⟨g5, 0, none⟩) x.wants.length x.wants.length, .slice (some ⟨g6, 0, none⟩) x.runs.length x.runs.length, .slice (some ⟨g7, 0, none⟩) x.asks.length x.asks.length]) := range_cons ko4_0 (range_cons ko4_1 (range_cons ko4_2 (range_cons ko4_3 (range_cons ko4_4 (range_cons ko4_5 (range_cons ko4_6 (range_cons ko4_7 (range_nil _ _ _))))))))
  have HTO : Hid (w4.there (w.heap.size + 1 + 1) 8 1) := there_cons ko4_8 fo4_8 (there_nil _ _ _)
  have HTR : Hid (w4.there (w.heap.size + 1) 0 9) := there_cons kr4_0 fr4_0 (there_cons kr4_1 fr4_1 (there_cons kr4_2 fr4_2 (there_cons kr4_3 fr4_3 (there_cons kr4_4 fr4_4 (there_cons kr4_5 fr4_5 (there_cons kr4_6 fr4_6 (there_cons kr4_7 fr4_7 (there_cons kr4_8 fr4_8 (there_nil _ _ _)))))))))
  clear kr4_0 fr4_0 kr4_1 fr4_1 kr4_2 fr4_2 kr4_3 fr4_3 kr4_4 fr4_4 kr4_5 fr4_5 kr4_6 fr4_6 kr4_7 fr4_7 kr4_8 fr4_8 ko4_0 fo4_0 ko4_1 fo4_1 ko4_2 fo4_2 ko4_3 fo4_3 ko4_4 fo4_4 ko4_5 fo4_5 ko4_6 fo4_6 ko4_7 fo4_7
  go_upto_region 11 with fail
  have HRG : Hid (World.rangeAt (w4.setCell ⟨w.heap.size + 1 + 1, 8, none⟩ (.slice (some ⟨g8, 0, none⟩) x.gives.length x.gives.length)) (w.heap.size + 1 + 1) 0 [.string x.name, .bool x.up, .int .i64 x.clock, .bool x.known, .int .i64 x.seen, .slice (some ⟨g5, 0, none⟩) x.wants.length x.wants.length, .slice (some ⟨g6, 0, none⟩) x.runs.length x.runs.length, .slice (some ⟨g7, 0, none⟩) x.asks.length x.asks.length, .slice (some ⟨g8, 0, none⟩) x.gives.length x.gives.length]) := range_join (vs := [.slice (some ⟨g8, 0, none⟩) x.gives.length x.gives.length]) HPR.out rfl HTO.out
  have HTG : Hid (World.there (w4.setCell ⟨w.heap.size + 1 + 1, 8, none⟩ (.slice (some ⟨g8, 0, none⟩) x.gives.length x.gives.length)) (w.heap.size + 1) 0 9) := World.there_setCells HTR.out (w.heap.size + 1 + 1) 8 [.slice (some ⟨g8, 0, none⟩) x.gives.length x.gives.length]
  have HBG : Hid (Below w.heap.size w (w4.setCell ⟨w.heap.size + 1 + 1, 8, none⟩ (.slice (some ⟨g8, 0, none⟩) x.gives.length x.gives.length))) := below_setCells (b := w.heap.size + 1 + 1) (by omega) [.slice (some ⟨g8, 0, none⟩) x.gives.length x.gives.length] 8 _ hB4
  have HG5 : Hid (SliceC WntC 7 (w.heap.size + 3) (w4.setCell ⟨w.heap.size + 1 + 1, 8, none⟩ (.slice (some ⟨g8, 0, none⟩) x.gives.length x.gives.length)) (some ⟨g5, 0, none⟩) x.wants) := HN5.out.keep WntC.holds (Keeps.setCells (b := w.heap.size + 1 + 1) (by omega) [.slice (some ⟨g8, 0, none⟩) x.gives.length x.gives.length] 8 _) (Nat.le_refl _)
  have HG6 : Hid (SliceC RnC 11 (w.heap.size + 3) (w4.setCell ⟨w.heap.size + 1 + 1, 8, none⟩ (.slice (some ⟨g8, 0, none⟩) x.gives.length x.gives.length)) (some ⟨g6, 0, none⟩) x.runs) := HN6.out.keep RnC.holds (Keeps.setCells (b := w.heap.size + 1 + 1) (by omega) [.slice (some ⟨g8, 0, none⟩) x.gives.length x.gives.length] 8 _) (Nat.le_refl _)
  have HG7 : Hid (SliceC AksC 4 (w.heap.size + 3) (w4.setCell ⟨w.heap.size + 1 + 1, 8, none⟩ (.slice (some ⟨g8, 0, none⟩) x.gives.length x.gives.length)) (some ⟨g7, 0, none⟩) x.asks) := HN7.out.keep AksC.holds (Keeps.setCells (b := w.heap.size + 1 + 1) (by omega) [.slice (some ⟨g8, 0, none⟩) x.gives.length x.gives.length] 8 _) (Nat.le_refl _)
  have HG8 : Hid (SliceC AksC 4 (w.heap.size + 3) (w4.setCell ⟨w.heap.size + 1 + 1, 8, none⟩ (.slice (some ⟨g8, 0, none⟩) x.gives.length x.gives.length)) (some ⟨g8, 0, none⟩) x.gives) := HN8.out.keep AksC.holds (Keeps.setCells (b := w.heap.size + 1 + 1) (by omega) [.slice (some ⟨g8, 0, none⟩) x.gives.length x.gives.length] 8 _) (Nat.le_refl _)
  clear ko4_8 fo4_8  HPR HTO HTR hz4 hB4 HN5 hg5' HN6 hg6' HN7 hg7' HN8 hg8'
  generalize (w4.setCell ⟨w.heap.size + 1 + 1, 8, none⟩ (.slice (some ⟨g8, 0, none⟩) x.gives.length x.gives.length)) = w9 at *
  obtain ⟨w10, hw10⟩ : ∃ w', w' = w9.setCells (w.heap.size + 1) 0 [.string x.name, .bool x.up, .int .i64 x.clock, .bool x.known, .int .i64 x.seen, .slice (some ⟨g5, 0, none⟩) x.wants.length x.wants.length, .slice (some ⟨g6, 0, none⟩) x.runs.length x.runs.length, .slice (some ⟨g7, 0, none⟩) x.asks.length x.asks.length, .slice (some ⟨g8, 0, none⟩) x.gives.length x.gives.length] := ⟨_, rfl⟩
  have HR10 : Hid (w10.rangeAt (w.heap.size + 1) 0 [.string x.name, .bool x.up, .int .i64 x.clock, .bool x.known, .int .i64 x.seen, .slice (some ⟨g5, 0, none⟩) x.wants.length x.wants.length, .slice (some ⟨g6, 0, none⟩) x.runs.length x.runs.length, .slice (some ⟨g7, 0, none⟩) x.asks.length x.asks.length, .slice (some ⟨g8, 0, none⟩) x.gives.length x.gives.length]) := by rw [hw10]; exact World.rangeAt_setCells_same _ _ _ _ HTG.out
  have HB10 : Hid (Below w.heap.size w w10) := by rw [hw10]; exact below_setCells (by omega) _ _ _ HBG.out
  have HS5 : Hid (SliceC WntC 7 w.heap.size w10 (some ⟨g5, 0, none⟩) x.wants) := by rw [hw10]; exact HG5.out.keep WntC.holds (Keeps.setCells (by omega) _ _ _) (by omega)
  have HS6 : Hid (SliceC RnC 11 w.heap.size w10 (some ⟨g6, 0, none⟩) x.runs) := by rw [hw10]; exact HG6.out.keep RnC.holds (Keeps.setCells (by omega) _ _ _) (by omega)
  have HS7 : Hid (SliceC AksC 4 w.heap.size w10 (some ⟨g7, 0, none⟩) x.asks) := by rw [hw10]; exact HG7.out.keep AksC.holds (Keeps.setCells (by omega) _ _ _) (by omega)
  have HS8 : Hid (SliceC AksC 4 w.heap.size w10 (some ⟨g8, 0, none⟩) x.gives) := by rw [hw10]; exact HG8.out.keep AksC.holds (Keeps.setCells (by omega) _ _ _) (by omega)
  have HW10 : Hid (w10 = w9.setCells (w.heap.size + 1) 0 [.string x.name, .bool x.up, .int .i64 x.clock, .bool x.known, .int .i64 x.seen, .slice (some ⟨g5, 0, none⟩) x.wants.length x.wants.length, .slice (some ⟨g6, 0, none⟩) x.runs.length x.runs.length, .slice (some ⟨g7, 0, none⟩) x.asks.length x.asks.length, .slice (some ⟨g8, 0, none⟩) x.gives.length x.gives.length]) := hw10
  clear hw10 HBG HG5 HG6 HG7 HG8
  go_wp2_with (first | (refine wpList_load_mid rfl 36 _ rfl (w.heap.size + 1 + 1) 0 rfl [.string x.name, .bool x.up, .int .i64 x.clock, .bool x.known, .int .i64 x.seen, .slice (some ⟨g5, 0, none⟩) x.wants.length x.wants.length, .slice (some ⟨g6, 0, none⟩) x.runs.length x.runs.length, .slice (some ⟨g7, 0, none⟩) x.asks.length x.asks.length, .slice (some ⟨g8, 0, none⟩) x.gives.length x.gives.length] _ HRG.out Try.underlying36 rfl isz_Mte ?_) | (refine wpList_store_to rfl 36 _ _ rfl (w.heap.size + 1) 0 #[.string x.name, .bool x.up, .int .i64 x.clock, .bool x.known, .int .i64 x.seen, .slice (some ⟨g5, 0, none⟩) x.wants.length x.wants.length, .slice (some ⟨g6, 0, none⟩) x.runs.length x.runs.length, .slice (some ⟨g7, 0, none⟩) x.asks.length x.asks.length, .slice (some ⟨g8, 0, none⟩) x.gives.length x.gives.length] rfl rfl HTG.out isz_Mte (by simp [Value.oneCell']) w10 HW10.out ?_))
  exact bodyPost_ret (results_cell_mid rfl _ _ (w.heap.size + 1) [.string x.name, .bool x.up, .int .i64 x.clock, .bool x.known, .int .i64 x.seen, .slice (some ⟨g5, 0, none⟩) x.wants.length x.wants.length, .slice (some ⟨g6, 0, none⟩) x.runs.length x.runs.length, .slice (some ⟨g7, 0, none⟩) x.asks.length x.asks.length, .slice (some ⟨g8, 0, none⟩) x.gives.length x.gives.length] _ rfl HR10.out Try.underlying36 rfl isz_Mte) rfl ⟨g5, g6, g7, g8, rfl, HS5.out, HS6.out, HS7.out, HS8.out, HB10.out⟩

set_option maxHeartbeats 2000000 in
theorem eqMte_any (x : Mte) (a5 : Option Addr) (c5 : Nat) (a6 : Option Addr) (c6 : Nat) (a7 : Option Addr) (c7 : Nat) (a8 : Option Addr) (c8 : Nat) (a5p : Option Addr) (c5p : Nat) (a6p : Option Addr) (c6p : Nat) (a7p : Option Addr) (c7p : Nat) (a8p : Option Addr) (c8p : Nat) (lo lo' : Nat) (w : World) (n5 : SliceC WntC 7 lo w a5 x.wants) (n6 : SliceC RnC 11 lo w a6 x.runs) (n7 : SliceC AksC 4 lo w a7 x.asks) (n8 : SliceC AksC 4 lo w a8 x.gives) (p5 : SliceC WntC 7 lo' w a5p x.wants) (p6 : SliceC RnC 11 lo' w a6p x.runs) (p7 : SliceC AksC 4 lo' w a7p x.asks) (p8 : SliceC AksC 4 lo' w a8p x.gives) (hsm : wMte x ≤ 1048576) :
    Calls Try.prog 9 #[.agg #[.string x.name, .bool x.up, .int .i64 x.clock, .bool x.known, .int .i64 x.seen, .slice a5 x.wants.length c5, .slice a6 x.runs.length c6, .slice a7 x.asks.length c7, .slice a8 x.gives.length c8], .agg #[.string x.name, .bool x.up, .int .i64 x.clock, .bool x.known, .int .i64 x.seen, .slice a5p x.wants.length c5p, .slice a6p x.runs.length c6p, .slice a7p x.asks.length c7p, .slice a8p x.gives.length c8p]] w fun e w' => e = .returned (.bool true) ∧ Below w.heap.size w w' := by
  have N5 : Hid (SliceC WntC 7 lo w a5 x.wants) := n5
  have P5 : Hid (SliceC WntC 7 lo' w a5p x.wants) := p5
  have M5 : wS wWnt x.wants ≤ 1048576 := by unfold wMte at hsm; omega
  have N6 : Hid (SliceC RnC 11 lo w a6 x.runs) := n6
  have P6 : Hid (SliceC RnC 11 lo' w a6p x.runs) := p6
  have M6 : wS wRn x.runs ≤ 1048576 := by unfold wMte at hsm; omega
  have N7 : Hid (SliceC AksC 4 lo w a7 x.asks) := n7
  have P7 : Hid (SliceC AksC 4 lo' w a7p x.asks) := p7
  have M7 : wS wAks x.asks ≤ 1048576 := by unfold wMte at hsm; omega
  have N8 : Hid (SliceC AksC 4 lo w a8 x.gives) := n8
  have P8 : Hid (SliceC AksC 4 lo' w a8p x.gives) := p8
  have M8 : wS wAks x.gives ≤ 1048576 := by unfold wMte at hsm; omega
  clear hsm n5 p5 n6 p6 n7 p7 n8 p8
  go_enter Try.func9, Try.ntmps9
  go_wp2_with fail
  refine (eqWntS_any x.wants a5 a5p c5 c5p lo lo' _ (N5.out.below WntC.holds (B := w.heap.size) (by go_grown) (Nat.le_refl _)) (P5.out.below WntC.holds (B := w.heap.size) (by go_grown) (Nat.le_refl _)) M5).mono ?_
  rintro e w1 ⟨rfl, hb1⟩
  have hB1 : Below w.heap.size w w1 := (show Below w.heap.size w _ by go_grown).trans (hb1.mono (by simp; omega))
  have k1_6 : w1.cell? ⟨w.heap.size, 6, none⟩ = some (.slice a6 x.runs.length c6) := (hb1.cell (p := ⟨w.heap.size, 6, none⟩) (by simp; omega)).trans (by simp)
  have l1_6 : w1.cell? ⟨w.heap.size + 1, 6, none⟩ = some (.slice a6p x.runs.length c6p) := (hb1.cell (p := ⟨w.heap.size + 1, 6, none⟩) (by simp)).trans (by simp)
  have k1_7 : w1.cell? ⟨w.heap.size, 7, none⟩ = some (.slice a7 x.asks.length c7) := (hb1.cell (p := ⟨w.heap.size, 7, none⟩) (by simp; omega)).trans (by simp)
  have l1_7 : w1.cell? ⟨w.heap.size + 1, 7, none⟩ = some (.slice a7p x.asks.length c7p) := (hb1.cell (p := ⟨w.heap.size + 1, 7, none⟩) (by simp)).trans (by simp)
  have k1_8 : w1.cell? ⟨w.heap.size, 8, none⟩ = some (.slice a8 x.gives.length c8) := (hb1.cell (p := ⟨w.heap.size, 8, none⟩) (by simp; omega)).trans (by simp)
  have l1_8 : w1.cell? ⟨w.heap.size + 1, 8, none⟩ = some (.slice a8p x.gives.length c8p) := (hb1.cell (p := ⟨w.heap.size + 1, 8, none⟩) (by simp)).trans (by simp)
  have hs1 : w.heap.size + 1 < w1.heap.size := by have := hb1.size; simp at this; omega
  clear hb1
  go_wp2_with fail
  refine (eqRnS_any x.runs a6 a6p c6 c6p lo lo' _ (N6.out.below RnC.holds (B := w.heap.size) (hB1) (Nat.le_refl _)) (P6.out.below RnC.holds (B := w.heap.size) (hB1) (Nat.le_refl _)) M6).mono ?_
  rintro e w2 ⟨rfl, hb2⟩
  have hB2 : Below w.heap.size w w2 := hB1.trans (hb2.mono (by omega))
  have k2_7 : w2.cell? ⟨w.heap.size, 7, none⟩ = some (.slice a7 x.asks.length c7) := (hb2.cell (p := ⟨w.heap.size, 7, none⟩) (show w.heap.size < w1.heap.size by omega)).trans k1_7
  have l2_7 : w2.cell? ⟨w.heap.size + 1, 7, none⟩ = some (.slice a7p x.asks.length c7p) := (hb2.cell (p := ⟨w.heap.size + 1, 7, none⟩) hs1).trans l1_7
  have k2_8 : w2.cell? ⟨w.heap.size, 8, none⟩ = some (.slice a8 x.gives.length c8) := (hb2.cell (p := ⟨w.heap.size, 8, none⟩) (show w.heap.size < w1.heap.size by omega)).trans k1_8
  have l2_8 : w2.cell? ⟨w.heap.size + 1, 8, none⟩ = some (.slice a8p x.gives.length c8p) := (hb2.cell (p := ⟨w.heap.size + 1, 8, none⟩) hs1).trans l1_8
  have hs2 : w.heap.size + 1 < w2.heap.size := by have := hb2.size; omega
  clear hb2 hB1 hs1 k1_6 l1_6 k1_7 l1_7 k1_8 l1_8
  go_wp2_with fail
  refine (eqAksS_any x.asks a7 a7p c7 c7p lo lo' _ (N7.out.below AksC.holds (B := w.heap.size) (hB2) (Nat.le_refl _)) (P7.out.below AksC.holds (B := w.heap.size) (hB2) (Nat.le_refl _)) M7).mono ?_
  rintro e w3 ⟨rfl, hb3⟩
  have hB3 : Below w.heap.size w w3 := hB2.trans (hb3.mono (by omega))
  have k3_8 : w3.cell? ⟨w.heap.size, 8, none⟩ = some (.slice a8 x.gives.length c8) := (hb3.cell (p := ⟨w.heap.size, 8, none⟩) (show w.heap.size < w2.heap.size by omega)).trans k2_8
  have l3_8 : w3.cell? ⟨w.heap.size + 1, 8, none⟩ = some (.slice a8p x.gives.length c8p) := (hb3.cell (p := ⟨w.heap.size + 1, 8, none⟩) hs2).trans l2_8
  have hs3 : w.heap.size + 1 < w3.heap.size := by have := hb3.size; omega
  clear hb3 hB2 hs2 k2_7 l2_7 k2_8 l2_8
  go_wp2_with fail
  refine (eqAksS_any x.gives a8 a8p c8 c8p lo lo' _ (N8.out.below AksC.holds (B := w.heap.size) (hB3) (Nat.le_refl _)) (P8.out.below AksC.holds (B := w.heap.size) (hB3) (Nat.le_refl _)) M8).mono ?_
  rintro e w4 ⟨rfl, hb4⟩
  have hB4 : Below w.heap.size w w4 := hB3.trans (hb4.mono (by omega))
  have hs4 : w.heap.size + 1 < w4.heap.size := by have := hb4.size; omega
  clear hb4 hB3 hs3 k3_8 l3_8
  go_wp2_with fail
  go_ret
  exact ⟨rfl, hB4⟩

end Go.Proofs.Ytlegklkbmifdeaa
