/-
  Walks over Mate: sizes, copies, equality. Made by mk.py.
-/
import Derived.Test.YtebcocejgenadaaGreatRn
import Derived.Test.YtebcocejgenadaaGreatAks
namespace Go.Proofs.YtebcocejgenadaaGreat
open Go.RowKit

structure Mte where
  name : ByteArray
  up : Bool
  clock : Int
  known : Bool
  seen : Int
  wants : List Wnt
  runs : List Rn
  asks : List Aks
  gives : List Aks

def wMte (x : Mte) : Nat := x.name.size + (wS wWnt x.wants) + (wS wRn x.runs) + (wS wAks x.asks) + (wS wAks x.gives)

/-- what its cells hold -/
def MteC : Make Mte := fun lo w f x => ∃ (a5 : Option Addr) (c5 : Nat) (a6 : Option Addr) (c6 : Nat) (a7 : Option Addr) (c7 : Nat) (a8 : Option Addr) (c8 : Nat), f 0 = some (.string x.name) ∧ f 1 = some (.bool x.up) ∧ f 2 = some (.int .i64 x.clock) ∧ f 3 = some (.bool x.known) ∧ f 4 = some (.int .i64 x.seen) ∧ f 5 = some (.slice a5 x.wants.length c5) ∧ f 6 = some (.slice a6 x.runs.length c6) ∧ f 7 = some (.slice a7 x.asks.length c7) ∧ f 8 = some (.slice a8 x.gives.length c8) ∧ x.name.size ≤ maxLen ∧ SliceC WntC 7 lo w a5 x.wants ∧ SliceC RnC 11 lo w a6 x.runs ∧ SliceC AksC 4 lo w a7 x.asks ∧ SliceC AksC 4 lo w a8 x.gives

theorem MteC.holds : Holds MteC 9 := by
  rintro lo lo' w w' f g x h k hl ⟨a5, c5, a6, c6, a7, c7, a8, c8, q0, q1, q2, q3, q4, q5, q6, q7, q8, z0, n5, n6, n7, n8⟩
  exact ⟨a5, c5, a6, c6, a7, c7, a8, c8, (h 0 (by omega)).trans q0, (h 1 (by omega)).trans q1, (h 2 (by omega)).trans q2, (h 3 (by omega)).trans q3, (h 4 (by omega)).trans q4, (h 5 (by omega)).trans q5, (h 6 (by omega)).trans q6, (h 7 (by omega)).trans q7, (h 8 (by omega)).trans q8, z0, n5.keep WntC.holds k hl, n6.keep RnC.holds k hl, n7.keep AksC.holds k hl, n8.keep AksC.holds k hl⟩

theorem isz_Mte : (Tryz.prog.info? 41).map (·.size) = some 9 := by kernel_rfl

set_option maxHeartbeats 2000000 in
theorem eqMte_any (x : Mte) (a5 : Option Addr) (c5 : Nat) (a6 : Option Addr) (c6 : Nat) (a7 : Option Addr) (c7 : Nat) (a8 : Option Addr) (c8 : Nat) (a5p : Option Addr) (c5p : Nat) (a6p : Option Addr) (c6p : Nat) (a7p : Option Addr) (c7p : Nat) (a8p : Option Addr) (c8p : Nat) (lo lo' : Nat) (w : World) (n5 : SliceC WntC 7 lo w a5 x.wants) (n6 : SliceC RnC 11 lo w a6 x.runs) (n7 : SliceC AksC 4 lo w a7 x.asks) (n8 : SliceC AksC 4 lo w a8 x.gives) (p5 : SliceC WntC 7 lo' w a5p x.wants) (p6 : SliceC RnC 11 lo' w a6p x.runs) (p7 : SliceC AksC 4 lo' w a7p x.asks) (p8 : SliceC AksC 4 lo' w a8p x.gives) (hsm : wMte x ≤ 1048576) :
    Calls Tryz.prog 33 #[.agg #[.string x.name, .bool x.up, .int .i64 x.clock, .bool x.known, .int .i64 x.seen, .slice a5 x.wants.length c5, .slice a6 x.runs.length c6, .slice a7 x.asks.length c7, .slice a8 x.gives.length c8], .agg #[.string x.name, .bool x.up, .int .i64 x.clock, .bool x.known, .int .i64 x.seen, .slice a5p x.wants.length c5p, .slice a6p x.runs.length c6p, .slice a7p x.asks.length c7p, .slice a8p x.gives.length c8p]] w fun e w' => e = .returned (.bool true) ∧ Below w.heap.size w w' := by
  have N5 : Hid (SliceC WntC 7 lo w a5 x.wants) := n5
  have P5 : Hid (SliceC WntC 7 lo' w a5p x.wants) := p5
  have M5 : wS wWnt x.wants ≤ 1048576 := by unfold wMte at hsm; omega
  have N6 : Hid (SliceC RnC 11 lo w a6 x.runs) := n6
  have P6 : Hid (SliceC RnC 11 lo' w a6p x.runs) := p6
  have M6 : wS wRn x.runs ≤ 1048576 := by unfold wMte at hsm; omega
  have N7 : Hid (SliceC AksC 4 lo w a7 x.asks) := n7
  have P7 : Hid (SliceC AksC 4 lo' w a7p x.asks) := p7
  have M7 : wS wAks x.asks ≤ 1048576 := by unfold wMte at hsm; omega
  have N8 : Hid (SliceC AksC 4 lo w a8 x.gives) := n8
  have P8 : Hid (SliceC AksC 4 lo' w a8p x.gives) := p8
  have M8 : wS wAks x.gives ≤ 1048576 := by unfold wMte at hsm; omega
  clear hsm n5 p5 n6 p6 n7 p7 n8 p8
  go_enter Tryz.func33, Tryz.ntmps33
  go_wp2_with fail
  refine (eqWntS_any x.wants a5 a5p c5 c5p lo lo' _ (N5.out.below WntC.holds (B := w.heap.size) (by go_grown) (Nat.le_refl _)) (P5.out.below WntC.holds (B := w.heap.size) (by go_grown) (Nat.le_refl _)) M5).mono ?_
  rintro e w1 ⟨rfl, hb1⟩
  have hB1 : Below w.heap.size w w1 := (show Below w.heap.size w _ by go_grown).trans (hb1.mono (by simp; omega))
  have k1_6 : w1.cell? ⟨w.heap.size, 6, none⟩ = some (.slice a6 x.runs.length c6) := (hb1.cell (p := ⟨w.heap.size, 6, none⟩) (by simp; omega)).trans (by simp)
  have l1_6 : w1.cell? ⟨w.heap.size + 1, 6, none⟩ = some (.slice a6p x.runs.length c6p) := (hb1.cell (p := ⟨w.heap.size + 1, 6, none⟩) (by simp)).trans (by simp)
  have k1_7 : w1.cell? ⟨w.heap.size, 7, none⟩ = some (.slice a7 x.asks.length c7) := (hb1.cell (p := ⟨w.heap.size, 7, none⟩) (by simp; omega)).trans (by simp)
  have l1_7 : w1.cell? ⟨w.heap.size + 1, 7, none⟩ = some (.slice a7p x.asks.length c7p) := (hb1.cell (p := ⟨w.heap.size + 1, 7, none⟩) (by simp)).trans (by simp)
  have k1_8 : w1.cell? ⟨w.heap.size, 8, none⟩ = some (.slice a8 x.gives.length c8) := (hb1.cell (p := ⟨w.heap.size, 8, none⟩) (by simp; omega)).trans (by simp)
  have l1_8 : w1.cell? ⟨w.heap.size + 1, 8, none⟩ = some (.slice a8p x.gives.length c8p) := (hb1.cell (p := ⟨w.heap.size + 1, 8, none⟩) (by simp)).trans (by simp)
  have hs1 : w.heap.size + 1 < w1.heap.size := by have := hb1.size; simp at this; omega
  clear hb1
  go_wp2_with fail
  refine (eqRnS_any x.runs a6 a6p c6 c6p lo lo' _ (N6.out.below RnC.holds (B := w.heap.size) (hB1) (Nat.le_refl _)) (P6.out.below RnC.holds (B := w.heap.size) (hB1) (Nat.le_refl _)) M6).mono ?_
  rintro e w2 ⟨rfl, hb2⟩
  have hB2 : Below w.heap.size w w2 := hB1.trans (hb2.mono (by omega))
  have k2_7 : w2.cell? ⟨w.heap.size, 7, none⟩ = some (.slice a7 x.asks.length c7) := (hb2.cell (p := ⟨w.heap.size, 7, none⟩) (show w.heap.size < w1.heap.size by omega)).trans k1_7
  have l2_7 : w2.cell? ⟨w.heap.size + 1, 7, none⟩ = some (.slice a7p x.asks.length c7p) := (hb2.cell (p := ⟨w.heap.size + 1, 7, none⟩) hs1).trans l1_7
  have k2_8 : w2.cell? ⟨w.heap.size, 8, none⟩ = some (.slice a8 x.gives.length c8) := (hb2.cell (p := ⟨w.heap.size, 8, none⟩) (show w.heap.size < w1.heap.size by omega)).trans k1_8
  have l2_8 : w2.cell? ⟨w.heap.size + 1, 8, none⟩ = some (.slice a8p x.gives.length c8p) := (hb2.cell (p := ⟨w.heap.size + 1, 8, none⟩) hs1).trans l1_8
  have hs2 : w.heap.size + 1 < w2.heap.size := by have := hb2.size; omega
  clear hb2 hB1 hs1 k1_6 l1_6 k1_7 l1_7 k1_8 l1_8
  go_wp2_with fail
  refine (eqAksS_any x.asks a7 a7p c7 c7p lo lo' _ (N7.out.below AksC.holds (B := w.heap.size) (hB2) (Nat.le_refl _)) (P7.out.below AksC.holds (B := w.heap.size) (hB2) (Nat.le_refl _)) M7).mono ?_
  rintro e w3 ⟨rfl, hb3⟩
  have hB3 : Below w.heap.size w w3 := hB2.trans (hb3.mono (by omega))
  have k3_8 : w3.cell? ⟨w.heap.size, 8, none⟩ = some (.slice a8 x.gives.length c8) := (hb3.cell (p := ⟨w.heap.size, 8, none⟩) (show w.heap.size < w2.heap.size by omega)).trans k2_8
  have l3_8 : w3.cell? ⟨w.heap.size + 1, 8, none⟩ = some (.slice a8p x.gives.length c8p) := (hb3.cell (p := ⟨w.heap.size + 1, 8, none⟩) hs2).trans l2_8
  have hs3 : w.heap.size + 1 < w3.heap.size := by have := hb3.size; omega
  clear hb3 hB2 hs2 k2_7 l2_7 k2_8 l2_8
  go_wp2_with fail
  refine (eqAksS_any x.gives a8 a8p c8 c8p lo lo' _ (N8.out.below AksC.holds (B := w.heap.size) (hB3) (Nat.le_refl _)) (P8.out.below AksC.holds (B := w.heap.size) (hB3) (Nat.le_refl _)) M8).mono ?_
  rintro e w4 ⟨rfl, hb4⟩
  have hB4 : Below w.heap.size w w4 := hB3.trans (hb4.mono (by omega))
  have hs4 : w.heap.size + 1 < w4.heap.size := by have := hb4.size; omega
  clear hb4 hB3 hs3 k3_8 l3_8
  go_wp2_with fail
  go_ret
  exact ⟨rfl, hB4⟩

end Go.Proofs.YtebcocejgenadaaGreat
