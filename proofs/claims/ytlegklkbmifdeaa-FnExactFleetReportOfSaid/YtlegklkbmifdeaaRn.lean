/-
  Walks over MateRun: sizes, copies, equality. Made by mk.py.
-/
import Derived.Test.YtlegklkbmifdeaaWnt
namespace Go.Proofs.Ytlegklkbmifdeaa
open Go.RowKit

structure Rn where
  want : Wnt
  state : Int
  left : Int
  falls : Int
  until_ : Int

def wRn (x : Rn) : Nat := x.want.copy.size + x.want.hold.size

/-- what its cells hold -/
def RnC : Make Rn := fun _ _ f x => f 0 = some (.string x.want.copy) ∧ f 1 = some (.int .i64 x.want.version) ∧ f 2 = some (.string x.want.hold) ∧ f 3 = some (.int .i64 x.want.pull) ∧ f 4 = some (.int .i64 x.want.start) ∧ f 5 = some (.int .i64 x.want.dies) ∧ f 6 = some (.int .i64 x.want.grace) ∧ f 7 = some (.int .i64 x.state) ∧ f 8 = some (.int .i64 x.left) ∧ f 9 = some (.int .i64 x.falls) ∧ f 10 = some (.int .i64 x.until_) ∧ x.want.copy.size ≤ maxLen ∧ x.want.hold.size ≤ maxLen

theorem RnC.holds : Holds RnC 11 := by
  rintro lo lo' w w' f g x h _ _ ⟨q0, q1, q2, q3, q4, q5, q6, q7, q8, q9, q10, z0, z2⟩
  exact ⟨(h 0 (by omega)).trans q0, (h 1 (by omega)).trans q1, (h 2 (by omega)).trans q2, (h 3 (by omega)).trans q3, (h 4 (by omega)).trans q4, (h 5 (by omega)).trans q5, (h 6 (by omega)).trans q6, (h 7 (by omega)).trans q7, (h 8 (by omega)).trans q8, (h 9 (by omega)).trans q9, (h 10 (by omega)).trans q10, z0, z2⟩

set_option maxHeartbeats 1000000 in
theorem szRn_any (x : Rn)  (L : Int) (w : World) (z0 : x.want.copy.size ≤ maxLen) (z2 : x.want.hold.size ≤ maxLen)  (h0 : 0 ≤ L) (h1 : L ≤ 1048576) :
    Calls Try.prog 32 #[.agg #[.string x.want.copy, .int .i64 x.want.version, .string x.want.hold, .int .i64 x.want.pull, .int .i64 x.want.start, .int .i64 x.want.dies, .int .i64 x.want.grace, .int .i64 x.state, .int .i64 x.left, .int .i64 x.falls, .int .i64 x.until_], .int .i64 L] w fun e w' => e = .returned (.int .i64 (szR (wRn x) L)) ∧ Below w.heap.size w w' := by
  unfold maxLen at z0 z2
  have HW : Hid (wRn x = x.want.copy.size + x.want.hold.size) := rfl
  generalize wRn x = W at *
  go_enter Try.func32, Try.ntmps32
  go_wp2_with fail
  refine (szWnt_any x.want L _ (by unfold maxLen; omega) (by unfold maxLen; omega) h0 h1).mono ?_
  rintro e w1 ⟨rfl, hb1⟩
  have hB1 : Below w.heap.size w w1 := (show Below w.heap.size w _ by go_grown).trans (hb1.mono (by simp))
  have HX : Hid (wWnt x.want = x.want.copy.size + x.want.hold.size) := rfl
  generalize wWnt x.want = V at *
  clear hb1
  by_cases d : (V : Int) ≤ L
  · rw [szR_pos d]
    go_wp2_with fail
    go_ret
    exact ⟨ret_int (by have := HW.out; have := HX.out; unfold szR; rw [if_pos (by omega)]; omega), hB1⟩
  · rw [szR_neg d]
    go_wp2_with fail
    go_ret
    exact ⟨ret_int (by have := HW.out; have := HX.out; unfold szR; rw [if_neg (by omega)]), hB1⟩

theorem isz_Rn : (Try.prog.info? 50).map (·.size) = some 11 := by kernel_rfl

set_option maxHeartbeats 2000000 in
theorem toRn_any (x : Rn) (w : World) :
    Calls Try.prog 42 #[.agg #[.string x.want.copy, .int .i64 x.want.version, .string x.want.hold, .int .i64 x.want.pull, .int .i64 x.want.start, .int .i64 x.want.dies, .int .i64 x.want.grace, .int .i64 x.state, .int .i64 x.left, .int .i64 x.falls, .int .i64 x.until_]] w fun e w' => e = .returned (.agg #[.string x.want.copy, .int .i64 x.want.version, .string x.want.hold, .int .i64 x.want.pull, .int .i64 x.want.start, .int .i64 x.want.dies, .int .i64 x.want.grace, .int .i64 x.state, .int .i64 x.left, .int .i64 x.falls, .int .i64 x.until_]) ∧ Below w.heap.size w w' := by
  go_enter Try.func42, Try.ntmps42
  go_wp2_with fail
  refine (toWnt_any x.want _).mono ?_
  rintro e w1 ⟨rfl, hb1⟩
  have ka7 : w1.cell? ⟨w.heap.size, 7, none⟩ = some (.int .i64 x.state) := (hb1.cell (p := ⟨w.heap.size, 7, none⟩) (by first | (simp; done) | (simp; omega))).trans (by simp [go_sem])
  have ka8 : w1.cell? ⟨w.heap.size, 8, none⟩ = some (.int .i64 x.left) := (hb1.cell (p := ⟨w.heap.size, 8, none⟩) (by first | (simp; done) | (simp; omega))).trans (by simp [go_sem])
  have ka9 : w1.cell? ⟨w.heap.size, 9, none⟩ = some (.int .i64 x.falls) := (hb1.cell (p := ⟨w.heap.size, 9, none⟩) (by first | (simp; done) | (simp; omega))).trans (by simp [go_sem])
  have ka10 : w1.cell? ⟨w.heap.size, 10, none⟩ = some (.int .i64 x.until_) := (hb1.cell (p := ⟨w.heap.size, 10, none⟩) (by first | (simp; done) | (simp; omega))).trans (by simp [go_sem])
  have ko0 : w1.cell? ⟨w.heap.size + 1 + 1, 0, none⟩ = some (.string ⟨#[]⟩) := (hb1.cell (p := ⟨w.heap.size + 1 + 1, 0, none⟩) (by first | (simp; done) | (simp; omega))).trans (by simp [go_sem])
  have fo0 : w1.frozen? ⟨w.heap.size + 1 + 1, 0, none⟩ = false := (hb1.frozen (p := ⟨w.heap.size + 1 + 1, 0, none⟩) (by first | (simp; done) | (simp; omega))).trans (by simp [go_sem])
  have kr0 : w1.cell? ⟨w.heap.size + 1, 0, none⟩ = some (.string ⟨#[]⟩) := (hb1.cell (p := ⟨w.heap.size + 1, 0, none⟩) (by first | (simp; done) | (simp; omega))).trans (by simp [go_sem])
  have fr0 : w1.frozen? ⟨w.heap.size + 1, 0, none⟩ = false := (hb1.frozen (p := ⟨w.heap.size + 1, 0, none⟩) (by first | (simp; done) | (simp; omega))).trans (by simp [go_sem])
  have ko1 : w1.cell? ⟨w.heap.size + 1 + 1, 1, none⟩ = some (.int .i64 0) := (hb1.cell (p := ⟨w.heap.size + 1 + 1, 1, none⟩) (by first | (simp; done) | (simp; omega))).trans (by simp [go_sem])
  have fo1 : w1.frozen? ⟨w.heap.size + 1 + 1, 1, none⟩ = false := (hb1.frozen (p := ⟨w.heap.size + 1 + 1, 1, none⟩) (by first | (simp; done) | (simp; omega))).trans (by simp [go_sem])
  have kr1 : w1.cell? ⟨w.heap.size + 1, 1, none⟩ = some (.int .i64 0) := (hb1.cell (p := ⟨w.heap.size + 1, 1, none⟩) (by first | (simp; done) | (simp; omega))).trans (by simp [go_sem])
  have fr1 : w1.frozen? ⟨w.heap.size + 1, 1, none⟩ = false := (hb1.frozen (p := ⟨w.heap.size + 1, 1, none⟩) (by first | (simp; done) | (simp; omega))).trans (by simp [go_sem])
  have ko2 : w1.cell? ⟨w.heap.size + 1 + 1, 2, none⟩ = some (.string ⟨#[]⟩) := (hb1.cell (p := ⟨w.heap.size + 1 + 1, 2, none⟩) (by first | (simp; done) | (simp; omega))).trans (by simp [go_sem])
  have fo2 : w1.frozen? ⟨w.heap.size + 1 + 1, 2, none⟩ = false := (hb1.frozen (p := ⟨w.heap.size + 1 + 1, 2, none⟩) (by first | (simp; done) | (simp; omega))).trans (by simp [go_sem])
  have kr2 : w1.cell? ⟨w.heap.size + 1, 2, none⟩ = some (.string ⟨#[]⟩) := (hb1.cell (p := ⟨w.heap.size + 1, 2, none⟩) (by first | (simp; done) | (simp; omega))).trans (by simp [go_sem])
  have fr2 : w1.frozen? ⟨w.heap.size + 1, 2, none⟩ = false := (hb1.frozen (p := ⟨w.heap.size + 1, 2, none⟩) (by first | (simp; done) | (simp; omega))).trans (by simp [go_sem])
  have ko3 : w1.cell? ⟨w.heap.size + 1 + 1, 3, none⟩ = some (.int .i64 0) := (hb1.cell (p := ⟨w.heap.size + 1 + 1, 3, none⟩) (by first | (simp; done) | (simp; omega))).trans (by simp [go_sem])
  have fo3 : w1.frozen? ⟨w.heap.size + 1 + 1, 3, none⟩ = false := (hb1.frozen (p := ⟨w.heap.size + 1 + 1, 3, none⟩) (by first | (simp; done) | (simp; omega))).trans (by simp [go_sem])
  have kr3 : w1.cell? ⟨w.heap.size + 1, 3, none⟩ = some (.int .i64 0) := (hb1.cell (p := ⟨w.heap.size + 1, 3, none⟩) (by first | (simp; done) | (simp; omega))).trans (by simp [go_sem])
  have fr3 : w1.frozen? ⟨w.heap.size + 1, 3, none⟩ = false := (hb1.frozen (p := ⟨w.heap.size + 1, 3, none⟩) (by first | (simp; done) | (simp; omega))).trans (by simp [go_sem])
  have ko4 : w1.cell? ⟨w.heap.size + 1 + 1, 4, none⟩ = some (.int .i64 0) := (hb1.cell (p := ⟨w.heap.size + 1 + 1, 4, none⟩) (by first | (simp; done) | (simp; omega))).trans (by simp [go_sem])
  have fo4 : w1.frozen? ⟨w.heap.size + 1 + 1, 4, none⟩ = false := (hb1.frozen (p := ⟨w.heap.size + 1 + 1, 4, none⟩) (by first | (simp; done) | (simp; omega))).trans (by simp [go_sem])
  have kr4 : w1.cell? ⟨w.heap.size + 1, 4, none⟩ = some (.int .i64 0) := (hb1.cell (p := ⟨w.heap.size + 1, 4, none⟩) (by first | (simp; done) | (simp; omega))).trans (by simp [go_sem])
  have fr4 : w1.frozen? ⟨w.heap.size + 1, 4, none⟩ = false := (hb1.frozen (p := ⟨w.heap.size + 1, 4, none⟩) (by first | (simp; done) | (simp; omega))).trans (by simp [go_sem])
  have ko5 : w1.cell? ⟨w.heap.size + 1 + 1, 5, none⟩ = some (.int .i64 0) := (hb1.cell (p := ⟨w.heap.size + 1 + 1, 5, none⟩) (by first | (simp; done) | (simp; omega))).trans (by simp [go_sem])
  have fo5 : w1.frozen? ⟨w.heap.size + 1 + 1, 5, none⟩ = false := (hb1.frozen (p := ⟨w.heap.size + 1 + 1, 5, none⟩) (by first | (simp; done) | (simp; omega))).trans (by simp [go_sem])
  have kr5 : w1.cell? ⟨w.heap.size + 1, 5, none⟩ = some (.int .i64 0) := (hb1.cell (p := ⟨w.heap.size + 1, 5, none⟩) (by first | (simp; done) | (simp; omega))).trans (by simp [go_sem])
  have fr5 : w1.frozen? ⟨w.heap.size + 1, 5, none⟩ = false := (hb1.frozen (p := ⟨w.heap.size + 1, 5, none⟩) (by first | (simp; done) | (simp; omega))).trans (by simp [go_sem])
  have ko6 : w1.cell? ⟨w.heap.size + 1 + 1, 6, none⟩ = some (.int .i64 0) := (hb1.cell (p := ⟨w.heap.size + 1 + 1, 6, none⟩) (by first | (simp; done) | (simp; omega))).trans (by simp [go_sem])
  have fo6 : w1.frozen? ⟨w.heap.size + 1 + 1, 6, none⟩ = false := (hb1.frozen (p := ⟨w.heap.size + 1 + 1, 6, none⟩) (by first | (simp; done) | (simp; omega))).trans (by simp [go_sem])
  have kr6 : w1.cell? ⟨w.heap.size + 1, 6, none⟩ = some (.int .i64 0) := (hb1.cell (p := ⟨w.heap.size + 1, 6, none⟩) (by first | (simp; done) | (simp; omega))).trans (by simp [go_sem])
  have fr6 : w1.frozen? ⟨w.heap.size + 1, 6, none⟩ = false := (hb1.frozen (p := ⟨w.heap.size + 1, 6, none⟩) (by first | (simp; done) | (simp; omega))).trans (by simp [go_sem])
  have ko7 : w1.cell? ⟨w.heap.size + 1 + 1, 7, none⟩ = some (.int .i64 0) := (hb1.cell (p := ⟨w.heap.size + 1 + 1, 7, none⟩) (by first | (simp; done) | (simp; omega))).trans (by simp [go_sem])
  have fo7 : w1.frozen? ⟨w.heap.size + 1 + 1, 7, none⟩ = false := (hb1.frozen (p := ⟨w.heap.size + 1 + 1, 7, none⟩) (by first | (simp; done) | (simp; omega))).trans (by simp [go_sem])
  have kr7 : w1.cell? ⟨w.heap.size + 1, 7, none⟩ = some (.int .i64 0) := (hb1.cell (p := ⟨w.heap.size + 1, 7, none⟩) (by first | (simp; done) | (simp; omega))).trans (by simp [go_sem])
  have fr7 : w1.frozen? ⟨w.heap.size + 1, 7, none⟩ = false := (hb1.frozen (p := ⟨w.heap.size + 1, 7, none⟩) (by first | (simp; done) | (simp; omega))).trans (by simp [go_sem])
  have ko8 : w1.cell? ⟨w.heap.size + 1 + 1, 8, none⟩ = some (.int .i64 0) := (hb1.cell (p := ⟨w.heap.size + 1 + 1, 8, none⟩) (by first | (simp; done) | (simp; omega))).trans (by simp [go_sem])
  have fo8 : w1.frozen? ⟨w.heap.size + 1 + 1, 8, none⟩ = false := (hb1.frozen (p := ⟨w.heap.size + 1 + 1, 8, none⟩) (by first | (simp; done) | (simp; omega))).trans (by simp [go_sem])
  have kr8 : w1.cell? ⟨w.heap.size + 1, 8, none⟩ = some (.int .i64 0) := (hb1.cell (p := ⟨w.heap.size + 1, 8, none⟩) (by first | (simp; done) | (simp; omega))).trans (by simp [go_sem])
  have fr8 : w1.frozen? ⟨w.heap.size + 1, 8, none⟩ = false := (hb1.frozen (p := ⟨w.heap.size + 1, 8, none⟩) (by first | (simp; done) | (simp; omega))).trans (by simp [go_sem])
  have ko9 : w1.cell? ⟨w.heap.size + 1 + 1, 9, none⟩ = some (.int .i64 0) := (hb1.cell (p := ⟨w.heap.size + 1 + 1, 9, none⟩) (by first | (simp; done) | (simp; omega))).trans (by simp [go_sem])
  have fo9 : w1.frozen? ⟨w.heap.size + 1 + 1, 9, none⟩ = false := (hb1.frozen (p := ⟨w.heap.size + 1 + 1, 9, none⟩) (by first | (simp; done) | (simp; omega))).trans (by simp [go_sem])
  have kr9 : w1.cell? ⟨w.heap.size + 1, 9, none⟩ = some (.int .i64 0) := (hb1.cell (p := ⟨w.heap.size + 1, 9, none⟩) (by first | (simp; done) | (simp; omega))).trans (by simp [go_sem])
  have fr9 : w1.frozen? ⟨w.heap.size + 1, 9, none⟩ = false := (hb1.frozen (p := ⟨w.heap.size + 1, 9, none⟩) (by first | (simp; done) | (simp; omega))).trans (by simp [go_sem])
  have ko10 : w1.cell? ⟨w.heap.size + 1 + 1, 10, none⟩ = some (.int .i64 0) := (hb1.cell (p := ⟨w.heap.size + 1 + 1, 10, none⟩) (by first | (simp; done) | (simp; omega))).trans (by simp [go_sem])
  have fo10 : w1.frozen? ⟨w.heap.size + 1 + 1, 10, none⟩ = false := (hb1.frozen (p := ⟨w.heap.size + 1 + 1, 10, none⟩) (by first | (simp; done) | (simp; omega))).trans (by simp [go_sem])
  have kr10 : w1.cell? ⟨w.heap.size + 1, 10, none⟩ = some (.int .i64 0) := (hb1.cell (p := ⟨w.heap.size + 1, 10, none⟩) (by first | (simp; done) | (simp; omega))).trans (by simp [go_sem])
  have fr10 : w1.frozen? ⟨w.heap.size + 1, 10, none⟩ = false := (hb1.frozen (p := ⟨w.heap.size + 1, 10, none⟩) (by first | (simp; done) | (simp; omega))).trans (by simp [go_sem])
  have hB1 : Hid (Below w.heap.size w w1) := (show Below w.heap.size w _ by go_grown).trans (hb1.mono (by first | (simp; done) | (simp; omega)))
  have HTP : Hid (w1.there (w.heap.size + 1 + 1) 0 7) := there_cons ko0 fo0 (there_cons ko1 fo1 (there_cons ko2 fo2 (there_cons ko3 fo3 (there_cons ko4 fo4 (there_cons ko5 fo5 (there_cons ko6 fo6 (there_nil _ _ _)))))))
  have HTO : Hid (w1.there (w.heap.size + 1 + 1) 7 4) := there_cons ko7 fo7 (there_cons ko8 fo8 (there_cons ko9 fo9 (there_cons ko10 fo10 (there_nil _ _ _))))
  have HTR : Hid (w1.there (w.heap.size + 1) 0 11) := there_cons kr0 fr0 (there_cons kr1 fr1 (there_cons kr2 fr2 (there_cons kr3 fr3 (there_cons kr4 fr4 (there_cons kr5 fr5 (there_cons kr6 fr6 (there_cons kr7 fr7 (there_cons kr8 fr8 (there_cons kr9 fr9 (there_cons kr10 fr10 (there_nil _ _ _)))))))))))
  obtain ⟨w2, hw2⟩ : ∃ w', w' = w1.setCells (w.heap.size + 1 + 1) 0 [.string x.want.copy, .int .i64 x.want.version, .string x.want.hold, .int .i64 x.want.pull, .int .i64 x.want.start, .int .i64 x.want.dies, .int .i64 x.want.grace] := ⟨_, rfl⟩
  have HW2 : Hid (w2 = w1.setCells (w.heap.size + 1 + 1) 0 [.string x.want.copy, .int .i64 x.want.version, .string x.want.hold, .int .i64 x.want.pull, .int .i64 x.want.start, .int .i64 x.want.dies, .int .i64 x.want.grace]) := hw2
  have HPR : Hid (w2.rangeAt (w.heap.size + 1 + 1) 0 [.string x.want.copy, .int .i64 x.want.version, .string x.want.hold, .int .i64 x.want.pull, .int .i64 x.want.start, .int .i64 x.want.dies, .int .i64 x.want.grace]) := by rw [hw2]; exact World.rangeAt_setCells_same _ _ _ _ HTP.out
  have HTO2 : Hid (w2.there (w.heap.size + 1 + 1) 7 4) := by rw [hw2]; exact World.there_setCells HTO.out _ _ _
  have HTR2 : Hid (w2.there (w.heap.size + 1) 0 11) := by rw [hw2]; exact World.there_setCells HTR.out _ _ _
  have hB2 : Hid (Below w.heap.size w w2) := by rw [hw2]; exact below_setCells (by omega) _ _ _ hB1.out
  have kb7 : w2.cell? ⟨w.heap.size, 7, none⟩ = some (.int .i64 x.state) := by rw [hw2]; simpa using World.rangeAt_setCells_apart (range_cons ka7 (range_nil _ _ _)) (w.heap.size + 1 + 1) 0 [.string x.want.copy, .int .i64 x.want.version, .string x.want.hold, .int .i64 x.want.pull, .int .i64 x.want.start, .int .i64 x.want.dies, .int .i64 x.want.grace] (.inl (by omega)) 0 _ rfl
  have kp7 : w2.cell? ⟨w.heap.size + 1 + 1, 7, none⟩ = some (.int .i64 0) := by rw [hw2]; simpa using World.rangeAt_setCells_apart (range_cons ko7 (range_nil _ _ _)) (w.heap.size + 1 + 1) 0 [.string x.want.copy, .int .i64 x.want.version, .string x.want.hold, .int .i64 x.want.pull, .int .i64 x.want.start, .int .i64 x.want.dies, .int .i64 x.want.grace] (.inr (.inr (by simp))) 0 _ rfl
  have fp7 : w2.frozen? ⟨w.heap.size + 1 + 1, 7, none⟩ = false := by simpa using (HTO2.out 0 (by omega)).2
  have kb8 : w2.cell? ⟨w.heap.size, 8, none⟩ = some (.int .i64 x.left) := by rw [hw2]; simpa using World.rangeAt_setCells_apart (range_cons ka8 (range_nil _ _ _)) (w.heap.size + 1 + 1) 0 [.string x.want.copy, .int .i64 x.want.version, .string x.want.hold, .int .i64 x.want.pull, .int .i64 x.want.start, .int .i64 x.want.dies, .int .i64 x.want.grace] (.inl (by omega)) 0 _ rfl
  have kp8 : w2.cell? ⟨w.heap.size + 1 + 1, 8, none⟩ = some (.int .i64 0) := by rw [hw2]; simpa using World.rangeAt_setCells_apart (range_cons ko8 (range_nil _ _ _)) (w.heap.size + 1 + 1) 0 [.string x.want.copy, .int .i64 x.want.version, .string x.want.hold, .int .i64 x.want.pull, .int .i64 x.want.start, .int .i64 x.want.dies, .int .i64 x.want.grace] (.inr (.inr (by simp))) 0 _ rfl
  have fp8 : w2.frozen? ⟨w.heap.size + 1 + 1, 8, none⟩ = false := by simpa using (HTO2.out 1 (by omega)).2
  have kb9 : w2.cell? ⟨w.heap.size, 9, none⟩ = some (.int .i64 x.falls) := by rw [hw2]; simpa using World.rangeAt_setCells_apart (range_cons ka9 (range_nil _ _ _)) (w.heap.size + 1 + 1) 0 [.string x.want.copy, .int .i64 x.want.version, .string x.want.hold, .int .i64 x.want.pull, .int .i64 x.want.start, .int .i64 x.want.dies, .int .i64 x.want.grace] (.inl (by omega)) 0 _ rfl
  have kp9 : w2.cell? ⟨w.heap.size + 1 + 1, 9, none⟩ = some (.int .i64 0) := by rw [hw2]; simpa using World.rangeAt_setCells_apart (range_cons ko9 (range_nil _ _ _)) (w.heap.size + 1 + 1) 0 [.string x.want.copy, .int .i64 x.want.version, .string x.want.hold, .int .i64 x.want.pull, .int .i64 x.want.start, .int .i64 x.want.dies, .int .i64 x.want.grace] (.inr (.inr (by simp))) 0 _ rfl
  have fp9 : w2.frozen? ⟨w.heap.size + 1 + 1, 9, none⟩ = false := by simpa using (HTO2.out 2 (by omega)).2
  have kb10 : w2.cell? ⟨w.heap.size, 10, none⟩ = some (.int .i64 x.until_) := by rw [hw2]; simpa using World.rangeAt_setCells_apart (range_cons ka10 (range_nil _ _ _)) (w.heap.size + 1 + 1) 0 [.string x.want.copy, .int .i64 x.want.version, .string x.want.hold, .int .i64 x.want.pull, .int .i64 x.want.start, .int .i64 x.want.dies, .int .i64 x.want.grace] (.inl (by omega)) 0 _ rfl
  have kp10 : w2.cell? ⟨w.heap.size + 1 + 1, 10, none⟩ = some (.int .i64 0) := by rw [hw2]; simpa using World.rangeAt_setCells_apart (range_cons ko10 (range_nil _ _ _)) (w.heap.size + 1 + 1) 0 [.string x.want.copy, .int .i64 x.want.version, .string x.want.hold, .int .i64 x.want.pull, .int .i64 x.want.start, .int .i64 x.want.dies, .int .i64 x.want.grace] (.inr (.inr (by simp))) 0 _ rfl
  have fp10 : w2.frozen? ⟨w.heap.size + 1 + 1, 10, none⟩ = false := by simpa using (HTO2.out 3 (by omega)).2
  clear hw2 hb1 hB1 HTO HTR ka7 ka8 ka9 ka10 ko0 fo0 kr0 fr0 ko1 fo1 kr1 fr1 ko2 fo2 kr2 fr2 ko3 fo3 kr3 fr3 ko4 fo4 kr4 fr4 ko5 fo5 kr5 fr5 ko6 fo6 kr6 fr6 ko7 fo7 kr7 fr7 ko8 fo8 kr8 fr8 ko9 fo9 kr9 fr9 ko10 fo10 kr10 fr10
  go_wp2_with (refine wpList_store_to rfl 48 _ _ rfl (w.heap.size + 1 + 1) 0 #[.string x.want.copy, .int .i64 x.want.version, .string x.want.hold, .int .i64 x.want.pull, .int .i64 x.want.start, .int .i64 x.want.dies, .int .i64 x.want.grace] rfl rfl HTP.out isz_Wnt (by simp [Value.oneCell']) w2 HW2.out ?_; refine Hid.out ?_)
  refine Hid.intro ?_
  clear HTP HW2
  go_upto_region 7 with fail
  have HRG : Hid (World.rangeAt ((((w2.setCell ⟨w.heap.size + 1 + 1, 7, none⟩ (.int .i64 x.state)).setCell ⟨w.heap.size + 1 + 1, 8, none⟩ (.int .i64 x.left)).setCell ⟨w.heap.size + 1 + 1, 9, none⟩ (.int .i64 x.falls)).setCell ⟨w.heap.size + 1 + 1, 10, none⟩ (.int .i64 x.until_)) (w.heap.size + 1 + 1) 0 [.string x.want.copy, .int .i64 x.want.version, .string x.want.hold, .int .i64 x.want.pull, .int .i64 x.want.start, .int .i64 x.want.dies, .int .i64 x.want.grace, .int .i64 x.state, .int .i64 x.left, .int .i64 x.falls, .int .i64 x.until_]) := range_join (vs := [.int .i64 x.state, .int .i64 x.left, .int .i64 x.falls, .int .i64 x.until_]) HPR.out rfl HTO2.out
  have HTG : Hid (World.there ((((w2.setCell ⟨w.heap.size + 1 + 1, 7, none⟩ (.int .i64 x.state)).setCell ⟨w.heap.size + 1 + 1, 8, none⟩ (.int .i64 x.left)).setCell ⟨w.heap.size + 1 + 1, 9, none⟩ (.int .i64 x.falls)).setCell ⟨w.heap.size + 1 + 1, 10, none⟩ (.int .i64 x.until_)) (w.heap.size + 1) 0 11) := World.there_setCells HTR2.out (w.heap.size + 1 + 1) 7 [.int .i64 x.state, .int .i64 x.left, .int .i64 x.falls, .int .i64 x.until_]
  have HBG : Hid (Below w.heap.size w ((((w2.setCell ⟨w.heap.size + 1 + 1, 7, none⟩ (.int .i64 x.state)).setCell ⟨w.heap.size + 1 + 1, 8, none⟩ (.int .i64 x.left)).setCell ⟨w.heap.size + 1 + 1, 9, none⟩ (.int .i64 x.falls)).setCell ⟨w.heap.size + 1 + 1, 10, none⟩ (.int .i64 x.until_))) := below_setCells (b := w.heap.size + 1 + 1) (by omega) [.int .i64 x.state, .int .i64 x.left, .int .i64 x.falls, .int .i64 x.until_] 7 _ hB2.out
  clear kb7 kp7 fp7 kb8 kp8 fp8 kb9 kp9 fp9 kb10 kp10 fp10 HPR HTO2 HTR2 hB2
  generalize ((((w2.setCell ⟨w.heap.size + 1 + 1, 7, none⟩ (.int .i64 x.state)).setCell ⟨w.heap.size + 1 + 1, 8, none⟩ (.int .i64 x.left)).setCell ⟨w.heap.size + 1 + 1, 9, none⟩ (.int .i64 x.falls)).setCell ⟨w.heap.size + 1 + 1, 10, none⟩ (.int .i64 x.until_)) = w9 at *
  obtain ⟨w10, hw10⟩ : ∃ w', w' = w9.setCells (w.heap.size + 1) 0 [.string x.want.copy, .int .i64 x.want.version, .string x.want.hold, .int .i64 x.want.pull, .int .i64 x.want.start, .int .i64 x.want.dies, .int .i64 x.want.grace, .int .i64 x.state, .int .i64 x.left, .int .i64 x.falls, .int .i64 x.until_] := ⟨_, rfl⟩
  have HR10 : Hid (w10.rangeAt (w.heap.size + 1) 0 [.string x.want.copy, .int .i64 x.want.version, .string x.want.hold, .int .i64 x.want.pull, .int .i64 x.want.start, .int .i64 x.want.dies, .int .i64 x.want.grace, .int .i64 x.state, .int .i64 x.left, .int .i64 x.falls, .int .i64 x.until_]) := by rw [hw10]; exact World.rangeAt_setCells_same _ _ _ _ HTG.out
  have HB10 : Hid (Below w.heap.size w w10) := by rw [hw10]; exact below_setCells (by omega) _ _ _ HBG.out
  have HW10 : Hid (w10 = w9.setCells (w.heap.size + 1) 0 [.string x.want.copy, .int .i64 x.want.version, .string x.want.hold, .int .i64 x.want.pull, .int .i64 x.want.start, .int .i64 x.want.dies, .int .i64 x.want.grace, .int .i64 x.state, .int .i64 x.left, .int .i64 x.falls, .int .i64 x.until_]) := hw10
  clear hw10 HBG
  go_wp2_with (first | (refine wpList_load_mid rfl 50 _ rfl (w.heap.size + 1 + 1) 0 rfl [.string x.want.copy, .int .i64 x.want.version, .string x.want.hold, .int .i64 x.want.pull, .int .i64 x.want.start, .int .i64 x.want.dies, .int .i64 x.want.grace, .int .i64 x.state, .int .i64 x.left, .int .i64 x.falls, .int .i64 x.until_] _ HRG.out Try.underlying50 rfl isz_Rn ?_) | (refine wpList_store_to rfl 50 _ _ rfl (w.heap.size + 1) 0 #[.string x.want.copy, .int .i64 x.want.version, .string x.want.hold, .int .i64 x.want.pull, .int .i64 x.want.start, .int .i64 x.want.dies, .int .i64 x.want.grace, .int .i64 x.state, .int .i64 x.left, .int .i64 x.falls, .int .i64 x.until_] rfl rfl HTG.out isz_Rn (by simp [Value.oneCell']) w10 HW10.out ?_))
  exact bodyPost_ret (results_cell_mid rfl _ _ (w.heap.size + 1) [.string x.want.copy, .int .i64 x.want.version, .string x.want.hold, .int .i64 x.want.pull, .int .i64 x.want.start, .int .i64 x.want.dies, .int .i64 x.want.grace, .int .i64 x.state, .int .i64 x.left, .int .i64 x.falls, .int .i64 x.until_] _ rfl HR10.out Try.underlying50 rfl isz_Rn) rfl ⟨rfl, HB10.out⟩

set_option maxHeartbeats 2000000 in
theorem eqRn_any (x : Rn) (w : World) :
    Calls Try.prog 51 #[.agg #[.string x.want.copy, .int .i64 x.want.version, .string x.want.hold, .int .i64 x.want.pull, .int .i64 x.want.start, .int .i64 x.want.dies, .int .i64 x.want.grace, .int .i64 x.state, .int .i64 x.left, .int .i64 x.falls, .int .i64 x.until_], .agg #[.string x.want.copy, .int .i64 x.want.version, .string x.want.hold, .int .i64 x.want.pull, .int .i64 x.want.start, .int .i64 x.want.dies, .int .i64 x.want.grace, .int .i64 x.state, .int .i64 x.left, .int .i64 x.falls, .int .i64 x.until_]] w fun e w' => e = .returned (.bool true) ∧ Below w.heap.size w w' := by
  go_enter Try.func51, Try.ntmps51
  go_wp2_with fail
  refine (eqWnt_any x.want _).mono ?_
  rintro e w1 ⟨rfl, hb1⟩
  have hB1 : Below w.heap.size w w1 := (show Below w.heap.size w _ by go_grown).trans (hb1.mono (by simp; omega))
  have k1_7 : w1.cell? ⟨w.heap.size, 7, none⟩ = some (.int .i64 x.state) := (hb1.cell (p := ⟨w.heap.size, 7, none⟩) (by simp; omega)).trans (by simp)
  have l1_7 : w1.cell? ⟨w.heap.size + 1, 7, none⟩ = some (.int .i64 x.state) := (hb1.cell (p := ⟨w.heap.size + 1, 7, none⟩) (by simp)).trans (by simp)
  have k1_8 : w1.cell? ⟨w.heap.size, 8, none⟩ = some (.int .i64 x.left) := (hb1.cell (p := ⟨w.heap.size, 8, none⟩) (by simp; omega)).trans (by simp)
  have l1_8 : w1.cell? ⟨w.heap.size + 1, 8, none⟩ = some (.int .i64 x.left) := (hb1.cell (p := ⟨w.heap.size + 1, 8, none⟩) (by simp)).trans (by simp)
  have k1_9 : w1.cell? ⟨w.heap.size, 9, none⟩ = some (.int .i64 x.falls) := (hb1.cell (p := ⟨w.heap.size, 9, none⟩) (by simp; omega)).trans (by simp)
  have l1_9 : w1.cell? ⟨w.heap.size + 1, 9, none⟩ = some (.int .i64 x.falls) := (hb1.cell (p := ⟨w.heap.size + 1, 9, none⟩) (by simp)).trans (by simp)
  have k1_10 : w1.cell? ⟨w.heap.size, 10, none⟩ = some (.int .i64 x.until_) := (hb1.cell (p := ⟨w.heap.size, 10, none⟩) (by simp; omega)).trans (by simp)
  have l1_10 : w1.cell? ⟨w.heap.size + 1, 10, none⟩ = some (.int .i64 x.until_) := (hb1.cell (p := ⟨w.heap.size + 1, 10, none⟩) (by simp)).trans (by simp)
  clear hb1
  go_wp2_with fail
  go_ret
  exact ⟨rfl, hB1⟩

set_option maxHeartbeats 1000000 in
theorem szRnS_any (xs : List Rn) (a : Option Addr) (cap lo : Nat) (L : Int) (w : World) (hin : SliceC RnC 11 lo w a xs) (h0 : 0 ≤ L) (h1 : L ≤ 1048576) :
    Calls Try.prog 14 #[.slice a xs.length cap, .int .i64 L] w fun e w' => e = .returned (.int .i64 (szR (wS wRn xs) L)) ∧ Below w.heap.size w w' := by
  have hlen := hin.1
  unfold maxLen at hlen
  have HI : Hid (SliceC RnC 11 lo w a xs) := hin
  clear hin
  have HW : Hid (wS wRn xs = xs.length + (xs.map wRn).sum) := rfl
  generalize wS wRn xs = W at *
  by_cases c1 : L - xs.length < 0
  · go_enter Try.func14, Try.ntmps14
    go_wp2_with fail
    go_ret
    exact ⟨ret_int (by have := HW.out; unfold szR; rw [if_neg (by omega)]), Below.refl _ _⟩
  · go_enter Try.func14, Try.ntmps14
    go_wp2_with fail
    go_loopw [1, 5] (fun l i wr => ∃ (k : Nat) (M : Int), k ≤ xs.length ∧ i = .int .i64 k ∧ l = .int .i64 M ∧ 0 ≤ M ∧ M ≤ 1048576 ∧ Hid (M = L - xs.length - ((xs.take k).map wRn).sum) ∧ Below w.heap.size w wr) (fun _ i _ => xs.length - (intOf i).toNat)
    case atStart => exact ⟨0, _, Nat.zero_le _, rfl, rfl, by omega, by omega, by show _ = _; simp, Below.refl _ _⟩
    case round =>
      obtain ⟨k, M, hk, rfl, rfl, hM0, hM1, hM, hbel⟩ := hrel
      by_cases hlt : k < xs.length
      · obtain ⟨x, hx⟩ : ∃ x, xs[k]? = some x := ⟨xs[k], List.getElem?_eq_getElem hlt⟩
        obtain ⟨b, o, rfl, _, _, hc⟩ := (HI.out.below RnC.holds hbel (Nat.le_refl _)).at hx
        obtain ⟨q0, q1, q2, q3, q4, q5, q6, q7, q8, q9, q10, z0, z2⟩ := hc
        simp only [Nat.add_zero] at q0 q1 q2 q3 q4 q5 q6 q7 q8 q9 q10
        have HX : Hid (((xs.take (k + 1)).map wRn).sum = ((xs.take k).map wRn).sum + wRn x) := sum_take _ _ _ _ hx
        have HY : Hid (((xs.take (k + 1)).map wRn).sum ≤ (xs.map wRn).sum) := sum_take_le _ _ _
        have CT := szRn_any x M wr z0 z2 hM0 hM1
        have HCT := Hid.intro CT
        clear hx CT
        by_cases hr : (wRn x : Int) ≤ M
        · rw [szR_pos hr] at HCT
          generalize hV : wRn x = V at *
          clear hV
          go_wp2_with fail
          refine HCT.out.mono ?_
          rintro e w1 ⟨rfl, hb1⟩
          clear HCT
          go_wp2_with fail
          go_roundw
          case rel =>
            refine ⟨k + 1, M - V, by omega, by go_num, rfl, by omega, by omega, ?_, hbel.trans (hb1.mono hbel.size)⟩
            have := hM.out
            have := HX.out
            show _ = _
            omega
          case measure => simp [intOf]; omega
        · rw [szR_neg hr] at HCT
          generalize hV : wRn x = V at *
          clear hV
          go_wp2_with fail
          refine HCT.out.mono ?_
          rintro e w1 ⟨rfl, hb1⟩
          clear HCT
          go_wp2_with fail
          go_ret
          refine ⟨ret_int ?_, hbel.trans (hb1.mono hbel.size)⟩
          have := HW.out
          have := HX.out
          have := HY.out
          have := hM.out
          unfold szR
          rw [if_neg (by omega)]
      · go_wp2_with fail
        go_ret
        refine ⟨ret_int ?_, hbel⟩
        have hke : k = xs.length := by omega
        subst hke
        have h3 := hM.out
        have h4 := HW.out
        simp only [List.take_length] at h3
        unfold szR
        rw [if_pos (by omega)]
        omega

theorem info_Rn : (Try.prog.info? 50).map (fun i => (i.zero, i.size, i.bytes)) = some (some (.agg #[.string ⟨#[]⟩, .int .i64 0, .string ⟨#[]⟩, .int .i64 0, .int .i64 0, .int .i64 0, .int .i64 0, .int .i64 0, .int .i64 0, .int .i64 0, .int .i64 0]), 11, 104) := by kernel_rfl

set_option maxHeartbeats 2000000 in
theorem toRnS_any (xs : List Rn) (a : Option Addr) (cap lo : Nat) (w : World) (hin : SliceC RnC 11 lo w a xs) (hsm : wS wRn xs ≤ 1048576) :
    Calls Try.prog 18 #[.slice a xs.length cap] w fun e w' => ∃ g, e = .returned (.slice (some ⟨g, 0, none⟩) xs.length xs.length) ∧ w.heap.size ≤ g ∧ SliceC RnC 11 w.heap.size w' (some ⟨g, 0, none⟩) xs ∧ Below w.heap.size w w' := by
  obtain ⟨i0, hi, hz0, hz1, hz2⟩ := info_parts info_Rn
  have hlen : xs.length ≤ 1048576 := Nat.le_trans wS_len hsm
  have HI : Hid (SliceC RnC 11 lo w a xs) := hin
  have HSM : Hid (wS wRn xs ≤ 1048576) := hsm
  clear hin hsm
  go_enter Try.func18, Try.ntmps18
  go_wp2_with (at_make; refine wpList_make_full _ rfl _ _ 33 rfl w.heap.size 50 i0 _ 11 Try.underlying33 hi hz0 hz1 .i64 .i64 _ _ xs.length rfl rfl rfl rfl (by rw [hz2]; omega) (by unfold maxLen; omega) (Nat.le_refl _) ?_; intro w1 hown hgrow)
  have hb1 : Below w.heap.size w w1 := (Below.refl _ _).grown hgrow (Nat.le_refl _) (fun k h => by cases h)
  have hsz1 := (hown.lt w.heap.size rfl).2
  generalize hX : (madeCells _ (xs.length * 11)).toList = xs0 at hown
  clear hX hgrow hi hz0 hz1 hz2
  go_loopw [4] (fun i wr => ∃ (k : Nat) (cs : List Value), k ≤ xs.length ∧ i = .int .i64 k ∧ w.heap.size < wr.heap.size ∧ wr.ownsRow w.heap.size 50 11 (.slice (some ⟨w.heap.size, 0, none⟩) xs.length xs.length) xs.length cs ∧ RowC RnC 11 (w.heap.size + 1) wr cs xs k ∧ Below w.heap.size w wr) (fun i _ => xs.length - (intOf i).toNat)
  case atStart => exact ⟨0, xs0, Nat.zero_le _, rfl, hsz1, hown, fun j n h => by omega, hb1⟩
  case round =>
    clear hown hb1 hsz1
    obtain ⟨k, cs, hk, rfl, hszr, hown, hfil, hbel⟩ := hrel
    by_cases hlt : k < xs.length
    · obtain ⟨x, hx⟩ : ∃ x, xs[k]? = some x := ⟨xs[k], List.getElem?_eq_getElem hlt⟩
      obtain ⟨b, o, rfl, _, _, hc⟩ := (HI.out.below RnC.holds hbel (Nat.le_refl _)).at hx
      obtain ⟨q0, q1, q2, q3, q4, q5, q6, q7, q8, q9, q10, z0, z2⟩ := hc
      simp only [Nat.add_zero] at q0 q1 q2 q3 q4 q5 q6 q7 q8 q9 q10
      have HN : Hid (xs[k]? = some x) := hx
      have hwx : wRn x ≤ 1048576 := Nat.le_trans (wS_mem (List.mem_of_getElem? hx)) HSM.out
      have HO : Hid (wr.ownsRow w.heap.size 50 11 (.slice (some ⟨w.heap.size, 0, none⟩) xs.length xs.length) xs.length cs) := hown
      have HF : Hid (RowC RnC 11 (w.heap.size + 1) wr cs xs k) := hfil
      have HS : Hid (w.heap.size < wr.heap.size) := hszr
      have CT := toRn_any x wr
      have HCT := Hid.intro CT
      clear hx hown hfil CT hszr
      go_wp2_with fail
      refine HCT.out.mono ?_
      rintro e w2 ⟨rfl, hb2⟩
      clear HCT q0 q1 q2 q3 q4 q5 q6 q7 q8 q9 q10
      have ho2 := ownsRow_below HO.out hb2
      have HB2 : Hid (Below w.heap.size w w2) := hbel.trans (hb2.mono hbel.size)
      have HF2 : Hid (RowC RnC 11 (w.heap.size + 1) w2 cs xs k) := HF.out.keep RnC.holds (Keeps.of_below hb2 (Nat.le_refl _) _)
      have hs2 : Hid (w.heap.size < w2.heap.size) := Nat.lt_of_lt_of_le HS.out hb2.size
      have HR : Hid (RnC (w.heap.size + 1) w2 (fun i => ([.string x.want.copy, .int .i64 x.want.version, .string x.want.hold, .int .i64 x.want.pull, .int .i64 x.want.start, .int .i64 x.want.dies, .int .i64 x.want.grace, .int .i64 x.state, .int .i64 x.left, .int .i64 x.falls, .int .i64 x.until_] : List Value)[i]?) x) := ⟨rfl, rfl, rfl, rfl, rfl, rfl, rfl, rfl, rfl, rfl, rfl, z0, z2⟩
      have hxl : cs.length = xs.length * 11 := ho2.1
      have HT : Hid (w2.there w.heap.size (k * 11) 11) := ownsRow_there ho2 (by omega)
      have HL : Hid (cs.length = xs.length * 11) := hxl
      have HO2 : Hid (w2.ownsRow w.heap.size 50 11 (.slice (some ⟨w.heap.size, 0, none⟩) xs.length xs.length) xs.length cs) := ho2
      clear hxl ho2 HO hb2 hwx 
      obtain ⟨w3, hw3⟩ : ∃ w', w' = w2.setCells w.heap.size (k * 11) [.string x.want.copy, .int .i64 x.want.version, .string x.want.hold, .int .i64 x.want.pull, .int .i64 x.want.start, .int .i64 x.want.dies, .int .i64 x.want.grace, .int .i64 x.state, .int .i64 x.left, .int .i64 x.falls, .int .i64 x.until_] := ⟨_, rfl⟩
      have HW3 : Hid (w3 = w2.setCells w.heap.size (k * 11) [.string x.want.copy, .int .i64 x.want.version, .string x.want.hold, .int .i64 x.want.pull, .int .i64 x.want.start, .int .i64 x.want.dies, .int .i64 x.want.grace, .int .i64 x.state, .int .i64 x.left, .int .i64 x.falls, .int .i64 x.until_]) := hw3
      have HS3 : Hid (w.heap.size < w3.heap.size) := by rw [hw3, size_setCells]; exact hs2
      have HO3 : Hid (w3.ownsRow w.heap.size 50 11 (.slice (some ⟨w.heap.size, 0, none⟩) xs.length xs.length) xs.length (setRun cs (k * 11) [.string x.want.copy, .int .i64 x.want.version, .string x.want.hold, .int .i64 x.want.pull, .int .i64 x.want.start, .int .i64 x.want.dies, .int .i64 x.want.grace, .int .i64 x.state, .int .i64 x.left, .int .i64 x.falls, .int .i64 x.until_])) := by rw [hw3]; exact ownsRow_run _ _ _ _ HO2.out
      have HB3 : Hid (Below w.heap.size w w3) := by rw [hw3]; exact below_setCells (Nat.le_refl _) _ _ _ HB2.out
      have HR3 : Hid (RowC RnC 11 (w.heap.size + 1) w3 (setRun cs (k * 11) [.string x.want.copy, .int .i64 x.want.version, .string x.want.hold, .int .i64 x.want.pull, .int .i64 x.want.start, .int .i64 x.want.dies, .int .i64 x.want.grace, .int .i64 x.state, .int .i64 x.left, .int .i64 x.falls, .int .i64 x.until_]) xs (k + 1)) := by
        rw [hw3]
        exact (HF2.out.step (vs := [.string x.want.copy, .int .i64 x.want.version, .string x.want.hold, .int .i64 x.want.pull, .int .i64 x.want.start, .int .i64 x.want.dies, .int .i64 x.want.grace, .int .i64 x.state, .int .i64 x.left, .int .i64 x.falls, .int .i64 x.until_]) RnC.holds HN.out rfl (by have := HL.out; omega) HR.out).keep RnC.holds (Keeps.setCells (by omega) _ _ _)
      clear hw3 HB2 HF2 hs2 HR HL HO2
      go_wp2_with (refine wpList_store_to rfl 50 _ _ rfl w.heap.size (k * 11) #[.string x.want.copy, .int .i64 x.want.version, .string x.want.hold, .int .i64 x.want.pull, .int .i64 x.want.start, .int .i64 x.want.dies, .int .i64 x.want.grace, .int .i64 x.state, .int .i64 x.left, .int .i64 x.falls, .int .i64 x.until_] (by first | rfl | (simp [go_sem]; done)) rfl HT.out isz_Rn (by simp [Value.oneCell']) w3 HW3.out ?_)
      go_roundw
      case rel => exact ⟨k + 1, _, by omega, by go_num, HS3.out, HO3.out, HR3.out, HB3.out⟩
      case measure => simp [intOf]; omega
    · have HO : Hid (wr.ownsRow w.heap.size 50 11 (.slice (some ⟨w.heap.size, 0, none⟩) xs.length xs.length) xs.length cs) := hown
      have HF : Hid (RowC RnC 11 (w.heap.size + 1) wr cs xs k) := hfil
      clear hown hfil
      go_wp2_with fail
      go_ret
      have hke : k = xs.length := by omega
      subst hke
      exact ⟨_, rfl, Nat.le_refl _, sliceC_of_row HO.out HF.out RnC.holds HI.out.1 (by omega) (Nat.le_refl _), hbel⟩

set_option maxHeartbeats 2000000 in
theorem eqRnS_any (xs : List Rn) (a a' : Option Addr) (cap cap' lo lo' : Nat) (w : World) (hg : SliceC RnC 11 lo w a xs) (hh : SliceC RnC 11 lo' w a' xs) (hsm : wS wRn xs ≤ 1048576) :
    Calls Try.prog 24 #[.slice a xs.length cap, .slice a' xs.length cap'] w fun e w' => e = .returned (.bool true) ∧ Below w.heap.size w w' := by
  have hlen : xs.length ≤ 1048576 := Nat.le_trans wS_len hsm
  have HG : Hid (SliceC RnC 11 lo w a xs) := hg
  have HH : Hid (SliceC RnC 11 lo' w a' xs) := hh
  clear hg hh hsm
  go_enter Try.func24, Try.ntmps24
  go_wp2_with fail
  go_loopw [5] (fun i wr => ∃ (k : Nat), k ≤ xs.length ∧ i = .int .i64 k ∧ Below w.heap.size w wr) (fun i _ => xs.length - (intOf i).toNat)
  case atStart => exact ⟨0, Nat.zero_le _, rfl, Below.refl _ _⟩
  case round =>
    obtain ⟨k, hk, rfl, hbel⟩ := hrel
    by_cases hlt : k < xs.length
    · obtain ⟨x, hx⟩ : ∃ x, xs[k]? = some x := ⟨xs[k], List.getElem?_eq_getElem hlt⟩
      obtain ⟨b, o, rfl, _, _, hc⟩ := (HG.out.below RnC.holds hbel (Nat.le_refl _)).at hx
      obtain ⟨b', o', rfl, _, _, hc'⟩ := (HH.out.below RnC.holds hbel (Nat.le_refl _)).at hx
      obtain ⟨q0, q1, q2, q3, q4, q5, q6, q7, q8, q9, q10, _, _⟩ := hc
      obtain ⟨r0, r1, r2, r3, r4, r5, r6, r7, r8, r9, r10, _, _⟩ := hc'
      simp only [Nat.add_zero] at q0 q1 q2 q3 q4 q5 q6 q7 q8 q9 q10 r0 r1 r2 r3 r4 r5 r6 r7 r8 r9 r10
      have k0 := cell_regrown q0
      have l0 := cell_regrown r0
      have k1 := cell_regrown q1
      have l1 := cell_regrown r1
      have k2 := cell_regrown q2
      have l2 := cell_regrown r2
      have k3 := cell_regrown q3
      have l3 := cell_regrown r3
      have k4 := cell_regrown q4
      have l4 := cell_regrown r4
      have k5 := cell_regrown q5
      have l5 := cell_regrown r5
      have k6 := cell_regrown q6
      have l6 := cell_regrown r6
      have k7 := cell_regrown q7
      have l7 := cell_regrown r7
      have k8 := cell_regrown q8
      have l8 := cell_regrown r8
      have k9 := cell_regrown q9
      have l9 := cell_regrown r9
      have k10 := cell_regrown q10
      have l10 := cell_regrown r10
      have cE : ∀ d os, Calls Try.prog 51 #[.agg #[.string x.want.copy, .int .i64 x.want.version, .string x.want.hold, .int .i64 x.want.pull, .int .i64 x.want.start, .int .i64 x.want.dies, .int .i64 x.want.grace, .int .i64 x.state, .int .i64 x.left, .int .i64 x.falls, .int .i64 x.until_], .agg #[.string x.want.copy, .int .i64 x.want.version, .string x.want.hold, .int .i64 x.want.pull, .int .i64 x.want.start, .int .i64 x.want.dies, .int .i64 x.want.grace, .int .i64 x.state, .int .i64 x.left, .int .i64 x.falls, .int .i64 x.until_]] (Sort.grow (redrawn wr d) os) fun e w'' => e = .returned (.bool true) ∧ ∃ p : Regrown, w'' = Sort.grow (redrawn wr p.d) p.os := fun d os => Calls.regrown_of (eqRn_any x _)
      have i0 : (0 : Int) ≤ (k : Int) := by omega
      have i1 : (k : Int) < (xs.length : Int) := by omega
      clear hx q0 q1 q2 q3 q4 q5 q6 q7 q8 q9 q10 r0 r1 r2 r3 r4 r5 r6 r7 r8 r9 r10 
      go_wp2_with fail
      refine wp_region_quiet_below (by kernel_rfl) (by kernel_rfl) ?_
      repeat (quiet_step (first | exact cE _ _))
      refine wpQuiet_nil ?_
      intro _ hw'
      obtain ⟨⟨dq, osq⟩, hw''⟩ := hw'
      have hB := hbel.trans ((below_regrown wr dq osq).mono hbel.size)
      simp only [] at hw''
      rw [← hw''] at hB
      clear hw'' cE k0 l0 k1 l1 k2 l2 k3 l3 k4 l4 k5 l5 k6 l6 k7 l7 k8 l8 k9 l9 k10 l10
      go_wp2_with fail
      go_roundw
      case rel => exact ⟨k + 1, by omega, by go_num, hB⟩
      case measure => simp [intOf]; omega
    · go_wp2_with fail
      go_ret
      exact ⟨rfl, hbel⟩

end Go.Proofs.Ytlegklkbmifdeaa
