/-
  Walks over StewWorld: sizes, copies, equality. Made by mkswd.py.
-/
import Derived.Test.YtnkggfnblcadoaaSbk
namespace Go.Proofs.Ytnkggfnblcadoaa
open Go.RowKit

structure Swd where
  past : List Sbk
  book : Sbk

theorem range_belowW {w w' : World} {g o B : Nat} {l : List Value} (h : w.rangeAt g o l) (hb : Below B w w') (hB : g < B) : w'.rangeAt g o l := by
  intro j v hj
  rw [hb.cell (p := ⟨g, _, none⟩) hB]
  exact h j v hj

theorem there_belowW {w w' : World} {b o n B : Nat} (h : w.there b o n) (hb : Below B w w') (hB : b < B) : w'.there b o n := fun j hj => by
  rw [hb.cell (p := ⟨b, o + j, none⟩) hB, hb.frozen (p := ⟨b, o + j, none⟩) hB]
  exact h j hj

def wSwd (x : Swd) : Nat := wS wSbk x.past + wSbk x.book

/-- what its cells hold -/
def SwdC : Make Swd := fun lo w f x => ∃ (a0 : Option Addr) (c0 : Nat) (a1 : Option Addr) (c1 : Nat) (a2 : Option Addr) (c2 : Nat) (a3 : Option Addr) (c3 : Nat), f 0 = some (.slice a0 x.past.length c0) ∧ f 1 = some (.int .i64 x.book.now) ∧ f 2 = some (.slice a1 x.book.services.length c1) ∧ f 3 = some (.slice a2 x.book.copies.length c2) ∧ f 4 = some (.slice a3 x.book.berths.length c3) ∧ SliceC SbkC 4 lo w a0 x.past ∧ SliceC SsvC 13 lo w a1 x.book.services ∧ SliceC ScpC 7 lo w a2 x.book.copies ∧ SliceC SbtC 2 lo w a3 x.book.berths

theorem SwdC.holds : Holds SwdC 5 := by
  rintro lo lo' w w' f g x h k hl ⟨a0, c0, a1, c1, a2, c2, a3, c3, q0, q1, q2, q3, q4, n0, n1, n2, n3⟩
  exact ⟨a0, c0, a1, c1, a2, c2, a3, c3, (h 0 (by omega)).trans q0, (h 1 (by omega)).trans q1, (h 2 (by omega)).trans q2, (h 3 (by omega)).trans q3, (h 4 (by omega)).trans q4, n0.keep SbkC.holds k hl, n1.keep SsvC.holds k hl, n2.keep ScpC.holds k hl, n3.keep SbtC.holds k hl⟩

set_option maxHeartbeats 2000000 in
theorem szSwd_any (x : Swd) (a0 : Option Addr) (c0 : Nat) (a1 : Option Addr) (c1 : Nat) (a2 : Option Addr) (c2 : Nat) (a3 : Option Addr) (c3 : Nat) (lo : Nat) (L : Int) (w : World) (n0 : SliceC SbkC 4 lo w a0 x.past) (n1 : SliceC SsvC 13 lo w a1 x.book.services) (n2 : SliceC ScpC 7 lo w a2 x.book.copies) (n3 : SliceC SbtC 2 lo w a3 x.book.berths) (h0 : 0 ≤ L) (h1 : L ≤ 1048576) :
    Calls Try.prog 4 #[.agg #[.slice a0 x.past.length c0, .int .i64 x.book.now, .slice a1 x.book.services.length c1, .slice a2 x.book.copies.length c2, .slice a3 x.book.berths.length c3], .int .i64 L] w fun e w' => e = .returned (.int .i64 (szR (wSwd x) L)) ∧ Below w.heap.size w w' := by
  have N0 : Hid (SliceC SbkC 4 lo w a0 x.past) := n0
  have N1 : Hid (SliceC SsvC 13 lo w a1 x.book.services) := n1
  have N2 : Hid (SliceC ScpC 7 lo w a2 x.book.copies) := n2
  have N3 : Hid (SliceC SbtC 2 lo w a3 x.book.berths) := n3
  clear n0 n1 n2 n3
  have HW : Hid (wSwd x = wS wSbk x.past + wSbk x.book) := rfl
  generalize wSwd x = W at *
  go_enter Try.func4, Try.ntmps4
  go_wp2_with fail
  refine (szSbkS_any x.past a0 c0 lo L _ (N0.out.below SbkC.holds (B := w.heap.size) (by go_grown) (Nat.le_refl _)) h0 h1).mono ?_
  rintro e w1 ⟨rfl, hb1⟩
  have hB1 : Below w.heap.size w w1 := (show Below w.heap.size w _ by go_grown).trans (hb1.mono (by simp))
  have k1_1 : w1.cell? ⟨w.heap.size, 1, none⟩ = some (.int .i64 x.book.now) := (hb1.cell (p := ⟨w.heap.size, 1, none⟩) (by simp)).trans (by simp)
  have k1_2 : w1.cell? ⟨w.heap.size, 2, none⟩ = some (.slice a1 x.book.services.length c1) := (hb1.cell (p := ⟨w.heap.size, 2, none⟩) (by simp)).trans (by simp)
  have k1_3 : w1.cell? ⟨w.heap.size, 3, none⟩ = some (.slice a2 x.book.copies.length c2) := (hb1.cell (p := ⟨w.heap.size, 3, none⟩) (by simp)).trans (by simp)
  have k1_4 : w1.cell? ⟨w.heap.size, 4, none⟩ = some (.slice a3 x.book.berths.length c3) := (hb1.cell (p := ⟨w.heap.size, 4, none⟩) (by simp)).trans (by simp)
  clear hb1
  generalize wS wSbk x.past = V at *
  by_cases d0 : (V : Int) ≤ L
  case neg =>
    rw [szR_neg d0]
    go_wp2_with fail
    go_ret
    exact ⟨ret_int (by have := HW.out; unfold szR; rw [if_neg (by omega)]), hB1⟩
  rw [szR_pos d0]
  go_wp2_with fail
  refine (szSbk_any x.book a1 c1 a2 c2 a3 c3 lo _ _ (N1.out.below SsvC.holds (B := w.heap.size) (hB1) (Nat.le_refl _)) (N2.out.below ScpC.holds (B := w.heap.size) (hB1) (Nat.le_refl _)) (N3.out.below SbtC.holds (B := w.heap.size) (hB1) (Nat.le_refl _)) (by omega) (by omega)).mono ?_
  rintro e w2 ⟨rfl, hb2⟩
  have hB2 : Below w.heap.size w w2 := hB1.trans (hb2.mono hB1.size)
  clear hb2 hB1 k1_1 k1_2 k1_3 k1_4
  by_cases d1 : ((wSbk x.book : Nat) : Int) ≤ L - (V : Nat)
  case neg =>
    rw [szR_neg d1]
    go_wp2_with fail
    go_ret
    exact ⟨ret_int (by have := HW.out; unfold szR; rw [if_neg (by omega)]), hB2⟩
  rw [szR_pos d1]
  go_wp2_with fail
  go_ret
  exact ⟨ret_int (by have := HW.out; unfold szR; rw [if_pos (by omega)]; omega), hB2⟩

theorem isz_Swd : (Try.prog.info? 39).map (·.size) = some 5 := by kernel_rfl

set_option maxHeartbeats 4000000 in
theorem toSwd_any (x : Swd) (a0 : Option Addr) (c0 : Nat) (a1 : Option Addr) (c1 : Nat) (a2 : Option Addr) (c2 : Nat) (a3 : Option Addr) (c3 : Nat) (lo : Nat) (w : World) (n0 : SliceC SbkC 4 lo w a0 x.past) (n1 : SliceC SsvC 13 lo w a1 x.book.services) (n2 : SliceC ScpC 7 lo w a2 x.book.copies) (n3 : SliceC SbtC 2 lo w a3 x.book.berths) (hsm : wSwd x ≤ 1048576) :
    Calls Try.prog 6 #[.agg #[.slice a0 x.past.length c0, .int .i64 x.book.now, .slice a1 x.book.services.length c1, .slice a2 x.book.copies.length c2, .slice a3 x.book.berths.length c3]] w fun e w' => ∃ g0 g1 g2 g3, e = .returned (.agg #[.slice (some ⟨g0, 0, none⟩) x.past.length x.past.length, .int .i64 x.book.now, .slice (some ⟨g1, 0, none⟩) x.book.services.length x.book.services.length, .slice (some ⟨g2, 0, none⟩) x.book.copies.length x.book.copies.length, .slice (some ⟨g3, 0, none⟩) x.book.berths.length x.book.berths.length]) ∧ SliceC SbkC 4 w.heap.size w' (some ⟨g0, 0, none⟩) x.past ∧ SliceC SsvC 13 w.heap.size w' (some ⟨g1, 0, none⟩) x.book.services ∧ SliceC ScpC 7 w.heap.size w' (some ⟨g2, 0, none⟩) x.book.copies ∧ SliceC SbtC 2 w.heap.size w' (some ⟨g3, 0, none⟩) x.book.berths ∧ Below w.heap.size w w' := by
  have N0 : Hid (SliceC SbkC 4 lo w a0 x.past) := n0
  have N1 : Hid (SliceC SsvC 13 lo w a1 x.book.services) := n1
  have N2 : Hid (SliceC ScpC 7 lo w a2 x.book.copies) := n2
  have N3 : Hid (SliceC SbtC 2 lo w a3 x.book.berths) := n3
  have M0 : wS wSbk x.past ≤ 1048576 := by unfold wSwd at hsm; omega
  have M1 : wSbk x.book ≤ 1048576 := by unfold wSwd at hsm; omega
  clear hsm n0 n1 n2 n3
  go_enter Try.func6, Try.ntmps6
  go_wp2_with fail
  refine (toSbkS_any x.past a0 c0 lo _ (N0.out.below SbkC.holds (B := w.heap.size) (by go_grown) (Nat.le_refl _)) M0).mono ?_
  rintro e w1 ⟨g0, rfl, hg0, hn0, hb1⟩
  have hz1 : w.heap.size + 1 + 1 < w1.heap.size := by have := hb1.size; simp at this; omega
  have ka1 : w1.cell? ⟨w.heap.size, 1, none⟩ = some (.int .i64 x.book.now) := (hb1.cell (p := ⟨w.heap.size, 1, none⟩) (by first | (simp; done) | (simp; omega))).trans (by simp [go_sem])
  have ka2 : w1.cell? ⟨w.heap.size, 2, none⟩ = some (.slice a1 x.book.services.length c1) := (hb1.cell (p := ⟨w.heap.size, 2, none⟩) (by first | (simp; done) | (simp; omega))).trans (by simp [go_sem])
  have ka3 : w1.cell? ⟨w.heap.size, 3, none⟩ = some (.slice a2 x.book.copies.length c2) := (hb1.cell (p := ⟨w.heap.size, 3, none⟩) (by first | (simp; done) | (simp; omega))).trans (by simp [go_sem])
  have ka4 : w1.cell? ⟨w.heap.size, 4, none⟩ = some (.slice a3 x.book.berths.length c3) := (hb1.cell (p := ⟨w.heap.size, 4, none⟩) (by first | (simp; done) | (simp; omega))).trans (by simp [go_sem])
  have ko0 : w1.cell? ⟨w.heap.size + 1 + 1, 0, none⟩ = some (.slice none 0 0) := (hb1.cell (p := ⟨w.heap.size + 1 + 1, 0, none⟩) (by first | (simp; done) | (simp; omega))).trans (by simp [go_sem])
  have fo0 : w1.frozen? ⟨w.heap.size + 1 + 1, 0, none⟩ = false := (hb1.frozen (p := ⟨w.heap.size + 1 + 1, 0, none⟩) (by first | (simp; done) | (simp; omega))).trans (by simp [go_sem])
  have kr0 : w1.cell? ⟨w.heap.size + 1, 0, none⟩ = some (.slice none 0 0) := (hb1.cell (p := ⟨w.heap.size + 1, 0, none⟩) (by first | (simp; done) | (simp; omega))).trans (by simp [go_sem])
  have fr0 : w1.frozen? ⟨w.heap.size + 1, 0, none⟩ = false := (hb1.frozen (p := ⟨w.heap.size + 1, 0, none⟩) (by first | (simp; done) | (simp; omega))).trans (by simp [go_sem])
  have ko1 : w1.cell? ⟨w.heap.size + 1 + 1, 1, none⟩ = some (.int .i64 0) := (hb1.cell (p := ⟨w.heap.size + 1 + 1, 1, none⟩) (by first | (simp; done) | (simp; omega))).trans (by simp [go_sem])
  have fo1 : w1.frozen? ⟨w.heap.size + 1 + 1, 1, none⟩ = false := (hb1.frozen (p := ⟨w.heap.size + 1 + 1, 1, none⟩) (by first | (simp; done) | (simp; omega))).trans (by simp [go_sem])
  have kr1 : w1.cell? ⟨w.heap.size + 1, 1, none⟩ = some (.int .i64 0) := (hb1.cell (p := ⟨w.heap.size + 1, 1, none⟩) (by first | (simp; done) | (simp; omega))).trans (by simp [go_sem])
  have fr1 : w1.frozen? ⟨w.heap.size + 1, 1, none⟩ = false := (hb1.frozen (p := ⟨w.heap.size + 1, 1, none⟩) (by first | (simp; done) | (simp; omega))).trans (by simp [go_sem])
  have ko2 : w1.cell? ⟨w.heap.size + 1 + 1, 2, none⟩ = some (.slice none 0 0) := (hb1.cell (p := ⟨w.heap.size + 1 + 1, 2, none⟩) (by first | (simp; done) | (simp; omega))).trans (by simp [go_sem])
  have fo2 : w1.frozen? ⟨w.heap.size + 1 + 1, 2, none⟩ = false := (hb1.frozen (p := ⟨w.heap.size + 1 + 1, 2, none⟩) (by first | (simp; done) | (simp; omega))).trans (by simp [go_sem])
  have kr2 : w1.cell? ⟨w.heap.size + 1, 2, none⟩ = some (.slice none 0 0) := (hb1.cell (p := ⟨w.heap.size + 1, 2, none⟩) (by first | (simp; done) | (simp; omega))).trans (by simp [go_sem])
  have fr2 : w1.frozen? ⟨w.heap.size + 1, 2, none⟩ = false := (hb1.frozen (p := ⟨w.heap.size + 1, 2, none⟩) (by first | (simp; done) | (simp; omega))).trans (by simp [go_sem])
  have ko3 : w1.cell? ⟨w.heap.size + 1 + 1, 3, none⟩ = some (.slice none 0 0) := (hb1.cell (p := ⟨w.heap.size + 1 + 1, 3, none⟩) (by first | (simp; done) | (simp; omega))).trans (by simp [go_sem])
  have fo3 : w1.frozen? ⟨w.heap.size + 1 + 1, 3, none⟩ = false := (hb1.frozen (p := ⟨w.heap.size + 1 + 1, 3, none⟩) (by first | (simp; done) | (simp; omega))).trans (by simp [go_sem])
  have kr3 : w1.cell? ⟨w.heap.size + 1, 3, none⟩ = some (.slice none 0 0) := (hb1.cell (p := ⟨w.heap.size + 1, 3, none⟩) (by first | (simp; done) | (simp; omega))).trans (by simp [go_sem])
  have fr3 : w1.frozen? ⟨w.heap.size + 1, 3, none⟩ = false := (hb1.frozen (p := ⟨w.heap.size + 1, 3, none⟩) (by first | (simp; done) | (simp; omega))).trans (by simp [go_sem])
  have ko4 : w1.cell? ⟨w.heap.size + 1 + 1, 4, none⟩ = some (.slice none 0 0) := (hb1.cell (p := ⟨w.heap.size + 1 + 1, 4, none⟩) (by first | (simp; done) | (simp; omega))).trans (by simp [go_sem])
  have fo4 : w1.frozen? ⟨w.heap.size + 1 + 1, 4, none⟩ = false := (hb1.frozen (p := ⟨w.heap.size + 1 + 1, 4, none⟩) (by first | (simp; done) | (simp; omega))).trans (by simp [go_sem])
  have kr4 : w1.cell? ⟨w.heap.size + 1, 4, none⟩ = some (.slice none 0 0) := (hb1.cell (p := ⟨w.heap.size + 1, 4, none⟩) (by first | (simp; done) | (simp; omega))).trans (by simp [go_sem])
  have fr4 : w1.frozen? ⟨w.heap.size + 1, 4, none⟩ = false := (hb1.frozen (p := ⟨w.heap.size + 1, 4, none⟩) (by first | (simp; done) | (simp; omega))).trans (by simp [go_sem])
  have hB1 : Hid (Below w.heap.size w w1) := (show Below w.heap.size w _ by go_grown).trans (hb1.mono (by first | (simp; done) | (simp; omega)))
  have HN0 : Hid (SliceC SbkC 4 (w.heap.size + 3) w1 (some ⟨g0, 0, none⟩) x.past) := hn0.keep SbkC.holds (Keeps.refl _ _) (by first | (simp; done) | (simp; omega))
  clear hn0 hb1 hg0
  have HTO : Hid (w1.there (w.heap.size + 1 + 1) 1 4) := there_cons ko1 fo1 (there_cons ko2 fo2 (there_cons ko3 fo3 (there_cons ko4 fo4 (there_nil _ _ _))))
  have HTR : Hid (w1.there (w.heap.size + 1) 0 5) := there_cons kr0 fr0 (there_cons kr1 fr1 (there_cons kr2 fr2 (there_cons kr3 fr3 (there_cons kr4 fr4 (there_nil _ _ _)))))
  go_wp2_with fail
  have HB2 : Hid (Below w.heap.size w (w1.setCell ⟨w.heap.size + 1 + 1, 0, none⟩ (.slice (some ⟨g0, 0, none⟩) x.past.length x.past.length))) := below_setCells (b := w.heap.size + 1 + 1) (by omega) [.slice (some ⟨g0, 0, none⟩) x.past.length x.past.length] 0 _ hB1.out
  have HPR2 : Hid (World.rangeAt (w1.setCell ⟨w.heap.size + 1 + 1, 0, none⟩ (.slice (some ⟨g0, 0, none⟩) x.past.length x.past.length)) (w.heap.size + 1 + 1) 0 [.slice (some ⟨g0, 0, none⟩) x.past.length x.past.length]) := World.rangeAt_setCells_same w1 (w.heap.size + 1 + 1) 0 [.slice (some ⟨g0, 0, none⟩) x.past.length x.past.length] (there_cons ko0 fo0 (there_nil _ _ _))
  have HTO2 : Hid (World.there (w1.setCell ⟨w.heap.size + 1 + 1, 0, none⟩ (.slice (some ⟨g0, 0, none⟩) x.past.length x.past.length)) (w.heap.size + 1 + 1) 1 4) := World.there_setCells HTO.out (w.heap.size + 1 + 1) 0 [.slice (some ⟨g0, 0, none⟩) x.past.length x.past.length]
  have HTR2 : Hid (World.there (w1.setCell ⟨w.heap.size + 1 + 1, 0, none⟩ (.slice (some ⟨g0, 0, none⟩) x.past.length x.past.length)) (w.heap.size + 1) 0 5) := World.there_setCells HTR.out (w.heap.size + 1 + 1) 0 [.slice (some ⟨g0, 0, none⟩) x.past.length x.past.length]
  have HN2 : Hid (SliceC SbkC 4 (w.heap.size + 3) (w1.setCell ⟨w.heap.size + 1 + 1, 0, none⟩ (.slice (some ⟨g0, 0, none⟩) x.past.length x.past.length)) (some ⟨g0, 0, none⟩) x.past) := HN0.out.keep SbkC.holds (Keeps.setCells (b := w.heap.size + 1 + 1) (by omega) [.slice (some ⟨g0, 0, none⟩) x.past.length x.past.length] 0 _) (Nat.le_refl _)
  have hz2 : w.heap.size + 1 + 1 < (World.heap (w1.setCell ⟨w.heap.size + 1 + 1, 0, none⟩ (.slice (some ⟨g0, 0, none⟩) x.past.length x.past.length))).size := by simp; omega
  clear HN0 HTO HTR hB1 hz1 ka1 ka2 ka3 ka4 ko0 fo0 kr0 fr0 ko1 fo1 kr1 fr1 ko2 fo2 kr2 fr2 ko3 fo3 kr3 fr3 ko4 fo4 kr4 fr4
  generalize (w1.setCell ⟨w.heap.size + 1 + 1, 0, none⟩ (.slice (some ⟨g0, 0, none⟩) x.past.length x.past.length)) = w2 at *
  refine (toSbk_any x.book a1 c1 a2 c2 a3 c3 lo _ (N1.out.below SsvC.holds (B := w.heap.size) (HB2.out) (Nat.le_refl _)) (N2.out.below ScpC.holds (B := w.heap.size) (HB2.out) (Nat.le_refl _)) (N3.out.below SbtC.holds (B := w.heap.size) (HB2.out) (Nat.le_refl _)) M1).mono ?_
  rintro e w3 ⟨g1, g2, g3, rfl, hn1, hn2, hn3, hb3⟩
  have hz3 : w.heap.size + 1 + 1 < w3.heap.size := Nat.lt_of_lt_of_le hz2 hb3.size
  have HPR3 : Hid (w3.rangeAt (w.heap.size + 1 + 1) 0 [.slice (some ⟨g0, 0, none⟩) x.past.length x.past.length]) := range_belowW HPR2.out hb3 hz2
  have HTO3 : Hid (w3.there (w.heap.size + 1 + 1) 1 4) := there_belowW HTO2.out hb3 hz2
  have HTR3 : Hid (w3.there (w.heap.size + 1) 0 5) := there_belowW HTR2.out hb3 (by omega)
  have hB3 : Below w.heap.size w w3 := HB2.out.trans (hb3.mono HB2.out.size)
  have HN0 : Hid (SliceC SbkC 4 (w.heap.size + 3) w3 (some ⟨g0, 0, none⟩) x.past) := HN2.out.keep SbkC.holds (Keeps.of_below hb3 (Nat.le_refl _) _) (Nat.le_refl _)
  have HM1 : Hid (SliceC SsvC 13 (w.heap.size + 3) w3 (some ⟨g1, 0, none⟩) x.book.services) := hn1.keep SsvC.holds (Keeps.refl _ _) (by omega)
  have HM2 : Hid (SliceC ScpC 7 (w.heap.size + 3) w3 (some ⟨g2, 0, none⟩) x.book.copies) := hn2.keep ScpC.holds (Keeps.refl _ _) (by omega)
  have HM3 : Hid (SliceC SbtC 2 (w.heap.size + 3) w3 (some ⟨g3, 0, none⟩) x.book.berths) := hn3.keep SbtC.holds (Keeps.refl _ _) (by omega)
  clear HN2 hn1 hn2 hn3 hb3 HPR2 HTO2 HTR2 HB2 hz2
  obtain ⟨w4, hw4⟩ : ∃ w', w' = w3.setCells (w.heap.size + 1 + 1) 1 [.int .i64 x.book.now, .slice (some ⟨g1, 0, none⟩) x.book.services.length x.book.services.length, .slice (some ⟨g2, 0, none⟩) x.book.copies.length x.book.copies.length, .slice (some ⟨g3, 0, none⟩) x.book.berths.length x.book.berths.length] := ⟨_, rfl⟩
  have HW4 : Hid (w4 = w3.setCells (w.heap.size + 1 + 1) 1 [.int .i64 x.book.now, .slice (some ⟨g1, 0, none⟩) x.book.services.length x.book.services.length, .slice (some ⟨g2, 0, none⟩) x.book.copies.length x.book.copies.length, .slice (some ⟨g3, 0, none⟩) x.book.berths.length x.book.berths.length]) := hw4
  have HRG : Hid (w4.rangeAt (w.heap.size + 1 + 1) 0 [.slice (some ⟨g0, 0, none⟩) x.past.length x.past.length, .int .i64 x.book.now, .slice (some ⟨g1, 0, none⟩) x.book.services.length x.book.services.length, .slice (some ⟨g2, 0, none⟩) x.book.copies.length x.book.copies.length, .slice (some ⟨g3, 0, none⟩) x.book.berths.length x.book.berths.length]) := by rw [hw4]; exact range_join (vs := [.int .i64 x.book.now, .slice (some ⟨g1, 0, none⟩) x.book.services.length x.book.services.length, .slice (some ⟨g2, 0, none⟩) x.book.copies.length x.book.copies.length, .slice (some ⟨g3, 0, none⟩) x.book.berths.length x.book.berths.length]) HPR3.out rfl HTO3.out
  have HTG : Hid (w4.there (w.heap.size + 1) 0 5) := by rw [hw4]; exact World.there_setCells HTR3.out (w.heap.size + 1 + 1) 1 [.int .i64 x.book.now, .slice (some ⟨g1, 0, none⟩) x.book.services.length x.book.services.length, .slice (some ⟨g2, 0, none⟩) x.book.copies.length x.book.copies.length, .slice (some ⟨g3, 0, none⟩) x.book.berths.length x.book.berths.length]
  have HBG : Hid (Below w.heap.size w w4) := by rw [hw4]; exact below_setCells (b := w.heap.size + 1 + 1) (by omega) [.int .i64 x.book.now, .slice (some ⟨g1, 0, none⟩) x.book.services.length x.book.services.length, .slice (some ⟨g2, 0, none⟩) x.book.copies.length x.book.copies.length, .slice (some ⟨g3, 0, none⟩) x.book.berths.length x.book.berths.length] 1 _ hB3
  have HG0 : Hid (SliceC SbkC 4 (w.heap.size + 3) w4 (some ⟨g0, 0, none⟩) x.past) := by rw [hw4]; exact HN0.out.keep SbkC.holds (Keeps.setCells (b := w.heap.size + 1 + 1) (by omega) [.int .i64 x.book.now, .slice (some ⟨g1, 0, none⟩) x.book.services.length x.book.services.length, .slice (some ⟨g2, 0, none⟩) x.book.copies.length x.book.copies.length, .slice (some ⟨g3, 0, none⟩) x.book.berths.length x.book.berths.length] 1 _) (Nat.le_refl _)
  have HG1 : Hid (SliceC SsvC 13 (w.heap.size + 3) w4 (some ⟨g1, 0, none⟩) x.book.services) := by rw [hw4]; exact HM1.out.keep SsvC.holds (Keeps.setCells (b := w.heap.size + 1 + 1) (by omega) [.int .i64 x.book.now, .slice (some ⟨g1, 0, none⟩) x.book.services.length x.book.services.length, .slice (some ⟨g2, 0, none⟩) x.book.copies.length x.book.copies.length, .slice (some ⟨g3, 0, none⟩) x.book.berths.length x.book.berths.length] 1 _) (Nat.le_refl _)
  have HG2 : Hid (SliceC ScpC 7 (w.heap.size + 3) w4 (some ⟨g2, 0, none⟩) x.book.copies) := by rw [hw4]; exact HM2.out.keep ScpC.holds (Keeps.setCells (b := w.heap.size + 1 + 1) (by omega) [.int .i64 x.book.now, .slice (some ⟨g1, 0, none⟩) x.book.services.length x.book.services.length, .slice (some ⟨g2, 0, none⟩) x.book.copies.length x.book.copies.length, .slice (some ⟨g3, 0, none⟩) x.book.berths.length x.book.berths.length] 1 _) (Nat.le_refl _)
  have HG3 : Hid (SliceC SbtC 2 (w.heap.size + 3) w4 (some ⟨g3, 0, none⟩) x.book.berths) := by rw [hw4]; exact HM3.out.keep SbtC.holds (Keeps.setCells (b := w.heap.size + 1 + 1) (by omega) [.int .i64 x.book.now, .slice (some ⟨g1, 0, none⟩) x.book.services.length x.book.services.length, .slice (some ⟨g2, 0, none⟩) x.book.copies.length x.book.copies.length, .slice (some ⟨g3, 0, none⟩) x.book.berths.length x.book.berths.length] 1 _) (Nat.le_refl _)
  clear hw4 HPR3 HTR3 hB3 hz3 HN0 HM1 HM2 HM3
  obtain ⟨w10, hw10⟩ : ∃ w', w' = w4.setCells (w.heap.size + 1) 0 [.slice (some ⟨g0, 0, none⟩) x.past.length x.past.length, .int .i64 x.book.now, .slice (some ⟨g1, 0, none⟩) x.book.services.length x.book.services.length, .slice (some ⟨g2, 0, none⟩) x.book.copies.length x.book.copies.length, .slice (some ⟨g3, 0, none⟩) x.book.berths.length x.book.berths.length] := ⟨_, rfl⟩
  have HR10 : Hid (w10.rangeAt (w.heap.size + 1) 0 [.slice (some ⟨g0, 0, none⟩) x.past.length x.past.length, .int .i64 x.book.now, .slice (some ⟨g1, 0, none⟩) x.book.services.length x.book.services.length, .slice (some ⟨g2, 0, none⟩) x.book.copies.length x.book.copies.length, .slice (some ⟨g3, 0, none⟩) x.book.berths.length x.book.berths.length]) := by rw [hw10]; exact World.rangeAt_setCells_same _ _ _ _ HTG.out
  have HB10 : Hid (Below w.heap.size w w10) := by rw [hw10]; exact below_setCells (by omega) _ _ _ HBG.out
  have HS0 : Hid (SliceC SbkC 4 w.heap.size w10 (some ⟨g0, 0, none⟩) x.past) := by rw [hw10]; exact HG0.out.keep SbkC.holds (Keeps.setCells (by omega) _ _ _) (by omega)
  have HS1 : Hid (SliceC SsvC 13 w.heap.size w10 (some ⟨g1, 0, none⟩) x.book.services) := by rw [hw10]; exact HG1.out.keep SsvC.holds (Keeps.setCells (by omega) _ _ _) (by omega)
  have HS2 : Hid (SliceC ScpC 7 w.heap.size w10 (some ⟨g2, 0, none⟩) x.book.copies) := by rw [hw10]; exact HG2.out.keep ScpC.holds (Keeps.setCells (by omega) _ _ _) (by omega)
  have HS3 : Hid (SliceC SbtC 2 w.heap.size w10 (some ⟨g3, 0, none⟩) x.book.berths) := by rw [hw10]; exact HG3.out.keep SbtC.holds (Keeps.setCells (by omega) _ _ _) (by omega)
  have HW10 : Hid (w10 = w4.setCells (w.heap.size + 1) 0 [.slice (some ⟨g0, 0, none⟩) x.past.length x.past.length, .int .i64 x.book.now, .slice (some ⟨g1, 0, none⟩) x.book.services.length x.book.services.length, .slice (some ⟨g2, 0, none⟩) x.book.copies.length x.book.copies.length, .slice (some ⟨g3, 0, none⟩) x.book.berths.length x.book.berths.length]) := hw10
  clear hw10 HBG HG0 HG1 HG2 HG3
  go_wp2_with (first | (refine wpList_store_to rfl 37 _ _ rfl (w.heap.size + 1 + 1) 1 #[.int .i64 x.book.now, .slice (some ⟨g1, 0, none⟩) x.book.services.length x.book.services.length, .slice (some ⟨g2, 0, none⟩) x.book.copies.length x.book.copies.length, .slice (some ⟨g3, 0, none⟩) x.book.berths.length x.book.berths.length] rfl rfl HTO3.out isz_Sbk (by simp [Value.oneCell']) w4 HW4.out ?_) | (refine wpList_load_mid rfl 39 _ rfl (w.heap.size + 1 + 1) 0 rfl [.slice (some ⟨g0, 0, none⟩) x.past.length x.past.length, .int .i64 x.book.now, .slice (some ⟨g1, 0, none⟩) x.book.services.length x.book.services.length, .slice (some ⟨g2, 0, none⟩) x.book.copies.length x.book.copies.length, .slice (some ⟨g3, 0, none⟩) x.book.berths.length x.book.berths.length] _ HRG.out Try.underlying39 rfl isz_Swd ?_) | (refine wpList_store_to rfl 39 _ _ rfl (w.heap.size + 1) 0 #[.slice (some ⟨g0, 0, none⟩) x.past.length x.past.length, .int .i64 x.book.now, .slice (some ⟨g1, 0, none⟩) x.book.services.length x.book.services.length, .slice (some ⟨g2, 0, none⟩) x.book.copies.length x.book.copies.length, .slice (some ⟨g3, 0, none⟩) x.book.berths.length x.book.berths.length] rfl rfl HTG.out isz_Swd (by simp [Value.oneCell']) w10 HW10.out ?_))
  exact bodyPost_ret (results_cell_mid rfl _ _ (w.heap.size + 1) [.slice (some ⟨g0, 0, none⟩) x.past.length x.past.length, .int .i64 x.book.now, .slice (some ⟨g1, 0, none⟩) x.book.services.length x.book.services.length, .slice (some ⟨g2, 0, none⟩) x.book.copies.length x.book.copies.length, .slice (some ⟨g3, 0, none⟩) x.book.berths.length x.book.berths.length] _ rfl HR10.out Try.underlying39 rfl isz_Swd) rfl ⟨g0, g1, g2, g3, rfl, HS0.out, HS1.out, HS2.out, HS3.out, HB10.out⟩

set_option maxHeartbeats 2000000 in
theorem eqSwd_any (x : Swd) (a0 : Option Addr) (c0 : Nat) (a1 : Option Addr) (c1 : Nat) (a2 : Option Addr) (c2 : Nat) (a3 : Option Addr) (c3 : Nat) (a0p : Option Addr) (c0p : Nat) (a1p : Option Addr) (c1p : Nat) (a2p : Option Addr) (c2p : Nat) (a3p : Option Addr) (c3p : Nat) (lo lo' : Nat) (w : World) (n0 : SliceC SbkC 4 lo w a0 x.past) (n1 : SliceC SsvC 13 lo w a1 x.book.services) (n2 : SliceC ScpC 7 lo w a2 x.book.copies) (n3 : SliceC SbtC 2 lo w a3 x.book.berths) (p0 : SliceC SbkC 4 lo' w a0p x.past) (p1 : SliceC SsvC 13 lo' w a1p x.book.services) (p2 : SliceC ScpC 7 lo' w a2p x.book.copies) (p3 : SliceC SbtC 2 lo' w a3p x.book.berths) (hsm : wSwd x ≤ 1048576) :
    Calls Try.prog 8 #[.agg #[.slice a0 x.past.length c0, .int .i64 x.book.now, .slice a1 x.book.services.length c1, .slice a2 x.book.copies.length c2, .slice a3 x.book.berths.length c3], .agg #[.slice a0p x.past.length c0p, .int .i64 x.book.now, .slice a1p x.book.services.length c1p, .slice a2p x.book.copies.length c2p, .slice a3p x.book.berths.length c3p]] w fun e w' => e = .returned (.bool true) ∧ Below w.heap.size w w' := by
  have N0 : Hid (SliceC SbkC 4 lo w a0 x.past) := n0
  have P0 : Hid (SliceC SbkC 4 lo' w a0p x.past) := p0
  have N1 : Hid (SliceC SsvC 13 lo w a1 x.book.services) := n1
  have P1 : Hid (SliceC SsvC 13 lo' w a1p x.book.services) := p1
  have N2 : Hid (SliceC ScpC 7 lo w a2 x.book.copies) := n2
  have P2 : Hid (SliceC ScpC 7 lo' w a2p x.book.copies) := p2
  have N3 : Hid (SliceC SbtC 2 lo w a3 x.book.berths) := n3
  have P3 : Hid (SliceC SbtC 2 lo' w a3p x.book.berths) := p3
  have M0 : wS wSbk x.past ≤ 1048576 := by unfold wSwd at hsm; omega
  have M1 : wSbk x.book ≤ 1048576 := by unfold wSwd at hsm; omega
  clear hsm n0 n1 n2 n3 p0 p1 p2 p3
  go_enter Try.func8, Try.ntmps8
  go_wp2_with fail
  refine (eqSbkS_any x.past a0 a0p c0 c0p lo lo' _ (N0.out.below SbkC.holds (B := w.heap.size) (by go_grown) (Nat.le_refl _)) (P0.out.below SbkC.holds (B := w.heap.size) (by go_grown) (Nat.le_refl _)) M0).mono ?_
  rintro e w1 ⟨rfl, hb1⟩
  have hB1 : Below w.heap.size w w1 := (show Below w.heap.size w _ by go_grown).trans (hb1.mono (by simp; omega))
  have k1_1 : w1.cell? ⟨w.heap.size, 1, none⟩ = some (.int .i64 x.book.now) := (hb1.cell (p := ⟨w.heap.size, 1, none⟩) (by simp; omega)).trans (by simp)
  have l1_1 : w1.cell? ⟨w.heap.size + 1, 1, none⟩ = some (.int .i64 x.book.now) := (hb1.cell (p := ⟨w.heap.size + 1, 1, none⟩) (by simp)).trans (by simp)
  have k1_2 : w1.cell? ⟨w.heap.size, 2, none⟩ = some (.slice a1 x.book.services.length c1) := (hb1.cell (p := ⟨w.heap.size, 2, none⟩) (by simp; omega)).trans (by simp)
  have l1_2 : w1.cell? ⟨w.heap.size + 1, 2, none⟩ = some (.slice a1p x.book.services.length c1p) := (hb1.cell (p := ⟨w.heap.size + 1, 2, none⟩) (by simp)).trans (by simp)
  have k1_3 : w1.cell? ⟨w.heap.size, 3, none⟩ = some (.slice a2 x.book.copies.length c2) := (hb1.cell (p := ⟨w.heap.size, 3, none⟩) (by simp; omega)).trans (by simp)
  have l1_3 : w1.cell? ⟨w.heap.size + 1, 3, none⟩ = some (.slice a2p x.book.copies.length c2p) := (hb1.cell (p := ⟨w.heap.size + 1, 3, none⟩) (by simp)).trans (by simp)
  have k1_4 : w1.cell? ⟨w.heap.size, 4, none⟩ = some (.slice a3 x.book.berths.length c3) := (hb1.cell (p := ⟨w.heap.size, 4, none⟩) (by simp; omega)).trans (by simp)
  have l1_4 : w1.cell? ⟨w.heap.size + 1, 4, none⟩ = some (.slice a3p x.book.berths.length c3p) := (hb1.cell (p := ⟨w.heap.size + 1, 4, none⟩) (by simp)).trans (by simp)
  clear hb1
  go_wp2_with fail
  refine (eqSbk_any x.book a1 c1 a2 c2 a3 c3 a1p c1p a2p c2p a3p c3p lo lo' _ (N1.out.below SsvC.holds (B := w.heap.size) (hB1) (Nat.le_refl _)) (N2.out.below ScpC.holds (B := w.heap.size) (hB1) (Nat.le_refl _)) (N3.out.below SbtC.holds (B := w.heap.size) (hB1) (Nat.le_refl _)) (P1.out.below SsvC.holds (B := w.heap.size) (hB1) (Nat.le_refl _)) (P2.out.below ScpC.holds (B := w.heap.size) (hB1) (Nat.le_refl _)) (P3.out.below SbtC.holds (B := w.heap.size) (hB1) (Nat.le_refl _)) M1).mono ?_
  rintro e w2 ⟨rfl, hb2⟩
  have hB2 : Below w.heap.size w w2 := hB1.trans (hb2.mono hB1.size)
  clear hb2 hB1 k1_1 k1_2 k1_3 k1_4 l1_1 l1_2 l1_3 l1_4
  go_wp2_with fail
  go_ret
  exact ⟨rfl, hB2⟩

end Go.Proofs.Ytnkggfnblcadoaa
