/-
  Walks over MateWorld: sizes, copies, equality. Made by mkwrl.py.
-/
import Derived.Test.YtlcjfiikiblcdaaGreatLnd
import Derived.Test.YtlcjfiikiblcdaaGreatMtS
namespace Go.Proofs.YtlcjfiikiblcdaaGreat
open Go.RowKit

structure Wrl where
  land : Lnd
  mates : List Mte
  flight : List ByteArray

theorem range_belowW {w w' : World} {g o B : Nat} {l : List Value} (h : w.rangeAt g o l) (hb : Below B w w') (hB : g < B) : w'.rangeAt g o l := by
  intro j v hj
  rw [hb.cell (p := ⟨g, _, none⟩) hB]
  exact h j v hj

theorem there_belowW {w w' : World} {b o n B : Nat} (h : w.there b o n) (hb : Below B w w') (hB : b < B) : w'.there b o n := fun j hj => by
  rw [hb.cell (p := ⟨b, o + j, none⟩) hB, hb.frozen (p := ⟨b, o + j, none⟩) hB]
  exact h j hj

def wWrl (x : Wrl) : Nat := wLnd x.land + wS wMte x.mates + wS ByteArray.size x.flight

/-- what its cells hold -/
def WrlC : Make Wrl := fun lo w f x => ∃ (a1 : Option Addr) (c1 : Nat) (a2 : Option Addr) (c2 : Nat) (a3 : Option Addr) (c3 : Nat) (a4 : Option Addr) (c4 : Nat), f 0 = some (.int .i64 x.land.time) ∧ f 1 = some (.slice a1 x.land.grants.length c1) ∧ f 2 = some (.slice a2 x.land.places.length c2) ∧ f 3 = some (.slice a3 x.mates.length c3) ∧ f 4 = some (.slice a4 x.flight.length c4) ∧ SliceC GrtC 5 lo w a1 x.land.grants ∧ SliceC PlmC 3 lo w a2 x.land.places ∧ SliceC MteC 9 lo w a3 x.mates ∧ SliceC StrC 1 lo w a4 x.flight

theorem WrlC.holds : Holds WrlC 5 := by
  rintro lo lo' w w' f g x h k hl ⟨a1, c1, a2, c2, a3, c3, a4, c4, q0, q1, q2, q3, q4, n1, n2, n3, n4⟩
  exact ⟨a1, c1, a2, c2, a3, c3, a4, c4, (h 0 (by omega)).trans q0, (h 1 (by omega)).trans q1, (h 2 (by omega)).trans q2, (h 3 (by omega)).trans q3, (h 4 (by omega)).trans q4, n1.keep GrtC.holds k hl, n2.keep PlmC.holds k hl, n3.keep MteC.holds k hl, n4.keep StrC.holds k hl⟩

set_option maxHeartbeats 2000000 in
theorem szWrl_any (x : Wrl) (a1 : Option Addr) (c1 : Nat) (a2 : Option Addr) (c2 : Nat) (a3 : Option Addr) (c3 : Nat) (a4 : Option Addr) (c4 : Nat) (lo : Nat) (L : Int) (w : World) (n1 : SliceC GrtC 5 lo w a1 x.land.grants) (n2 : SliceC PlmC 3 lo w a2 x.land.places) (n3 : SliceC MteC 9 lo w a3 x.mates) (n4 : SliceC StrC 1 lo w a4 x.flight) (h0 : 0 ≤ L) (h1 : L ≤ 1048576) :
    Calls Tryz.prog 16 #[.agg #[.int .i64 x.land.time, .slice a1 x.land.grants.length c1, .slice a2 x.land.places.length c2, .slice a3 x.mates.length c3, .slice a4 x.flight.length c4], .int .i64 L] w fun e w' => e = .returned (.int .i64 (szR (wWrl x) L)) ∧ Below w.heap.size w w' := by
  have N1 : Hid (SliceC GrtC 5 lo w a1 x.land.grants) := n1
  have N2 : Hid (SliceC PlmC 3 lo w a2 x.land.places) := n2
  have N3 : Hid (SliceC MteC 9 lo w a3 x.mates) := n3
  have N4 : Hid (SliceC StrC 1 lo w a4 x.flight) := n4
  clear n1 n2 n3 n4
  have HW : Hid (wWrl x = wLnd x.land + wS wMte x.mates + wS ByteArray.size x.flight) := rfl
  generalize wWrl x = W at *
  go_enter Tryz.func16, Tryz.ntmps16
  go_wp2_with fail
  refine (szLnd_any x.land a1 c1 a2 c2 lo L _ (N1.out.below GrtC.holds (B := w.heap.size) (by go_grown) (Nat.le_refl _)) (N2.out.below PlmC.holds (B := w.heap.size) (by go_grown) (Nat.le_refl _)) h0 h1).mono ?_
  rintro e w1 ⟨rfl, hb1⟩
  have hB1 : Below w.heap.size w w1 := (show Below w.heap.size w _ by go_grown).trans (hb1.mono (by simp))
  have k1_3 : w1.cell? ⟨w.heap.size, 3, none⟩ = some (.slice a3 x.mates.length c3) := (hb1.cell (p := ⟨w.heap.size, 3, none⟩) (by simp)).trans (by simp)
  have k1_4 : w1.cell? ⟨w.heap.size, 4, none⟩ = some (.slice a4 x.flight.length c4) := (hb1.cell (p := ⟨w.heap.size, 4, none⟩) (by simp)).trans (by simp)
  have hs1 : w.heap.size < w1.heap.size := by have := hb1.size; simp at this; omega
  clear hb1
  generalize wLnd x.land = V at *
  by_cases d0 : (V : Int) ≤ L
  case neg =>
    rw [szR_neg d0]
    go_wp2_with fail
    go_ret
    exact ⟨ret_int (by have := HW.out; unfold szR; rw [if_neg (by omega)]), hB1⟩
  rw [szR_pos d0]
  go_wp2_with fail
  refine (szMteS_any x.mates a3 c3 lo _ _ (N3.out.below MteC.holds (B := w.heap.size) (hB1) (Nat.le_refl _)) (by omega) (by omega)).mono ?_
  rintro e w2 ⟨rfl, hb2⟩
  have hB2 : Below w.heap.size w w2 := hB1.trans (hb2.mono (by omega))
  have k2_4 : w2.cell? ⟨w.heap.size, 4, none⟩ = some (.slice a4 x.flight.length c4) := (hb2.cell (p := ⟨w.heap.size, 4, none⟩) hs1).trans k1_4
  have hs2 : w.heap.size < w2.heap.size := by have := hb2.size; omega
  clear hb2 hB1 hs1 k1_3 k1_4
  by_cases d3 : (((wS wMte x.mates) : Nat) : Int) ≤ L - (V : Nat)
  case neg =>
    rw [szR_neg d3]
    go_wp2_with fail
    go_ret
    exact ⟨ret_int (by have := HW.out; unfold szR; rw [if_neg (by omega)]), hB2⟩
  rw [szR_pos d3]
  go_wp2_with fail
  refine (szStrS_any x.flight a4 c4 lo _ _ (N4.out.below StrC.holds (B := w.heap.size) (hB2) (Nat.le_refl _)) (by omega) (by omega)).mono ?_
  rintro e w3 ⟨rfl, hb3⟩
  have hB3 : Below w.heap.size w w3 := hB2.trans (hb3.mono (by omega))
  have hs3 : w.heap.size < w3.heap.size := by have := hb3.size; omega
  clear hb3 hB2 hs2 k2_4
  by_cases d4 : (((wS ByteArray.size x.flight) : Nat) : Int) ≤ L - (V : Nat) - ((wS wMte x.mates) : Nat)
  case neg =>
    rw [szR_neg d4]
    go_wp2_with fail
    go_ret
    exact ⟨ret_int (by have := HW.out; unfold szR; rw [if_neg (by omega)]), hB3⟩
  rw [szR_pos d4]
  go_wp2_with fail
  go_ret
  exact ⟨ret_int (by have := HW.out; unfold szR; rw [if_pos (by omega)]; omega), hB3⟩

theorem isz_Wrl : (Tryz.prog.info? 30).map (·.size) = some 5 := by kernel_rfl

set_option maxHeartbeats 4000000 in
theorem toWrl_any (x : Wrl) (a1 : Option Addr) (c1 : Nat) (a2 : Option Addr) (c2 : Nat) (a3 : Option Addr) (c3 : Nat) (a4 : Option Addr) (c4 : Nat) (lo : Nat) (w : World) (n1 : SliceC GrtC 5 lo w a1 x.land.grants) (n2 : SliceC PlmC 3 lo w a2 x.land.places) (n3 : SliceC MteC 9 lo w a3 x.mates) (n4 : SliceC StrC 1 lo w a4 x.flight) (hsm : wWrl x ≤ 1048576) :
    Calls Tryz.prog 18 #[.agg #[.int .i64 x.land.time, .slice a1 x.land.grants.length c1, .slice a2 x.land.places.length c2, .slice a3 x.mates.length c3, .slice a4 x.flight.length c4]] w fun e w' => ∃ g1 g2 g3 g4, e = .returned (.agg #[.int .i64 x.land.time, .slice (some ⟨g1, 0, none⟩) x.land.grants.length x.land.grants.length, .slice (some ⟨g2, 0, none⟩) x.land.places.length x.land.places.length, .slice (some ⟨g3, 0, none⟩) x.mates.length x.mates.length, .slice (some ⟨g4, 0, none⟩) x.flight.length x.flight.length]) ∧ SliceC GrtC 5 w.heap.size w' (some ⟨g1, 0, none⟩) x.land.grants ∧ SliceC PlmC 3 w.heap.size w' (some ⟨g2, 0, none⟩) x.land.places ∧ SliceC MteC 9 w.heap.size w' (some ⟨g3, 0, none⟩) x.mates ∧ SliceC StrC 1 w.heap.size w' (some ⟨g4, 0, none⟩) x.flight ∧ Below w.heap.size w w' := by
  have N1 : Hid (SliceC GrtC 5 lo w a1 x.land.grants) := n1
  have N2 : Hid (SliceC PlmC 3 lo w a2 x.land.places) := n2
  have N3 : Hid (SliceC MteC 9 lo w a3 x.mates) := n3
  have N4 : Hid (SliceC StrC 1 lo w a4 x.flight) := n4
  have M0 : wLnd x.land ≤ 1048576 := by unfold wWrl at hsm; omega
  have M3 : wS wMte x.mates ≤ 1048576 := by unfold wWrl at hsm; omega
  have M4 : wS ByteArray.size x.flight ≤ 1048576 := by unfold wWrl at hsm; omega
  clear hsm n1 n2 n3 n4
  go_enter Tryz.func18, Tryz.ntmps18
  go_wp2_with fail
  refine (toLnd_any x.land a1 c1 a2 c2 lo _ (N1.out.below GrtC.holds (B := w.heap.size) (by go_grown) (Nat.le_refl _)) (N2.out.below PlmC.holds (B := w.heap.size) (by go_grown) (Nat.le_refl _)) M0).mono ?_
  rintro e w1 ⟨g1, g2, rfl, hn1, hn2, hb1⟩
  have hz1 : w.heap.size + 1 + 1 < w1.heap.size := by have := hb1.size; simp at this; omega
  have ka3 : w1.cell? ⟨w.heap.size, 3, none⟩ = some (.slice a3 x.mates.length c3) := (hb1.cell (p := ⟨w.heap.size, 3, none⟩) (by first | (simp; done) | (simp; omega))).trans (by simp [go_sem])
  have ka4 : w1.cell? ⟨w.heap.size, 4, none⟩ = some (.slice a4 x.flight.length c4) := (hb1.cell (p := ⟨w.heap.size, 4, none⟩) (by first | (simp; done) | (simp; omega))).trans (by simp [go_sem])
  have ko0 : w1.cell? ⟨w.heap.size + 1 + 1, 0, none⟩ = some (.int .i64 0) := (hb1.cell (p := ⟨w.heap.size + 1 + 1, 0, none⟩) (by first | (simp; done) | (simp; omega))).trans (by simp [go_sem])
  have fo0 : w1.frozen? ⟨w.heap.size + 1 + 1, 0, none⟩ = false := (hb1.frozen (p := ⟨w.heap.size + 1 + 1, 0, none⟩) (by first | (simp; done) | (simp; omega))).trans (by simp [go_sem])
  have kr0 : w1.cell? ⟨w.heap.size + 1, 0, none⟩ = some (.int .i64 0) := (hb1.cell (p := ⟨w.heap.size + 1, 0, none⟩) (by first | (simp; done) | (simp; omega))).trans (by simp [go_sem])
  have fr0 : w1.frozen? ⟨w.heap.size + 1, 0, none⟩ = false := (hb1.frozen (p := ⟨w.heap.size + 1, 0, none⟩) (by first | (simp; done) | (simp; omega))).trans (by simp [go_sem])
  have ko1 : w1.cell? ⟨w.heap.size + 1 + 1, 1, none⟩ = some (.slice none 0 0) := (hb1.cell (p := ⟨w.heap.size + 1 + 1, 1, none⟩) (by first | (simp; done) | (simp; omega))).trans (by simp [go_sem])
  have fo1 : w1.frozen? ⟨w.heap.size + 1 + 1, 1, none⟩ = false := (hb1.frozen (p := ⟨w.heap.size + 1 + 1, 1, none⟩) (by first | (simp; done) | (simp; omega))).trans (by simp [go_sem])
  have kr1 : w1.cell? ⟨w.heap.size + 1, 1, none⟩ = some (.slice none 0 0) := (hb1.cell (p := ⟨w.heap.size + 1, 1, none⟩) (by first | (simp; done) | (simp; omega))).trans (by simp [go_sem])
  have fr1 : w1.frozen? ⟨w.heap.size + 1, 1, none⟩ = false := (hb1.frozen (p := ⟨w.heap.size + 1, 1, none⟩) (by first | (simp; done) | (simp; omega))).trans (by simp [go_sem])
  have ko2 : w1.cell? ⟨w.heap.size + 1 + 1, 2, none⟩ = some (.slice none 0 0) := (hb1.cell (p := ⟨w.heap.size + 1 + 1, 2, none⟩) (by first | (simp; done) | (simp; omega))).trans (by simp [go_sem])
  have fo2 : w1.frozen? ⟨w.heap.size + 1 + 1, 2, none⟩ = false := (hb1.frozen (p := ⟨w.heap.size + 1 + 1, 2, none⟩) (by first | (simp; done) | (simp; omega))).trans (by simp [go_sem])
  have kr2 : w1.cell? ⟨w.heap.size + 1, 2, none⟩ = some (.slice none 0 0) := (hb1.cell (p := ⟨w.heap.size + 1, 2, none⟩) (by first | (simp; done) | (simp; omega))).trans (by simp [go_sem])
  have fr2 : w1.frozen? ⟨w.heap.size + 1, 2, none⟩ = false := (hb1.frozen (p := ⟨w.heap.size + 1, 2, none⟩) (by first | (simp; done) | (simp; omega))).trans (by simp [go_sem])
  have ko3 : w1.cell? ⟨w.heap.size + 1 + 1, 3, none⟩ = some (.slice none 0 0) := (hb1.cell (p := ⟨w.heap.size + 1 + 1, 3, none⟩) (by first | (simp; done) | (simp; omega))).trans (by simp [go_sem])
  have fo3 : w1.frozen? ⟨w.heap.size + 1 + 1, 3, none⟩ = false := (hb1.frozen (p := ⟨w.heap.size + 1 + 1, 3, none⟩) (by first | (simp; done) | (simp; omega))).trans (by simp [go_sem])
  have kr3 : w1.cell? ⟨w.heap.size + 1, 3, none⟩ = some (.slice none 0 0) := (hb1.cell (p := ⟨w.heap.size + 1, 3, none⟩) (by first | (simp; done) | (simp; omega))).trans (by simp [go_sem])
  have fr3 : w1.frozen? ⟨w.heap.size + 1, 3, none⟩ = false := (hb1.frozen (p := ⟨w.heap.size + 1, 3, none⟩) (by first | (simp; done) | (simp; omega))).trans (by simp [go_sem])
  have ko4 : w1.cell? ⟨w.heap.size + 1 + 1, 4, none⟩ = some (.slice none 0 0) := (hb1.cell (p := ⟨w.heap.size + 1 + 1, 4, none⟩) (by first | (simp; done) | (simp; omega))).trans (by simp [go_sem])
  have fo4 : w1.frozen? ⟨w.heap.size + 1 + 1, 4, none⟩ = false := (hb1.frozen (p := ⟨w.heap.size + 1 + 1, 4, none⟩) (by first | (simp; done) | (simp; omega))).trans (by simp [go_sem])
  have kr4 : w1.cell? ⟨w.heap.size + 1, 4, none⟩ = some (.slice none 0 0) := (hb1.cell (p := ⟨w.heap.size + 1, 4, none⟩) (by first | (simp; done) | (simp; omega))).trans (by simp [go_sem])
  have fr4 : w1.frozen? ⟨w.heap.size + 1, 4, none⟩ = false := (hb1.frozen (p := ⟨w.heap.size + 1, 4, none⟩) (by first | (simp; done) | (simp; omega))).trans (by simp [go_sem])
  have hB1 : Hid (Below w.heap.size w w1) := (show Below w.heap.size w _ by go_grown).trans (hb1.mono (by first | (simp; done) | (simp; omega)))
  have HN1 : Hid (SliceC GrtC 5 (w.heap.size + 3) w1 (some ⟨g1, 0, none⟩) x.land.grants) := hn1.keep GrtC.holds (Keeps.refl _ _) (by first | (simp; done) | (simp; omega))
  have HN2 : Hid (SliceC PlmC 3 (w.heap.size + 3) w1 (some ⟨g2, 0, none⟩) x.land.places) := hn2.keep PlmC.holds (Keeps.refl _ _) (by first | (simp; done) | (simp; omega))
  clear hn1 hn2 hb1
  have HTP : Hid (w1.there (w.heap.size + 1 + 1) 0 3) := there_cons ko0 fo0 (there_cons ko1 fo1 (there_cons ko2 fo2 (there_nil _ _ _)))
  have HTO : Hid (w1.there (w.heap.size + 1 + 1) 3 2) := there_cons ko3 fo3 (there_cons ko4 fo4 (there_nil _ _ _))
  have HTR : Hid (w1.there (w.heap.size + 1) 0 5) := there_cons kr0 fr0 (there_cons kr1 fr1 (there_cons kr2 fr2 (there_cons kr3 fr3 (there_cons kr4 fr4 (there_nil _ _ _)))))
  obtain ⟨w2, hw2⟩ : ∃ w', w' = w1.setCells (w.heap.size + 1 + 1) 0 [.int .i64 x.land.time, .slice (some ⟨g1, 0, none⟩) x.land.grants.length x.land.grants.length, .slice (some ⟨g2, 0, none⟩) x.land.places.length x.land.places.length] := ⟨_, rfl⟩
  have HW2 : Hid (w2 = w1.setCells (w.heap.size + 1 + 1) 0 [.int .i64 x.land.time, .slice (some ⟨g1, 0, none⟩) x.land.grants.length x.land.grants.length, .slice (some ⟨g2, 0, none⟩) x.land.places.length x.land.places.length]) := hw2
  have HPR : Hid (w2.rangeAt (w.heap.size + 1 + 1) 0 [.int .i64 x.land.time, .slice (some ⟨g1, 0, none⟩) x.land.grants.length x.land.grants.length, .slice (some ⟨g2, 0, none⟩) x.land.places.length x.land.places.length]) := by rw [hw2]; exact World.rangeAt_setCells_same _ _ _ _ HTP.out
  have HTO2 : Hid (w2.there (w.heap.size + 1 + 1) 3 2) := by rw [hw2]; exact World.there_setCells HTO.out _ _ _
  have HTR2 : Hid (w2.there (w.heap.size + 1) 0 5) := by rw [hw2]; exact World.there_setCells HTR.out _ _ _
  have hB2 : Below w.heap.size w w2 := by rw [hw2]; exact below_setCells (by omega) _ _ _ hB1.out
  have hz2 : w.heap.size + 1 + 1 < w2.heap.size := by rw [hw2, size_setCells]; exact hz1
  have kb3 : w2.cell? ⟨w.heap.size, 3, none⟩ = some (.slice a3 x.mates.length c3) := by rw [hw2]; simpa using World.rangeAt_setCells_apart (range_cons ka3 (range_nil _ _ _)) (w.heap.size + 1 + 1) 0 [.int .i64 x.land.time, .slice (some ⟨g1, 0, none⟩) x.land.grants.length x.land.grants.length, .slice (some ⟨g2, 0, none⟩) x.land.places.length x.land.places.length] (.inl (by omega)) 0 _ rfl
  have kp3 : w2.cell? ⟨w.heap.size + 1 + 1, 3, none⟩ = some (.slice none 0 0) := by rw [hw2]; simpa using World.rangeAt_setCells_apart (range_cons ko3 (range_nil _ _ _)) (w.heap.size + 1 + 1) 0 [.int .i64 x.land.time, .slice (some ⟨g1, 0, none⟩) x.land.grants.length x.land.grants.length, .slice (some ⟨g2, 0, none⟩) x.land.places.length x.land.places.length] (.inr (.inr (by simp))) 0 _ rfl
  have fp3 : w2.frozen? ⟨w.heap.size + 1 + 1, 3, none⟩ = false := by simpa using (HTO2.out 0 (by omega)).2
  have kb4 : w2.cell? ⟨w.heap.size, 4, none⟩ = some (.slice a4 x.flight.length c4) := by rw [hw2]; simpa using World.rangeAt_setCells_apart (range_cons ka4 (range_nil _ _ _)) (w.heap.size + 1 + 1) 0 [.int .i64 x.land.time, .slice (some ⟨g1, 0, none⟩) x.land.grants.length x.land.grants.length, .slice (some ⟨g2, 0, none⟩) x.land.places.length x.land.places.length] (.inl (by omega)) 0 _ rfl
  have kp4 : w2.cell? ⟨w.heap.size + 1 + 1, 4, none⟩ = some (.slice none 0 0) := by rw [hw2]; simpa using World.rangeAt_setCells_apart (range_cons ko4 (range_nil _ _ _)) (w.heap.size + 1 + 1) 0 [.int .i64 x.land.time, .slice (some ⟨g1, 0, none⟩) x.land.grants.length x.land.grants.length, .slice (some ⟨g2, 0, none⟩) x.land.places.length x.land.places.length] (.inr (.inr (by simp))) 0 _ rfl
  have fp4 : w2.frozen? ⟨w.heap.size + 1 + 1, 4, none⟩ = false := by simpa using (HTO2.out 1 (by omega)).2
  have HN1' : Hid (SliceC GrtC 5 (w.heap.size + 3) w2 (some ⟨g1, 0, none⟩) x.land.grants) := by rw [hw2]; exact HN1.out.keep GrtC.holds (Keeps.setCells (by omega) _ _ _) (Nat.le_refl _)
  have HN2' : Hid (SliceC PlmC 3 (w.heap.size + 3) w2 (some ⟨g2, 0, none⟩) x.land.places) := by rw [hw2]; exact HN2.out.keep PlmC.holds (Keeps.setCells (by omega) _ _ _) (Nat.le_refl _)
  clear hw2 hB1 hz1 HTO HTR HN1 HN2 ka3 ka4 ko0 fo0 kr0 fr0 ko1 fo1 kr1 fr1 ko2 fo2 kr2 fr2 ko3 fo3 kr3 fr3 ko4 fo4 kr4 fr4
  have HN1 := HN1'
  have HN2 := HN2'
  clear HN1' HN2'
  go_wp2_with (refine wpList_store_to rfl 27 _ _ rfl (w.heap.size + 1 + 1) 0 #[.int .i64 x.land.time, .slice (some ⟨g1, 0, none⟩) x.land.grants.length x.land.grants.length, .slice (some ⟨g2, 0, none⟩) x.land.places.length x.land.places.length] rfl rfl HTP.out isz_Lnd (by simp [Value.oneCell']) w2 HW2.out ?_; refine Hid.out ?_)
  refine Hid.intro ?_
  clear HTP HW2
  go_wp2_with fail
  refine (toMteS_any x.mates a3 c3 lo _ (N3.out.below MteC.holds (B := w.heap.size) (hB2) (Nat.le_refl _)) M3).mono ?_
  rintro e w3 ⟨g3, rfl, hg3, hn3, hb3⟩
  have hz3 : w.heap.size + 1 + 1 < w3.heap.size := Nat.lt_of_lt_of_le hz2 hb3.size
  have kc4 : w3.cell? ⟨w.heap.size, 4, none⟩ = some (.slice a4 x.flight.length c4) := (hb3.cell (p := ⟨w.heap.size, 4, none⟩) (show w.heap.size < w2.heap.size by omega)).trans kb4
  have kq3 : w3.cell? ⟨w.heap.size + 1 + 1, 3, none⟩ = some (.slice none 0 0) := (hb3.cell (p := ⟨w.heap.size + 1 + 1, 3, none⟩) hz2).trans kp3
  have fq3 : w3.frozen? ⟨w.heap.size + 1 + 1, 3, none⟩ = false := (hb3.frozen (p := ⟨w.heap.size + 1 + 1, 3, none⟩) hz2).trans fp3
  have kq4 : w3.cell? ⟨w.heap.size + 1 + 1, 4, none⟩ = some (.slice none 0 0) := (hb3.cell (p := ⟨w.heap.size + 1 + 1, 4, none⟩) hz2).trans kp4
  have fq4 : w3.frozen? ⟨w.heap.size + 1 + 1, 4, none⟩ = false := (hb3.frozen (p := ⟨w.heap.size + 1 + 1, 4, none⟩) hz2).trans fp4
  have HPR3 : Hid (w3.rangeAt (w.heap.size + 1 + 1) 0 [.int .i64 x.land.time, .slice (some ⟨g1, 0, none⟩) x.land.grants.length x.land.grants.length, .slice (some ⟨g2, 0, none⟩) x.land.places.length x.land.places.length]) := range_belowW HPR.out hb3 hz2
  have HTO3 : Hid (w3.there (w.heap.size + 1 + 1) 3 2) := there_belowW HTO2.out hb3 hz2
  have HTR3 : Hid (w3.there (w.heap.size + 1) 0 5) := there_belowW HTR2.out hb3 (by omega)
  have hB3 : Below w.heap.size w w3 := hB2.trans (hb3.mono hB2.size)
  have HN1' : Hid (SliceC GrtC 5 (w.heap.size + 3) w3 (some ⟨g1, 0, none⟩) x.land.grants) := HN1.out.keep GrtC.holds (Keeps.of_below hb3 (Nat.le_refl _) _) (Nat.le_refl _)
  have HN2' : Hid (SliceC PlmC 3 (w.heap.size + 3) w3 (some ⟨g2, 0, none⟩) x.land.places) := HN2.out.keep PlmC.holds (Keeps.of_below hb3 (Nat.le_refl _) _) (Nat.le_refl _)
  have HN3 : Hid (SliceC MteC 9 (w.heap.size + 3) w3 (some ⟨g3, 0, none⟩) x.mates) := hn3.keep MteC.holds (Keeps.refl _ _) (by omega)
  clear HN1 HN2 hn3 hb3 hg3 kb3 kb4 kp3 kp4 fp3 fp4 HPR HTO2 HTR2 hB2 hz2
  have HN1 := HN1'
  have HN2 := HN2'
  clear HN1' HN2'
  go_wp2_with fail
  have HB3 : Hid (Below w.heap.size w (w3.setCell ⟨w.heap.size + 1 + 1, 3, none⟩ (.slice (some ⟨g3, 0, none⟩) x.mates.length x.mates.length))) := below_setCells (b := w.heap.size + 1 + 1) (by omega) [.slice (some ⟨g3, 0, none⟩) x.mates.length x.mates.length] 3 _ hB3
  have HT3 : Hid ((w3.setCell ⟨w.heap.size + 1 + 1, 3, none⟩ (.slice (some ⟨g3, 0, none⟩) x.mates.length x.mates.length)) = w3.setCells (w.heap.size + 1 + 1) 3 [.slice (some ⟨g3, 0, none⟩) x.mates.length x.mates.length]) := rfl
  have hd4 : World.cell? (w3.setCell ⟨w.heap.size + 1 + 1, 3, none⟩ (.slice (some ⟨g3, 0, none⟩) x.mates.length x.mates.length)) ⟨w.heap.size + 1 + 1, 4, none⟩ = some (.slice none 0 0) := by simp [go_sem, kq4]
  have fd4 : World.frozen? (w3.setCell ⟨w.heap.size + 1 + 1, 3, none⟩ (.slice (some ⟨g3, 0, none⟩) x.mates.length x.mates.length)) ⟨w.heap.size + 1 + 1, 4, none⟩ = false := by simp [go_sem, fq4]
  have HPR4 : Hid (World.rangeAt (w3.setCell ⟨w.heap.size + 1 + 1, 3, none⟩ (.slice (some ⟨g3, 0, none⟩) x.mates.length x.mates.length)) (w.heap.size + 1 + 1) 0 [.int .i64 x.land.time, .slice (some ⟨g1, 0, none⟩) x.land.grants.length x.land.grants.length, .slice (some ⟨g2, 0, none⟩) x.land.places.length x.land.places.length, .slice (some ⟨g3, 0, none⟩) x.mates.length x.mates.length]) := range_join (vs := [.slice (some ⟨g3, 0, none⟩) x.mates.length x.mates.length]) HPR3.out rfl (there_cons kq3 fq3 (there_nil _ _ _))
  have HTR4 : Hid (World.there (w3.setCell ⟨w.heap.size + 1 + 1, 3, none⟩ (.slice (some ⟨g3, 0, none⟩) x.mates.length x.mates.length)) (w.heap.size + 1) 0 5) := World.there_setCells HTR3.out (w.heap.size + 1 + 1) 3 [.slice (some ⟨g3, 0, none⟩) x.mates.length x.mates.length]
  have HN1' : Hid (SliceC GrtC 5 (w.heap.size + 3) (w3.setCell ⟨w.heap.size + 1 + 1, 3, none⟩ (.slice (some ⟨g3, 0, none⟩) x.mates.length x.mates.length)) (some ⟨g1, 0, none⟩) x.land.grants) := HN1.out.keep GrtC.holds (Keeps.setCells (b := w.heap.size + 1 + 1) (by omega) [.slice (some ⟨g3, 0, none⟩) x.mates.length x.mates.length] 3 _) (Nat.le_refl _)
  have HN2' : Hid (SliceC PlmC 3 (w.heap.size + 3) (w3.setCell ⟨w.heap.size + 1 + 1, 3, none⟩ (.slice (some ⟨g3, 0, none⟩) x.mates.length x.mates.length)) (some ⟨g2, 0, none⟩) x.land.places) := HN2.out.keep PlmC.holds (Keeps.setCells (b := w.heap.size + 1 + 1) (by omega) [.slice (some ⟨g3, 0, none⟩) x.mates.length x.mates.length] 3 _) (Nat.le_refl _)
  have HN3' : Hid (SliceC MteC 9 (w.heap.size + 3) (w3.setCell ⟨w.heap.size + 1 + 1, 3, none⟩ (.slice (some ⟨g3, 0, none⟩) x.mates.length x.mates.length)) (some ⟨g3, 0, none⟩) x.mates) := HN3.out.keep MteC.holds (Keeps.setCells (b := w.heap.size + 1 + 1) (by omega) [.slice (some ⟨g3, 0, none⟩) x.mates.length x.mates.length] 3 _) (Nat.le_refl _)
  have hz4 : w.heap.size + 1 + 1 < (World.heap (w3.setCell ⟨w.heap.size + 1 + 1, 3, none⟩ (.slice (some ⟨g3, 0, none⟩) x.mates.length x.mates.length))).size := by simp; omega
  clear HN1 HN2 HN3 HPR3 HTO3 HTR3 hB3 HT3 kq3 fq3 kq4 fq4 kc4 hz3
  generalize (w3.setCell ⟨w.heap.size + 1 + 1, 3, none⟩ (.slice (some ⟨g3, 0, none⟩) x.mates.length x.mates.length)) = w4 at *
  refine (toStrS_any x.flight a4 c4 lo _ (N4.out.below StrC.holds (B := w.heap.size) (HB3.out) (Nat.le_refl _)) M4).mono ?_
  rintro e w5 ⟨g4, rfl, hg4, hn4, hb5⟩
  have hz5 : w.heap.size + 1 + 1 < w5.heap.size := Nat.lt_of_lt_of_le hz4 hb5.size
  have ke4 : w5.cell? ⟨w.heap.size + 1 + 1, 4, none⟩ = some (.slice none 0 0) := (hb5.cell (p := ⟨w.heap.size + 1 + 1, 4, none⟩) hz4).trans hd4
  have fe4 : w5.frozen? ⟨w.heap.size + 1 + 1, 4, none⟩ = false := (hb5.frozen (p := ⟨w.heap.size + 1 + 1, 4, none⟩) hz4).trans fd4
  have HPR5 : Hid (w5.rangeAt (w.heap.size + 1 + 1) 0 [.int .i64 x.land.time, .slice (some ⟨g1, 0, none⟩) x.land.grants.length x.land.grants.length, .slice (some ⟨g2, 0, none⟩) x.land.places.length x.land.places.length, .slice (some ⟨g3, 0, none⟩) x.mates.length x.mates.length]) := range_belowW HPR4.out hb5 hz4
  have HTR5 : Hid (w5.there (w.heap.size + 1) 0 5) := there_belowW HTR4.out hb5 (by omega)
  have hB5 : Below w.heap.size w w5 := HB3.out.trans (hb5.mono HB3.out.size)
  have HN1 : Hid (SliceC GrtC 5 (w.heap.size + 3) w5 (some ⟨g1, 0, none⟩) x.land.grants) := HN1'.out.keep GrtC.holds (Keeps.of_below hb5 (Nat.le_refl _) _) (Nat.le_refl _)
  have HN2 : Hid (SliceC PlmC 3 (w.heap.size + 3) w5 (some ⟨g2, 0, none⟩) x.land.places) := HN2'.out.keep PlmC.holds (Keeps.of_below hb5 (Nat.le_refl _) _) (Nat.le_refl _)
  have HN3 : Hid (SliceC MteC 9 (w.heap.size + 3) w5 (some ⟨g3, 0, none⟩) x.mates) := HN3'.out.keep MteC.holds (Keeps.of_below hb5 (Nat.le_refl _) _) (Nat.le_refl _)
  have HN4 : Hid (SliceC StrC 1 (w.heap.size + 3) w5 (some ⟨g4, 0, none⟩) x.flight) := hn4.keep StrC.holds (Keeps.refl _ _) (by omega)
  clear HN1' HN2' HN3' hn4 hb5 hg4 hd4 fd4 HPR4 HTR4 HB3 hz4
  go_upto_region 5 with fail
  have HRG : Hid (World.rangeAt (w5.setCell ⟨w.heap.size + 1 + 1, 4, none⟩ (.slice (some ⟨g4, 0, none⟩) x.flight.length x.flight.length)) (w.heap.size + 1 + 1) 0 [.int .i64 x.land.time, .slice (some ⟨g1, 0, none⟩) x.land.grants.length x.land.grants.length, .slice (some ⟨g2, 0, none⟩) x.land.places.length x.land.places.length, .slice (some ⟨g3, 0, none⟩) x.mates.length x.mates.length, .slice (some ⟨g4, 0, none⟩) x.flight.length x.flight.length]) := range_join (vs := [.slice (some ⟨g4, 0, none⟩) x.flight.length x.flight.length]) HPR5.out rfl (there_cons ke4 fe4 (there_nil _ _ _))
  have HTG : Hid (World.there (w5.setCell ⟨w.heap.size + 1 + 1, 4, none⟩ (.slice (some ⟨g4, 0, none⟩) x.flight.length x.flight.length)) (w.heap.size + 1) 0 5) := World.there_setCells HTR5.out (w.heap.size + 1 + 1) 4 [.slice (some ⟨g4, 0, none⟩) x.flight.length x.flight.length]
  have HBG : Hid (Below w.heap.size w (w5.setCell ⟨w.heap.size + 1 + 1, 4, none⟩ (.slice (some ⟨g4, 0, none⟩) x.flight.length x.flight.length))) := below_setCells (b := w.heap.size + 1 + 1) (by omega) [.slice (some ⟨g4, 0, none⟩) x.flight.length x.flight.length] 4 _ hB5
  have HG1 : Hid (SliceC GrtC 5 (w.heap.size + 3) (w5.setCell ⟨w.heap.size + 1 + 1, 4, none⟩ (.slice (some ⟨g4, 0, none⟩) x.flight.length x.flight.length)) (some ⟨g1, 0, none⟩) x.land.grants) := HN1.out.keep GrtC.holds (Keeps.setCells (b := w.heap.size + 1 + 1) (by omega) [.slice (some ⟨g4, 0, none⟩) x.flight.length x.flight.length] 4 _) (Nat.le_refl _)
  have HG2 : Hid (SliceC PlmC 3 (w.heap.size + 3) (w5.setCell ⟨w.heap.size + 1 + 1, 4, none⟩ (.slice (some ⟨g4, 0, none⟩) x.flight.length x.flight.length)) (some ⟨g2, 0, none⟩) x.land.places) := HN2.out.keep PlmC.holds (Keeps.setCells (b := w.heap.size + 1 + 1) (by omega) [.slice (some ⟨g4, 0, none⟩) x.flight.length x.flight.length] 4 _) (Nat.le_refl _)
  have HG3 : Hid (SliceC MteC 9 (w.heap.size + 3) (w5.setCell ⟨w.heap.size + 1 + 1, 4, none⟩ (.slice (some ⟨g4, 0, none⟩) x.flight.length x.flight.length)) (some ⟨g3, 0, none⟩) x.mates) := HN3.out.keep MteC.holds (Keeps.setCells (b := w.heap.size + 1 + 1) (by omega) [.slice (some ⟨g4, 0, none⟩) x.flight.length x.flight.length] 4 _) (Nat.le_refl _)
  have HG4 : Hid (SliceC StrC 1 (w.heap.size + 3) (w5.setCell ⟨w.heap.size + 1 + 1, 4, none⟩ (.slice (some ⟨g4, 0, none⟩) x.flight.length x.flight.length)) (some ⟨g4, 0, none⟩) x.flight) := HN4.out.keep StrC.holds (Keeps.setCells (b := w.heap.size + 1 + 1) (by omega) [.slice (some ⟨g4, 0, none⟩) x.flight.length x.flight.length] 4 _) (Nat.le_refl _)
  clear ke4 fe4 HPR5 HTR5 hB5 hz5 HN1 HN2 HN3 HN4
  generalize (w5.setCell ⟨w.heap.size + 1 + 1, 4, none⟩ (.slice (some ⟨g4, 0, none⟩) x.flight.length x.flight.length)) = w9 at *
  obtain ⟨w10, hw10⟩ : ∃ w', w' = w9.setCells (w.heap.size + 1) 0 [.int .i64 x.land.time, .slice (some ⟨g1, 0, none⟩) x.land.grants.length x.land.grants.length, .slice (some ⟨g2, 0, none⟩) x.land.places.length x.land.places.length, .slice (some ⟨g3, 0, none⟩) x.mates.length x.mates.length, .slice (some ⟨g4, 0, none⟩) x.flight.length x.flight.length] := ⟨_, rfl⟩
  have HR10 : Hid (w10.rangeAt (w.heap.size + 1) 0 [.int .i64 x.land.time, .slice (some ⟨g1, 0, none⟩) x.land.grants.length x.land.grants.length, .slice (some ⟨g2, 0, none⟩) x.land.places.length x.land.places.length, .slice (some ⟨g3, 0, none⟩) x.mates.length x.mates.length, .slice (some ⟨g4, 0, none⟩) x.flight.length x.flight.length]) := by rw [hw10]; exact World.rangeAt_setCells_same _ _ _ _ HTG.out
  have HB10 : Hid (Below w.heap.size w w10) := by rw [hw10]; exact below_setCells (by omega) _ _ _ HBG.out
  have HS1 : Hid (SliceC GrtC 5 w.heap.size w10 (some ⟨g1, 0, none⟩) x.land.grants) := by rw [hw10]; exact HG1.out.keep GrtC.holds (Keeps.setCells (by omega) _ _ _) (by omega)
  have HS2 : Hid (SliceC PlmC 3 w.heap.size w10 (some ⟨g2, 0, none⟩) x.land.places) := by rw [hw10]; exact HG2.out.keep PlmC.holds (Keeps.setCells (by omega) _ _ _) (by omega)
  have HS3 : Hid (SliceC MteC 9 w.heap.size w10 (some ⟨g3, 0, none⟩) x.mates) := by rw [hw10]; exact HG3.out.keep MteC.holds (Keeps.setCells (by omega) _ _ _) (by omega)
  have HS4 : Hid (SliceC StrC 1 w.heap.size w10 (some ⟨g4, 0, none⟩) x.flight) := by rw [hw10]; exact HG4.out.keep StrC.holds (Keeps.setCells (by omega) _ _ _) (by omega)
  have HW10 : Hid (w10 = w9.setCells (w.heap.size + 1) 0 [.int .i64 x.land.time, .slice (some ⟨g1, 0, none⟩) x.land.grants.length x.land.grants.length, .slice (some ⟨g2, 0, none⟩) x.land.places.length x.land.places.length, .slice (some ⟨g3, 0, none⟩) x.mates.length x.mates.length, .slice (some ⟨g4, 0, none⟩) x.flight.length x.flight.length]) := hw10
  clear hw10 HBG HG1 HG2 HG3 HG4
  go_wp2_with (first | (refine wpList_load_mid rfl 30 _ rfl (w.heap.size + 1 + 1) 0 rfl [.int .i64 x.land.time, .slice (some ⟨g1, 0, none⟩) x.land.grants.length x.land.grants.length, .slice (some ⟨g2, 0, none⟩) x.land.places.length x.land.places.length, .slice (some ⟨g3, 0, none⟩) x.mates.length x.mates.length, .slice (some ⟨g4, 0, none⟩) x.flight.length x.flight.length] _ HRG.out Tryz.underlying30 rfl isz_Wrl ?_) | (refine wpList_store_to rfl 30 _ _ rfl (w.heap.size + 1) 0 #[.int .i64 x.land.time, .slice (some ⟨g1, 0, none⟩) x.land.grants.length x.land.grants.length, .slice (some ⟨g2, 0, none⟩) x.land.places.length x.land.places.length, .slice (some ⟨g3, 0, none⟩) x.mates.length x.mates.length, .slice (some ⟨g4, 0, none⟩) x.flight.length x.flight.length] rfl rfl HTG.out isz_Wrl (by simp [Value.oneCell']) w10 HW10.out ?_))
  exact bodyPost_ret (results_cell_mid rfl _ _ (w.heap.size + 1) [.int .i64 x.land.time, .slice (some ⟨g1, 0, none⟩) x.land.grants.length x.land.grants.length, .slice (some ⟨g2, 0, none⟩) x.land.places.length x.land.places.length, .slice (some ⟨g3, 0, none⟩) x.mates.length x.mates.length, .slice (some ⟨g4, 0, none⟩) x.flight.length x.flight.length] _ rfl HR10.out Tryz.underlying30 rfl isz_Wrl) rfl ⟨g1, g2, g3, g4, rfl, HS1.out, HS2.out, HS3.out, HS4.out, HB10.out⟩

set_option maxHeartbeats 2000000 in
theorem eqWrl_any (x : Wrl) (a1 : Option Addr) (c1 : Nat) (a2 : Option Addr) (c2 : Nat) (a3 : Option Addr) (c3 : Nat) (a4 : Option Addr) (c4 : Nat) (a1p : Option Addr) (c1p : Nat) (a2p : Option Addr) (c2p : Nat) (a3p : Option Addr) (c3p : Nat) (a4p : Option Addr) (c4p : Nat) (lo lo' : Nat) (w : World) (n1 : SliceC GrtC 5 lo w a1 x.land.grants) (n2 : SliceC PlmC 3 lo w a2 x.land.places) (n3 : SliceC MteC 9 lo w a3 x.mates) (n4 : SliceC StrC 1 lo w a4 x.flight) (p1 : SliceC GrtC 5 lo' w a1p x.land.grants) (p2 : SliceC PlmC 3 lo' w a2p x.land.places) (p3 : SliceC MteC 9 lo' w a3p x.mates) (p4 : SliceC StrC 1 lo' w a4p x.flight) (hsm : wWrl x ≤ 1048576) :
    Calls Tryz.prog 11 #[.agg #[.int .i64 x.land.time, .slice a1 x.land.grants.length c1, .slice a2 x.land.places.length c2, .slice a3 x.mates.length c3, .slice a4 x.flight.length c4], .agg #[.int .i64 x.land.time, .slice a1p x.land.grants.length c1p, .slice a2p x.land.places.length c2p, .slice a3p x.mates.length c3p, .slice a4p x.flight.length c4p]] w fun e w' => e = .returned (.bool true) ∧ Below w.heap.size w w' := by
  have N1 : Hid (SliceC GrtC 5 lo w a1 x.land.grants) := n1
  have P1 : Hid (SliceC GrtC 5 lo' w a1p x.land.grants) := p1
  have N2 : Hid (SliceC PlmC 3 lo w a2 x.land.places) := n2
  have P2 : Hid (SliceC PlmC 3 lo' w a2p x.land.places) := p2
  have N3 : Hid (SliceC MteC 9 lo w a3 x.mates) := n3
  have P3 : Hid (SliceC MteC 9 lo' w a3p x.mates) := p3
  have N4 : Hid (SliceC StrC 1 lo w a4 x.flight) := n4
  have P4 : Hid (SliceC StrC 1 lo' w a4p x.flight) := p4
  have M0 : wLnd x.land ≤ 1048576 := by unfold wWrl at hsm; omega
  have M3 : wS wMte x.mates ≤ 1048576 := by unfold wWrl at hsm; omega
  have M4 : wS ByteArray.size x.flight ≤ 1048576 := by unfold wWrl at hsm; omega
  clear hsm n1 n2 n3 n4 p1 p2 p3 p4
  go_enter Tryz.func11, Tryz.ntmps11
  go_wp2_with fail
  refine (eqLnd_any x.land a1 c1 a2 c2 a1p c1p a2p c2p lo lo' _ (N1.out.below GrtC.holds (B := w.heap.size) (by go_grown) (Nat.le_refl _)) (N2.out.below PlmC.holds (B := w.heap.size) (by go_grown) (Nat.le_refl _)) (P1.out.below GrtC.holds (B := w.heap.size) (by go_grown) (Nat.le_refl _)) (P2.out.below PlmC.holds (B := w.heap.size) (by go_grown) (Nat.le_refl _)) M0).mono ?_
  rintro e w1 ⟨rfl, hb1⟩
  have hB1 : Below w.heap.size w w1 := (show Below w.heap.size w _ by go_grown).trans (hb1.mono (by simp; omega))
  have k1_3 : w1.cell? ⟨w.heap.size, 3, none⟩ = some (.slice a3 x.mates.length c3) := (hb1.cell (p := ⟨w.heap.size, 3, none⟩) (by simp; omega)).trans (by simp)
  have l1_3 : w1.cell? ⟨w.heap.size + 1, 3, none⟩ = some (.slice a3p x.mates.length c3p) := (hb1.cell (p := ⟨w.heap.size + 1, 3, none⟩) (by simp)).trans (by simp)
  have k1_4 : w1.cell? ⟨w.heap.size, 4, none⟩ = some (.slice a4 x.flight.length c4) := (hb1.cell (p := ⟨w.heap.size, 4, none⟩) (by simp; omega)).trans (by simp)
  have l1_4 : w1.cell? ⟨w.heap.size + 1, 4, none⟩ = some (.slice a4p x.flight.length c4p) := (hb1.cell (p := ⟨w.heap.size + 1, 4, none⟩) (by simp)).trans (by simp)
  have hs1 : w.heap.size + 1 < w1.heap.size := by have := hb1.size; simp at this; omega
  clear hb1
  go_wp2_with fail
  refine (eqMteS_any x.mates a3 a3p c3 c3p lo lo' _ (N3.out.below MteC.holds (B := w.heap.size) (hB1) (Nat.le_refl _)) (P3.out.below MteC.holds (B := w.heap.size) (hB1) (Nat.le_refl _)) M3).mono ?_
  rintro e w2 ⟨rfl, hb2⟩
  have hB2 : Below w.heap.size w w2 := hB1.trans (hb2.mono (by omega))
  have k2_4 : w2.cell? ⟨w.heap.size, 4, none⟩ = some (.slice a4 x.flight.length c4) := (hb2.cell (p := ⟨w.heap.size, 4, none⟩) (show w.heap.size < w1.heap.size by omega)).trans k1_4
  have l2_4 : w2.cell? ⟨w.heap.size + 1, 4, none⟩ = some (.slice a4p x.flight.length c4p) := (hb2.cell (p := ⟨w.heap.size + 1, 4, none⟩) hs1).trans l1_4
  have hs2 : w.heap.size + 1 < w2.heap.size := by have := hb2.size; omega
  clear hb2 hB1 hs1 k1_3 k1_4 l1_3 l1_4
  go_wp2_with fail
  refine (eqStrS_any x.flight a4 a4p c4 c4p lo lo' _ (N4.out.below StrC.holds (B := w.heap.size) (hB2) (Nat.le_refl _)) (P4.out.below StrC.holds (B := w.heap.size) (hB2) (Nat.le_refl _)) M4).mono ?_
  rintro e w3 ⟨rfl, hb3⟩
  have hB3 : Below w.heap.size w w3 := hB2.trans (hb3.mono (by omega))
  have hs3 : w.heap.size + 1 < w3.heap.size := by have := hb3.size; omega
  clear hb3 hB2 hs2 k2_4 l2_4
  go_wp2_with fail
  go_ret
  exact ⟨rfl, hB3⟩

end Go.Proofs.YtlcjfiikiblcdaaGreat
