import Derived.Test.YtihnjndnkgnmaaaGreatTk0
import Derived.Test.YtihnjndnkgnmaaaGreatJ4
import Derived.Test.YtihnjndnkgnmaaaGreatJ5
import Derived.Test.YtihnjndnkgnmaaaGreatCpy
namespace Go.Proofs.YtihnjndnkgnmaaaGreat
open Go.RowKit

structure Flt where
 pack : Bool
 berths : List Brt
 services : List Svc
 copies : List Cpy

def wFlt (x : Flt) : Nat := (wS wBrt x.berths) + (wS wSvc x.services) + (wS wCpy x.copies)

def FltC : Make Flt := fun lo w f x => ∃ (a1 : Option Addr) (c1 : Nat) (a2 : Option Addr) (c2 : Nat) (a3 : Option Addr) (c3 : Nat), f 0 = some (.bool x.pack) ∧ f 1 = some (.slice a1 x.berths.length c1) ∧ f 2 = some (.slice a2 x.services.length c2) ∧ f 3 = some (.slice a3 x.copies.length c3) ∧ SliceC BrtC 6 lo w a1 x.berths ∧ SliceC SvcC 2 lo w a2 x.services ∧ SliceC CpyC 12 lo w a3 x.copies

theorem FltC.holds : Holds FltC 4 := by
 rintro lo lo' w w' f g x h k hl ⟨a1, c1, a2, c2, a3, c3, q0, q1, q2, q3, n1, n2, n3⟩
 exact ⟨a1, c1, a2, c2, a3, c3, (h 0 (by omega)).trans q0, (h 1 (by omega)).trans q1, (h 2 (by omega)).trans q2, (h 3 (by omega)).trans q3, n1.keep BrtC.holds k hl, n2.keep SvcC.holds k hl, n3.keep CpyC.holds k hl⟩

set_option maxHeartbeats 1000000 in
theorem szFlt_any (x : Flt) (a1 : Option Addr) (c1 : Nat) (a2 : Option Addr) (c2 : Nat) (a3 : Option Addr) (c3 : Nat) (lo : Nat) (L : Int) (w : World)  (n1 : SliceC BrtC 6 lo w a1 x.berths) (n2 : SliceC SvcC 2 lo w a2 x.services) (n3 : SliceC CpyC 12 lo w a3 x.copies) (h0 : 0 ≤ L) (h1 : L ≤ 1048576) :
  Calls Tryz.prog 4 #[.agg #[.bool x.pack, .slice a1 x.berths.length c1, .slice a2 x.services.length c2, .slice a3 x.copies.length c3], .int .i64 L] w fun e w' => e = .returned (.int .i64 (szR (wFlt x) L)) ∧ Below w.heap.size w w' := by
 have N1 : Hid (SliceC BrtC 6 lo w a1 x.berths) := n1
 have N2 : Hid (SliceC SvcC 2 lo w a2 x.services) := n2
 have N3 : Hid (SliceC CpyC 12 lo w a3 x.copies) := n3
 clear n1 n2 n3
 have HW : Hid (wFlt x = (wS wBrt x.berths) + (wS wSvc x.services) + (wS wCpy x.copies)) := rfl
 generalize wFlt x = W at *
 go_enter Tryz.func4, Tryz.ntmps4
 go_wp2_with fail
 refine (szBrtS_any x.berths a1 c1 lo _ _ (N1.out.below BrtC.holds (B := w.heap.size) (by go_grown) nL) (by omega) (by omega)).mono ?_
 rintro e w1 ⟨rfl, hb1⟩
 have hB1 : Below w.heap.size w w1 := (show Below w.heap.size w _ by go_grown).trans (hb1.mono (by simp))
 have k1_2 : w1.cell? ⟨w.heap.size, 2, none⟩ = some (.slice a2 x.services.length c2) := (hb1.cell (p := ⟨w.heap.size, 2, none⟩) (by simp)).trans (by simp)
 have k1_3 : w1.cell? ⟨w.heap.size, 3, none⟩ = some (.slice a3 x.copies.length c3) := (hb1.cell (p := ⟨w.heap.size, 3, none⟩) (by simp)).trans (by simp)
 have hs1 : w.heap.size < w1.heap.size := by have := hb1.size; simp at this; omega
 clear hb1
 by_cases d1 : (((wS wBrt x.berths) : Nat) : Int) ≤ L
 ·rw [szR_pos d1]
  go_wp2_with fail
  refine (szSvcS_any x.services a2 c2 lo _ _ (N2.out.below SvcC.holds (B := w.heap.size) (hB1) nL) (by omega) (by omega)).mono ?_
  rintro e w2 ⟨rfl, hb2⟩
  have hB2 : Below w.heap.size w w2 := hB1.trans (hb2.mono (by omega))
  have k2_3 : w2.cell? ⟨w.heap.size, 3, none⟩ = some (.slice a3 x.copies.length c3) := (hb2.cell (p := ⟨w.heap.size, 3, none⟩) hs1).trans k1_3
  have hs2 : w.heap.size < w2.heap.size := by have := hb2.size; omega
  clear hb2 hB1 hs1 k1_2 k1_3
  by_cases d2 : (((wS wSvc x.services) : Nat) : Int) ≤ L - ((wS wBrt x.berths) : Nat)
  ·rw [szR_pos d2]
   go_wp2_with fail
   refine (szCpyS_any x.copies a3 c3 lo _ _ (N3.out.below CpyC.holds (B := w.heap.size) (hB2) nL) (by omega) (by omega)).mono ?_
   rintro e w3 ⟨rfl, hb3⟩
   have hB3 : Below w.heap.size w w3 := hB2.trans (hb3.mono (by omega))
   have hs3 : w.heap.size < w3.heap.size := by have := hb3.size; omega
   clear hb3 hB2 hs2 k2_3
   by_cases d3 : (((wS wCpy x.copies) : Nat) : Int) ≤ L - ((wS wBrt x.berths) : Nat) - ((wS wSvc x.services) : Nat)
   ·rw [szR_pos d3]
    go_wp2_with fail
    go_ret
    exact ⟨ret_int (by have := HW.out; unfold szR; rw [if_pos (by omega)]; omega), hB3⟩
   ·rw [szR_neg d3]
    go_wp2_with fail
    go_ret
    exact ⟨ret_int (by have := HW.out; unfold szR; rw [if_neg (by omega)]), hB3⟩
  ·rw [szR_neg d2]
   go_wp2_with fail
   go_ret
   exact ⟨ret_int (by have := HW.out; unfold szR; rw [if_neg (by omega)]), hB2⟩
 ·rw [szR_neg d1]
  go_wp2_with fail
  go_ret
  exact ⟨ret_int (by have := HW.out; unfold szR; rw [if_neg (by omega)]), hB1⟩

theorem isz_Flt : (Tryz.prog.info? 41).map (·.size) = some 4 := by kernel_rfl

set_option maxHeartbeats 2000000 in
theorem toFlt_any (x : Flt) (a1 : Option Addr) (c1 : Nat) (a2 : Option Addr) (c2 : Nat) (a3 : Option Addr) (c3 : Nat) (lo : Nat) (w : World) (n1 : SliceC BrtC 6 lo w a1 x.berths) (n2 : SliceC SvcC 2 lo w a2 x.services) (n3 : SliceC CpyC 12 lo w a3 x.copies) (hsm : wFlt x ≤ 1048576) :
  Calls Tryz.prog 7 #[.agg #[.bool x.pack, .slice a1 x.berths.length c1, .slice a2 x.services.length c2, .slice a3 x.copies.length c3]] w fun e w' => ∃ g1 g2 g3, e = .returned (.agg #[.bool x.pack, .slice (some ⟨g1, 0, none⟩) x.berths.length x.berths.length, .slice (some ⟨g2, 0, none⟩) x.services.length x.services.length, .slice (some ⟨g3, 0, none⟩) x.copies.length x.copies.length]) ∧ SliceC BrtC 6 w.heap.size w' (some ⟨g1, 0, none⟩) x.berths ∧ SliceC SvcC 2 w.heap.size w' (some ⟨g2, 0, none⟩) x.services ∧ SliceC CpyC 12 w.heap.size w' (some ⟨g3, 0, none⟩) x.copies ∧ Below w.heap.size w w' := by
 have N1 : Hid (SliceC BrtC 6 lo w a1 x.berths) := n1
 have M1 : wS wBrt x.berths ≤ 1048576 := by unfold wFlt at hsm; omega
 have N2 : Hid (SliceC SvcC 2 lo w a2 x.services) := n2
 have M2 : wS wSvc x.services ≤ 1048576 := by unfold wFlt at hsm; omega
 have N3 : Hid (SliceC CpyC 12 lo w a3 x.copies) := n3
 have M3 : wS wCpy x.copies ≤ 1048576 := by unfold wFlt at hsm; omega
 clear hsm n1 n2 n3
 go_enter Tryz.func7, Tryz.ntmps7
 go_wp2_with fail
 refine (toBrtS_any x.berths a1 c1 lo _ (N1.out.below BrtC.holds (B := w.heap.size) (by go_grown) nL) M1).mono ?_
 rintro e w1 ⟨g1, rfl, hg1, hn1, hb1⟩
 have hz1 : w.heap.size + 1 + 1 < w1.heap.size := by have := hb1.size; simp at this; omega
 have ko1_0 : w1.cell? ⟨w.heap.size + 1 + 1, 0, none⟩ = some (.bool x.pack) := (hb1.cell (p := ⟨w.heap.size + 1 + 1, 0, none⟩) (by first | (simp; done) | (simp; omega))).trans (by simp [go_sem])
 have fo1_0 : w1.frozen? ⟨w.heap.size + 1 + 1, 0, none⟩ = false := (hb1.frozen (p := ⟨w.heap.size + 1 + 1, 0, none⟩) (by first | (simp; done) | (simp; omega))).trans (by simp [go_sem])
 have kr1_0 : w1.cell? ⟨w.heap.size + 1, 0, none⟩ = some (.bool false) := (hb1.cell (p := ⟨w.heap.size + 1, 0, none⟩) (by first | (simp; done) | (simp; omega))).trans (by simp [go_sem])
 have fr1_0 : w1.frozen? ⟨w.heap.size + 1, 0, none⟩ = false := (hb1.frozen (p := ⟨w.heap.size + 1, 0, none⟩) (by first | (simp; done) | (simp; omega))).trans (by simp [go_sem])
 have ko1_1 : w1.cell? ⟨w.heap.size + 1 + 1, 1, none⟩ = some (.slice none 0 0) := (hb1.cell (p := ⟨w.heap.size + 1 + 1, 1, none⟩) (by first | (simp; done) | (simp; omega))).trans (by simp [go_sem])
 have fo1_1 : w1.frozen? ⟨w.heap.size + 1 + 1, 1, none⟩ = false := (hb1.frozen (p := ⟨w.heap.size + 1 + 1, 1, none⟩) (by first | (simp; done) | (simp; omega))).trans (by simp [go_sem])
 have kr1_1 : w1.cell? ⟨w.heap.size + 1, 1, none⟩ = some (.slice none 0 0) := (hb1.cell (p := ⟨w.heap.size + 1, 1, none⟩) (by first | (simp; done) | (simp; omega))).trans (by simp [go_sem])
 have fr1_1 : w1.frozen? ⟨w.heap.size + 1, 1, none⟩ = false := (hb1.frozen (p := ⟨w.heap.size + 1, 1, none⟩) (by first | (simp; done) | (simp; omega))).trans (by simp [go_sem])
 have ka1_2 : w1.cell? ⟨w.heap.size, 2, none⟩ = some (.slice a2 x.services.length c2) := (hb1.cell (p := ⟨w.heap.size, 2, none⟩) (by first | (simp; done) | (simp; omega))).trans (by simp [go_sem])
 have ko1_2 : w1.cell? ⟨w.heap.size + 1 + 1, 2, none⟩ = some (.slice none 0 0) := (hb1.cell (p := ⟨w.heap.size + 1 + 1, 2, none⟩) (by first | (simp; done) | (simp; omega))).trans (by simp [go_sem])
 have fo1_2 : w1.frozen? ⟨w.heap.size + 1 + 1, 2, none⟩ = false := (hb1.frozen (p := ⟨w.heap.size + 1 + 1, 2, none⟩) (by first | (simp; done) | (simp; omega))).trans (by simp [go_sem])
 have kr1_2 : w1.cell? ⟨w.heap.size + 1, 2, none⟩ = some (.slice none 0 0) := (hb1.cell (p := ⟨w.heap.size + 1, 2, none⟩) (by first | (simp; done) | (simp; omega))).trans (by simp [go_sem])
 have fr1_2 : w1.frozen? ⟨w.heap.size + 1, 2, none⟩ = false := (hb1.frozen (p := ⟨w.heap.size + 1, 2, none⟩) (by first | (simp; done) | (simp; omega))).trans (by simp [go_sem])
 have ka1_3 : w1.cell? ⟨w.heap.size, 3, none⟩ = some (.slice a3 x.copies.length c3) := (hb1.cell (p := ⟨w.heap.size, 3, none⟩) (by first | (simp; done) | (simp; omega))).trans (by simp [go_sem])
 have ko1_3 : w1.cell? ⟨w.heap.size + 1 + 1, 3, none⟩ = some (.slice none 0 0) := (hb1.cell (p := ⟨w.heap.size + 1 + 1, 3, none⟩) (by first | (simp; done) | (simp; omega))).trans (by simp [go_sem])
 have fo1_3 : w1.frozen? ⟨w.heap.size + 1 + 1, 3, none⟩ = false := (hb1.frozen (p := ⟨w.heap.size + 1 + 1, 3, none⟩) (by first | (simp; done) | (simp; omega))).trans (by simp [go_sem])
 have kr1_3 : w1.cell? ⟨w.heap.size + 1, 3, none⟩ = some (.slice none 0 0) := (hb1.cell (p := ⟨w.heap.size + 1, 3, none⟩) (by first | (simp; done) | (simp; omega))).trans (by simp [go_sem])
 have fr1_3 : w1.frozen? ⟨w.heap.size + 1, 3, none⟩ = false := (hb1.frozen (p := ⟨w.heap.size + 1, 3, none⟩) (by first | (simp; done) | (simp; omega))).trans (by simp [go_sem])
 have hg1' : w.heap.size + 1 + 1 < g1 := by simp at hg1; omega
 have hB1 : Below w.heap.size w w1 := (show Below w.heap.size w _ by go_grown).trans (hb1.mono (by first | (simp; done) | (simp; omega)))
 have HN1 : Hid (SliceC BrtC 6 (w.heap.size + 3) w1 (some ⟨g1, 0, none⟩) x.berths) := hn1.keep BrtC.holds (Keeps.refl _ _) (by first | (simp; done) | (simp; omega))
 clear hn1 hb1 hg1
 go_wp2_with fail
 refine (toSvcS_any x.services a2 c2 lo _ (N2.out.below SvcC.holds (B := w.heap.size) (by go_grown) nL) M2).mono ?_
 rintro e w2 ⟨g2, rfl, hg2, hn2, hb2⟩
 have hz2 : w.heap.size + 1 + 1 < w2.heap.size := by have := hb2.size; simp at this; omega
 have ko2_0 : w2.cell? ⟨w.heap.size + 1 + 1, 0, none⟩ = some (.bool x.pack) := (hb2.cell (p := ⟨w.heap.size + 1 + 1, 0, none⟩) (by first | (simp; done) | (simp; omega))).trans (by simp [go_sem, ko1_0])
 have fo2_0 : w2.frozen? ⟨w.heap.size + 1 + 1, 0, none⟩ = false := (hb2.frozen (p := ⟨w.heap.size + 1 + 1, 0, none⟩) (by first | (simp; done) | (simp; omega))).trans (by simp [go_sem, fo1_0])
 have kr2_0 : w2.cell? ⟨w.heap.size + 1, 0, none⟩ = some (.bool false) := (hb2.cell (p := ⟨w.heap.size + 1, 0, none⟩) (by first | (simp; done) | (simp; omega))).trans (by simp [go_sem, kr1_0])
 have fr2_0 : w2.frozen? ⟨w.heap.size + 1, 0, none⟩ = false := (hb2.frozen (p := ⟨w.heap.size + 1, 0, none⟩) (by first | (simp; done) | (simp; omega))).trans (by simp [go_sem, fr1_0])
 have ko2_1 : w2.cell? ⟨w.heap.size + 1 + 1, 1, none⟩ = some (.slice (some ⟨g1, 0, none⟩) x.berths.length x.berths.length) := (hb2.cell (p := ⟨w.heap.size + 1 + 1, 1, none⟩) (by first | (simp; done) | (simp; omega))).trans (by simp [go_sem, ko1_1])
 have fo2_1 : w2.frozen? ⟨w.heap.size + 1 + 1, 1, none⟩ = false := (hb2.frozen (p := ⟨w.heap.size + 1 + 1, 1, none⟩) (by first | (simp; done) | (simp; omega))).trans (by simp [go_sem, fo1_1])
 have kr2_1 : w2.cell? ⟨w.heap.size + 1, 1, none⟩ = some (.slice none 0 0) := (hb2.cell (p := ⟨w.heap.size + 1, 1, none⟩) (by first | (simp; done) | (simp; omega))).trans (by simp [go_sem, kr1_1])
 have fr2_1 : w2.frozen? ⟨w.heap.size + 1, 1, none⟩ = false := (hb2.frozen (p := ⟨w.heap.size + 1, 1, none⟩) (by first | (simp; done) | (simp; omega))).trans (by simp [go_sem, fr1_1])
 have ko2_2 : w2.cell? ⟨w.heap.size + 1 + 1, 2, none⟩ = some (.slice none 0 0) := (hb2.cell (p := ⟨w.heap.size + 1 + 1, 2, none⟩) (by first | (simp; done) | (simp; omega))).trans (by simp [go_sem, ko1_2])
 have fo2_2 : w2.frozen? ⟨w.heap.size + 1 + 1, 2, none⟩ = false := (hb2.frozen (p := ⟨w.heap.size + 1 + 1, 2, none⟩) (by first | (simp; done) | (simp; omega))).trans (by simp [go_sem, fo1_2])
 have kr2_2 : w2.cell? ⟨w.heap.size + 1, 2, none⟩ = some (.slice none 0 0) := (hb2.cell (p := ⟨w.heap.size + 1, 2, none⟩) (by first | (simp; done) | (simp; omega))).trans (by simp [go_sem, kr1_2])
 have fr2_2 : w2.frozen? ⟨w.heap.size + 1, 2, none⟩ = false := (hb2.frozen (p := ⟨w.heap.size + 1, 2, none⟩) (by first | (simp; done) | (simp; omega))).trans (by simp [go_sem, fr1_2])
 have ka2_3 : w2.cell? ⟨w.heap.size, 3, none⟩ = some (.slice a3 x.copies.length c3) := (hb2.cell (p := ⟨w.heap.size, 3, none⟩) (by first | (simp; done) | (simp; omega))).trans (by simp [go_sem, ka1_3])
 have ko2_3 : w2.cell? ⟨w.heap.size + 1 + 1, 3, none⟩ = some (.slice none 0 0) := (hb2.cell (p := ⟨w.heap.size + 1 + 1, 3, none⟩) (by first | (simp; done) | (simp; omega))).trans (by simp [go_sem, ko1_3])
 have fo2_3 : w2.frozen? ⟨w.heap.size + 1 + 1, 3, none⟩ = false := (hb2.frozen (p := ⟨w.heap.size + 1 + 1, 3, none⟩) (by first | (simp; done) | (simp; omega))).trans (by simp [go_sem, fo1_3])
 have kr2_3 : w2.cell? ⟨w.heap.size + 1, 3, none⟩ = some (.slice none 0 0) := (hb2.cell (p := ⟨w.heap.size + 1, 3, none⟩) (by first | (simp; done) | (simp; omega))).trans (by simp [go_sem, kr1_3])
 have fr2_3 : w2.frozen? ⟨w.heap.size + 1, 3, none⟩ = false := (hb2.frozen (p := ⟨w.heap.size + 1, 3, none⟩) (by first | (simp; done) | (simp; omega))).trans (by simp [go_sem, fr1_3])
 have hg2' : w.heap.size + 1 + 1 < g2 := by simp at hg2; omega
 have hB2 : Below w.heap.size w w2 := (show Below w.heap.size w _ by go_grown).trans (hb2.mono (by first | (simp; done) | (simp; omega)))
 have HN2 : Hid (SliceC SvcC 2 (w.heap.size + 3) w2 (some ⟨g2, 0, none⟩) x.services) := hn2.keep SvcC.holds (Keeps.refl _ _) (by first | (simp; done) | (simp; omega))
 have HN1' : Hid (SliceC BrtC 6 (w.heap.size + 3) w2 (some ⟨g1, 0, none⟩) x.berths) := HN1.out.keep BrtC.holds (Keeps.trans (by repeat (first | exact Keeps.refl _ _ | refine Keeps.trans ?_ (Keeps.set (by first | (simp; done) | (simp; omega)) _))) (Keeps.of_below hb2 nL _)) nL
 clear HN1
 have HN1 := HN1'
 clear HN1'
 clear hn2 hb2 hg2
 go_wp2_with fail
 refine (toCpyS_any x.copies a3 c3 lo _ (N3.out.below CpyC.holds (B := w.heap.size) (by go_grown) nL) M3).mono ?_
 rintro e w3 ⟨g3, rfl, hg3, hn3, hb3⟩
 have hz3 : w.heap.size + 1 + 1 < w3.heap.size := by have := hb3.size; simp at this; omega
 have ko3_0 : w3.cell? ⟨w.heap.size + 1 + 1, 0, none⟩ = some (.bool x.pack) := (hb3.cell (p := ⟨w.heap.size + 1 + 1, 0, none⟩) (by first | (simp; done) | (simp; omega))).trans (by simp [go_sem, ko2_0])
 have fo3_0 : w3.frozen? ⟨w.heap.size + 1 + 1, 0, none⟩ = false := (hb3.frozen (p := ⟨w.heap.size + 1 + 1, 0, none⟩) (by first | (simp; done) | (simp; omega))).trans (by simp [go_sem, fo2_0])
 have kr3_0 : w3.cell? ⟨w.heap.size + 1, 0, none⟩ = some (.bool false) := (hb3.cell (p := ⟨w.heap.size + 1, 0, none⟩) (by first | (simp; done) | (simp; omega))).trans (by simp [go_sem, kr2_0])
 have fr3_0 : w3.frozen? ⟨w.heap.size + 1, 0, none⟩ = false := (hb3.frozen (p := ⟨w.heap.size + 1, 0, none⟩) (by first | (simp; done) | (simp; omega))).trans (by simp [go_sem, fr2_0])
 have ko3_1 : w3.cell? ⟨w.heap.size + 1 + 1, 1, none⟩ = some (.slice (some ⟨g1, 0, none⟩) x.berths.length x.berths.length) := (hb3.cell (p := ⟨w.heap.size + 1 + 1, 1, none⟩) (by first | (simp; done) | (simp; omega))).trans (by simp [go_sem, ko2_1])
 have fo3_1 : w3.frozen? ⟨w.heap.size + 1 + 1, 1, none⟩ = false := (hb3.frozen (p := ⟨w.heap.size + 1 + 1, 1, none⟩) (by first | (simp; done) | (simp; omega))).trans (by simp [go_sem, fo2_1])
 have kr3_1 : w3.cell? ⟨w.heap.size + 1, 1, none⟩ = some (.slice none 0 0) := (hb3.cell (p := ⟨w.heap.size + 1, 1, none⟩) (by first | (simp; done) | (simp; omega))).trans (by simp [go_sem, kr2_1])
 have fr3_1 : w3.frozen? ⟨w.heap.size + 1, 1, none⟩ = false := (hb3.frozen (p := ⟨w.heap.size + 1, 1, none⟩) (by first | (simp; done) | (simp; omega))).trans (by simp [go_sem, fr2_1])
 have ko3_2 : w3.cell? ⟨w.heap.size + 1 + 1, 2, none⟩ = some (.slice (some ⟨g2, 0, none⟩) x.services.length x.services.length) := (hb3.cell (p := ⟨w.heap.size + 1 + 1, 2, none⟩) (by first | (simp; done) | (simp; omega))).trans (by simp [go_sem, ko2_2])
 have fo3_2 : w3.frozen? ⟨w.heap.size + 1 + 1, 2, none⟩ = false := (hb3.frozen (p := ⟨w.heap.size + 1 + 1, 2, none⟩) (by first | (simp; done) | (simp; omega))).trans (by simp [go_sem, fo2_2])
 have kr3_2 : w3.cell? ⟨w.heap.size + 1, 2, none⟩ = some (.slice none 0 0) := (hb3.cell (p := ⟨w.heap.size + 1, 2, none⟩) (by first | (simp; done) | (simp; omega))).trans (by simp [go_sem, kr2_2])
 have fr3_2 : w3.frozen? ⟨w.heap.size + 1, 2, none⟩ = false := (hb3.frozen (p := ⟨w.heap.size + 1, 2, none⟩) (by first | (simp; done) | (simp; omega))).trans (by simp [go_sem, fr2_2])
 have ko3_3 : w3.cell? ⟨w.heap.size + 1 + 1, 3, none⟩ = some (.slice none 0 0) := (hb3.cell (p := ⟨w.heap.size + 1 + 1, 3, none⟩) (by first | (simp; done) | (simp; omega))).trans (by simp [go_sem, ko2_3])
 have fo3_3 : w3.frozen? ⟨w.heap.size + 1 + 1, 3, none⟩ = false := (hb3.frozen (p := ⟨w.heap.size + 1 + 1, 3, none⟩) (by first | (simp; done) | (simp; omega))).trans (by simp [go_sem, fo2_3])
 have kr3_3 : w3.cell? ⟨w.heap.size + 1, 3, none⟩ = some (.slice none 0 0) := (hb3.cell (p := ⟨w.heap.size + 1, 3, none⟩) (by first | (simp; done) | (simp; omega))).trans (by simp [go_sem, kr2_3])
 have fr3_3 : w3.frozen? ⟨w.heap.size + 1, 3, none⟩ = false := (hb3.frozen (p := ⟨w.heap.size + 1, 3, none⟩) (by first | (simp; done) | (simp; omega))).trans (by simp [go_sem, fr2_3])
 have hg3' : w.heap.size + 1 + 1 < g3 := by simp at hg3; omega
 have hB3 : Below w.heap.size w w3 := (show Below w.heap.size w _ by go_grown).trans (hb3.mono (by first | (simp; done) | (simp; omega)))
 have HN3 : Hid (SliceC CpyC 12 (w.heap.size + 3) w3 (some ⟨g3, 0, none⟩) x.copies) := hn3.keep CpyC.holds (Keeps.refl _ _) (by first | (simp; done) | (simp; omega))
 have HN1' : Hid (SliceC BrtC 6 (w.heap.size + 3) w3 (some ⟨g1, 0, none⟩) x.berths) := HN1.out.keep BrtC.holds (Keeps.trans (by repeat (first | exact Keeps.refl _ _ | refine Keeps.trans ?_ (Keeps.set (by first | (simp; done) | (simp; omega)) _))) (Keeps.of_below hb3 nL _)) nL
 clear HN1
 have HN1 := HN1'
 clear HN1'
 have HN2' : Hid (SliceC SvcC 2 (w.heap.size + 3) w3 (some ⟨g2, 0, none⟩) x.services) := HN2.out.keep SvcC.holds (Keeps.trans (by repeat (first | exact Keeps.refl _ _ | refine Keeps.trans ?_ (Keeps.set (by first | (simp; done) | (simp; omega)) _))) (Keeps.of_below hb3 nL _)) nL
 clear HN2
 have HN2 := HN2'
 clear HN2'
 clear hn3 hb3 hg3
 have HPR : Hid (w3.rangeAt (w.heap.size + 1 + 1) 0 [.bool x.pack, .slice (some ⟨g1, 0, none⟩) x.berths.length x.berths.length, .slice (some ⟨g2, 0, none⟩) x.services.length x.services.length]) := range_cons ko3_0 (range_cons ko3_1 (range_cons ko3_2 (range_nil _ _ _)))
 have HTO : Hid (w3.there (w.heap.size + 1 + 1) 3 1) := there_cons ko3_3 fo3_3 (there_nil _ _ _)
 have HTR : Hid (w3.there (w.heap.size + 1) 0 4) := there_cons kr3_0 fr3_0 (there_cons kr3_1 fr3_1 (there_cons kr3_2 fr3_2 (there_cons kr3_3 fr3_3 (there_nil _ _ _))))
 clear kr3_0 fr3_0 kr3_1 fr3_1 kr3_2 fr3_2 kr3_3 fr3_3 ko3_0 fo3_0 ko3_1 fo3_1 ko3_2 fo3_2
 go_upto_region 6 with fail
 have HRG : Hid (World.rangeAt (w3.setCell ⟨w.heap.size + 1 + 1, 3, none⟩ (.slice (some ⟨g3, 0, none⟩) x.copies.length x.copies.length)) (w.heap.size + 1 + 1) 0 [.bool x.pack, .slice (some ⟨g1, 0, none⟩) x.berths.length x.berths.length, .slice (some ⟨g2, 0, none⟩) x.services.length x.services.length, .slice (some ⟨g3, 0, none⟩) x.copies.length x.copies.length]) := range_join (vs := [.slice (some ⟨g3, 0, none⟩) x.copies.length x.copies.length]) HPR.out rfl HTO.out
 have HTG : Hid (World.there (w3.setCell ⟨w.heap.size + 1 + 1, 3, none⟩ (.slice (some ⟨g3, 0, none⟩) x.copies.length x.copies.length)) (w.heap.size + 1) 0 4) := World.there_setCells HTR.out (w.heap.size + 1 + 1) 3 [.slice (some ⟨g3, 0, none⟩) x.copies.length x.copies.length]
 have HBG : Hid (Below w.heap.size w (w3.setCell ⟨w.heap.size + 1 + 1, 3, none⟩ (.slice (some ⟨g3, 0, none⟩) x.copies.length x.copies.length))) := below_setCells (b := w.heap.size + 1 + 1) (by omega) [.slice (some ⟨g3, 0, none⟩) x.copies.length x.copies.length] 3 _ hB3
 have HG1 : Hid (SliceC BrtC 6 (w.heap.size + 3) (w3.setCell ⟨w.heap.size + 1 + 1, 3, none⟩ (.slice (some ⟨g3, 0, none⟩) x.copies.length x.copies.length)) (some ⟨g1, 0, none⟩) x.berths) := HN1.out.keep BrtC.holds (Keeps.setCells (b := w.heap.size + 1 + 1) (by omega) [.slice (some ⟨g3, 0, none⟩) x.copies.length x.copies.length] 3 _) nL
 have HG2 : Hid (SliceC SvcC 2 (w.heap.size + 3) (w3.setCell ⟨w.heap.size + 1 + 1, 3, none⟩ (.slice (some ⟨g3, 0, none⟩) x.copies.length x.copies.length)) (some ⟨g2, 0, none⟩) x.services) := HN2.out.keep SvcC.holds (Keeps.setCells (b := w.heap.size + 1 + 1) (by omega) [.slice (some ⟨g3, 0, none⟩) x.copies.length x.copies.length] 3 _) nL
 have HG3 : Hid (SliceC CpyC 12 (w.heap.size + 3) (w3.setCell ⟨w.heap.size + 1 + 1, 3, none⟩ (.slice (some ⟨g3, 0, none⟩) x.copies.length x.copies.length)) (some ⟨g3, 0, none⟩) x.copies) := HN3.out.keep CpyC.holds (Keeps.setCells (b := w.heap.size + 1 + 1) (by omega) [.slice (some ⟨g3, 0, none⟩) x.copies.length x.copies.length] 3 _) nL
 clear ko3_3 fo3_3  HPR HTO HTR hz3 hB3 HN1 hg1' HN2 hg2' HN3 hg3'
 generalize (w3.setCell ⟨w.heap.size + 1 + 1, 3, none⟩ (.slice (some ⟨g3, 0, none⟩) x.copies.length x.copies.length)) = w9 at *
 obtain ⟨w10, hw10⟩ : ∃ w', w' = w9.setCells (w.heap.size + 1) 0 [.bool x.pack, .slice (some ⟨g1, 0, none⟩) x.berths.length x.berths.length, .slice (some ⟨g2, 0, none⟩) x.services.length x.services.length, .slice (some ⟨g3, 0, none⟩) x.copies.length x.copies.length] := ⟨_, rfl⟩
 have HR10 : Hid (w10.rangeAt (w.heap.size + 1) 0 [.bool x.pack, .slice (some ⟨g1, 0, none⟩) x.berths.length x.berths.length, .slice (some ⟨g2, 0, none⟩) x.services.length x.services.length, .slice (some ⟨g3, 0, none⟩) x.copies.length x.copies.length]) := by rw [hw10]; exact World.rangeAt_setCells_same _ _ _ _ HTG.out
 have HB10 : Hid (Below w.heap.size w w10) := by rw [hw10]; exact below_setCells (by omega) _ _ _ HBG.out
 have HS1 : Hid (SliceC BrtC 6 w.heap.size w10 (some ⟨g1, 0, none⟩) x.berths) := by rw [hw10]; exact HG1.out.keep BrtC.holds (Keeps.setCells (by omega) _ _ _) (by omega)
 have HS2 : Hid (SliceC SvcC 2 w.heap.size w10 (some ⟨g2, 0, none⟩) x.services) := by rw [hw10]; exact HG2.out.keep SvcC.holds (Keeps.setCells (by omega) _ _ _) (by omega)
 have HS3 : Hid (SliceC CpyC 12 w.heap.size w10 (some ⟨g3, 0, none⟩) x.copies) := by rw [hw10]; exact HG3.out.keep CpyC.holds (Keeps.setCells (by omega) _ _ _) (by omega)
 have HW10 : Hid (w10 = w9.setCells (w.heap.size + 1) 0 [.bool x.pack, .slice (some ⟨g1, 0, none⟩) x.berths.length x.berths.length, .slice (some ⟨g2, 0, none⟩) x.services.length x.services.length, .slice (some ⟨g3, 0, none⟩) x.copies.length x.copies.length]) := hw10
 clear hw10 HBG HG1 HG2 HG3
 go_wp2_with (first | (refine wpList_load_mid rfl 41 _ rfl (w.heap.size + 1 + 1) 0 rfl [.bool x.pack, .slice (some ⟨g1, 0, none⟩) x.berths.length x.berths.length, .slice (some ⟨g2, 0, none⟩) x.services.length x.services.length, .slice (some ⟨g3, 0, none⟩) x.copies.length x.copies.length] _ HRG.out Tryz.underlying41 rfl isz_Flt ?_) | (refine wpList_store_to rfl 41 _ _ rfl (w.heap.size + 1) 0 #[.bool x.pack, .slice (some ⟨g1, 0, none⟩) x.berths.length x.berths.length, .slice (some ⟨g2, 0, none⟩) x.services.length x.services.length, .slice (some ⟨g3, 0, none⟩) x.copies.length x.copies.length] rfl rfl HTG.out isz_Flt (by simp [Value.oneCell']) w10 HW10.out ?_))
 exact bodyPost_ret (results_cell_mid rfl _ _ (w.heap.size + 1) [.bool x.pack, .slice (some ⟨g1, 0, none⟩) x.berths.length x.berths.length, .slice (some ⟨g2, 0, none⟩) x.services.length x.services.length, .slice (some ⟨g3, 0, none⟩) x.copies.length x.copies.length] _ rfl HR10.out Tryz.underlying41 rfl isz_Flt) rfl ⟨g1, g2, g3, rfl, HS1.out, HS2.out, HS3.out, HB10.out⟩

set_option maxHeartbeats 2000000 in
theorem eqFlt_any (x : Flt) (a1 : Option Addr) (c1 : Nat) (a2 : Option Addr) (c2 : Nat) (a3 : Option Addr) (c3 : Nat) (a1p : Option Addr) (c1p : Nat) (a2p : Option Addr) (c2p : Nat) (a3p : Option Addr) (c3p : Nat) (lo lo' : Nat) (w : World) (n1 : SliceC BrtC 6 lo w a1 x.berths) (n2 : SliceC SvcC 2 lo w a2 x.services) (n3 : SliceC CpyC 12 lo w a3 x.copies) (p1 : SliceC BrtC 6 lo' w a1p x.berths) (p2 : SliceC SvcC 2 lo' w a2p x.services) (p3 : SliceC CpyC 12 lo' w a3p x.copies) (hsm : wFlt x ≤ 1048576) :
  Calls Tryz.prog 10 #[.agg #[.bool x.pack, .slice a1 x.berths.length c1, .slice a2 x.services.length c2, .slice a3 x.copies.length c3], .agg #[.bool x.pack, .slice a1p x.berths.length c1p, .slice a2p x.services.length c2p, .slice a3p x.copies.length c3p]] w fun e w' => e = .returned (.bool true) ∧ Below w.heap.size w w' := by
 have N1 : Hid (SliceC BrtC 6 lo w a1 x.berths) := n1
 have P1 : Hid (SliceC BrtC 6 lo' w a1p x.berths) := p1
 have M1 : wS wBrt x.berths ≤ 1048576 := by unfold wFlt at hsm; omega
 have N2 : Hid (SliceC SvcC 2 lo w a2 x.services) := n2
 have P2 : Hid (SliceC SvcC 2 lo' w a2p x.services) := p2
 have M2 : wS wSvc x.services ≤ 1048576 := by unfold wFlt at hsm; omega
 have N3 : Hid (SliceC CpyC 12 lo w a3 x.copies) := n3
 have P3 : Hid (SliceC CpyC 12 lo' w a3p x.copies) := p3
 have M3 : wS wCpy x.copies ≤ 1048576 := by unfold wFlt at hsm; omega
 clear hsm n1 p1 n2 p2 n3 p3
 go_enter Tryz.func10, Tryz.ntmps10
 go_wp2_with fail
 refine (eqBrtS_any x.berths a1 a1p c1 c1p lo lo' _ (N1.out.below BrtC.holds (B := w.heap.size) (by go_grown) nL) (P1.out.below BrtC.holds (B := w.heap.size) (by go_grown) nL) M1).mono ?_
 rintro e w1 ⟨rfl, hb1⟩
 have hB1 : Below w.heap.size w w1 := (show Below w.heap.size w _ by go_grown).trans (hb1.mono (by simp; omega))
 have k1_2 : w1.cell? ⟨w.heap.size, 2, none⟩ = some (.slice a2 x.services.length c2) := (hb1.cell (p := ⟨w.heap.size, 2, none⟩) (by simp; omega)).trans (by simp)
 have l1_2 : w1.cell? ⟨w.heap.size + 1, 2, none⟩ = some (.slice a2p x.services.length c2p) := (hb1.cell (p := ⟨w.heap.size + 1, 2, none⟩) (by simp)).trans (by simp)
 have k1_3 : w1.cell? ⟨w.heap.size, 3, none⟩ = some (.slice a3 x.copies.length c3) := (hb1.cell (p := ⟨w.heap.size, 3, none⟩) (by simp; omega)).trans (by simp)
 have l1_3 : w1.cell? ⟨w.heap.size + 1, 3, none⟩ = some (.slice a3p x.copies.length c3p) := (hb1.cell (p := ⟨w.heap.size + 1, 3, none⟩) (by simp)).trans (by simp)
 have hs1 : w.heap.size + 1 < w1.heap.size := by have := hb1.size; simp at this; omega
 clear hb1
 go_wp2_with fail
 refine (eqSvcS_any x.services a2 a2p c2 c2p lo lo' _ (N2.out.below SvcC.holds (B := w.heap.size) (hB1) nL) (P2.out.below SvcC.holds (B := w.heap.size) (hB1) nL) M2).mono ?_
 rintro e w2 ⟨rfl, hb2⟩
 have hB2 : Below w.heap.size w w2 := hB1.trans (hb2.mono (by omega))
 have k2_3 : w2.cell? ⟨w.heap.size, 3, none⟩ = some (.slice a3 x.copies.length c3) := (hb2.cell (p := ⟨w.heap.size, 3, none⟩) (show w.heap.size < w1.heap.size by omega)).trans k1_3
 have l2_3 : w2.cell? ⟨w.heap.size + 1, 3, none⟩ = some (.slice a3p x.copies.length c3p) := (hb2.cell (p := ⟨w.heap.size + 1, 3, none⟩) hs1).trans l1_3
 have hs2 : w.heap.size + 1 < w2.heap.size := by have := hb2.size; omega
 clear hb2 hB1 hs1 k1_2 l1_2 k1_3 l1_3
 go_wp2_with fail
 refine (eqCpyS_any x.copies a3 a3p c3 c3p lo lo' _ (N3.out.below CpyC.holds (B := w.heap.size) (hB2) nL) (P3.out.below CpyC.holds (B := w.heap.size) (hB2) nL) M3).mono ?_
 rintro e w3 ⟨rfl, hb3⟩
 have hB3 : Below w.heap.size w w3 := hB2.trans (hb3.mono (by omega))
 have hs3 : w.heap.size + 1 < w3.heap.size := by have := hb3.size; omega
 clear hb3 hB2 hs2 k2_3 l2_3
 go_wp2_with fail
 go_ret
 exact ⟨rfl, hB3⟩

end Go.Proofs.YtihnjndnkgnmaaaGreat
