/-
  Several texts in one: Wrl, Blk.
-/
import Derived.Test.YtebcocejgenadaaGreatJ2
import Derived.Test.YtebcocejgenadaaGreatMtS
import Derived.Test.YtebcocejgenadaaGreatShp
import Derived.RangeFuncRecord
namespace Go.Proofs.YtebcocejgenadaaGreat
open Go.RowKit

structure Wrl where
  land : Lnd
  mates : List Mte
  flight : List ByteArray

theorem range_belowW {w w' : World} {g o B : Nat} {l : List Value} (h : w.rangeAt g o l) (hb : Below B w w') (hB : g < B) : w'.rangeAt g o l := by
  intro j v hj
  rw [hb.cell (p := ⟨g, _, none⟩) hB]
  exact h j v hj

theorem there_belowW {w w' : World} {b o n B : Nat} (h : w.there b o n) (hb : Below B w w') (hB : b < B) : w'.there b o n := fun j hj => by
  rw [hb.cell (p := ⟨b, o + j, none⟩) hB, hb.frozen (p := ⟨b, o + j, none⟩) hB]
  exact h j hj

def wWrl (x : Wrl) : Nat := wLnd x.land + wS wMte x.mates + wS ByteArray.size x.flight

/-- what its cells hold -/
def WrlC : Make Wrl := fun lo w f x => ∃ (a1 : Option Addr) (c1 : Nat) (a2 : Option Addr) (c2 : Nat) (a3 : Option Addr) (c3 : Nat) (a4 : Option Addr) (c4 : Nat), f 0 = some (.int .i64 x.land.time) ∧ f 1 = some (.slice a1 x.land.grants.length c1) ∧ f 2 = some (.slice a2 x.land.places.length c2) ∧ f 3 = some (.slice a3 x.mates.length c3) ∧ f 4 = some (.slice a4 x.flight.length c4) ∧ SliceC GrtC 5 lo w a1 x.land.grants ∧ SliceC PlmC 3 lo w a2 x.land.places ∧ SliceC MteC 9 lo w a3 x.mates ∧ SliceC StrC 1 lo w a4 x.flight

theorem WrlC.holds : Holds WrlC 5 := by
  rintro lo lo' w w' f g x h k hl ⟨a1, c1, a2, c2, a3, c3, a4, c4, q0, q1, q2, q3, q4, n1, n2, n3, n4⟩
  exact ⟨a1, c1, a2, c2, a3, c3, a4, c4, (h 0 (by omega)).trans q0, (h 1 (by omega)).trans q1, (h 2 (by omega)).trans q2, (h 3 (by omega)).trans q3, (h 4 (by omega)).trans q4, n1.keep GrtC.holds k hl, n2.keep PlmC.holds k hl, n3.keep MteC.holds k hl, n4.keep StrC.holds k hl⟩

theorem isz_Wrl : (Tryz.prog.info? 30).map (·.size) = some 5 := by kernel_rfl

set_option maxHeartbeats 2000000 in
theorem eqWrl_any (x : Wrl) (a1 : Option Addr) (c1 : Nat) (a2 : Option Addr) (c2 : Nat) (a3 : Option Addr) (c3 : Nat) (a4 : Option Addr) (c4 : Nat) (a1p : Option Addr) (c1p : Nat) (a2p : Option Addr) (c2p : Nat) (a3p : Option Addr) (c3p : Nat) (a4p : Option Addr) (c4p : Nat) (lo lo' : Nat) (w : World) (n1 : SliceC GrtC 5 lo w a1 x.land.grants) (n2 : SliceC PlmC 3 lo w a2 x.land.places) (n3 : SliceC MteC 9 lo w a3 x.mates) (n4 : SliceC StrC 1 lo w a4 x.flight) (p1 : SliceC GrtC 5 lo' w a1p x.land.grants) (p2 : SliceC PlmC 3 lo' w a2p x.land.places) (p3 : SliceC MteC 9 lo' w a3p x.mates) (p4 : SliceC StrC 1 lo' w a4p x.flight) (hsm : wWrl x ≤ 1048576) :
    Calls Tryz.prog 8 #[.agg #[.int .i64 x.land.time, .slice a1 x.land.grants.length c1, .slice a2 x.land.places.length c2, .slice a3 x.mates.length c3, .slice a4 x.flight.length c4], .agg #[.int .i64 x.land.time, .slice a1p x.land.grants.length c1p, .slice a2p x.land.places.length c2p, .slice a3p x.mates.length c3p, .slice a4p x.flight.length c4p]] w fun e w' => e = .returned (.bool true) ∧ Below w.heap.size w w' := by
  have N1 : Hid (SliceC GrtC 5 lo w a1 x.land.grants) := n1
  have P1 : Hid (SliceC GrtC 5 lo' w a1p x.land.grants) := p1
  have N2 : Hid (SliceC PlmC 3 lo w a2 x.land.places) := n2
  have P2 : Hid (SliceC PlmC 3 lo' w a2p x.land.places) := p2
  have N3 : Hid (SliceC MteC 9 lo w a3 x.mates) := n3
  have P3 : Hid (SliceC MteC 9 lo' w a3p x.mates) := p3
  have N4 : Hid (SliceC StrC 1 lo w a4 x.flight) := n4
  have P4 : Hid (SliceC StrC 1 lo' w a4p x.flight) := p4
  have M0 : wLnd x.land ≤ 1048576 := by unfold wWrl at hsm; omega
  have M3 : wS wMte x.mates ≤ 1048576 := by unfold wWrl at hsm; omega
  have M4 : wS ByteArray.size x.flight ≤ 1048576 := by unfold wWrl at hsm; omega
  clear hsm n1 n2 n3 n4 p1 p2 p3 p4
  go_enter Tryz.func8, Tryz.ntmps8
  go_wp2_with fail
  refine (eqLnd_any x.land a1 c1 a2 c2 a1p c1p a2p c2p lo lo' _ (N1.out.below GrtC.holds (B := w.heap.size) (by go_grown) (Nat.le_refl _)) (N2.out.below PlmC.holds (B := w.heap.size) (by go_grown) (Nat.le_refl _)) (P1.out.below GrtC.holds (B := w.heap.size) (by go_grown) (Nat.le_refl _)) (P2.out.below PlmC.holds (B := w.heap.size) (by go_grown) (Nat.le_refl _)) M0).mono ?_
  rintro e w1 ⟨rfl, hb1⟩
  have hB1 : Below w.heap.size w w1 := (show Below w.heap.size w _ by go_grown).trans (hb1.mono (by simp; omega))
  have k1_3 : w1.cell? ⟨w.heap.size, 3, none⟩ = some (.slice a3 x.mates.length c3) := (hb1.cell (p := ⟨w.heap.size, 3, none⟩) (by simp; omega)).trans (by simp)
  have l1_3 : w1.cell? ⟨w.heap.size + 1, 3, none⟩ = some (.slice a3p x.mates.length c3p) := (hb1.cell (p := ⟨w.heap.size + 1, 3, none⟩) (by simp)).trans (by simp)
  have k1_4 : w1.cell? ⟨w.heap.size, 4, none⟩ = some (.slice a4 x.flight.length c4) := (hb1.cell (p := ⟨w.heap.size, 4, none⟩) (by simp; omega)).trans (by simp)
  have l1_4 : w1.cell? ⟨w.heap.size + 1, 4, none⟩ = some (.slice a4p x.flight.length c4p) := (hb1.cell (p := ⟨w.heap.size + 1, 4, none⟩) (by simp)).trans (by simp)
  have hs1 : w.heap.size + 1 < w1.heap.size := by have := hb1.size; simp at this; omega
  clear hb1
  go_wp2_with fail
  refine (eqMteS_any x.mates a3 a3p c3 c3p lo lo' _ (N3.out.below MteC.holds (B := w.heap.size) (hB1) (Nat.le_refl _)) (P3.out.below MteC.holds (B := w.heap.size) (hB1) (Nat.le_refl _)) M3).mono ?_
  rintro e w2 ⟨rfl, hb2⟩
  have hB2 : Below w.heap.size w w2 := hB1.trans (hb2.mono (by omega))
  have k2_4 : w2.cell? ⟨w.heap.size, 4, none⟩ = some (.slice a4 x.flight.length c4) := (hb2.cell (p := ⟨w.heap.size, 4, none⟩) (show w.heap.size < w1.heap.size by omega)).trans k1_4
  have l2_4 : w2.cell? ⟨w.heap.size + 1, 4, none⟩ = some (.slice a4p x.flight.length c4p) := (hb2.cell (p := ⟨w.heap.size + 1, 4, none⟩) hs1).trans l1_4
  have hs2 : w.heap.size + 1 < w2.heap.size := by have := hb2.size; omega
  clear hb2 hB1 hs1 k1_3 k1_4 l1_3 l1_4
  go_wp2_with fail
  refine (eqStrS_any x.flight a4 a4p c4 c4p lo lo' _ (N4.out.below StrC.holds (B := w.heap.size) (hB2) (Nat.le_refl _)) (P4.out.below StrC.holds (B := w.heap.size) (hB2) (Nat.le_refl _)) M4).mono ?_
  rintro e w3 ⟨rfl, hb3⟩
  have hB3 : Below w.heap.size w w3 := hB2.trans (hb3.mono (by omega))
  have hs3 : w.heap.size + 1 < w3.heap.size := by have := hb3.size; omega
  clear hb3 hB2 hs2 k2_4 l2_4
  go_wp2_with fail
  go_ret
  exact ⟨rfl, hB3⟩

end Go.Proofs.YtebcocejgenadaaGreat

namespace Go.Proofs.YtebcocejgenadaaGreat
open Go.RowKit

/-- a block of cells -/
def Blk (g : Nat) (cs : Array Value) (t : TypeId) (w : World) : Prop := w.heap[g]? = some (.cells cs t (0, 0))

theorem Blk.lt {g : Nat} {cs : Array Value} {t : TypeId} {w : World} (h : Blk g cs t w) : g < w.heap.size := (Array.getElem?_eq_some_iff.1 h).1
theorem Blk.below {g : Nat} {cs : Array Value} {t : TypeId} {w w' : World} {B : Nat} (h : Blk g cs t w) (hb : Below B w w') (hB : g < B) : Blk g cs t w' := (hb.block g hB).trans h
theorem Blk.drew {g : Nat} {cs : Array Value} {t : TypeId} {w : World} (h : Blk g cs t w) : Blk g cs t w.drew := h
theorem Blk.cell {g : Nat} {cs : Array Value} {t : TypeId} {w : World} (h : Blk g cs t w) {o : Nat} {v : Value} (hv : cs[o]? = some v) : w.cell? ⟨g, o, none⟩ = some v := by simp [World.cell?, show w.heap[g]? = _ from h, hv]
theorem Blk.frozen {g : Nat} {cs : Array Value} {t : TypeId} {w : World} (h : Blk g cs t w) (o : Nat) : w.frozen? ⟨g, o, none⟩ = false := by simp [World.frozen?, show w.heap[g]? = _ from h]
theorem Blk.range {g : Nat} {cs : List Value} {t : TypeId} {w : World} (h : Blk g cs.toArray t w) : w.rangeAt g 0 cs := fun j v hj => by rw [Nat.zero_add]; exact h.cell (by simpa using hj)
theorem Blk.alloc (w : World) (cs : Array Value) (t : TypeId) : Blk w.heap.size cs t (w.alloc (.cells cs t)) := World.alloc_heap_new w _
theorem Blk.other {g : Nat} {cs : Array Value} {t : TypeId} {w : World} (h : Blk g cs t w) {a : Addr} (hne : g ≠ a.block) (v : Value) : Blk g cs t (w.setCell a v) := (Below.heap_setCell w a v g hne).trans h
theorem Blk.set {g : Nat} {cs : Array Value} {t : TypeId} {w : World} (h : Blk g cs t w) (o : Nat) (v : Value) : Blk g (cs.setIfInBounds o v) t (w.setCell ⟨g, o, none⟩ v) := by
  obtain ⟨hlt, hk⟩ := Array.getElem?_eq_some_iff.1 h
  show (w.heap.modify g _)[g]? = _
  rw [Array.getElem?_eq_getElem (by rw [Array.size_modify]; exact hlt), Array.getElem_modify_self, hk]
  rfl

theorem Blk.there {g : Nat} {cs : Array Value} {t : TypeId} {w : World} (h : Blk g cs t w) : w.there g 0 cs.size := fun j hj => by
  refine ⟨?_, h.frozen _⟩
  rw [h.cell (o := 0 + j) (v := cs[j]) (by simp [hj])]
  rfl

theorem Blk.rangeA {g : Nat} {cs : Array Value} {t : TypeId} {w : World} (h : Blk g cs t w) : w.rangeAt g 0 cs.toList := fun j v hj => by
  rw [Nat.zero_add]
  exact h.cell (by simpa using hj)

end Go.Proofs.YtebcocejgenadaaGreat
