/-
  Several texts in one: Plm, Lnd.
-/
import Derived.Test.YtebcocejgenadaaGreatJ1
namespace Go.Proofs.YtebcocejgenadaaGreat
open Go.RowKit

structure Plm where
  berth : ByteArray
  seen : Int
  wants : List Wnt

def wPlm (x : Plm) : Nat := x.berth.size + (wS wWnt x.wants)

/-- what its cells hold -/
def PlmC : Make Plm := fun lo w f x => ∃ (a2 : Option Addr) (c2 : Nat), f 0 = some (.string x.berth) ∧ f 1 = some (.int .i64 x.seen) ∧ f 2 = some (.slice a2 x.wants.length c2) ∧ x.berth.size ≤ maxLen ∧ SliceC WntC 7 lo w a2 x.wants

theorem PlmC.holds : Holds PlmC 3 := by
  rintro lo lo' w w' f g x h k hl ⟨a2, c2, q0, q1, q2, z0, n2⟩
  exact ⟨a2, c2, (h 0 (by omega)).trans q0, (h 1 (by omega)).trans q1, (h 2 (by omega)).trans q2, z0, n2.keep WntC.holds k hl⟩

theorem isz_Plm : (Tryz.prog.info? 89).map (·.size) = some 3 := by kernel_rfl

set_option maxHeartbeats 2000000 in
theorem eqPlm_any (x : Plm) (a2 : Option Addr) (c2 : Nat) (a2p : Option Addr) (c2p : Nat) (lo lo' : Nat) (w : World) (n2 : SliceC WntC 7 lo w a2 x.wants) (p2 : SliceC WntC 7 lo' w a2p x.wants) (hsm : wPlm x ≤ 1048576) :
    Calls Tryz.prog 56 #[.agg #[.string x.berth, .int .i64 x.seen, .slice a2 x.wants.length c2], .agg #[.string x.berth, .int .i64 x.seen, .slice a2p x.wants.length c2p]] w fun e w' => e = .returned (.bool true) ∧ Below w.heap.size w w' := by
  have N2 : Hid (SliceC WntC 7 lo w a2 x.wants) := n2
  have P2 : Hid (SliceC WntC 7 lo' w a2p x.wants) := p2
  have M2 : wS wWnt x.wants ≤ 1048576 := by unfold wPlm at hsm; omega
  clear hsm n2 p2
  go_enter Tryz.func56, Tryz.ntmps56
  go_wp2_with fail
  refine (eqWntS_any x.wants a2 a2p c2 c2p lo lo' _ (N2.out.below WntC.holds (B := w.heap.size) (by go_grown) (Nat.le_refl _)) (P2.out.below WntC.holds (B := w.heap.size) (by go_grown) (Nat.le_refl _)) M2).mono ?_
  rintro e w1 ⟨rfl, hb1⟩
  have hB1 : Below w.heap.size w w1 := (show Below w.heap.size w _ by go_grown).trans (hb1.mono (by simp; omega))
  have hs1 : w.heap.size + 1 < w1.heap.size := by have := hb1.size; simp at this; omega
  clear hb1
  go_wp2_with fail
  go_ret
  exact ⟨rfl, hB1⟩

theorem info_Plm : (Tryz.prog.info? 89).map (fun i => (i.zero, i.size, i.bytes)) = some (some (.agg #[.string ⟨#[]⟩, .int .i64 0, .slice none 0 0]), 3, 48) := by kernel_rfl

set_option maxHeartbeats 2000000 in
theorem eqPlmS_any (xs : List Plm) (a a' : Option Addr) (cap cap' lo lo' : Nat) (w : World) (hg : SliceC PlmC 3 lo w a xs) (hh : SliceC PlmC 3 lo' w a' xs) (hsm : wS wPlm xs ≤ 1048576) :
    Calls Tryz.prog 32 #[.slice a xs.length cap, .slice a' xs.length cap'] w fun e w' => e = .returned (.bool true) ∧ Below w.heap.size w w' := by
  have hlen : xs.length ≤ 1048576 := Nat.le_trans wS_len hsm
  have HG : Hid (SliceC PlmC 3 lo w a xs) := hg
  have HH : Hid (SliceC PlmC 3 lo' w a' xs) := hh
  have HSM : Hid (wS wPlm xs ≤ 1048576) := hsm
  clear hg hh hsm
  go_enter Tryz.func32, Tryz.ntmps32
  go_wp2_with fail
  go_loopw [5] (fun i wr => ∃ (k : Nat), k ≤ xs.length ∧ i = .int .i64 k ∧ Below w.heap.size w wr) (fun i _ => xs.length - (intOf i).toNat)
  case atStart => exact ⟨0, Nat.zero_le _, rfl, Below.refl _ _⟩
  case round =>
    obtain ⟨k, hk, rfl, hbel⟩ := hrel
    by_cases hlt : k < xs.length
    · obtain ⟨x, hx⟩ : ∃ x, xs[k]? = some x := ⟨xs[k], List.getElem?_eq_getElem hlt⟩
      obtain ⟨b, o, rfl, _, _, hc⟩ := (HG.out.below PlmC.holds hbel (Nat.le_refl _)).at hx
      obtain ⟨b', o', rfl, _, _, hc'⟩ := (HH.out.below PlmC.holds hbel (Nat.le_refl _)).at hx
      obtain ⟨a2, c2, q0, q1, q2, _, n2⟩ := hc
      obtain ⟨a2p, c2p, r0, r1, r2, _, p2⟩ := hc'
      simp only [Nat.add_zero] at q0 q1 q2 r0 r1 r2
      have hwx : wPlm x ≤ 1048576 := Nat.le_trans (wS_mem (List.mem_of_getElem? hx)) HSM.out
      have k0 := cell_regrown q0
      have l0 := cell_regrown r0
      have k1 := cell_regrown q1
      have l1 := cell_regrown r1
      have k2 := cell_regrown q2
      have l2 := cell_regrown r2
      have cE : ∀ d os, Calls Tryz.prog 56 #[.agg #[.string x.berth, .int .i64 x.seen, .slice a2 x.wants.length c2], .agg #[.string x.berth, .int .i64 x.seen, .slice a2p x.wants.length c2p]] (Sort.grow (redrawn wr d) os) fun e w'' => e = .returned (.bool true) ∧ ∃ p : Regrown, w'' = Sort.grow (redrawn wr p.d) p.os := fun d os => Calls.regrown_of (eqPlm_any x a2 c2 a2p c2p lo lo' _ (n2.below WntC.holds (below_regrown wr d os) (Nat.le_refl _)) (p2.below WntC.holds (below_regrown wr d os) (Nat.le_refl _)) hwx)
      have i0 : (0 : Int) ≤ (k : Int) := by omega
      have i1 : (k : Int) < (xs.length : Int) := by omega
      clear hx q0 q1 q2 r0 r1 r2 n2 p2 hwx
      go_wp2_with fail
      refine wp_region_quiet_below (by kernel_rfl) (by kernel_rfl) ?_
      repeat (quiet_step (first | exact cE _ _))
      refine wpQuiet_nil ?_
      intro _ hw'
      obtain ⟨⟨dq, osq⟩, hw''⟩ := hw'
      have hB := hbel.trans ((below_regrown wr dq osq).mono hbel.size)
      simp only [] at hw''
      rw [← hw''] at hB
      clear hw'' cE k0 l0 k1 l1 k2 l2
      go_wp2_with fail
      go_roundw
      case rel => exact ⟨k + 1, by omega, by go_num, hB⟩
      case measure => simp [intOf]; omega
    · go_wp2_with fail
      go_ret
      exact ⟨rfl, hbel⟩

end Go.Proofs.YtebcocejgenadaaGreat

namespace Go.Proofs.YtebcocejgenadaaGreat
open Go.RowKit

structure Lnd where
  time : Int
  grants : List Grt
  places : List Plm

def wLnd (x : Lnd) : Nat := (wS wGrt x.grants) + (wS wPlm x.places)

/-- what its cells hold -/
def LndC : Make Lnd := fun lo w f x => ∃ (a1 : Option Addr) (c1 : Nat) (a2 : Option Addr) (c2 : Nat), f 0 = some (.int .i64 x.time) ∧ f 1 = some (.slice a1 x.grants.length c1) ∧ f 2 = some (.slice a2 x.places.length c2) ∧ SliceC GrtC 5 lo w a1 x.grants ∧ SliceC PlmC 3 lo w a2 x.places

theorem LndC.holds : Holds LndC 3 := by
  rintro lo lo' w w' f g x h k hl ⟨a1, c1, a2, c2, q0, q1, q2, n1, n2⟩
  exact ⟨a1, c1, a2, c2, (h 0 (by omega)).trans q0, (h 1 (by omega)).trans q1, (h 2 (by omega)).trans q2, n1.keep GrtC.holds k hl, n2.keep PlmC.holds k hl⟩

theorem isz_Lnd : (Tryz.prog.info? 27).map (·.size) = some 3 := by kernel_rfl

set_option maxHeartbeats 2000000 in
theorem eqLnd_any (x : Lnd) (a1 : Option Addr) (c1 : Nat) (a2 : Option Addr) (c2 : Nat) (a1p : Option Addr) (c1p : Nat) (a2p : Option Addr) (c2p : Nat) (lo lo' : Nat) (w : World) (n1 : SliceC GrtC 5 lo w a1 x.grants) (n2 : SliceC PlmC 3 lo w a2 x.places) (p1 : SliceC GrtC 5 lo' w a1p x.grants) (p2 : SliceC PlmC 3 lo' w a2p x.places) (hsm : wLnd x ≤ 1048576) :
    Calls Tryz.prog 16 #[.agg #[.int .i64 x.time, .slice a1 x.grants.length c1, .slice a2 x.places.length c2], .agg #[.int .i64 x.time, .slice a1p x.grants.length c1p, .slice a2p x.places.length c2p]] w fun e w' => e = .returned (.bool true) ∧ Below w.heap.size w w' := by
  have N1 : Hid (SliceC GrtC 5 lo w a1 x.grants) := n1
  have P1 : Hid (SliceC GrtC 5 lo' w a1p x.grants) := p1
  have M1 : wS wGrt x.grants ≤ 1048576 := by unfold wLnd at hsm; omega
  have N2 : Hid (SliceC PlmC 3 lo w a2 x.places) := n2
  have P2 : Hid (SliceC PlmC 3 lo' w a2p x.places) := p2
  have M2 : wS wPlm x.places ≤ 1048576 := by unfold wLnd at hsm; omega
  clear hsm n1 p1 n2 p2
  go_enter Tryz.func16, Tryz.ntmps16
  go_wp2_with fail
  refine (eqGrtS_any x.grants a1 a1p c1 c1p lo lo' _ (N1.out.below GrtC.holds (B := w.heap.size) (by go_grown) (Nat.le_refl _)) (P1.out.below GrtC.holds (B := w.heap.size) (by go_grown) (Nat.le_refl _)) M1).mono ?_
  rintro e w1 ⟨rfl, hb1⟩
  have hB1 : Below w.heap.size w w1 := (show Below w.heap.size w _ by go_grown).trans (hb1.mono (by simp; omega))
  have k1_2 : w1.cell? ⟨w.heap.size, 2, none⟩ = some (.slice a2 x.places.length c2) := (hb1.cell (p := ⟨w.heap.size, 2, none⟩) (by simp; omega)).trans (by simp)
  have l1_2 : w1.cell? ⟨w.heap.size + 1, 2, none⟩ = some (.slice a2p x.places.length c2p) := (hb1.cell (p := ⟨w.heap.size + 1, 2, none⟩) (by simp)).trans (by simp)
  have hs1 : w.heap.size + 1 < w1.heap.size := by have := hb1.size; simp at this; omega
  clear hb1
  go_wp2_with fail
  refine (eqPlmS_any x.places a2 a2p c2 c2p lo lo' _ (N2.out.below PlmC.holds (B := w.heap.size) (hB1) (Nat.le_refl _)) (P2.out.below PlmC.holds (B := w.heap.size) (hB1) (Nat.le_refl _)) M2).mono ?_
  rintro e w2 ⟨rfl, hb2⟩
  have hB2 : Below w.heap.size w w2 := hB1.trans (hb2.mono (by omega))
  have hs2 : w.heap.size + 1 < w2.heap.size := by have := hb2.size; omega
  clear hb2 hB1 hs1 k1_2 l1_2
  go_wp2_with fail
  go_ret
  exact ⟨rfl, hB2⟩

theorem info_Lnd : (Tryz.prog.info? 27).map (fun i => (i.zero, i.size, i.bytes)) = some (some (.agg #[.int .i64 0, .slice none 0 0, .slice none 0 0]), 3, 56) := by kernel_rfl

end Go.Proofs.YtebcocejgenadaaGreat
