import Derived.Test.YtnggdpjfmpjlhaaGreatShp
namespace Go.Proofs.YtnggdpjfmpjlhaaGreat
open Go.RowKit

structure Sen where
 number : Int
 seen : Int

def wSen (_ : Sen) : Nat := 0

def SenC : Make Sen := fun _ _ f x => f 0 = some (.int .i64 x.number) ∧ f 1 = some (.int .i64 x.seen)

theorem SenC.holds : Holds SenC 2 := by
 rintro lo lo' w w' f g x h _ _ ⟨q0, q1⟩
 exact ⟨(h 0 (by omega)).trans q0, (h 1 (by omega)).trans q1⟩

theorem isz_Sen : (Tryz.prog.info? 125).map (·.size) = some 2 := by kernel_rfl

set_option maxHeartbeats 2000000 in
theorem eqSen_any (x : Sen) (w : World) :
  Calls Tryz.prog 92 #[.agg #[.int .i64 x.number, .int .i64 x.seen], .agg #[.int .i64 x.number, .int .i64 x.seen]] w fun e w' => e = .returned (.bool true) ∧ Below w.heap.size w w' := by
 go_enter Tryz.func92, Tryz.ntmps92
 go_wp2
 go_ret
 exact ⟨rfl, by go_grown⟩

theorem info_Sen : (Tryz.prog.info? 125).map (fun i => (i.zero, i.size, i.bytes)) = some (some (.agg #[.int .i64 0, .int .i64 0]), 2, 16) := by kernel_rfl

set_option maxHeartbeats 2000000 in
theorem eqSenS_any (xs : List Sen) (a a' : Option Addr) (cap cap' lo lo' : Nat) (w : World) (hg : SliceC SenC 2 lo w a xs) (hh : SliceC SenC 2 lo' w a' xs) (hsm : wS wSen xs ≤ 1048576) :
  Calls Tryz.prog 64 #[.slice a xs.length cap, .slice a' xs.length cap'] w fun e w' => e = .returned (.bool true) ∧ Below w.heap.size w w' := by
 have hlen : xs.length ≤ 1048576 := Nat.le_trans wS_len hsm
 have HG : Hid (SliceC SenC 2 lo w a xs) := hg
 have HH : Hid (SliceC SenC 2 lo' w a' xs) := hh
 clear hg hh hsm
 go_enter Tryz.func64, Tryz.ntmps64
 go_wp2_with fail
 go_loopw [5] (fun i wr => ∃ (k : Nat), k ≤ xs.length ∧ i = .int .i64 k ∧ Below w.heap.size w wr) (fun i _ => xs.length - (intOf i).toNat)
 case atStart => exact ⟨0, Nat.zero_le _, rfl, Below.refl _ _⟩
 case round =>
  obtain ⟨k, hk, rfl, hbel⟩ := hrel
  by_cases hlt : k < xs.length
  ·obtain ⟨x, hx⟩ : ∃ x, xs[k]? = some x := ⟨xs[k], List.getElem?_eq_getElem hlt⟩
   obtain ⟨b, o, rfl, _, _, hc⟩ := (HG.out.below SenC.holds hbel (Nat.le_refl _)).at hx
   obtain ⟨b', o', rfl, _, _, hc'⟩ := (HH.out.below SenC.holds hbel (Nat.le_refl _)).at hx
   obtain ⟨q0, q1⟩ := hc
   obtain ⟨r0, r1⟩ := hc'
   simp only [Nat.add_zero] at q0 q1 r0 r1
   have k0 := cell_regrown q0
   have l0 := cell_regrown r0
   have k1 := cell_regrown q1
   have l1 := cell_regrown r1
   have cE : ∀ d os, Calls Tryz.prog 92 #[.agg #[.int .i64 x.number, .int .i64 x.seen], .agg #[.int .i64 x.number, .int .i64 x.seen]] (Sort.grow (redrawn wr d) os) fun e w'' => e = .returned (.bool true) ∧ ∃ p : Regrown, w'' = Sort.grow (redrawn wr p.d) p.os := fun d os => Calls.regrown_of (eqSen_any x _)
   have i0 : (0 : Int) ≤ (k : Int) := by omega
   have i1 : (k : Int) < (xs.length : Int) := by omega
   clear hx q0 q1 r0 r1
   go_wp2_with fail
   refine wp_region_quiet_below (by kernel_rfl) (by kernel_rfl) ?_
   repeat (quiet_step (first | exact cE _ _))
   refine wpQuiet_nil ?_
   intro _ hw'
   obtain ⟨⟨dq, osq⟩, hw''⟩ := hw'
   have hB := hbel.trans ((below_regrown wr dq osq).mono hbel.size)
   simp only [] at hw''
   rw [← hw''] at hB
   clear hw'' cE k0 l0 k1 l1
   go_wp2_with fail
   go_roundw
   case rel => exact ⟨k + 1, by omega, by go_num, hB⟩
   case measure => simp [intOf]; omega
  ·go_wp2_with fail
   go_ret
   exact ⟨rfl, hbel⟩

end Go.Proofs.YtnggdpjfmpjlhaaGreat

namespace Go.Proofs.YtnggdpjfmpjlhaaGreat
open Go.RowKit

structure Sac where
 service : ByteArray
 seen : Int
 create : Int
 want : Int
 cool : Int
 scale : Bool
 ends : List Sen
 drop : Bool

def wSac (x : Sac) : Nat := x.service.size + (wS wSen x.ends)

def SacC : Make Sac := fun lo w f x => ∃ (a6 : Option Addr) (c6 : Nat), f 0 = some (.string x.service) ∧ f 1 = some (.int .i64 x.seen) ∧ f 2 = some (.int .i64 x.create) ∧ f 3 = some (.int .i64 x.want) ∧ f 4 = some (.int .i64 x.cool) ∧ f 5 = some (.bool x.scale) ∧ f 6 = some (.slice a6 x.ends.length c6) ∧ f 7 = some (.bool x.drop) ∧ x.service.size ≤ maxLen ∧ SliceC SenC 2 lo w a6 x.ends

theorem SacC.holds : Holds SacC 8 := by
 rintro lo lo' w w' f g x h k hl ⟨a6, c6, q0, q1, q2, q3, q4, q5, q6, q7, z0, n6⟩
 exact ⟨a6, c6, (h 0 (by omega)).trans q0, (h 1 (by omega)).trans q1, (h 2 (by omega)).trans q2, (h 3 (by omega)).trans q3, (h 4 (by omega)).trans q4, (h 5 (by omega)).trans q5, (h 6 (by omega)).trans q6, (h 7 (by omega)).trans q7, z0, n6.keep SenC.holds k hl⟩

theorem isz_Sac : (Tryz.prog.info? 47).map (·.size) = some 8 := by kernel_rfl

set_option maxHeartbeats 2000000 in
theorem eqSac_any (x : Sac) (a6 : Option Addr) (c6 : Nat) (a6p : Option Addr) (c6p : Nat) (lo lo' : Nat) (w : World) (n6 : SliceC SenC 2 lo w a6 x.ends) (p6 : SliceC SenC 2 lo' w a6p x.ends) (hsm : wSac x ≤ 1048576) :
  Calls Tryz.prog 25 #[.agg #[.string x.service, .int .i64 x.seen, .int .i64 x.create, .int .i64 x.want, .int .i64 x.cool, .bool x.scale, .slice a6 x.ends.length c6, .bool x.drop], .agg #[.string x.service, .int .i64 x.seen, .int .i64 x.create, .int .i64 x.want, .int .i64 x.cool, .bool x.scale, .slice a6p x.ends.length c6p, .bool x.drop]] w fun e w' => e = .returned (.bool true) ∧ Below w.heap.size w w' := by
 have N6 : Hid (SliceC SenC 2 lo w a6 x.ends) := n6
 have P6 : Hid (SliceC SenC 2 lo' w a6p x.ends) := p6
 have M6 : wS wSen x.ends ≤ 1048576 := by unfold wSac at hsm; omega
 clear hsm n6 p6
 go_enter Tryz.func25, Tryz.ntmps25
 go_wp2_with fail
 refine (eqSenS_any x.ends a6 a6p c6 c6p lo lo' _ (N6.out.below SenC.holds (B := w.heap.size) (by go_grown) (Nat.le_refl _)) (P6.out.below SenC.holds (B := w.heap.size) (by go_grown) (Nat.le_refl _)) M6).mono ?_
 rintro e w1 ⟨rfl, hb1⟩
 have hB1 : Below w.heap.size w w1 := (show Below w.heap.size w _ by go_grown).trans (hb1.mono (by simp; omega))
 have k1_7 : w1.cell? ⟨w.heap.size, 7, none⟩ = some (.bool x.drop) := (hb1.cell (p := ⟨w.heap.size, 7, none⟩) (by simp; omega)).trans (by simp)
 have l1_7 : w1.cell? ⟨w.heap.size + 1, 7, none⟩ = some (.bool x.drop) := (hb1.cell (p := ⟨w.heap.size + 1, 7, none⟩) (by simp)).trans (by simp)
 have hs1 : w.heap.size + 1 < w1.heap.size := by have := hb1.size; simp at this; omega
 clear hb1
 go_wp2_with fail
 go_ret
 exact ⟨rfl, hB1⟩

theorem info_Sac : (Tryz.prog.info? 47).map (fun i => (i.zero, i.size, i.bytes)) = some (some (.agg #[.string ⟨#[]⟩, .int .i64 0, .int .i64 0, .int .i64 0, .int .i64 0, .bool false, .slice none 0 0, .bool false]), 8, 88) := by kernel_rfl

set_option maxHeartbeats 2000000 in
theorem eqSacS_any (xs : List Sac) (a a' : Option Addr) (cap cap' lo lo' : Nat) (w : World) (hg : SliceC SacC 8 lo w a xs) (hh : SliceC SacC 8 lo' w a' xs) (hsm : wS wSac xs ≤ 1048576) :
  Calls Tryz.prog 8 #[.slice a xs.length cap, .slice a' xs.length cap'] w fun e w' => e = .returned (.bool true) ∧ Below w.heap.size w w' := by
 have hlen : xs.length ≤ 1048576 := Nat.le_trans wS_len hsm
 have HG : Hid (SliceC SacC 8 lo w a xs) := hg
 have HH : Hid (SliceC SacC 8 lo' w a' xs) := hh
 have HSM : Hid (wS wSac xs ≤ 1048576) := hsm
 clear hg hh hsm
 go_enter Tryz.func8, Tryz.ntmps8
 go_wp2_with fail
 go_loopw [5] (fun i wr => ∃ (k : Nat), k ≤ xs.length ∧ i = .int .i64 k ∧ Below w.heap.size w wr) (fun i _ => xs.length - (intOf i).toNat)
 case atStart => exact ⟨0, Nat.zero_le _, rfl, Below.refl _ _⟩
 case round =>
  obtain ⟨k, hk, rfl, hbel⟩ := hrel
  by_cases hlt : k < xs.length
  ·obtain ⟨x, hx⟩ : ∃ x, xs[k]? = some x := ⟨xs[k], List.getElem?_eq_getElem hlt⟩
   obtain ⟨b, o, rfl, _, _, hc⟩ := (HG.out.below SacC.holds hbel (Nat.le_refl _)).at hx
   obtain ⟨b', o', rfl, _, _, hc'⟩ := (HH.out.below SacC.holds hbel (Nat.le_refl _)).at hx
   obtain ⟨a6, c6, q0, q1, q2, q3, q4, q5, q6, q7, _, n6⟩ := hc
   obtain ⟨a6p, c6p, r0, r1, r2, r3, r4, r5, r6, r7, _, p6⟩ := hc'
   simp only [Nat.add_zero] at q0 q1 q2 q3 q4 q5 q6 q7 r0 r1 r2 r3 r4 r5 r6 r7
   have hwx : wSac x ≤ 1048576 := Nat.le_trans (wS_mem (List.mem_of_getElem? hx)) HSM.out
   have k0 := cell_regrown q0
   have l0 := cell_regrown r0
   have k1 := cell_regrown q1
   have l1 := cell_regrown r1
   have k2 := cell_regrown q2
   have l2 := cell_regrown r2
   have k3 := cell_regrown q3
   have l3 := cell_regrown r3
   have k4 := cell_regrown q4
   have l4 := cell_regrown r4
   have k5 := cell_regrown q5
   have l5 := cell_regrown r5
   have k6 := cell_regrown q6
   have l6 := cell_regrown r6
   have k7 := cell_regrown q7
   have l7 := cell_regrown r7
   have cE : ∀ d os, Calls Tryz.prog 25 #[.agg #[.string x.service, .int .i64 x.seen, .int .i64 x.create, .int .i64 x.want, .int .i64 x.cool, .bool x.scale, .slice a6 x.ends.length c6, .bool x.drop], .agg #[.string x.service, .int .i64 x.seen, .int .i64 x.create, .int .i64 x.want, .int .i64 x.cool, .bool x.scale, .slice a6p x.ends.length c6p, .bool x.drop]] (Sort.grow (redrawn wr d) os) fun e w'' => e = .returned (.bool true) ∧ ∃ p : Regrown, w'' = Sort.grow (redrawn wr p.d) p.os := fun d os => Calls.regrown_of (eqSac_any x a6 c6 a6p c6p lo lo' _ (n6.below SenC.holds (below_regrown wr d os) (Nat.le_refl _)) (p6.below SenC.holds (below_regrown wr d os) (Nat.le_refl _)) hwx)
   have i0 : (0 : Int) ≤ (k : Int) := by omega
   have i1 : (k : Int) < (xs.length : Int) := by omega
   clear hx q0 q1 q2 q3 q4 q5 q6 q7 r0 r1 r2 r3 r4 r5 r6 r7 n6 p6 hwx
   go_wp2_with fail
   refine wp_region_quiet_below (by kernel_rfl) (by kernel_rfl) ?_
   repeat (quiet_step (first | exact cE _ _))
   refine wpQuiet_nil ?_
   intro _ hw'
   obtain ⟨⟨dq, osq⟩, hw''⟩ := hw'
   have hB := hbel.trans ((below_regrown wr dq osq).mono hbel.size)
   simp only [] at hw''
   rw [← hw''] at hB
   clear hw'' cE k0 l0 k1 l1 k2 l2 k3 l3 k4 l4 k5 l5 k6 l6 k7 l7
   go_wp2_with fail
   go_roundw
   case rel => exact ⟨k + 1, by omega, by go_num, hB⟩
   case measure => simp [intOf]; omega
  ·go_wp2_with fail
   go_ret
   exact ⟨rfl, hbel⟩

end Go.Proofs.YtnggdpjfmpjlhaaGreat
