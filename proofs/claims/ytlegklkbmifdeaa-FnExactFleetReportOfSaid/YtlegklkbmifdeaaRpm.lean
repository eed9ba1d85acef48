/-
  Reports held against each other, marked, and held. Made by mkrpm.py.
-/
import Derived.Test.YtlegklkbmifdeaaRpp
import Derived.Test.YtlegklkbmifdeaaMxRan
import Derived.Test.YtlegklkbmifdeaaMkm
namespace Go.Proofs.Ytlegklkbmifdeaa
open Go.RowKit

set_option maxHeartbeats 2000000 in
theorem eqRep_any (y : Rep) (a : Option Addr) (c : Nat) (a' : Option Addr) (c' lo lo' : Nat) (w : World) (hg : SliceC RanC 3 lo w a y.runs) (hh : SliceC RanC 3 lo' w a' y.runs) (hsm : wS wRan y.runs ≤ 1048576) :
    Calls Try.prog 8 #[.agg #[.string y.berth, .int .i64 y.seen, .slice a y.runs.length c], .agg #[.string y.berth, .int .i64 y.seen, .slice a' y.runs.length c']] w fun e w' => e = .returned (.bool true) ∧ Below w.heap.size w w' := by
  have HG := Hid.intro hg
  have HH := Hid.intro hh
  clear hg hh
  go_enter Try.func8, Try.ntmps8
  go_wp2_with fail
  refine (eqRanS_any y.runs a a' c c' lo lo' _ (HG.out.below RanC.holds (B := w.heap.size) (by go_grown) (Nat.le_refl _)) (HH.out.below RanC.holds (B := w.heap.size) (by go_grown) (Nat.le_refl _)) hsm).mono ?_
  rintro e w1 ⟨rfl, hb1⟩
  have hB1 : Below w.heap.size w w1 := (show Below w.heap.size w _ by go_grown).trans (hb1.mono (by simp; try omega))
  clear hb1
  go_wp2_with fail
  go_ret
  exact ⟨rfl, hB1⟩

theorem truncRan {lo h : Nat} {w : World} {a : Option Addr} {xs : List Ran} (hs : SliceC RanC 3 lo w a xs) (u : Und a h) (hl : h ≤ w.heap.size) : SliceC RanC 3 lo (trunc w h) a xs := by
  refine ⟨hs.1, ?_⟩
  rcases hs.2 with h0 | ⟨b, o, e, ⟨l1, f1⟩, hb, hc⟩
  · exact .inl h0
  · have hbh : b < h := u b o none e
    have hb2 : b < (trunc w h).heap.size := by rw [trunc_size hl]; exact hbh
    exact .inr ⟨b, o, e, ⟨l1, fun hp p => ((trunc_below hl).frozen (p := ⟨b, p, none⟩) hb2).symm.trans (f1 hp p)⟩, hb2, fun k x hk => by
      obtain ⟨q0, q1, q2, z0⟩ := hc k x hk
      exact ⟨((trunc_below hl).cell (p := ⟨b, o + k * 3 + 0, none⟩) hb2).symm.trans q0, ((trunc_below hl).cell (p := ⟨b, o + k * 3 + 1, none⟩) hb2).symm.trans q1, ((trunc_below hl).cell (p := ⟨b, o + k * 3 + 2, none⟩) hb2).symm.trans q2, z0⟩⟩

set_option maxHeartbeats 4000000 in
set_option maxRecDepth 100000 in
theorem markRep_any (y : Rep) (a : Option Addr) (c lo hi k : Nat) (w : World) (s : SliceC RanC 3 lo w a y.runs) (u : Und a hi) (l1 : lo ≤ hi) (l2 : hi ≤ w.heap.size) (hlo : 0 < lo) (h0 : 0 < k) (h1 : k + y.runs.length * 3 ≤ 1073741824) :
    Calls Try.prog 11 #[.agg #[.string y.berth, .int .i64 y.seen, .slice a y.runs.length c], .int .i64 (k : Int)] w fun e w' => e = .returned (.int .i64 ((k + y.runs.length * 3 : Nat) : Int)) ∧ MkdRRan w' a y.runs.length k ∧ Below lo w w' ∧ Keeps hi w w' := by
  have hb0 : Below w.heap.size w (w.alloc (Obj.cells #[.string y.berth, .int .i64 y.seen, .slice a y.runs.length c] 30)) := (Below.refl _ w).alloc (Nat.le_refl _) _
  have S1 := Hid.intro (s.below RanC.holds hb0 (Nat.le_refl _))
  have U := Hid.intro u
  have B1 : Hid (Below lo w (w.alloc (Obj.cells #[.string y.berth, .int .i64 y.seen, .slice a y.runs.length c] 30))) := hb0.mono (by omega)
  have K1 : Hid (Keeps hi w (w.alloc (Obj.cells #[.string y.berth, .int .i64 y.seen, .slice a y.runs.length c] 30))) := Keeps.of_below hb0 (Nat.le_refl _) _
  have HK1 : Blk w.heap.size #[.string y.berth, .int .i64 y.seen, .slice a y.runs.length c] 30 (w.alloc (Obj.cells #[.string y.berth, .int .i64 y.seen, .slice a y.runs.length c] 30)) := Blk.alloc _ _ _
  clear s u hb0
  go_enter Try.func11, Try.ntmps11
  go_upto_region 1 with fail
  generalize (w.alloc (Obj.cells #[.string y.berth, .int .i64 y.seen, .slice a y.runs.length c] 30)) = w1 at *
  have hl1 : w.heap.size < w1.heap.size := HK1.lt
  have k2 : w1.cell? ⟨w.heap.size, 2, none⟩ = some (.slice a y.runs.length c) := HK1.cell rfl
  clear HK1
  go_wp2_with fail
  clear k2
  refine (markRanV_any y.runs a c lo k (trunc w1 hi) w1 w1 (truncRan S1.out U.out (by omega)) (by omega) (Mkd.cut (by omega) (by omega)) (by omega) (by omega)).mono ?_
  rintro e w2 ⟨rfl, hr, hm⟩
  have hkp := hm.keeps (by omega)
  have HR := Hid.intro hr
  have B2 : Hid (Below lo w w2) := B1.out.trans (hm.bel.mono (by omega))
  have K2 : Hid (Keeps hi w w2) := K1.out.trans (hkp.lower (by omega))
  clear hr hm hkp
  go_wp2_with fail
  go_ret
  exact ⟨rfl, HR.out, B2.out, K2.out⟩

set_option maxHeartbeats 4000000 in
set_option maxRecDepth 100000 in
theorem heldRep_any (y : Rep) (a : Option Addr) (c k : Nat) (w : World) (hin : MkdRRan w a y.runs.length k) (h0 : 0 < k) (h1 : k + y.runs.length * 3 ≤ 1073741824) :
    Calls Try.prog 12 #[.agg #[.string y.berth, .int .i64 y.seen, .slice a y.runs.length c], .int .i64 (k : Int)] w fun e w' => e = .returned (.int .i64 ((k + y.runs.length * 3 : Nat) : Int)) ∧ Below w.heap.size w w' := by
  have hb0 : Below w.heap.size w (w.alloc (Obj.cells #[.string y.berth, .int .i64 y.seen, .slice a y.runs.length c] 30)) := (Below.refl _ w).alloc (Nat.le_refl _) _
  have S1 := Hid.intro (hin.below hb0)
  have HK1 : Blk w.heap.size #[.string y.berth, .int .i64 y.seen, .slice a y.runs.length c] 30 (w.alloc (Obj.cells #[.string y.berth, .int .i64 y.seen, .slice a y.runs.length c] 30)) := Blk.alloc _ _ _
  clear hin
  go_enter Try.func12, Try.ntmps12
  go_upto_region 1 with fail
  generalize (w.alloc (Obj.cells #[.string y.berth, .int .i64 y.seen, .slice a y.runs.length c] 30)) = w1 at *
  have k2 : w1.cell? ⟨w.heap.size, 2, none⟩ = some (.slice a y.runs.length c) := HK1.cell rfl
  clear HK1
  go_wp2_with fail
  clear k2
  refine (heldRanS_any a y.runs.length c k _ S1.out h0 h1).mono ?_
  rintro e w2 ⟨rfl, hb⟩
  have hB := hb0.trans (hb.mono hb0.size)
  clear hb hb0
  have hk0 : (0 : Int) ≤ ((k + y.runs.length * 3 : Nat) : Int) := by omega
  go_wp2_with fail
  go_ret
  exact ⟨rfl, hB⟩

end Go.Proofs.Ytlegklkbmifdeaa
