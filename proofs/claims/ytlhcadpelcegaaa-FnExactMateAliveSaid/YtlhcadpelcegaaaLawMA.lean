/-
  Walk: the law of what is alive. Made by mklma.py.
-/
import Derived.Test.YtlhcadpelcegaaaMt1
namespace Go.Proofs.Ytlhcadpelcegaaa
open Go.RowKit

theorem iszL_Rn : (Try.prog.info? 32).map (·.size) = some 11 := by kernel_rfl

set_option maxHeartbeats 1000000 in
theorem law_any (x : Rn) (w : World) (z0 : x.want.copy.size ≤ maxLen) (z2 : x.want.hold.size ≤ maxLen) :
    Calls Try.prog 4 #[.agg #[.string x.want.copy, .int .i64 x.want.version, .string x.want.hold, .int .i64 x.want.pull, .int .i64 x.want.start, .int .i64 x.want.dies, .int .i64 x.want.grace, .int .i64 x.state, .int .i64 x.left, .int .i64 x.falls, .int .i64 x.until_]] w fun e w' => e = .returned (.bool true) ∧ Below w.heap.size w w' := by
  have HX0 : Hid (Blk w.heap.size #[.string x.want.copy, .int .i64 x.want.version, .string x.want.hold, .int .i64 x.want.pull, .int .i64 x.want.start, .int .i64 x.want.dies, .int .i64 x.want.grace, .int .i64 x.state, .int .i64 x.left, .int .i64 x.falls, .int .i64 x.until_] 32 (w.alloc (.cells #[.string x.want.copy, .int .i64 x.want.version, .string x.want.hold, .int .i64 x.want.pull, .int .i64 x.want.start, .int .i64 x.want.dies, .int .i64 x.want.grace, .int .i64 x.state, .int .i64 x.left, .int .i64 x.falls, .int .i64 x.until_] 32))) := Blk.alloc _ _ _
  go_enter Try.func4, Try.ntmps4
  go_wp2_with fail
  refine (szRn_any x _ _ z0 z2 (by omega) (by omega)).mono ?_
  rintro e w1 ⟨rfl, hb1⟩
  have HX1 := Hid.intro (HX0.out.below hb1 HX0.out.lt)
  have hB1 : Below w.heap.size w w1 := (show Below w.heap.size w _ by go_grown).trans (hb1.mono (by simp))
  have hs1 := HX1.out.lt
  clear hb1 HX0
  by_cases d : (wRn x : Int) ≤ 1048576
  case neg =>
    rw [szR_neg d]
    go_wp2_with fail
    go_ret
    exact ⟨rfl, hB1⟩
  rw [szR_pos d]
  generalize wRn x = V at *
  go_wp2_with (refine wpList_load_mid rfl 32 _ rfl w.heap.size 0 rfl [.string x.want.copy, .int .i64 x.want.version, .string x.want.hold, .int .i64 x.want.pull, .int .i64 x.want.start, .int .i64 x.want.dies, .int .i64 x.want.grace, .int .i64 x.state, .int .i64 x.left, .int .i64 x.falls, .int .i64 x.until_] _ HX1.out.rangeA Try.underlying32 rfl iszL_Rn ?_)
  refine (toRn_any x _).mono ?_
  rintro e w2 ⟨rfl, hb2⟩
  have HX2 := Hid.intro (HX1.out.below hb2 HX1.out.lt)
  have hB2 := hB1.trans (hb2.mono hB1.size)
  clear hb2 hB1 HX1 hs1
  go_wp2_with fail
  refine (specAlive_any x _).mono ?_
  rintro e w3 ⟨rfl, hb3⟩
  have HX3 := Hid.intro (HX2.out.below hb3 HX2.out.lt)
  have hB3 := hB2.trans (hb3.mono hB2.size)
  clear hb3 hB2 HX2
  go_wp2_with (refine wpList_load_mid rfl 32 _ rfl w.heap.size 0 rfl [.string x.want.copy, .int .i64 x.want.version, .string x.want.hold, .int .i64 x.want.pull, .int .i64 x.want.start, .int .i64 x.want.dies, .int .i64 x.want.grace, .int .i64 x.state, .int .i64 x.left, .int .i64 x.falls, .int .i64 x.until_] _ HX3.out.rangeA Try.underlying32 rfl iszL_Rn ?_)
  refine (toRn_any x _).mono ?_
  rintro e w4 ⟨rfl, hb4⟩
  have hB4 := hB3.trans (hb4.mono hB3.size)
  clear hb4 hB3 HX3
  go_wp2_with fail
  refine (implAlive_any x _).mono ?_
  rintro e w5 ⟨rfl, hb5⟩
  have hB5 := hB4.trans (hb5.mono hB4.size)
  clear hb5 hB4
  generalize alB x.state = A
  cases A
  all_goals
    go_wp2_with fail
    go_ret
    exact ⟨rfl, hB5⟩

end Go.Proofs.Ytlhcadpelcegaaa
