/-
  Wants, runs and asks in memory of their own, by the program. Made by mknw.py.
-/
import Derived.Test.YtlegklkbmifdeaaRn
import Derived.Test.YtlegklkbmifdeaaAks
import Derived.Test.YtlegklkbmifdeaaBls
import Derived.Test.YtlegklkbmifdeaaCln
import Derived.Deep.RegionHeld3
namespace Go.Proofs.Ytlegklkbmifdeaa
open Go.RowKit

set_option maxHeartbeats 400000 in
theorem cl3_any (s : ByteArray) (w : World) (hs : s.size ≤ 1048576) :
    Calls Try.prog 46 #[.string s] w fun e w' => e = .returned (.string s) ∧ Below w.heap.size w w' := by
  go_enter Try.func46, Try.ntmps46
  go_wp2_with fail
  refine (Any.stringslite_Clone laysC s w (by omega)).mono ?_
  rintro e w1 ⟨rfl, hb⟩
  go_wp2_with fail
  go_ret
  exact ⟨rfl, hb⟩

theorem rg7 {w : World} {b : Nat} {x : Rn} (h : w.rangeAt b 0 [.string x.want.copy, .int .i64 x.want.version, .string x.want.hold, .int .i64 x.want.pull, .int .i64 x.want.start, .int .i64 x.want.dies, .int .i64 x.want.grace, .int .i64 x.state, .int .i64 x.left, .int .i64 x.falls, .int .i64 x.until_]) : w.rangeAt b 0 [.string x.want.copy, .int .i64 x.want.version, .string x.want.hold, .int .i64 x.want.pull, .int .i64 x.want.start, .int .i64 x.want.dies, .int .i64 x.want.grace] := fun j v hj => by
  have hl : j < 7 := lt_of_some hj
  rcases (by omega : j = 0 ∨ j = 1 ∨ j = 2 ∨ j = 3 ∨ j = 4 ∨ j = 5 ∨ j = 6) with rfl | rfl | rfl | rfl | rfl | rfl | rfl <;> (cases hj; exact h _ _ rfl)

end Go.Proofs.Ytlegklkbmifdeaa
