/-
  A run looked at alone, both sides. Made by mkmt4.py.
-/
import Derived.Test.YtalnkbocfhhjkaaMt3
namespace Go.Proofs.Ytalnkbocfhhjkaa
open Go.RowKit

/-- it has its hold for long enough, or needs none -/
def lsB (x : Rn) (c : Int) : Bool := (x.want.hold.toList == []) || decide (wrap64 (c + 4) ≤ x.until_)

/-- so many ticks may be left -/
def tkS (s l : Int) : Bool := inR l 0 100 && (!decide (s = 2) || decide (l = 0))

/-- its lease can be -/
def utB (x : Rn) : Bool := inR x.until_ 0 1000016 && (!(x.want.hold.toList == []) || decide (x.until_ = 0))

/-- a run that is ok -/
def roB (x : Rn) (c : Int) : Bool := wnB x.want && (inR x.state 1 6 && (tkS x.state x.left && (inR x.falls 0 1000 && (utB x && (!alB x.state || lsB x c)))))

theorem isz_mRun : (Try.prog.info? 40).map (·.size) = some 11 := by kernel_rfl

set_option maxHeartbeats 1000000 in
theorem known_any (s : Int) (w : World) :
    Calls Try.prog 24 #[.int .i64 s] w fun e w' => e = .returned (.bool (inR s 1 6)) ∧ w' = w := by
  by_cases h1 : 1 ≤ s
  · by_cases h2 : s ≤ 6
    · have HC : Hid (inR s 1 6 = true) := inR_yes h1 h2
      go_enter Try.func24, Try.ntmps24
      go_wp2_with fail
      go_ret
      exact ⟨ret_bool HC.out.symm, rfl⟩
    · have h2' : 6 < s := by omega
      have HC : Hid (inR s 1 6 = false) := inR_hi h2'
      clear h2
      go_enter Try.func24, Try.ntmps24
      go_wp2_with fail
      go_ret
      exact ⟨ret_bool (by rw [HC.out]; simp; omega), rfl⟩
  · have h1' : s < 1 := by omega
    have HC : Hid (inR s 1 6 = false) := inR_lo h1'
    clear h1
    go_enter Try.func24, Try.ntmps24
    go_wp2_with fail
    go_ret
    exact ⟨ret_bool HC.out.symm, rfl⟩

set_option maxHeartbeats 1000000 in
theorem leased11_any (x : Rn) (c : Int) (w : World) :
    Calls Try.prog 22 #[.agg #[.string x.want.copy, .int .i64 x.want.version, .string x.want.hold, .int .i64 x.want.pull, .int .i64 x.want.start, .int .i64 x.want.dies, .int .i64 x.want.grace, .int .i64 x.state, .int .i64 x.left, .int .i64 x.falls, .int .i64 x.until_], .int .i64 c] w fun e w' => e = .returned (.bool (lsB x c)) ∧ Below w.heap.size w w' := by
  have HC : Hid (lsB x c = ((x.want.hold.toList == []) || decide (wrap64 (c + 4) ≤ x.until_))) := rfl
  generalize lsB x c = D at *
  by_cases hh : x.want.hold.toList = []
  · have HD : Hid (D = true) := by have := HC.out; show _ = _; simpa [hh] using this
    go_enter Try.func22, Try.ntmps22
    go_wp2_with fail
    go_ret
    exact ⟨ret_bool HD.out.symm, by go_grown⟩
  · have HD : Hid (D = decide (wrap64 (c + 4) ≤ x.until_)) := by
      have := HC.out
      rw [show (x.want.hold.toList == []) = false by simp [hh], Bool.false_or] at this
      exact this
    go_enter Try.func22, Try.ntmps22
    go_wp2_with fail
    go_ret
    exact ⟨ret_bool (by rw [HD.out]; simp [hh]), by go_grown⟩

set_option maxHeartbeats 1000000 in
theorem rleased_any (x : Rn) (c : Int) (w : World) :
    Calls Try.prog 40 #[.agg #[.string x.want.copy, .int .i64 x.want.version, .string x.want.hold, .int .i64 x.want.pull, .int .i64 x.want.start, .int .i64 x.want.dies, .int .i64 x.want.grace, .int .i64 x.state, .int .i64 x.left, .int .i64 x.falls, .int .i64 x.until_], .int .i64 c] w fun e w' => e = .returned (.bool (lsB x c)) ∧ Below w.heap.size w w' := by
  have HC : Hid (lsB x c = ((x.want.hold.toList == []) || decide (wrap64 (c + 4) ≤ x.until_))) := rfl
  generalize lsB x c = D at *
  by_cases hh : x.want.hold.toList = []
  · have HD : Hid (D = true) := by have := HC.out; show _ = _; simpa [hh] using this
    go_enter Try.func40, Try.ntmps40
    go_wp2_with fail
    go_ret
    exact ⟨ret_bool HD.out.symm, by go_grown⟩
  · have HD : Hid (D = decide (wrap64 (c + 4) ≤ x.until_)) := by
      have := HC.out
      rw [show (x.want.hold.toList == []) = false by simp [hh], Bool.false_or] at this
      exact this
    go_enter Try.func40, Try.ntmps40
    go_wp2_with fail
    go_ret
    exact ⟨ret_bool (by rw [HD.out]; simp [hh]), by go_grown⟩

end Go.Proofs.Ytalnkbocfhhjkaa
