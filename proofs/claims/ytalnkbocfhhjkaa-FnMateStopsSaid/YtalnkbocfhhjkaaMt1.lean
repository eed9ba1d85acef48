/-
  Names, numbers, holds and states of the mates, both sides. Made by mkmt1.py.
-/
import Derived.Test.YtalnkbocfhhjkaaRn
import Derived.Test.YtalnkbocfhhjkaaBlk
import Derived.Laws.Cover1
namespace Go.Proofs.Ytalnkbocfhhjkaa
open Go.RowKit

theorem bt_ne {a b : ByteArray} (h : ¬ a = b) : (a.toList == b.toList) = false := by
  rw [ByteArray.toList_eq, ByteArray.toList_eq]
  have : ¬ a.data.toList = b.data.toList := fun e => h (by
    cases a with | mk x => cases b with | mk y => cases x; cases y; simp at e; simp [e])
  simpa using this

theorem bt_eq {a b : ByteArray} (h : a = b) : (a.toList == b.toList) = true := by subst h; simp

/-- a number between two -/
def inR (n a b : Int) : Bool := decide (a ≤ n) && decide (n ≤ b)

theorem inR_yes {n a b : Int} (h : a ≤ n) (h2 : n ≤ b) : inR n a b = true := by simp [inR, h, h2]
theorem inR_lo {n a b : Int} (h : n < a) : inR n a b = false := by simp [inR]; intro; omega
theorem inR_hi {n a b : Int} (h : b < n) : inR n a b = false := by simp [inR]; intro; omega

/-- a byte that is seen in print -/
def seen (c : UInt8) : Bool := decide (33 ≤ c.toNat ∧ c.toNat ≤ 126)

/-- a name of the mates -/
def nmB (s : ByteArray) : Bool := decide (1 ≤ s.size ∧ s.size ≤ 20) && s.data.toList.all seen

theorem nmB_size {s : ByteArray} (h : ¬ (1 ≤ s.size ∧ s.size ≤ 20)) : nmB s = false := by
  unfold nmB
  rw [decide_eq_false h, Bool.false_and]

theorem nmB_yes {s : ByteArray} (h : 1 ≤ s.size ∧ s.size ≤ 20) (hl : (s.data.toList.take s.size).all seen = true) : nmB s = true := by
  unfold nmB
  rw [List.take_of_length_le (by simp)] at hl
  rw [decide_eq_true h, hl]; rfl

theorem nmB_no {s : ByteArray} {k : Nat} (hk : k < s.size) (h : seen s[k] = false) : nmB s = false := by
  unfold nmB
  have : s.data.toList.all seen = false := by
    rw [List.all_eq_false]
    exact ⟨s[k], by simp [ByteArray.getElem_eq_getElem_data], by simp [h]⟩
  rw [this, Bool.and_false]

theorem take_snocB (s : ByteArray) (k : Nat) (h : k < s.size) : s.data.toList.take (k + 1) = s.data.toList.take k ++ [s[k]] := by
  have hl : k < s.data.toList.length := by simpa using h
  rw [List.take_add_one, List.getElem?_eq_getElem hl]
  rfl

/-- a hold -/
def hdB (s : ByteArray) : Bool := nmB s && !(s.toList == [42])

/-- a want looked at alone -/
def wnB (x : Wnt) : Bool := nmB x.copy && inR x.version 1 1000000 && (x.hold.toList == [] || hdB x.hold) && inR x.pull 0 100 && inR x.start 0 100 && inR x.dies 0 100 && inR x.grace 0 100

/-- alive, by its state -/
def alB (s : Int) : Bool := decide (s = 3) || (decide (s = 4) || decide (s = 6))

theorem alB_no {s : Int} (h3 : ¬ s = 3) (h4 : ¬ s = 4) (h6 : ¬ s = 6) : alB s = false := by simp [alB, h3, h4, h6]

set_option maxHeartbeats 400000 in
theorem salive_any (s : Int) (w : World) :
    Calls Try.prog 38 #[.int .i64 s] w fun e w' => e = .returned (.bool (alB s)) ∧ w' = w := by
  by_cases h3 : s = 3
  · subst h3
    go_enter Try.func38, Try.ntmps38
    go_wp2_with fail
    go_ret
    exact ⟨rfl, rfl⟩
  by_cases h4 : s = 4
  · subst h4
    clear h3
    go_enter Try.func38, Try.ntmps38
    go_wp2_with fail
    go_ret
    exact ⟨rfl, rfl⟩
  by_cases h6 : s = 6
  · subst h6
    clear h3 h4
    go_enter Try.func38, Try.ntmps38
    go_wp2_with fail
    go_ret
    exact ⟨rfl, rfl⟩
  have HC : Hid (alB s = false) := alB_no h3 h4 h6
  have HD : Hid ((s == 3 || s == 4 || s == 6) = false) := by show _ = _; simp [h3, h4, h6]
  generalize alB s = D at *

  go_enter Try.func38, Try.ntmps38
  go_wp2_with fail
  go_ret
  exact ⟨ret_bool (HD.out.trans HC.out.symm), rfl⟩

set_option maxHeartbeats 1000000 in
theorem specAlive_any (x : Rn) (w : World) :
    Calls Try.prog 15 #[.agg #[.string x.want.copy, .int .i64 x.want.version, .string x.want.hold, .int .i64 x.want.pull, .int .i64 x.want.start, .int .i64 x.want.dies, .int .i64 x.want.grace, .int .i64 x.state, .int .i64 x.left, .int .i64 x.falls, .int .i64 x.until_]] w fun e w' => e = .returned (.bool (alB x.state)) ∧ Below w.heap.size w w' := by
  generalize x.state = s
  by_cases h3 : s = 3
  · subst h3
    go_enter Try.func15, Try.ntmps15
    go_wp2_with fail
    go_ret
    exact ⟨rfl, by go_grown⟩
  by_cases h4 : s = 4
  · subst h4
    clear h3
    go_enter Try.func15, Try.ntmps15
    go_wp2_with fail
    go_ret
    exact ⟨rfl, by go_grown⟩
  by_cases h6 : s = 6
  · subst h6
    clear h3 h4
    go_enter Try.func15, Try.ntmps15
    go_wp2_with fail
    go_ret
    exact ⟨rfl, by go_grown⟩
  have HC : Hid (alB s = false) := alB_no h3 h4 h6
  have HD : Hid ((s == 3 || s == 4 || s == 6) = false) := by show _ = _; simp [h3, h4, h6]
  generalize alB s = D at *

  go_enter Try.func15, Try.ntmps15
  go_wp2_with fail
  go_ret
  exact ⟨ret_bool (HD.out.trans HC.out.symm), by go_grown⟩

set_option maxHeartbeats 2000000 in
theorem runOf_any (x : Rn) (w : World) :
    Calls Try.prog 12 #[.agg #[.string x.want.copy, .int .i64 x.want.version, .string x.want.hold, .int .i64 x.want.pull, .int .i64 x.want.start, .int .i64 x.want.dies, .int .i64 x.want.grace, .int .i64 x.state, .int .i64 x.left, .int .i64 x.falls, .int .i64 x.until_]] w fun e w' => e = .returned (.agg #[.string x.want.copy, .int .i64 x.want.version, .string x.want.hold, .int .i64 x.want.pull, .int .i64 x.want.start, .int .i64 x.want.dies, .int .i64 x.want.grace, .int .i64 x.state, .int .i64 x.left, .int .i64 x.falls, .int .i64 x.until_]) ∧ Below w.heap.size w w' := by
  go_enter Try.func12, Try.ntmps12
  go_wp2
  go_returns
  exact ⟨rfl, by go_grown⟩

set_option maxHeartbeats 1000000 in
theorem ralive_any (x : Rn) (w : World) :
    Calls Try.prog 27 #[.agg #[.string x.want.copy, .int .i64 x.want.version, .string x.want.hold, .int .i64 x.want.pull, .int .i64 x.want.start, .int .i64 x.want.dies, .int .i64 x.want.grace, .int .i64 x.state, .int .i64 x.left, .int .i64 x.falls, .int .i64 x.until_]] w fun e w' => e = .returned (.bool (alB x.state)) ∧ Below w.heap.size w w' := by
  go_enter Try.func27, Try.ntmps27
  go_wp2_with fail
  refine (salive_any _ _).mono ?_
  rintro e w1 ⟨rfl, rfl⟩
  go_wp2_with fail
  go_ret
  exact ⟨rfl, by go_grown⟩

end Go.Proofs.Ytalnkbocfhhjkaa
