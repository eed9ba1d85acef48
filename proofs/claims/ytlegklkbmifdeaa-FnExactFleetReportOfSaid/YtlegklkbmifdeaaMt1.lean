/-
  Names, numbers, holds and states of the mates, both sides. Made by mkmt1.py.
-/
import Derived.Test.YtlegklkbmifdeaaRn
import Derived.Test.YtlegklkbmifdeaaBlk
import Derived.Laws.Cover1
namespace Go.Proofs.Ytlegklkbmifdeaa
open Go.RowKit

theorem bt_ne {a b : ByteArray} (h : ¬ a = b) : (a.toList == b.toList) = false := by
  rw [ByteArray.toList_eq, ByteArray.toList_eq]
  have : ¬ a.data.toList = b.data.toList := fun e => h (by
    cases a with | mk x => cases b with | mk y => cases x; cases y; simp at e; simp [e])
  simpa using this

theorem bt_eq {a b : ByteArray} (h : a = b) : (a.toList == b.toList) = true := by subst h; simp

/-- a number between two -/
def inR (n a b : Int) : Bool := decide (a ≤ n) && decide (n ≤ b)

theorem inR_yes {n a b : Int} (h : a ≤ n) (h2 : n ≤ b) : inR n a b = true := by simp [inR, h, h2]
theorem inR_lo {n a b : Int} (h : n < a) : inR n a b = false := by simp [inR]; intro; omega
theorem inR_hi {n a b : Int} (h : b < n) : inR n a b = false := by simp [inR]; intro; omega

set_option maxHeartbeats 400000 in
theorem in10_any (n a b : Int) (w : World) :
    Calls Try.prog 35 #[.int .i64 n, .int .i64 a, .int .i64 b] w fun e w' => e = .returned (.bool (inR n a b)) ∧ w' = w := by
  by_cases h1 : a ≤ n
  · by_cases h2 : n ≤ b
    · have HC : Hid (inR n a b = true) := inR_yes h1 h2
      go_enter Try.func35, Try.ntmps35
      go_wp2_with fail
      go_ret
      exact ⟨ret_bool HC.out.symm, rfl⟩
    · have h2' : b < n := by omega
      have HC : Hid (inR n a b = false) := inR_hi h2'
      clear h2
      go_enter Try.func35, Try.ntmps35
      go_wp2_with fail
      go_ret
      exact ⟨ret_bool (by rw [HC.out]; simp; omega), rfl⟩
  · have h1' : n < a := by omega
    have HC : Hid (inR n a b = false) := inR_lo h1'
    clear h1
    go_enter Try.func35, Try.ntmps35
    go_wp2_with fail
    go_ret
    exact ⟨ret_bool HC.out.symm, rfl⟩

set_option maxHeartbeats 400000 in
theorem isIn_any (n a b : Int) (w : World) :
    Calls Try.prog 66 #[.int .i64 n, .int .i64 a, .int .i64 b] w fun e w' => e = .returned (.bool (inR n a b)) ∧ w' = w := by
  by_cases h1 : a ≤ n
  · by_cases h2 : n ≤ b
    · have HC : Hid (inR n a b = true) := inR_yes h1 h2
      go_enter Try.func66, Try.ntmps66
      go_wp2_with fail
      go_ret
      exact ⟨ret_bool HC.out.symm, rfl⟩
    · have h2' : b < n := by omega
      have HC : Hid (inR n a b = false) := inR_hi h2'
      clear h2
      go_enter Try.func66, Try.ntmps66
      go_wp2_with fail
      go_ret
      exact ⟨ret_bool (by rw [HC.out]; simp; omega), rfl⟩
  · have h1' : n < a := by omega
    have HC : Hid (inR n a b = false) := inR_lo h1'
    clear h1
    go_enter Try.func66, Try.ntmps66
    go_wp2_with fail
    go_ret
    exact ⟨ret_bool HC.out.symm, rfl⟩

/-- a byte that is seen in print -/
def seen (c : UInt8) : Bool := decide (33 ≤ c.toNat ∧ c.toNat ≤ 126)

/-- a name of the mates -/
def nmB (s : ByteArray) : Bool := decide (1 ≤ s.size ∧ s.size ≤ 20) && s.data.toList.all seen

theorem nmB_size {s : ByteArray} (h : ¬ (1 ≤ s.size ∧ s.size ≤ 20)) : nmB s = false := by
  unfold nmB
  rw [decide_eq_false h, Bool.false_and]

theorem nmB_yes {s : ByteArray} (h : 1 ≤ s.size ∧ s.size ≤ 20) (hl : (s.data.toList.take s.size).all seen = true) : nmB s = true := by
  unfold nmB
  rw [List.take_of_length_le (by simp)] at hl
  rw [decide_eq_true h, hl]; rfl

theorem nmB_no {s : ByteArray} {k : Nat} (hk : k < s.size) (h : seen s[k] = false) : nmB s = false := by
  unfold nmB
  have : s.data.toList.all seen = false := by
    rw [List.all_eq_false]
    exact ⟨s[k], by simp [ByteArray.getElem_eq_getElem_data], by simp [h]⟩
  rw [this, Bool.and_false]

theorem take_snocB (s : ByteArray) (k : Nat) (h : k < s.size) : s.data.toList.take (k + 1) = s.data.toList.take k ++ [s[k]] := by
  have hl : k < s.data.toList.length := by simpa using h
  rw [List.take_add_one, List.getElem?_eq_getElem hl]
  rfl

/-- a hold -/
def hdB (s : ByteArray) : Bool := nmB s && !(s.toList == [42])

set_option maxHeartbeats 1000000 in
theorem name10_any (s : ByteArray) (w : World) (hs : s.size ≤ maxLen) :
    Calls Try.prog 34 #[.string s] w fun e w' => e = .returned (.bool (nmB s)) ∧ w' = w := by
  unfold maxLen at hs
  by_cases hsz : 1 ≤ s.size ∧ s.size ≤ 20
  · obtain ⟨h1, h2⟩ := hsz
    have hin : inR s.size 1 20 = true := inR_yes (by omega) (by omega)
    go_enter Try.func34, Try.ntmps34
    go_wp2_with (go_at_call 35; refine (in10_any _ _ _ _).mono ?_; rintro e w' ⟨rfl, rfl⟩; rw [hin])
    go_loop [3] (fun i => ∃ k : Nat, k ≤ s.size ∧ i = .int .i64 k ∧ Hid ((s.data.toList.take k).all seen = true)) (fun i => s.size - (intOf i).toNat)
    case atStart => exact ⟨0, Nat.zero_le _, rfl, rfl⟩
    case round =>
      obtain ⟨k, hk, rfl, HA⟩ := hrel
      by_cases hlt : k < s.size
      · have hc : s[k].toNat < 256 := s[k].toNat_lt
        by_cases c1 : s[k].toNat < 33
        · have HN : Hid (nmB s = false) := nmB_no hlt (by unfold seen; simp; omega)
          have i1 : ((s[k].toNat : Int)) < 33 := by omega
          go_wp2_with fail
          go_ret
          exact ⟨ret_bool HN.out.symm, rfl⟩
        · have i1 : (33 : Int) ≤ (s[k].toNat : Int) := by omega
          by_cases c2 : 126 < s[k].toNat
          · have HN : Hid (nmB s = false) := nmB_no hlt (by unfold seen; simp; omega)
            have i2 : (126 : Int) < (s[k].toNat : Int) := by omega
            clear c1
            go_wp2_with fail
            go_ret
            exact ⟨ret_bool HN.out.symm, rfl⟩
          · have HL : Hid (seen s[k] = true) := by show _ = _; unfold seen; simp; omega
            have i2 : (s[k].toNat : Int) ≤ 126 := by omega
            have HT : Hid ((s.data.toList.take (k + 1)).all seen = true) := by
              show _ = true
              rw [take_snocB s k hlt, List.all_append, HA.out]; simp [HL.out]
            clear c1 c2
            go_wp2_with fail
            go_round
            case rel => exact ⟨k + 1, by omega, by go_num, HT⟩
            case measure => simp [intOf]; omega
      · go_wp2_with fail
        go_ret
        have hke : k = s.size := by omega
        exact ⟨ret_bool (nmB_yes ⟨h1, h2⟩ (by rw [← hke]; exact HA.out)).symm, rfl⟩
  · have hin : inR s.size 1 20 = false := by
      by_cases h : (s.size : Int) < 1
      · exact inR_lo h
      · exact inR_hi (by omega)
    have HN : Hid (nmB s = false) := nmB_size hsz
    clear hsz
    go_enter Try.func34, Try.ntmps34
    go_wp2_with (go_at_call 35; refine (in10_any _ _ _ _).mono ?_; rintro e w' ⟨rfl, rfl⟩; rw [hin])
    go_ret
    exact ⟨ret_bool HN.out.symm, rfl⟩

set_option maxHeartbeats 1000000 in
theorem mname_any (s : ByteArray) (w : World) (hs : s.size ≤ maxLen) :
    Calls Try.prog 65 #[.string s] w fun e w' => e = .returned (.bool (nmB s)) ∧ w' = w := by
  unfold maxLen at hs
  by_cases hsz : 1 ≤ s.size ∧ s.size ≤ 20
  · obtain ⟨h1, h2⟩ := hsz
    have hin : inR s.size 1 20 = true := inR_yes (by omega) (by omega)
    go_enter Try.func65, Try.ntmps65
    go_wp2_with (go_at_call 66; refine (isIn_any _ _ _ _).mono ?_; rintro e w' ⟨rfl, rfl⟩; rw [hin])
    go_loop [10] (fun i => ∃ k : Nat, k ≤ s.size ∧ i = .int .i64 k ∧ Hid ((s.data.toList.take k).all seen = true)) (fun i => s.size - (intOf i).toNat)
    case atStart => exact ⟨0, Nat.zero_le _, rfl, rfl⟩
    case round =>
      obtain ⟨k, hk, rfl, HA⟩ := hrel
      by_cases hlt : k < s.size
      · have hc : s[k].toNat < 256 := s[k].toNat_lt
        by_cases c1 : s[k].toNat < 33
        · have HN : Hid (nmB s = false) := nmB_no hlt (by unfold seen; simp; omega)
          have i1 : ((s[k].toNat : Int)) < 33 := by omega
          go_wp2_with fail
          go_ret
          exact ⟨ret_bool HN.out.symm, rfl⟩
        · have i1 : (33 : Int) ≤ (s[k].toNat : Int) := by omega
          by_cases c2 : 126 < s[k].toNat
          · have HN : Hid (nmB s = false) := nmB_no hlt (by unfold seen; simp; omega)
            have i2 : (126 : Int) < (s[k].toNat : Int) := by omega
            clear c1
            go_wp2_with fail
            go_ret
            exact ⟨ret_bool HN.out.symm, rfl⟩
          · have HL : Hid (seen s[k] = true) := by show _ = _; unfold seen; simp; omega
            have i2 : (s[k].toNat : Int) ≤ 126 := by omega
            have HT : Hid ((s.data.toList.take (k + 1)).all seen = true) := by
              show _ = true
              rw [take_snocB s k hlt, List.all_append, HA.out]; simp [HL.out]
            clear c1 c2
            go_wp2_with fail
            go_round
            case rel => exact ⟨k + 1, by omega, by go_num, HT⟩
            case measure => simp [intOf]; omega
      · go_wp2_with fail
        go_ret
        have hke : k = s.size := by omega
        exact ⟨ret_bool (nmB_yes ⟨h1, h2⟩ (by rw [← hke]; exact HA.out)).symm, rfl⟩
  · have hin : inR s.size 1 20 = false := by
      by_cases h : (s.size : Int) < 1
      · exact inR_lo h
      · exact inR_hi (by omega)
    have HN : Hid (nmB s = false) := nmB_size hsz
    clear hsz
    go_enter Try.func65, Try.ntmps65
    go_wp2_with (go_at_call 66; refine (isIn_any _ _ _ _).mono ?_; rintro e w' ⟨rfl, rfl⟩; rw [hin])
    go_ret
    exact ⟨ret_bool HN.out.symm, rfl⟩

set_option maxHeartbeats 400000 in
theorem hold10_any (s : ByteArray) (w : World) (hs : s.size ≤ maxLen) :
    Calls Try.prog 56 #[.string s] w fun e w' => e = .returned (.bool (hdB s)) ∧ w' = w := by
  have HC : Hid (hdB s = (nmB s && !(s.toList == [42]))) := rfl
  generalize hdB s = D at *
  go_enter Try.func56, Try.ntmps56
  go_wp2_with fail
  refine (name10_any s _ hs).mono ?_
  rintro e w1 ⟨rfl, rfl⟩
  cases h : nmB s with
  | false =>
    rw [h] at HC
    go_wp2_with fail
    go_ret
    exact ⟨ret_bool HC.out.symm, rfl⟩
  | true =>
    rw [h] at HC
    go_wp2_with fail
    go_ret
    refine ⟨ret_bool ?_, rfl⟩
    rw [HC.out]
    simp

set_option maxHeartbeats 400000 in
theorem mhold_any (s : ByteArray) (w : World) (hs : s.size ≤ maxLen) :
    Calls Try.prog 81 #[.string s] w fun e w' => e = .returned (.bool (hdB s)) ∧ w' = w := by
  have HC : Hid (hdB s = (nmB s && !(s.toList == [42]))) := rfl
  generalize hdB s = D at *
  go_enter Try.func81, Try.ntmps81
  go_wp2_with fail
  refine (mname_any s _ hs).mono ?_
  rintro e w1 ⟨rfl, rfl⟩
  cases h : nmB s with
  | false =>
    rw [h] at HC
    go_wp2_with fail
    go_ret
    exact ⟨ret_bool HC.out.symm, rfl⟩
  | true =>
    rw [h] at HC
    go_wp2_with fail
    go_ret
    refine ⟨ret_bool ?_, rfl⟩
    rw [HC.out]
    simp

/-- a want looked at alone -/
def wnB (x : Wnt) : Bool := nmB x.copy && inR x.version 1 1000000 && (x.hold.toList == [] || hdB x.hold) && inR x.pull 0 100 && inR x.start 0 100 && inR x.dies 0 100 && inR x.grace 0 100

set_option maxHeartbeats 400000 in
theorem isTicks_any (n : Int) (w : World) :
    Calls Try.prog 98 #[.int .i64 n] w fun e w' => e = .returned (.bool (inR n 0 100)) ∧ w' = w := by
  go_enter Try.func98, Try.ntmps98
  go_wp2_with fail
  refine (isIn_any _ _ _ _).mono ?_
  rintro e w1 ⟨rfl, rfl⟩
  go_wp2_with fail
  go_ret
  exact ⟨rfl, rfl⟩

/-- alive, by its state -/
def alB (s : Int) : Bool := decide (s = 3) || (decide (s = 4) || decide (s = 6))

theorem alB_no {s : Int} (h3 : ¬ s = 3) (h4 : ¬ s = 4) (h6 : ¬ s = 6) : alB s = false := by simp [alB, h3, h4, h6]

set_option maxHeartbeats 400000 in
theorem salive_any (s : Int) (w : World) :
    Calls Try.prog 93 #[.int .i64 s] w fun e w' => e = .returned (.bool (alB s)) ∧ w' = w := by
  by_cases h3 : s = 3
  · subst h3
    go_enter Try.func93, Try.ntmps93
    go_wp2_with fail
    go_ret
    exact ⟨rfl, rfl⟩
  by_cases h4 : s = 4
  · subst h4
    clear h3
    go_enter Try.func93, Try.ntmps93
    go_wp2_with fail
    go_ret
    exact ⟨rfl, rfl⟩
  by_cases h6 : s = 6
  · subst h6
    clear h3 h4
    go_enter Try.func93, Try.ntmps93
    go_wp2_with fail
    go_ret
    exact ⟨rfl, rfl⟩
  have HC : Hid (alB s = false) := alB_no h3 h4 h6
  have HD : Hid ((s == 3 || s == 4 || s == 6) = false) := by show _ = _; simp [h3, h4, h6]
  generalize alB s = D at *

  go_enter Try.func93, Try.ntmps93
  go_wp2_with fail
  go_ret
  exact ⟨ret_bool (HD.out.trans HC.out.symm), rfl⟩

set_option maxHeartbeats 1000000 in
theorem specAlive_any (x : Rn) (w : World) :
    Calls Try.prog 40 #[.agg #[.string x.want.copy, .int .i64 x.want.version, .string x.want.hold, .int .i64 x.want.pull, .int .i64 x.want.start, .int .i64 x.want.dies, .int .i64 x.want.grace, .int .i64 x.state, .int .i64 x.left, .int .i64 x.falls, .int .i64 x.until_]] w fun e w' => e = .returned (.bool (alB x.state)) ∧ Below w.heap.size w w' := by
  generalize x.state = s
  by_cases h3 : s = 3
  · subst h3
    go_enter Try.func40, Try.ntmps40
    go_wp2_with fail
    go_ret
    exact ⟨rfl, by go_grown⟩
  by_cases h4 : s = 4
  · subst h4
    clear h3
    go_enter Try.func40, Try.ntmps40
    go_wp2_with fail
    go_ret
    exact ⟨rfl, by go_grown⟩
  by_cases h6 : s = 6
  · subst h6
    clear h3 h4
    go_enter Try.func40, Try.ntmps40
    go_wp2_with fail
    go_ret
    exact ⟨rfl, by go_grown⟩
  have HC : Hid (alB s = false) := alB_no h3 h4 h6
  have HD : Hid ((s == 3 || s == 4 || s == 6) = false) := by show _ = _; simp [h3, h4, h6]
  generalize alB s = D at *

  go_enter Try.func40, Try.ntmps40
  go_wp2_with fail
  go_ret
  exact ⟨ret_bool (HD.out.trans HC.out.symm), by go_grown⟩

set_option maxHeartbeats 2000000 in
theorem runOf_any (x : Rn) (w : World) :
    Calls Try.prog 77 #[.agg #[.string x.want.copy, .int .i64 x.want.version, .string x.want.hold, .int .i64 x.want.pull, .int .i64 x.want.start, .int .i64 x.want.dies, .int .i64 x.want.grace, .int .i64 x.state, .int .i64 x.left, .int .i64 x.falls, .int .i64 x.until_]] w fun e w' => e = .returned (.agg #[.string x.want.copy, .int .i64 x.want.version, .string x.want.hold, .int .i64 x.want.pull, .int .i64 x.want.start, .int .i64 x.want.dies, .int .i64 x.want.grace, .int .i64 x.state, .int .i64 x.left, .int .i64 x.falls, .int .i64 x.until_]) ∧ Below w.heap.size w w' := by
  go_enter Try.func77, Try.ntmps77
  go_wp2
  go_returns
  exact ⟨rfl, by go_grown⟩

set_option maxHeartbeats 1000000 in
theorem ralive_any (x : Rn) (w : World) :
    Calls Try.prog 83 #[.agg #[.string x.want.copy, .int .i64 x.want.version, .string x.want.hold, .int .i64 x.want.pull, .int .i64 x.want.start, .int .i64 x.want.dies, .int .i64 x.want.grace, .int .i64 x.state, .int .i64 x.left, .int .i64 x.falls, .int .i64 x.until_]] w fun e w' => e = .returned (.bool (alB x.state)) ∧ Below w.heap.size w w' := by
  go_enter Try.func83, Try.ntmps83
  go_wp2_with fail
  refine (salive_any _ _).mono ?_
  rintro e w1 ⟨rfl, rfl⟩
  go_wp2_with fail
  go_ret
  exact ⟨rfl, by go_grown⟩

set_option maxHeartbeats 1000000 in
theorem implAlive_any (x : Rn) (w : World) :
    Calls Try.prog 71 #[.agg #[.string x.want.copy, .int .i64 x.want.version, .string x.want.hold, .int .i64 x.want.pull, .int .i64 x.want.start, .int .i64 x.want.dies, .int .i64 x.want.grace, .int .i64 x.state, .int .i64 x.left, .int .i64 x.falls, .int .i64 x.until_]] w fun e w' => e = .returned (.bool (alB x.state)) ∧ Below w.heap.size w w' := by
  go_enter Try.func71, Try.ntmps71
  go_wp2_with fail
  refine (runOf_any x _).mono ?_
  rintro e w1 ⟨rfl, hb1⟩
  have hB1 : Below w.heap.size w w1 := (show Below w.heap.size w _ by go_grown).trans (hb1.mono (by simp))
  clear hb1
  go_wp2_with fail
  refine (ralive_any x _).mono ?_
  rintro e w2 ⟨rfl, hb2⟩
  have hB2 : Below w.heap.size w w2 := hB1.trans (hb2.mono hB1.size)
  clear hb2
  go_wp2_with fail
  go_ret
  exact ⟨rfl, hB2⟩

end Go.Proofs.Ytlegklkbmifdeaa
