/-
  Numbers and lists of numbers compared.
-/
import Derived.Test.YtlonkhcbmminoaaIns
namespace Go.Proofs.Ytlonkhcbmminoaa
open Go.RowKit

def cmpI (a b : Int) : Int := if a < b then -1 else if b < a then 1 else 0

def cmpL : List Int → List Int → Int
  | [], [] => 0
  | [], _ :: _ => -1
  | _ :: _, [] => 1
  | a :: r, b :: s => if a = b then cmpL r s else cmpI a b

def lessL : List Int → List Int → Bool
  | [], [] => false
  | [], _ :: _ => true
  | _ :: _, [] => false
  | a :: r, b :: s => if a = b then lessL r s else decide (a < b)

theorem less_cmp : ∀ (a b : List Int), decide (cmpL a b < 0) = lessL a b
  | [], [] => by simp [cmpL, lessL]
  | [], _ :: _ => by simp [cmpL, lessL]
  | _ :: _, [] => by simp [cmpL, lessL]
  | a :: r, b :: s => by
    by_cases h : a = b
    · simp only [cmpL, lessL, h, if_pos]
      exact less_cmp r s
    · simp only [cmpL, lessL, if_neg h]
      congr 1
      unfold cmpI
      by_cases h1 : a < b
      · simp [h1]
      · have : b < a := by omega
        simp [h1, this]

theorem cmpI_zero (a b : Int) : cmpI a b = 0 ↔ a = b := by
  unfold cmpI
  by_cases h1 : a < b
  · rw [if_pos h1]
    constructor <;> intro h <;> omega
  · rw [if_neg h1]
    by_cases h2 : b < a
    · rw [if_pos h2]
      constructor <;> intro h <;> omega
    · rw [if_neg h2]
      constructor <;> intro h <;> omega

theorem cmpL_drop {xs ys : List Int} {k : Nat} {x y : Int} (hx : xs[k]? = some x) (hy : ys[k]? = some y) : cmpL (xs.drop k) (ys.drop k) = if x = y then cmpL (xs.drop (k + 1)) (ys.drop (k + 1)) else cmpI x y := by
  have h1 := lt_of_some hx
  have h2 := lt_of_some hy
  rw [List.drop_eq_getElem_cons h1, List.drop_eq_getElem_cons h2]
  rw [List.getElem?_eq_getElem h1] at hx
  rw [List.getElem?_eq_getElem h2] at hy
  cases hx
  cases hy
  rfl

theorem lessL_drop {xs ys : List Int} {k : Nat} {x y : Int} (hx : xs[k]? = some x) (hy : ys[k]? = some y) : lessL (xs.drop k) (ys.drop k) = if x = y then lessL (xs.drop (k + 1)) (ys.drop (k + 1)) else decide (x < y) := by
  have h1 := lt_of_some hx
  have h2 := lt_of_some hy
  rw [List.drop_eq_getElem_cons h1, List.drop_eq_getElem_cons h2]
  rw [List.getElem?_eq_getElem h1] at hx
  rw [List.getElem?_eq_getElem h2] at hy
  cases hx
  cases hy
  rfl

theorem cmpL_end {xs ys : List Int} {k : Nat} (h : xs.length = k) (hy : k ≤ ys.length) : cmpL (xs.drop k) (ys.drop k) = if k < ys.length then -1 else 0 := by
  rw [List.drop_eq_nil_of_le (by omega)]
  by_cases h1 : k < ys.length
  · rw [List.drop_eq_getElem_cons h1, if_pos h1]
    rfl
  · rw [List.drop_eq_nil_of_le (by omega), if_neg h1]
    rfl

theorem cmpL_over {xs ys : List Int} {k : Nat} (h : k < xs.length) (hy : ys.length ≤ k) : cmpL (xs.drop k) (ys.drop k) = 1 := by
  rw [List.drop_eq_getElem_cons h, List.drop_eq_nil_of_le hy]
  rfl

theorem lessL_end {xs ys : List Int} {k : Nat} (hk : k ≤ xs.length) (hy : k ≤ ys.length) (h : xs.length = k ∨ ys.length = k) : lessL (xs.drop k) (ys.drop k) = decide (xs.length < ys.length) := by
  by_cases h1 : k < ys.length
  · have hx : xs.length = k := by omega
    rw [List.drop_eq_nil_of_le (by omega), List.drop_eq_getElem_cons h1]
    simp only [lessL]
    exact (decide_eq_true (by omega)).symm
  · have hy' : ys.length = k := by omega
    have e : ys.drop k = [] := List.drop_eq_nil_of_le (by omega)
    rw [e]
    by_cases h2 : k < xs.length
    · rw [List.drop_eq_getElem_cons h2]
      simp only [lessL]
      exact (decide_eq_false (by omega)).symm
    · rw [List.drop_eq_nil_of_le (by omega)]
      simp only [lessL]
      exact (decide_eq_false (by omega)).symm

set_option maxHeartbeats 1000000 in
theorem isNaN_any (a : Int) (w : World) :
    Calls Try.prog 10 #[.int .i64 a] w fun e w' => e = .returned (.bool false) ∧ w' = w := by
  go_enter Try.func10, Try.ntmps10
  go_wp2
  go_ret
  exact ⟨rfl, rfl⟩

set_option maxHeartbeats 1000000 in
theorem compare_any (a b : Int) (w : World) :
    Calls Try.prog 9 #[.int .i64 a, .int .i64 b] w fun e w' => e = .returned (.int .i64 (cmpI a b)) ∧ w' = w := by
  by_cases h1 : a < b
  · go_enter Try.func9, Try.ntmps9
    go_wp2_with (first | (go_at_call 10; refine (isNaN_any _ _).mono ?_; rintro e w' ⟨rfl, rfl⟩))
    go_ret
    exact ⟨ret_int (by unfold cmpI; rw [if_pos h1]), rfl⟩
  by_cases h2 : b < a
  · go_enter Try.func9, Try.ntmps9
    go_wp2_with (first | (go_at_call 10; refine (isNaN_any _ _).mono ?_; rintro e w' ⟨rfl, rfl⟩))
    go_ret
    exact ⟨ret_int (by unfold cmpI; rw [if_neg (by omega), if_pos h2]), rfl⟩
  · go_enter Try.func9, Try.ntmps9
    go_wp2_with (first | (go_at_call 10; refine (isNaN_any _ _).mono ?_; rintro e w' ⟨rfl, rfl⟩))
    go_ret
    exact ⟨ret_int (by unfold cmpI; rw [if_neg (by omega), if_neg (by omega)]), rfl⟩

set_option maxHeartbeats 1000000 in
theorem compareS_any (xs ys : List Int) (a a' : Option Addr) (cap cap' lo lo' : Nat) (w : World) (hg : SliceC IntC 1 lo w a xs) (hh : SliceC IntC 1 lo' w a' ys) :
    Calls Try.prog 8 #[.slice a xs.length cap, .slice a' ys.length cap'] w fun e w' => e = .returned (.int .i64 (cmpL xs ys)) ∧ Below w.heap.size w w' := by
  have hl1 := hg.1
  have hl2 := hh.1
  unfold maxLen at hl1 hl2
  have HG : Hid (SliceC IntC 1 lo w a xs) := hg
  have HH : Hid (SliceC IntC 1 lo' w a' ys) := hh
  clear hg hh
  go_enter Try.func8, Try.ntmps8
  go_wp2_with fail
  go_loopw [11] (fun i wr => ∃ (k : Nat), k ≤ xs.length ∧ k ≤ ys.length ∧ i = .int .i64 k ∧ Hid (cmpL xs ys = cmpL (xs.drop k) (ys.drop k)) ∧ wr = w) (fun i _ => xs.length - (intOf i).toNat)
  case atStart => exact ⟨0, Nat.zero_le _, Nat.zero_le _, rfl, by show _ = _; simp, rfl⟩
  case round =>
    obtain ⟨k, hk, hk2, rfl, hrest, rfl⟩ := hrel
    by_cases hlt : k < xs.length
    · obtain ⟨x, hx⟩ : ∃ x, xs[k]? = some x := ⟨xs[k], List.getElem?_eq_getElem hlt⟩
      obtain ⟨b, o, rfl, _, _, hc⟩ := HG.out.at hx
      have r0 : _ = _ := hc
      simp only [Nat.mul_one, Nat.add_zero] at r0
      by_cases hlt2 : k < ys.length
      · obtain ⟨y, hy⟩ : ∃ y, ys[k]? = some y := ⟨ys[k], List.getElem?_eq_getElem hlt2⟩
        obtain ⟨b', o', rfl, _, _, hc'⟩ := HH.out.at hy
        have t0 : _ = _ := hc'
        simp only [Nat.mul_one, Nat.add_zero] at t0
        have HD : Hid (cmpL (xs.drop k) (ys.drop k) = if x = y then cmpL (xs.drop (k + 1)) (ys.drop (k + 1)) else cmpI x y) := cmpL_drop hx hy
        have HE : Hid (cmpI x y = 0 ↔ x = y) := cmpI_zero x y
        clear hx hy hc hc'
        by_cases he : cmpI x y = 0
        · go_wp2_with (first | (go_at_call 9; refine (compare_any _ _ _).mono ?_; rintro e w' ⟨rfl, rfl⟩))
          go_roundw
          case rel =>
            have h1 := HD.out
            rw [if_pos (HE.out.1 he)] at h1
            exact ⟨k + 1, by omega, by omega, by go_num, hrest.out.trans h1, trivial⟩
          case measure => simp [intOf]; omega
        · go_wp2_with (first | (go_at_call 9; refine (compare_any _ _ _).mono ?_; rintro e w' ⟨rfl, rfl⟩))
          go_ret
          have h1 := HD.out
          rw [if_neg (fun h => he (HE.out.2 h))] at h1
          exact ⟨ret_int (hrest.out.trans h1).symm, Below.refl _ _⟩
      · have HD : Hid (cmpL (xs.drop k) (ys.drop k) = 1) := cmpL_over hlt (by omega)
        clear hx hc
        go_wp2_with fail
        go_ret
        exact ⟨ret_int (hrest.out.trans HD.out).symm, Below.refl _ _⟩
    · have HD : Hid (cmpL (xs.drop k) (ys.drop k) = if k < ys.length then -1 else 0) := cmpL_end (by omega) hk2
      have hkx : k = xs.length := by omega
      by_cases hlt2 : k < ys.length
      · go_wp2_with fail
        go_ret
        have h1 := HD.out
        rw [if_pos hlt2] at h1
        exact ⟨ret_int (hrest.out.trans h1).symm, Below.refl _ _⟩
      · go_wp2_with fail
        go_ret
        have h1 := HD.out
        rw [if_neg hlt2] at h1
        exact ⟨ret_int (hrest.out.trans h1).symm, Below.refl _ _⟩

set_option maxHeartbeats 1000000 in
theorem specLess_any (xs ys : List Int) (a a' : Option Addr) (cap cap' lo lo' : Nat) (w : World) (hg : SliceC IntC 1 lo w a xs) (hh : SliceC IntC 1 lo' w a' ys) :
    Calls Try.prog 4 #[.slice a xs.length cap, .slice a' ys.length cap'] w fun e w' => e = .returned (.bool (lessL xs ys)) ∧ Below w.heap.size w w' := by
  have hl1 := hg.1
  have hl2 := hh.1
  unfold maxLen at hl1 hl2
  have HG : Hid (SliceC IntC 1 lo w a xs) := hg
  have HH : Hid (SliceC IntC 1 lo' w a' ys) := hh
  clear hg hh
  go_enter Try.func4, Try.ntmps4
  go_wp2_with fail
  go_loopw [5] (fun i wr => ∃ (k : Nat), k ≤ xs.length ∧ k ≤ ys.length ∧ i = .int .i64 k ∧ Hid (lessL xs ys = lessL (xs.drop k) (ys.drop k)) ∧ Below w.heap.size w wr) (fun i _ => xs.length - (intOf i).toNat)
  case atStart => exact ⟨0, Nat.zero_le _, Nat.zero_le _, rfl, by show _ = _; simp, Below.refl _ _⟩
  case round =>
    obtain ⟨k, hk, hk2, rfl, hrest, hbel⟩ := hrel
    by_cases hlt : k < xs.length
    · obtain ⟨x, hx⟩ : ∃ x, xs[k]? = some x := ⟨xs[k], List.getElem?_eq_getElem hlt⟩
      obtain ⟨b, o, rfl, _, _, hc⟩ := (HG.out.below IntC.holds hbel (Nat.le_refl _)).at hx
      have r0 : _ = _ := hc
      simp only [Nat.mul_one, Nat.add_zero] at r0
      by_cases hlt2 : k < ys.length
      · obtain ⟨y, hy⟩ : ∃ y, ys[k]? = some y := ⟨ys[k], List.getElem?_eq_getElem hlt2⟩
        obtain ⟨b', o', rfl, _, _, hc'⟩ := (HH.out.below IntC.holds hbel (Nat.le_refl _)).at hy
        have t0 : _ = _ := hc'
        simp only [Nat.mul_one, Nat.add_zero] at t0
        have HD : Hid (lessL (xs.drop k) (ys.drop k) = if x = y then lessL (xs.drop (k + 1)) (ys.drop (k + 1)) else decide (x < y)) := lessL_drop hx hy
        clear hx hy hc hc'
        by_cases he : x = y
        · subst he
          go_wp2_with fail
          go_region
          go_wp2_with fail
          go_roundw
          case rel =>
            have h1 := HD.out
            rw [if_pos trivial] at h1
            exact ⟨k + 1, by omega, by omega, by go_num, hrest.out.trans h1, by go_grown⟩
          case measure => simp [intOf]; omega
        · have h1 := HD.out
          rw [if_neg he] at h1
          have H1 : Hid (lessL xs ys = decide (x < y)) := hrest.out.trans h1
          clear h1
          go_wp2_with fail
          go_region
          go_wp2_with fail
          go_region
          go_wp2_with fail
          go_ret
          exact ⟨ret_bool H1.out.symm, by go_grown⟩
      · have HD : Hid (lessL (xs.drop k) (ys.drop k) = decide (xs.length < ys.length)) := lessL_end hk hk2 (by omega)
        clear hx hc
        go_wp2_with fail
        go_ret
        exact ⟨ret_bool (hrest.out.trans HD.out).symm, hbel⟩
    · have HD : Hid (lessL (xs.drop k) (ys.drop k) = decide (xs.length < ys.length)) := lessL_end hk hk2 (by omega)
      go_wp2_with fail
      go_ret
      exact ⟨ret_bool (hrest.out.trans HD.out).symm, hbel⟩

set_option maxHeartbeats 1000000 in
theorem implLess_any (xs ys : List Int) (a a' : Option Addr) (cap cap' lo lo' : Nat) (w : World) (hg : SliceC IntC 1 lo w a xs) (hh : SliceC IntC 1 lo' w a' ys) :
    Calls Try.prog 6 #[.slice a xs.length cap, .slice a' ys.length cap'] w fun e w' => e = .returned (.bool (lessL xs ys)) ∧ Below w.heap.size w w' := by
  have HG : Hid (SliceC IntC 1 lo w a xs) := hg
  have HH : Hid (SliceC IntC 1 lo' w a' ys) := hh
  clear hg hh
  have HL : Hid (decide (cmpL xs ys < 0) = lessL xs ys) := less_cmp xs ys
  go_enter Try.func6, Try.ntmps6
  go_wp2_with (first | (go_at_call 8; refine (compareS_any xs ys _ _ _ _ lo lo' _ HG.out HH.out).mono ?_; rintro e w' ⟨rfl, hb⟩))
  go_ret
  exact ⟨ret_bool HL.out, hb⟩

end Go.Proofs.Ytlonkhcbmminoaa
