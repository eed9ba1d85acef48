/-
  Several texts in one: ParA, Meth.
-/
import Derived.Test.YthjicahpfhjfdaaGreatDoorProg
import Derived.Test.YthjicahpfhjfdaaGreatDoorPure
import Derived.WalkKit
import Derived.Handy
namespace Go.Proofs.YthjicahpfhjfdaaGreatDoor
open Go.RowKit

theorem ret_bool {a b : Bool} (h : a = b) : Ending.returned (.bool a) = .returned (.bool b) := by rw [h]
theorem ret_int {k : IntKind} {a b : Int} (h : a = b) : Ending.returned (.int k a) = .returned (.int k b) := by rw [h]
theorem ret_str {a b : ByteArray} (h : a = b) : Ending.returned (.string a) = .returned (.string b) := by rw [h]

set_option maxHeartbeats 400000 in
theorem letter_any (c : UInt8) (w : World) :
    Calls Tryz.prog 46 #[.int .u8 c.toNat] w fun e w' => e = .returned (.bool (P.letter c)) ∧ w' = w := by
  have hc : c.toNat < 256 := c.toNat_lt
  have hn : P.letter c = decide (97 ≤ c.toNat ∧ c.toNat ≤ 122 ∨ 48 ≤ c.toNat ∧ c.toNat ≤ 57 ∨ c.toNat = 45 ∨ c.toNat = 95) := rfl
  generalize P.letter c = L at hn
  generalize c.toNat = n at *
  have HH : Hid (L = decide (97 ≤ n ∧ n ≤ 122 ∨ 48 ≤ n ∧ n ≤ 57 ∨ n = 45 ∨ n = 95)) := hn
  clear hn
  go_enter Tryz.func46, Tryz.ntmps46
  go_wp2
  all_goals go_ret
  all_goals refine ⟨ret_bool ?_, rfl⟩
  all_goals rw [HH.out, Bool.eq_iff_iff]
  all_goals simp
  all_goals omega

set_option maxHeartbeats 400000 in
theorem inName_any (c : UInt8) (w : World) :
    Calls Tryz.prog 67 #[.int .u8 c.toNat] w fun e w' => e = .returned (.bool (P.letter c)) ∧ w' = w := by
  have hc : c.toNat < 256 := c.toNat_lt
  have hn : P.letter c = decide (97 ≤ c.toNat ∧ c.toNat ≤ 122 ∨ 48 ≤ c.toNat ∧ c.toNat ≤ 57 ∨ c.toNat = 45 ∨ c.toNat = 95) := rfl
  generalize P.letter c = L at hn
  generalize c.toNat = n at *
  have HH : Hid (L = decide (97 ≤ n ∧ n ≤ 122 ∨ 48 ≤ n ∧ n ≤ 57 ∨ n = 45 ∨ n = 95)) := hn
  clear hn
  go_enter Tryz.func67, Tryz.ntmps67
  go_wp2
  all_goals go_ret
  all_goals refine ⟨ret_bool ?_, rfl⟩
  all_goals rw [HH.out, Bool.eq_iff_iff]
  all_goals simp
  all_goals omega

def inB (n lo hi : Int) : Bool := decide (lo ≤ n ∧ n ≤ hi)

set_option maxHeartbeats 400000 in
theorem in_any (n lo hi : Int) (w : World) :
    Calls Tryz.prog 56 #[.int .i64 n, .int .i64 lo, .int .i64 hi] w fun e w' => e = .returned (.bool (inB n lo hi)) ∧ w' = w := by
  have HH : Hid (inB n lo hi = decide (lo ≤ n ∧ n ≤ hi)) := rfl
  generalize inB n lo hi = L at *
  go_enter Tryz.func56, Tryz.ntmps56
  go_wp2
  all_goals go_ret
  all_goals refine ⟨ret_bool ?_, rfl⟩
  all_goals rw [HH.out, Bool.eq_iff_iff]
  all_goals simp
  all_goals omega

def bindK (k : Int) : Int := if k = 5 then 1 else if k = 4 then 2 else 3

set_option maxHeartbeats 400000 in
theorem bind_any (k : Int) (w : World) :
    Calls Tryz.prog 35 #[.int .i64 k] w fun e w' => e = .returned (.int .i64 (bindK k)) ∧ w' = w := by
  have HH : Hid (bindK k = if k = 5 then 1 else if k = 4 then 2 else 3) := rfl
  generalize bindK k = L at *
  go_enter Tryz.func35, Tryz.ntmps35
  go_wp2
  all_goals go_ret
  all_goals refine ⟨ret_int ?_, rfl⟩
  all_goals rw [HH.out]
  all_goals first
    | (have h : (k == 5) = true := by assumption
       rw [if_pos (by simpa using h)])
    | (have h : (k == 4) = true := by assumption
       have h' : (k == 5) = false := by assumption
       rw [if_neg (by simpa using h'), if_pos (by simpa using h)])
    | (have h : (k == 4) = false := by assumption
       have h' : (k == 5) = false := by assumption
       rw [if_neg (by simpa using h'), if_neg (by simpa using h)])

theorem take_snoc (s : ByteArray) (k : Nat) (h : k < s.size) : s.data.toList.take (k + 1) = s.data.toList.take k ++ [s[k]] := by
  rw [List.take_succ_eq_append_getElem (by simpa using h)]; rfl

theorem nameOk_no {s : ByteArray} {k : Nat} (h : k < s.size) (hl : P.letter s[k] = false) : P.nameOk s = false := by
  unfold P.nameOk
  have : s.data.toList.all P.letter = false := by
    rw [List.all_eq_false]
    exact ⟨s[k], by simp [ByteArray.getElem_eq_getElem_data], by simp [hl]⟩
  rw [this, Bool.and_false]

theorem nameOk_size {s : ByteArray} (h : ¬ (1 ≤ s.size ∧ s.size ≤ 20)) : P.nameOk s = false := by
  unfold P.nameOk
  rw [decide_eq_false h, Bool.false_and]

theorem nameOk_yes {s : ByteArray} (h : 1 ≤ s.size ∧ s.size ≤ 20) (hl : (s.data.toList.take s.size).all P.letter = true) : P.nameOk s = true := by
  unfold P.nameOk
  rw [List.take_of_length_le (by simp)] at hl
  rw [decide_eq_true h, hl]; rfl

set_option maxHeartbeats 400000 in
theorem nameOk_any (s : ByteArray) (w : World) (hs : s.size ≤ maxLen) :
    Calls Tryz.prog 57 #[.string s] w fun e w' => e = .returned (.bool (P.nameOk s)) ∧ w' = w := by
  unfold maxLen at hs
  by_cases hsz : 1 ≤ s.size ∧ s.size ≤ 20
  · obtain ⟨h1, h2⟩ := hsz
    have hin : inB s.size 1 20 = true := by unfold inB; simp; omega
    go_enter Tryz.func57, Tryz.ntmps57
    go_wp2_with (go_at_call 56; refine (in_any _ _ _ _).mono ?_; rintro e w' ⟨rfl, rfl⟩; rw [hin])
    go_loop [3] (fun i => ∃ k : Nat, k ≤ s.size ∧ i = .int .i64 k ∧ (s.data.toList.take k).all P.letter = true) (fun i => s.size - (intOf i).toNat)
    case atStart => exact ⟨0, Nat.zero_le _, rfl, rfl⟩
    case round =>
      obtain ⟨k, hk, rfl, hall⟩ := hrel
      have HA : Hid ((s.data.toList.take k).all P.letter = true) := hall
      clear hall
      by_cases hlt : k < s.size
      · cases hL : P.letter s[k] with
        | false =>
          have HN : Hid (P.nameOk s = false) := nameOk_no hlt hL
          have HL : Hid (P.letter s[k] = false) := hL
          clear hL
          go_wp2_with (go_at_call 46; refine (letter_any _ _).mono ?_; rintro e w' ⟨rfl, rfl⟩; rw [HL.out])
          go_ret
          exact ⟨ret_bool HN.out.symm, rfl⟩
        | true =>
          have HL : Hid (P.letter s[k] = true) := hL
          clear hL
          have HT : Hid ((s.data.toList.take (k + 1)).all P.letter = true) := by
            show _ = true
            rw [take_snoc s k hlt, List.all_append, HA.out]; simp [HL.out]
          go_wp2_with (go_at_call 46; refine (letter_any _ _).mono ?_; rintro e w' ⟨rfl, rfl⟩; rw [HL.out])
          go_round
          case rel => exact ⟨k + 1, by omega, by go_num, HT.out⟩
          case measure => simp [intOf]; omega
      · go_wp2_with fail
        go_ret
        have hke : k = s.size := by omega
        exact ⟨ret_bool (nameOk_yes ⟨h1, h2⟩ (by rw [← hke]; exact HA.out)).symm, rfl⟩
  · have hin : inB s.size 1 20 = false := by unfold inB; simp; omega
    have HN : Hid (P.nameOk s = false) := nameOk_size hsz
    clear hsz
    go_enter Tryz.func57, Tryz.ntmps57
    go_wp2_with (go_at_call 56; refine (in_any _ _ _ _).mono ?_; rintro e w' ⟨rfl, rfl⟩; rw [hin])
    go_ret
    exact ⟨ret_bool HN.out.symm, rfl⟩

set_option maxHeartbeats 400000 in
theorem isName_any (s : ByteArray) (w : World) (hs : s.size ≤ maxLen) :
    Calls Tryz.prog 52 #[.string s] w fun e w' => e = .returned (.bool (P.nameOk s)) ∧ w' = w := by
  unfold maxLen at hs
  by_cases hsz : 1 ≤ s.size ∧ s.size ≤ 20
  · obtain ⟨h1, h2⟩ := hsz
    go_enter Tryz.func52, Tryz.ntmps52
    go_wp2_with fail
    go_loop [14] (fun i => ∃ k : Nat, k ≤ s.size ∧ i = .int .i64 k ∧ (s.data.toList.take k).all P.letter = true) (fun i => s.size - (intOf i).toNat)
    case atStart => exact ⟨0, Nat.zero_le _, rfl, rfl⟩
    case round =>
      obtain ⟨k, hk, rfl, hall⟩ := hrel
      have HA : Hid ((s.data.toList.take k).all P.letter = true) := hall
      clear hall
      by_cases hlt : k < s.size
      · cases hL : P.letter s[k] with
        | false =>
          have HN : Hid (P.nameOk s = false) := nameOk_no hlt hL
          have HL : Hid (P.letter s[k] = false) := hL
          clear hL
          go_wp2_with (go_at_call 67; refine (inName_any _ _).mono ?_; rintro e w' ⟨rfl, rfl⟩; rw [HL.out])
          go_ret
          exact ⟨ret_bool HN.out.symm, rfl⟩
        | true =>
          have HL : Hid (P.letter s[k] = true) := hL
          clear hL
          have HT : Hid ((s.data.toList.take (k + 1)).all P.letter = true) := by
            show _ = true
            rw [take_snoc s k hlt, List.all_append, HA.out]; simp [HL.out]
          go_wp2_with (go_at_call 67; refine (inName_any _ _).mono ?_; rintro e w' ⟨rfl, rfl⟩; rw [HL.out])
          go_round
          case rel => exact ⟨k + 1, by omega, by go_num, HT.out⟩
          case measure => simp [intOf]; omega
      · go_wp2_with fail
        go_ret
        have hke : k = s.size := by omega
        exact ⟨ret_bool (nameOk_yes ⟨h1, h2⟩ (by rw [← hke]; exact HA.out)).symm, rfl⟩
  · have HN : Hid (P.nameOk s = false) := nameOk_size hsz
    rcases (show (s.size : Int) < 1 ∨ (20 : Int) < s.size by omega) with hlt | hlt
    all_goals
      clear hsz
      go_enter Tryz.func52, Tryz.ntmps52
      go_wp2_with fail
      go_ret
      exact ⟨ret_bool HN.out.symm, rfl⟩

end Go.Proofs.YthjicahpfhjfdaaGreatDoor

namespace Go.Proofs.YthjicahpfhjfdaaGreatDoor
open Go.RowKit

/-- a call of a method on an interface value comes to a function, which hands back a value -/
def Meth (P : Program) (x : Value) (name : String) (args : Array Value) (w : World) (R : Value → World → Prop) : Prop :=
  ∃ f bs, (callMethod x name args).run P w = .ok (.enter f bs) w ∧ Calls P f bs w fun e w' => ∃ u, e = .returned u ∧ R u w'

theorem extract_one (x : Value) (qs : Array Value) : (#[x] ++ qs).extract 1 (#[x] ++ qs).size = qs := by
  apply Array.ext_getElem?
  intro i
  rw [Array.getElem?_extract]
  simp only [Array.size_append, List.size_toArray, List.length_cons, List.length_nil]
  split
  · rw [Array.getElem?_append_right (by simp)]
    congr 1
    simp
  · rw [Array.getElem?_eq_none]
    omega

theorem map_none (f : Operand → Value) : (#[] : Array Operand).map f = #[] := by simp
theorem map_one (f : Operand → Value) (x : Operand) : #[x].map f = #[f x] := by simp

theorem wpList_meth {P : Program} {ops : Array Oper} {rest : List Oper} {o : Oper} {a : Act} {Q : Exit → Act → World → Prop} {w : World}
    (hw : Region.wanted o (yielded ops a.tmps) = true) (x : Operand) (name : String) (qs : Array Operand) (ts : Array TypeId)
    (ho : o.op = .call { callee := .invoke x name, args := qs, argTypes := ts })
    (xv : Value) (hx : a.eval x = xv) (bs : Array Value) (hq : qs.map a.eval = bs) (R : Value → World → Prop) (hm : Meth P xv name bs w R)
    (h : ∀ u w', R u w' → wpList P ops Q rest (a.put o.dst u) w') : wpList P ops Q (o :: rest) a w := by
  refine wpList_step fun K hK => ?_
  rw [if_pos hw]
  obtain ⟨f, bs', hr, hc⟩ := hm
  subst hx
  subst hq
  have hrun : (execOp a.eval o).run P w = .ok (.enter f bs') w := by
    unfold execOp
    simp only [ho, resolve, invoke, Sem.run_bind, Sem.run_pure, Result.andThen_ok]
    rw [extract_one]
    simp only [Array.getElem?_append, List.size_toArray, List.length_cons, List.length_nil]
    simp only [Nat.zero_add, Nat.lt_one_iff, if_true]
    exact hr
  unfold Oper.wp
  rw [hrun, Oper.upon_enter]
  refine hc.mono ?_
  rintro e w' ⟨u, rfl, hR⟩
  exact hK _ _ (h u w' hR)

end Go.Proofs.YthjicahpfhjfdaaGreatDoor
