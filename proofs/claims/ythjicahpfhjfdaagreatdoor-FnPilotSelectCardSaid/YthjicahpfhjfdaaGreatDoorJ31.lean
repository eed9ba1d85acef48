/-
  Several texts in one: Lik, Va1, Mk1, Sm1.
-/
import Derived.Test.YthjicahpfhjfdaaGreatDoorJ0
import Derived.Test.YthjicahpfhjfdaaGreatDoorJ14
import Derived.Lib.Strings
import Derived.Lib.Slices
import Derived.Lib.Walk
import Derived.Lib.Bytealg
import Derived.Lib.IndexLaws
import Derived.Deep.DeepCutAuto
import Derived.Sort.AtCall
namespace Go.Proofs.YthjicahpfhjfdaaGreatDoor
open Go.RowKit

structure Lik where
  select : ByteArray
  weight : Int

def wLik (x : Lik) : Nat := x.select.size

/-- what its cells hold -/
def LikC : Make Lik := fun _ _ f x => f 0 = some (.string x.select) ∧ f 1 = some (.int .i64 x.weight) ∧ x.select.size ≤ maxLen

theorem LikC.holds : Holds LikC 2 := by
  rintro lo lo' w w' f g x h _ _ ⟨q0, q1, z0⟩
  exact ⟨(h 0 (by omega)).trans q0, (h 1 (by omega)).trans q1, z0⟩

end Go.Proofs.YthjicahpfhjfdaaGreatDoor

namespace Go.Proofs.YthjicahpfhjfdaaGreatDoor
open Go.RowKit

theorem bt_ne {a b : ByteArray} (h : ¬ a = b) : (a.toList == b.toList) = false := by
  rw [ByteArray.toList_eq, ByteArray.toList_eq]
  have : ¬ a.data.toList = b.data.toList := fun e => h (by
    cases a with | mk x => cases b with | mk y => cases x; cases y; simp at e; simp [e])
  simpa using this

theorem bt_eq {a b : ByteArray} (h : a = b) : (a.toList == b.toList) = true := by subst h; simp

/-- a number between two -/
def inR (n a b : Int) : Bool := decide (a ≤ n) && decide (n ≤ b)

/-- a name, or none -/
def nameOrNone (s : ByteArray) : Bool := decide (s.size = 0) || P.nameOk s

/-- a like that may stand -/
def likeOk (l : Lik) : Bool := decide (codeOf l.select = 0) && inR l.weight (-9) 9

def likesOk (xs : List Lik) : Bool := decide (xs.length ≤ 5) && xs.all likeOk

end Go.Proofs.YthjicahpfhjfdaaGreatDoor

namespace Go.Proofs.YthjicahpfhjfdaaGreatDoor
open Go.RowKit

set_option maxHeartbeats 1000000 in
set_option maxRecDepth 100000 in
theorem indexByte_any (s : ByteArray) (c : Int) (w : World) :
    Calls Tryz.prog 75 #[.string s, .int .u8 c] w fun e w' => e = .returned (.int .i64 (Lib.indexByte s.data.toList c.toNat.toUInt8)) ∧ w' = w := by
  go_enter Tryz.func75, Tryz.ntmps75
  go_wp2
  rw [run_callFunc_extern Tryz.func80 (by kernel_rfl) (by kernel_rfl) (by kernel_rfl) (e := Extern.BytealgIndexByte.indexByte) (by kernel_rfl), Lib.run_indexByteString]
  simp only [Result.andThen]
  rw [Oper.upon_value]
  go_wp2
  go_ret
  exact ⟨rfl, rfl⟩

/-- where the sign of equality is first, or -1 -/
def eqIdx (s : ByteArray) : Int := Lib.indexByte s.data.toList 61
def mName (s : ByteArray) : ByteArray := if eqIdx s < 0 then s else s.extract 0 (eqIdx s).toNat
def mVal (s : ByteArray) : ByteArray := if eqIdx s < 0 then ⟨#[]⟩ else s.extract ((eqIdx s).toNat + 1) s.size
def isMk (s : ByteArray) : Bool := P.nameOk (mName s) && (decide (eqIdx s < 0) || P.nameOk (mVal s))

set_option maxHeartbeats 2000000 in
set_option maxRecDepth 100000 in
theorem index_any (s : ByteArray) (w : World) :
    Calls Tryz.prog 72 #[.string s, .string ⟨#[61]⟩] w fun e w' => e = .returned (.int .i64 (eqIdx s)) ∧ w' = w := by
  go_enter Tryz.func72, Tryz.ntmps72
  go_wp2_with (go_at_call 75; refine (indexByte_any _ _ _).mono ?_; rintro e w' ⟨rfl, rfl⟩)
  · have h : ([61] == s.toList) = true := by assumption
    go_ret
    refine ⟨?_, rfl⟩
    have e : s.data.toList = [61] := by rw [← Lib.toList_data]; exact (beq_iff_eq.1 h).symm
    unfold eqIdx
    rw [e]
    simp [Lib.indexByte]
  · go_ret
    exact ⟨rfl, rfl⟩

theorem eqIdx_ge (s : ByteArray) : -1 ≤ eqIdx s := Lib.indexByte_ge _ _

theorem eqIdx_lt {s : ByteArray} {o : Nat} (h : eqIdx s = o) : o < s.size := by
  have := (Lib.indexByte_some h).1
  rcases Nat.lt_or_ge o s.data.toList.length with h' | h'
  · simpa using h'
  · rw [List.getElem?_eq_none h'] at this; cases this

set_option maxHeartbeats 2000000 in
set_option maxRecDepth 100000 in
theorem cutLite_any (s : ByteArray) (w : World) (hs : s.size ≤ maxLen) :
    Calls Tryz.prog 66 #[.string s, .string ⟨#[61]⟩] w fun e w' => e = .returned (.tuple #[.string (mName s), .string (mVal s), .bool (!decide (eqIdx s < 0))]) ∧ Below w.heap.size w w' := by
  unfold maxLen at hs
  by_cases hn : eqIdx s < 0
  · have HN : Hid (eqIdx s < 0) := hn
    have h1 : eqIdx s = -1 := by have := eqIdx_ge s; omega
    go_enter Tryz.func66, Tryz.ntmps66
    go_wp2_with (go_at_call 72; refine (index_any _ _).mono ?_; rintro e w' ⟨rfl, rfl⟩; rw [h1])
    go_ret3
    exact ⟨by unfold mName mVal; rw [if_pos HN.out, if_pos HN.out, decide_eq_true HN.out]; rfl, by go_grown⟩
  · obtain ⟨o, ho⟩ : ∃ o : Nat, eqIdx s = o := ⟨(eqIdx s).toNat, by omega⟩
    have hlt := eqIdx_lt ho
    have HN : Hid (¬ eqIdx s < 0) := hn
    have HO : Hid (eqIdx s = o) := ho
    clear hn
    go_enter Tryz.func66, Tryz.ntmps66
    go_wp2_with (go_at_call 72; refine (index_any _ _).mono ?_; rintro e w' ⟨rfl, rfl⟩; rw [HO.out])
    have i0 : (0 : Int) ≤ (o : Int) := by omega
    have i1 : (o : Int) ≤ (s.size : Int) := by omega
    obtain ⟨n1, hn1⟩ : ∃ n1 : Nat, n1 = o + 1 := ⟨_, rfl⟩
    have i2 : (n1 : Int) ≤ (s.size : Int) := by omega
    have i3 : (0 : Int) ≤ (n1 : Int) := by omega
    have HW : Hid (IntKind.i64.wrap ((o : Int) + 1) = (n1 : Int)) := by show _ = _; rw [IntKind.wrap_i64]; omega
    have HN1 : Hid (n1 = o + 1) := hn1
    clear hn1
    clear ho
    refine wp_region_quiet_below (by kernel_rfl) (by kernel_rfl) ?_
    repeat (quiet_step (fail))
    rw [HW.out]
    repeat (quiet_step (fail))
    refine wpQuiet_nil ?_
    intro _ hw'
    obtain ⟨⟨dq, osq⟩, hw''⟩ := hw'
    have hB := below_regrown w' dq osq
    simp only [] at hw''
    rw [← hw''] at hB
    clear hw''
    have HB : Hid (Below w'.heap.size w' _) := hB
    clear hB
    go_wp2_with fail
    go_ret3
    have HN2 : ¬ eqIdx s < 0 := by have := HN.out; omega
    refine ⟨?_, HB.out⟩
    unfold mName mVal
    rw [if_neg HN2, if_neg HN2, decide_eq_false HN2, HO.out]
    simp [HN1.out]

set_option maxHeartbeats 1000000 in
theorem cut_any (s : ByteArray) (w : World) (hs : s.size ≤ maxLen) :
    Calls Tryz.prog 50 #[.string s, .string ⟨#[61]⟩] w fun e w' => e = .returned (.tuple #[.string (mName s), .string (mVal s), .bool (!decide (eqIdx s < 0))]) ∧ Below w.heap.size w w' := by
  have HS : Hid (s.size ≤ maxLen) := hs
  clear hs
  go_enter Tryz.func50, Tryz.ntmps50
  go_wp2_with fail
  refine (cutLite_any s _ HS.out).mono ?_
  rintro e w1 ⟨rfl, hb⟩
  have HB : Hid (Below w.heap.size w w1) := (show Below w.heap.size w _ by go_grown).trans (hb.mono (by simp))
  clear hb
  go_wp2_with fail
  go_ret3
  exact ⟨rfl, HB.out⟩

theorem mName_size {s : ByteArray} (hs : s.size ≤ maxLen) : (mName s).size ≤ maxLen := by
  unfold mName
  split
  · exact hs
  · simp [ByteArray.size_extract]; omega

theorem mVal_size {s : ByteArray} (hs : s.size ≤ maxLen) : (mVal s).size ≤ maxLen := by
  unfold mVal
  split
  · simp [ByteArray.size, maxLen]
  · simp [ByteArray.size_extract]; omega

set_option maxHeartbeats 1000000 in
theorem isMark_any (s : ByteArray) (w : World) (hs : s.size ≤ maxLen) :
    Calls Tryz.prog 49 #[.string s] w fun e w' => e = .returned (.bool (isMk s)) ∧ Below w.heap.size w w' := by
  have HS : Hid (s.size ≤ maxLen) := hs
  have HM : Hid (isMk s = (P.nameOk (mName s) && (decide (eqIdx s < 0) || P.nameOk (mVal s)))) := rfl
  clear hs
  generalize isMk s = R at *
  go_enter Tryz.func49, Tryz.ntmps49
  go_wp2_with fail
  refine (cut_any s _ HS.out).mono ?_
  rintro e w1 ⟨rfl, hb⟩
  have HB : Hid (Below w.heap.size w w1) := (show Below w.heap.size w _ by go_grown).trans (hb.mono (by simp))
  clear hb
  have Z1 : Hid ((mName s).size ≤ maxLen) := mName_size HS.out
  have Z2 : Hid ((mVal s).size ≤ maxLen) := mVal_size HS.out
  generalize mName s = x at *
  generalize mVal s = y at *
  generalize decide (eqIdx s < 0) = b at *
  go_wp2_with fail
  refine (isName_any x _ Z1.out).mono ?_
  rintro e w2 ⟨rfl, rfl⟩
  cases hx : P.nameOk x with
  | false =>
    rw [hx] at HM
    go_wp2_with fail
    go_ret
    exact ⟨ret_bool (by rw [HM.out]; rfl), HB.out⟩
  | true =>
    rw [hx] at HM
    cases b with
    | true =>
      go_wp2_with fail
      go_ret
      exact ⟨ret_bool (by rw [HM.out]; rfl), HB.out⟩
    | false =>
      go_wp2_with fail
      refine (isName_any y _ Z2.out).mono ?_
      rintro e w2 ⟨rfl, rfl⟩
      generalize P.nameOk y = c at *
      go_wp2_with fail
      go_ret
      exact ⟨ret_bool (by rw [HM.out]; simp), HB.out⟩

end Go.Proofs.YthjicahpfhjfdaaGreatDoor

namespace Go.Proofs.YthjicahpfhjfdaaGreatDoor
open Go.RowKit

theorem eqIdx_at {s : ByteArray} {k : Nat} (hlt : k < s.size) (h : s[k].toNat = 61) (hn : ∀ j, j < k → s.data.toList[j]? ≠ some 61) : eqIdx s = k := by
  have hk : s.data.toList[k]? = some 61 := by
    rw [List.getElem?_eq_getElem (by simpa using hlt)]
    congr 1
    exact UInt8.toNat_inj.1 h
  by_cases hz : eqIdx s = -1
  · exact absurd hk (Lib.indexByte_none hz k)
  · obtain ⟨o, ho⟩ : ∃ o : Nat, eqIdx s = o := ⟨(eqIdx s).toNat, by have := eqIdx_ge s; omega⟩
    have h2 := Lib.indexByte_some ho
    rcases Nat.lt_trichotomy o k with h3 | h3 | h3
    · exact absurd h2.1 (hn o h3)
    · rw [ho, h3]
    · exact absurd hk (h2.2 k h3)

theorem eqIdx_no {s : ByteArray} (hn : ∀ j, j < s.size → s.data.toList[j]? ≠ some 61) : eqIdx s = -1 := by
  by_cases hz : eqIdx s = -1
  · exact hz
  · obtain ⟨o, ho⟩ : ∃ o : Nat, eqIdx s = o := ⟨(eqIdx s).toNat, by have := eqIdx_ge s; omega⟩
    exact absurd (Lib.indexByte_some ho).1 (hn o (eqIdx_lt ho))

set_option maxHeartbeats 2000000 in
set_option maxRecDepth 100000 in
theorem sMark_any (s : ByteArray) (w : World) (hs : s.size ≤ maxLen) :
    Calls Tryz.prog 51 #[.string s] w fun e w' => e = .returned (.tuple #[.string (mName s), .string (mVal s), .bool (isMk s)]) ∧ Below w.heap.size w w' := by
  have HS : Hid (s.size ≤ maxLen) := hs
  unfold maxLen at hs
  go_enter Tryz.func51, Tryz.ntmps51
  go_wp2_with fail
  go_loopw [5] (fun i wr => ∃ k : Nat, k ≤ s.size ∧ i = .int .i64 k ∧ Hid (∀ j, j < k → s.data.toList[j]? ≠ some 61) ∧ Below w.heap.size w wr) (fun i _ => s.size - (intOf i).toNat)
  case atStart => exact ⟨0, Nat.zero_le _, rfl, fun j h => absurd h (Nat.not_lt_zero _), Below.refl _ _⟩
  case round =>
    obtain ⟨k, hk, rfl, hn, hbel⟩ := hrel
    by_cases hlt : k < s.size
    · by_cases hb : s[k].toNat = 61
      · have HE : Hid (eqIdx s = k) := eqIdx_at hlt hb hn.out
        have HN : Hid (¬ eqIdx s < 0) := by have := HE.out; show ¬ _; omega
        have hbq : ((s[k].toNat : Int) == 61) = true := by simp; omega
        have HB : Hid (Below w.heap.size w wr) := hbel
        have HNm : Hid (mName s = s.extract 0 k) := by show _ = _; unfold mName; rw [if_neg HN.out, HE.out]; rfl
        obtain ⟨n1, hn1⟩ : ∃ n1 : Nat, n1 = k + 1 := ⟨_, rfl⟩
        have HVl : Hid (mVal s = s.extract n1 s.size) := by show _ = _; unfold mVal; rw [if_neg HN.out, HE.out, hn1]; rfl
        have HMk : Hid (isMk s = (P.nameOk (s.extract 0 k) && P.nameOk (s.extract n1 s.size))) := by show _ = _; unfold isMk; rw [decide_eq_false HN.out, Bool.false_or, HNm.out, HVl.out]
        have i0 : (0 : Int) ≤ (k : Int) := by omega
        have i1 : (k : Int) ≤ (s.size : Int) := by omega
        have i2 : (n1 : Int) ≤ (s.size : Int) := by omega
        have i3 : (0 : Int) ≤ (n1 : Int) := by omega
        have HW : Hid (IntKind.i64.wrap ((k : Int) + 1) = (n1 : Int)) := by show _ = _; rw [IntKind.wrap_i64]; omega
        have Z1 : Hid ((s.extract 0 k).size ≤ maxLen) := by have := mName_size HS.out; rw [HNm.out] at this; exact this
        have Z2 : Hid ((s.extract n1 s.size).size ≤ maxLen) := by have := mVal_size HS.out; rw [HVl.out] at this; exact this
        clear hn hbel hn1
        go_upto_region 5 with fail
        generalize hX : P.nameOk (s.extract 0 k) = X at *
        generalize hY : P.nameOk (s.extract n1 s.size) = Y at *
        have cN : ∀ d os, Calls Tryz.prog 57 #[.string (s.extract 0 k)] (Sort.grow (redrawn wr d) os) fun e w'' => e = .returned (.bool X) ∧ ∃ p : Regrown, w'' = Sort.grow (redrawn wr p.d) p.os := fun d os => by
          refine (nameOk_any _ _ Z1.out).mono ?_
          rintro e w' ⟨rfl, rfl⟩
          exact ⟨by rw [hX], ⟨d, os⟩, rfl⟩
        have cV : ∀ d os, Calls Tryz.prog 57 #[.string (s.extract n1 s.size)] (Sort.grow (redrawn wr d) os) fun e w'' => e = .returned (.bool Y) ∧ ∃ p : Regrown, w'' = Sort.grow (redrawn wr p.d) p.os := fun d os => by
          refine (nameOk_any _ _ Z2.out).mono ?_
          rintro e w' ⟨rfl, rfl⟩
          exact ⟨by rw [hY], ⟨d, os⟩, rfl⟩
        clear hX hY
        cases X with
        | false =>
          refine wp_region_quiet_below (by kernel_rfl) (by kernel_rfl) ?_
          repeat (quiet_step (first | (go_at_call_has 57 (s.extract 0 k); exact cN _ _) | (go_at_call_has 57 (s.extract n1 s.size); exact cV _ _)))
          rw [HW.out]
          repeat (quiet_step (first | (go_at_call_has 57 (s.extract 0 k); exact cN _ _) | (go_at_call_has 57 (s.extract n1 s.size); exact cV _ _)))
          refine wpQuiet_nil ?_
          intro w5 hw'
          obtain ⟨⟨dq, osq⟩, hw''⟩ := hw'
          have hB := below_regrown wr dq osq
          simp only [] at hw''
          rw [← hw''] at hB
          clear hw'' cN cV
          have HB5 : Hid (Below w.heap.size w w5) := HB.out.trans (hB.mono HB.out.size)
          clear hB
          go_wp2_with fail
          go_ret3
          exact ⟨by rw [HNm.out, HVl.out, HMk.out]; rfl, HB5.out⟩
        | true =>
          refine wp_region_quiet_below (by kernel_rfl) (by kernel_rfl) ?_
          repeat (quiet_step (first | (go_at_call_has 57 (s.extract 0 k); exact cN _ _) | (go_at_call_has 57 (s.extract n1 s.size); exact cV _ _)))
          rw [HW.out]
          repeat (quiet_step (first | (go_at_call_has 57 (s.extract 0 k); exact cN _ _) | (go_at_call_has 57 (s.extract n1 s.size); exact cV _ _)))
          rw [HW.out]
          repeat (quiet_step (first | (go_at_call_has 57 (s.extract 0 k); exact cN _ _) | (go_at_call_has 57 (s.extract n1 s.size); exact cV _ _)))
          refine wpQuiet_nil ?_
          intro w5 hw'
          obtain ⟨⟨dq, osq⟩, hw''⟩ := hw'
          have hB := below_regrown wr dq osq
          simp only [] at hw''
          rw [← hw''] at hB
          clear hw'' cN cV
          have HB5 : Hid (Below w.heap.size w w5) := HB.out.trans (hB.mono HB.out.size)
          clear hB
          go_wp2_with fail
          go_ret3
          exact ⟨by rw [HNm.out, HVl.out, HMk.out]; rfl, HB5.out⟩
      · have hbq : ((s[k].toNat : Int) == 61) = false := by simp; omega
        have HN : Hid (∀ j, j < k + 1 → s.data.toList[j]? ≠ some 61) := by
          intro j hj e
          by_cases hjk : j = k
          · subst hjk
            rw [List.getElem?_eq_getElem (by simpa using hlt)] at e
            injection e with e
            exact hb (by rw [show s[j] = (61 : UInt8) from e]; rfl)
          · exact hn.out j (by omega) e
        clear hn hb
        go_wp2_with fail
        go_roundw
        case rel => exact ⟨k + 1, by omega, by go_num, HN, hbel⟩
        case measure => simp [intOf]; omega
    · have hke : k = s.size := by omega
      have HE : Hid (eqIdx s < 0) := by have := eqIdx_no (s := s) (fun j hj => hn.out j (by omega)); show _ < _; omega
      have HNm : Hid (mName s = s) := by show _ = _; unfold mName; rw [if_pos HE.out]
      have HVl : Hid (mVal s = ⟨#[]⟩) := by show _ = _; unfold mVal; rw [if_pos HE.out]
      have HMk : Hid (isMk s = P.nameOk s) := by show _ = _; unfold isMk; rw [decide_eq_true HE.out, Bool.true_or, Bool.and_true, HNm.out]
      have HB : Hid (Below w.heap.size w wr) := hbel
      clear hn hbel
      subst hke
      go_wp2_with fail
      refine (nameOk_any s _ HS.out).mono ?_
      rintro e w' ⟨rfl, rfl⟩
      generalize P.nameOk s = X at *
      go_wp2_with fail
      go_ret3
      exact ⟨by rw [HNm.out, HVl.out, HMk.out]; rfl, HB.out⟩

end Go.Proofs.YthjicahpfhjfdaaGreatDoor
