/-
  Several texts in one: Va1, Mk1.
-/
import Derived.Test.YtggbhggnemlpnaaGreatJ18
import Derived.Test.YtggbhggnemlpnaaGreatLik
import Derived.Lib.Strings
import Derived.Lib.Slices
import Derived.Lib.Walk
import Derived.Lib.Bytealg
import Derived.Lib.IndexLaws
namespace Go.Proofs.YtggbhggnemlpnaaGreat
open Go.RowKit

theorem bt_ne {a b : ByteArray} (h : ¬ a = b) : (a.toList == b.toList) = false := by
  rw [ByteArray.toList_eq, ByteArray.toList_eq]
  have : ¬ a.data.toList = b.data.toList := fun e => h (by
    cases a with | mk x => cases b with | mk y => cases x; cases y; simp at e; simp [e])
  simpa using this

theorem bt_eq {a b : ByteArray} (h : a = b) : (a.toList == b.toList) = true := by subst h; simp

/-- a number between two -/
def inR (n a b : Int) : Bool := decide (a ≤ n) && decide (n ≤ b)

set_option maxHeartbeats 400000 in
theorem isIn_any (n a b : Int) (w : World) :
    Calls Tryz.prog 109 #[.int .i64 n, .int .i64 a, .int .i64 b] w fun e w' => e = .returned (.bool (inR n a b)) ∧ Below w.heap.size w w' := by
  by_cases h1 : a ≤ n
  · by_cases h2 : n ≤ b
    · have HC : Hid (inR n a b = true) := by show _ = _; simp [inR, h1, h2]
      go_enter Tryz.func109, Tryz.ntmps109
      go_wp2_with fail
      go_ret
      exact ⟨ret_bool HC.out.symm, by go_grown⟩
    · have HC : Hid (inR n a b = false) := by show _ = _; simp [inR, h2]
      go_enter Tryz.func109, Tryz.ntmps109
      go_wp2_with fail
      go_ret
      exact ⟨ret_bool HC.out.symm, by go_grown⟩
  · have HC : Hid (inR n a b = false) := by show _ = _; simp [inR, h1]
    go_enter Tryz.func109, Tryz.ntmps109
    go_wp2_with fail
    go_ret
    exact ⟨ret_bool HC.out.symm, by go_grown⟩

set_option maxHeartbeats 400000 in
theorem isSize_any (n : Int) (w : World) :
    Calls Tryz.prog 107 #[.int .i64 n] w fun e w' => e = .returned (.bool (inR n 0 1000)) ∧ Below w.heap.size w w' := by
  go_enter Tryz.func107, Tryz.ntmps107
  go_wp2_with fail
  refine (isIn_any _ _ _ _).mono ?_
  rintro e w1 ⟨rfl, hb⟩
  go_wp2_with fail
  go_ret
  exact ⟨rfl, hb⟩

/-- a name, or none -/
def nameOrNone (s : ByteArray) : Bool := decide (s.size = 0) || P.nameOk s

set_option maxHeartbeats 400000 in
theorem isNameOrNone_any (s : ByteArray) (w : World) (hs : s.size ≤ maxLen) :
    Calls Tryz.prog 133 #[.string s] w fun e w' => e = .returned (.bool (nameOrNone s)) ∧ Below w.heap.size w w' := by
  by_cases h : s = ⟨#[]⟩
  · have HC : Hid (nameOrNone s = true) := by show _ = _; subst h; rfl
    have hte : s.toList = [] := by subst h; simp
    clear h
    go_enter Tryz.func133, Tryz.ntmps133
    go_wp2_with fail
    go_ret
    exact ⟨ret_bool HC.out.symm, by go_grown⟩
  · have HC : Hid (nameOrNone s = P.nameOk s) := by
      show _ = _
      have : s.size ≠ 0 := fun e => h (ByteArray.ext (Array.eq_empty_of_size_eq_zero e))
      simp [nameOrNone, this]
    have hte : ¬ s.toList = [] := by
      rw [ByteArray.toList_eq]
      exact fun e => h (by cases s with | mk x => cases x; simp at e; simp [e])
    have HZ : Hid (s.size ≤ maxLen) := hs
    clear h hs
    go_enter Tryz.func133, Tryz.ntmps133
    go_wp2_with fail
    refine (isName_any _ _ HZ.out).mono ?_
    rintro e w1 ⟨rfl, rfl⟩
    go_wp2_with fail
    go_ret
    have hem : s.toList.isEmpty = false := by simpa using hte
    exact ⟨ret_bool (by rw [hem, Bool.false_or]; exact HC.out.symm), by go_grown⟩

/-- a like that may stand -/
def likeOk (l : Lik) : Bool := decide (codeOf l.select = 0) && inR l.weight (-9) 9

def likesOk (xs : List Lik) : Bool := decide (xs.length ≤ 5) && xs.all likeOk

set_option maxHeartbeats 1000000 in
set_option maxRecDepth 100000 in
theorem likesOk_any (xs : List Lik) (a : Option Addr) (cap lo : Nat) (w : World) (hin : SliceC LikC 2 lo w a xs) :
    Calls Tryz.prog 132 #[.slice a xs.length cap] w fun e w' => e = .returned (.bool (likesOk xs)) ∧ Below w.heap.size w w' := by
  have hlen := hin.1
  unfold maxLen at hlen
  have HI : Hid (SliceC LikC 2 lo w a xs) := hin
  clear hin
  by_cases h5 : xs.length ≤ 5
  · go_enter Tryz.func132, Tryz.ntmps132
    go_wp2_with fail
    go_loopw [10] (fun i wr => ∃ k : Nat, k ≤ xs.length ∧ i = .int .i64 k ∧ Hid (∀ j x, j < k → xs[j]? = some x → likeOk x = true) ∧ Below w.heap.size w wr) (fun i _ => xs.length - (intOf i).toNat)
    case atStart => exact ⟨0, Nat.zero_le _, rfl, fun j x h => absurd h (Nat.not_lt_zero _), by go_grown⟩
    case round =>
      obtain ⟨k, hk, rfl, ho, hbel⟩ := hrel
      by_cases hlt : k < xs.length
      · obtain ⟨x, hx⟩ : ∃ x, xs[k]? = some x := ⟨xs[k], List.getElem?_eq_getElem hlt⟩
        obtain ⟨b, o, rfl, _, _, hc⟩ := (HI.out.below LikC.holds hbel (Nat.le_refl _)).at hx
        obtain ⟨q0, q1, z0⟩ := hc
        simp only [Nat.add_zero] at q0 q1
        have HX : Hid (xs[k]? = some x) := hx
        have HZ : Hid (x.select.size ≤ maxLen) := z0
        have HB : Hid (Below w.heap.size w wr) := hbel
        have HSZ : Hid (w.heap.size ≤ wr.heap.size) := hbel.size
        clear hx z0 hbel
        go_upto_region 6 with fail
        have e0 : (wr.alloc (Obj.cells #[.string x.select, .int .i64 x.weight] 123)).cell? ⟨wr.heap.size, 0, none⟩ = some (.string x.select) := by simp
        have e1 : (wr.alloc (Obj.cells #[.string x.select, .int .i64 x.weight] 123)).cell? ⟨wr.heap.size, 1, none⟩ = some (.int .i64 x.weight) := by simp
        have HB4 : Hid (Below w.heap.size w (wr.alloc (Obj.cells #[.string x.select, .int .i64 x.weight] 123))) := HB.out.alloc HSZ.out _
        have hs4 : wr.heap.size < (wr.alloc (Obj.cells #[.string x.select, .int .i64 x.weight] 123)).heap.size := by simp
        clear HB HSZ q0 q1
        generalize wr.alloc (Obj.cells #[.string x.select, .int .i64 x.weight] 123) = w4 at *
        cases hr : decide (codeOf x.select = 0)
        · have HC : Hid (likesOk xs = false) := by
            show _ = _
            have hm := List.mem_of_getElem? HX.out
            have : likeOk x = false := by simp [likeOk, hr]
            have : xs.all likeOk = false := List.all_eq_false.mpr ⟨x, hm, by simp [this]⟩
            simp [likesOk, this]
          have HR : Hid (decide (codeOf x.select = 0) = false) := hr
          clear hr
          go_wp2_with fail
          refine (isRead_any _ _ HZ.out).mono ?_
          rintro e w5 ⟨rfl, hb5⟩
          rw [HR.out]
          have HB5 : Hid (Below w.heap.size w w5) := HB4.out.trans (hb5.mono HB4.out.size)
          clear hb5
          go_wp2_with fail
          go_ret
          exact ⟨ret_bool HC.out.symm, HB5.out⟩
        · have HR : Hid (decide (codeOf x.select = 0) = true) := hr
          go_wp2_with fail
          refine (isRead_any _ _ HZ.out).mono ?_
          rintro e w5 ⟨rfl, hb5⟩
          rw [HR.out]
          have e5 : w5.cell? ⟨wr.heap.size, 1, none⟩ = some (.int .i64 x.weight) := by rw [hb5.cell (p := ⟨wr.heap.size, 1, none⟩) hs4]; exact e1
          have HB5 : Hid (Below w.heap.size w w5) := HB4.out.trans (hb5.mono HB4.out.size)
          clear hb5 e0 e1 hs4 HB4
          go_wp2_with fail
          refine (isIn_any _ _ _ _).mono ?_
          rintro e w6 ⟨rfl, hb6⟩
          have HB6 : Hid (Below w.heap.size w w6) := HB5.out.trans (hb6.mono HB5.out.size)
          clear hb6 HB5 e5
          cases hi : inR x.weight (-9) 9
          · have HC : Hid (likesOk xs = false) := by
              show _ = _
              have hm := List.mem_of_getElem? HX.out
              have : likeOk x = false := by simp [likeOk, hi]
              have : xs.all likeOk = false := List.all_eq_false.mpr ⟨x, hm, by simp [this]⟩
              simp [likesOk, this]
            clear hi hr
            go_wp2_with fail
            go_ret
            exact ⟨ret_bool HC.out.symm, HB6.out⟩
          · have HO : Hid (∀ j y, j < k + 1 → xs[j]? = some y → likeOk y = true) := by
              intro j y hj hy
              by_cases e : j = k
              · subst e
                rw [HX.out] at hy
                cases hy
                simp only [likeOk, hi, HR.out, Bool.and_self]
              · exact ho.out j y (by omega) hy
            clear hi hr ho
            go_wp2_with fail
            go_roundw
            case rel => exact ⟨k + 1, by omega, by go_num, HO, HB6.out⟩
            case measure => simp [intOf]; omega
      · have hke : k = xs.length := by omega
        subst hke
        have HC : Hid (likesOk xs = true) := by
          show _ = _
          simp only [likesOk, h5, decide_true, Bool.true_and, List.all_eq_true]
          intro x hx
          obtain ⟨j, hj, e⟩ := List.mem_iff_getElem.mp hx
          exact ho.out j x hj (by rw [List.getElem?_eq_getElem hj, e])
        clear ho
        go_wp2_with fail
        go_ret
        exact ⟨ret_bool HC.out.symm, hbel⟩
  · have HC : Hid (likesOk xs = false) := by show _ = _; simp [likesOk, h5]
    go_enter Tryz.func132, Tryz.ntmps132
    go_wp2_with fail
    go_ret
    exact ⟨ret_bool HC.out.symm, by go_grown⟩

end Go.Proofs.YtggbhggnemlpnaaGreat

namespace Go.Proofs.YtggbhggnemlpnaaGreat
open Go.RowKit

set_option maxHeartbeats 1000000 in
set_option maxRecDepth 100000 in
theorem indexByte_any (s : ByteArray) (c : Int) (w : World) :
    Calls Tryz.prog 156 #[.string s, .int .u8 c] w fun e w' => e = .returned (.int .i64 (Lib.indexByte s.data.toList c.toNat.toUInt8)) ∧ w' = w := by
  go_enter Tryz.func156, Tryz.ntmps156
  go_wp2
  rw [run_callFunc_extern Tryz.func163 (by kernel_rfl) (by kernel_rfl) (by kernel_rfl) (e := Extern.BytealgIndexByte.indexByte) (by kernel_rfl), Lib.run_indexByteString]
  simp only [Result.andThen]
  rw [Oper.upon_value]
  go_wp2
  go_ret
  exact ⟨rfl, rfl⟩

/-- where the sign of equality is first, or -1 -/
def eqIdx (s : ByteArray) : Int := Lib.indexByte s.data.toList 61
def mName (s : ByteArray) : ByteArray := if eqIdx s < 0 then s else s.extract 0 (eqIdx s).toNat
def mVal (s : ByteArray) : ByteArray := if eqIdx s < 0 then ⟨#[]⟩ else s.extract ((eqIdx s).toNat + 1) s.size
def isMk (s : ByteArray) : Bool := P.nameOk (mName s) && (decide (eqIdx s < 0) || P.nameOk (mVal s))

set_option maxHeartbeats 2000000 in
set_option maxRecDepth 100000 in
theorem index_any (s : ByteArray) (w : World) :
    Calls Tryz.prog 151 #[.string s, .string ⟨#[61]⟩] w fun e w' => e = .returned (.int .i64 (eqIdx s)) ∧ w' = w := by
  go_enter Tryz.func151, Tryz.ntmps151
  go_wp2_with (go_at_call 156; refine (indexByte_any _ _ _).mono ?_; rintro e w' ⟨rfl, rfl⟩)
  · have h : ([61] == s.toList) = true := by assumption
    go_ret
    refine ⟨?_, rfl⟩
    have e : s.data.toList = [61] := by rw [← Lib.toList_data]; exact (beq_iff_eq.1 h).symm
    unfold eqIdx
    rw [e]
    simp [Lib.indexByte]
  · go_ret
    exact ⟨rfl, rfl⟩

theorem eqIdx_ge (s : ByteArray) : -1 ≤ eqIdx s := Lib.indexByte_ge _ _

theorem eqIdx_lt {s : ByteArray} {o : Nat} (h : eqIdx s = o) : o < s.size := by
  have := (Lib.indexByte_some h).1
  rcases Nat.lt_or_ge o s.data.toList.length with h' | h'
  · simpa using h'
  · rw [List.getElem?_eq_none h'] at this; cases this

set_option maxHeartbeats 2000000 in
set_option maxRecDepth 100000 in
theorem cutLite_any (s : ByteArray) (w : World) (hs : s.size ≤ maxLen) :
    Calls Tryz.prog 146 #[.string s, .string ⟨#[61]⟩] w fun e w' => e = .returned (.tuple #[.string (mName s), .string (mVal s), .bool (!decide (eqIdx s < 0))]) ∧ Below w.heap.size w w' := by
  unfold maxLen at hs
  by_cases hn : eqIdx s < 0
  · have HN : Hid (eqIdx s < 0) := hn
    have h1 : eqIdx s = -1 := by have := eqIdx_ge s; omega
    go_enter Tryz.func146, Tryz.ntmps146
    go_wp2_with (go_at_call 151; refine (index_any _ _).mono ?_; rintro e w' ⟨rfl, rfl⟩; rw [h1])
    go_ret3
    exact ⟨by unfold mName mVal; rw [if_pos HN.out, if_pos HN.out, decide_eq_true HN.out]; rfl, by go_grown⟩
  · obtain ⟨o, ho⟩ : ∃ o : Nat, eqIdx s = o := ⟨(eqIdx s).toNat, by omega⟩
    have hlt := eqIdx_lt ho
    have HN : Hid (¬ eqIdx s < 0) := hn
    have HO : Hid (eqIdx s = o) := ho
    clear hn
    go_enter Tryz.func146, Tryz.ntmps146
    go_wp2_with (go_at_call 151; refine (index_any _ _).mono ?_; rintro e w' ⟨rfl, rfl⟩; rw [HO.out])
    have i0 : (0 : Int) ≤ (o : Int) := by omega
    have i1 : (o : Int) ≤ (s.size : Int) := by omega
    obtain ⟨n1, hn1⟩ : ∃ n1 : Nat, n1 = o + 1 := ⟨_, rfl⟩
    have i2 : (n1 : Int) ≤ (s.size : Int) := by omega
    have i3 : (0 : Int) ≤ (n1 : Int) := by omega
    have HW : Hid (IntKind.i64.wrap ((o : Int) + 1) = (n1 : Int)) := by show _ = _; rw [IntKind.wrap_i64]; omega
    have HN1 : Hid (n1 = o + 1) := hn1
    clear hn1
    clear ho
    refine wp_region_quiet_below (by kernel_rfl) (by kernel_rfl) ?_
    repeat (quiet_step (fail))
    rw [HW.out]
    repeat (quiet_step (fail))
    refine wpQuiet_nil ?_
    intro _ hw'
    obtain ⟨⟨dq, osq⟩, hw''⟩ := hw'
    have hB := below_regrown w' dq osq
    simp only [] at hw''
    rw [← hw''] at hB
    clear hw''
    have HB : Hid (Below w'.heap.size w' _) := hB
    clear hB
    go_wp2_with fail
    go_ret3
    have HN2 : ¬ eqIdx s < 0 := by have := HN.out; omega
    refine ⟨?_, HB.out⟩
    unfold mName mVal
    rw [if_neg HN2, if_neg HN2, decide_eq_false HN2, HO.out]
    simp [HN1.out]

set_option maxHeartbeats 1000000 in
theorem cut_any (s : ByteArray) (w : World) (hs : s.size ≤ maxLen) :
    Calls Tryz.prog 130 #[.string s, .string ⟨#[61]⟩] w fun e w' => e = .returned (.tuple #[.string (mName s), .string (mVal s), .bool (!decide (eqIdx s < 0))]) ∧ Below w.heap.size w w' := by
  have HS : Hid (s.size ≤ maxLen) := hs
  clear hs
  go_enter Tryz.func130, Tryz.ntmps130
  go_wp2_with fail
  refine (cutLite_any s _ HS.out).mono ?_
  rintro e w1 ⟨rfl, hb⟩
  have HB : Hid (Below w.heap.size w w1) := (show Below w.heap.size w _ by go_grown).trans (hb.mono (by simp))
  clear hb
  go_wp2_with fail
  go_ret3
  exact ⟨rfl, HB.out⟩

theorem mName_size {s : ByteArray} (hs : s.size ≤ maxLen) : (mName s).size ≤ maxLen := by
  unfold mName
  split
  · exact hs
  · simp [ByteArray.size_extract]; omega

theorem mVal_size {s : ByteArray} (hs : s.size ≤ maxLen) : (mVal s).size ≤ maxLen := by
  unfold mVal
  split
  · simp [ByteArray.size, maxLen]
  · simp [ByteArray.size_extract]; omega

set_option maxHeartbeats 1000000 in
theorem isMark_any (s : ByteArray) (w : World) (hs : s.size ≤ maxLen) :
    Calls Tryz.prog 129 #[.string s] w fun e w' => e = .returned (.bool (isMk s)) ∧ Below w.heap.size w w' := by
  have HS : Hid (s.size ≤ maxLen) := hs
  have HM : Hid (isMk s = (P.nameOk (mName s) && (decide (eqIdx s < 0) || P.nameOk (mVal s)))) := rfl
  clear hs
  generalize isMk s = R at *
  go_enter Tryz.func129, Tryz.ntmps129
  go_wp2_with fail
  refine (cut_any s _ HS.out).mono ?_
  rintro e w1 ⟨rfl, hb⟩
  have HB : Hid (Below w.heap.size w w1) := (show Below w.heap.size w _ by go_grown).trans (hb.mono (by simp))
  clear hb
  have Z1 : Hid ((mName s).size ≤ maxLen) := mName_size HS.out
  have Z2 : Hid ((mVal s).size ≤ maxLen) := mVal_size HS.out
  generalize mName s = x at *
  generalize mVal s = y at *
  generalize decide (eqIdx s < 0) = b at *
  go_wp2_with fail
  refine (isName_any x _ Z1.out).mono ?_
  rintro e w2 ⟨rfl, rfl⟩
  cases hx : P.nameOk x with
  | false =>
    rw [hx] at HM
    go_wp2_with fail
    go_ret
    exact ⟨ret_bool (by rw [HM.out]; rfl), HB.out⟩
  | true =>
    rw [hx] at HM
    cases b with
    | true =>
      go_wp2_with fail
      go_ret
      exact ⟨ret_bool (by rw [HM.out]; rfl), HB.out⟩
    | false =>
      go_wp2_with fail
      refine (isName_any y _ Z2.out).mono ?_
      rintro e w2 ⟨rfl, rfl⟩
      generalize P.nameOk y = c at *
      go_wp2_with fail
      go_ret
      exact ⟨ret_bool (by rw [HM.out]; simp), HB.out⟩

end Go.Proofs.YtggbhggnemlpnaaGreat
