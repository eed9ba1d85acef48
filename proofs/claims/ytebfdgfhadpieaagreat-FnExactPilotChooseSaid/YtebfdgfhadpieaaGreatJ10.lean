import Derived.Test.YtebfdgfhadpieaaGreatJ9
import Derived.Lib.Strings
import Derived.Lib.Slices
import Derived.Lib.Walk
import Derived.Lib.Bytealg
import Derived.Lib.IndexLaws
namespace Go.Proofs.YtebfdgfhadpieaaGreat
set_option maxRecDepth 100000
open Go.RowKit
def inR (n a b : Int) : Bool := decide (a ≤ n) && decide (n ≤ b)
set_option maxHeartbeats 400000 in
theorem isIn_any (n a b : Int) (w : World) :
  Calls Tryz.prog 95 #[.int .i64 n, .int .i64 a, .int .i64 b] w fun e w' => e = .returned (.bool (inR n a b)) ∧ Below w.heap.size w w' := by
 by_cases h1 : a ≤ n
 ·by_cases h2 : n ≤ b
  ·have HC : Hid (inR n a b = true) := by show _ = _; simp [inR, h1, h2]
   go_enter Tryz.func95, Tryz.ntmps95
   go_wp2_with fail
   go_ret
   exact ⟨ret_bool HC.out.symm, by go_grown⟩
  ·have HC : Hid (inR n a b = false) := by show _ = _; simp [inR, h2]
   go_enter Tryz.func95, Tryz.ntmps95
   go_wp2_with fail
   go_ret
   exact ⟨ret_bool HC.out.symm, by go_grown⟩
 ·have HC : Hid (inR n a b = false) := by show _ = _; simp [inR, h1]
  go_enter Tryz.func95, Tryz.ntmps95
  go_wp2_with fail
  go_ret
  exact ⟨ret_bool HC.out.symm, by go_grown⟩
set_option maxHeartbeats 400000 in
theorem isSize_any (n : Int) (w : World) :
  Calls Tryz.prog 93 #[.int .i64 n] w fun e w' => e = .returned (.bool (inR n 0 1000)) ∧ Below w.heap.size w w' := by
 go_enter Tryz.func93, Tryz.ntmps93
 go_wp2_with fail
 refine (isIn_any _ _ _ _).mono ?_
 rintro e w1 ⟨rfl, hb⟩
 go_wp2_with fail
 go_ret
 exact ⟨rfl, hb⟩
def nameOrNone (s : ByteArray) : Bool := decide (s.size = 0) || P.nameOk s
set_option maxHeartbeats 400000 in
theorem isNameOrNone_any (s : ByteArray) (w : World) (hs : s.size ≤ maxLen) :
  Calls Tryz.prog 117 #[.string s] w fun e w' => e = .returned (.bool (nameOrNone s)) ∧ Below w.heap.size w w' := by
 by_cases h : s = ⟨#[]⟩
 ·have HC : Hid (nameOrNone s = true) := by show _ = _; subst h; rfl
  have hte : s.toList = [] := by subst h; simp
  clear h
  go_enter Tryz.func117, Tryz.ntmps117
  go_wp2_with fail
  go_ret
  exact ⟨ret_bool HC.out.symm, by go_grown⟩
 ·have HC : Hid (nameOrNone s = P.nameOk s) := by
   show _ = _
   have : s.size ≠ 0 := fun e => h (ByteArray.ext (Array.eq_empty_of_size_eq_zero e))
   simp [nameOrNone, this]
  have hte : ¬ s.toList = [] := by
   rw [ByteArray.toList_eq]
   exact fun e => h (by cases s with | mk x => cases x; simp at e; simp [e])
  have HZ : Hid (s.size ≤ maxLen) := hs
  clear h hs
  go_enter Tryz.func117, Tryz.ntmps117
  go_wp2_with fail
  refine (isName_any _ _ HZ.out).mono ?_
  rintro e w1 ⟨rfl, rfl⟩
  go_wp2_with fail
  go_ret
  have hem : s.toList.isEmpty = false := by simpa using hte
  exact ⟨ret_bool (by rw [hem, Bool.false_or]; exact HC.out.symm), by go_grown⟩
def likeOk (l : Lik) : Bool := decide (codeOf l.select = 0) && inR l.weight (-9) 9
def likesOk (xs : List Lik) : Bool := decide (xs.length ≤ 5) && xs.all likeOk
set_option maxHeartbeats 1000000 in
theorem likesOk_any (xs : List Lik) (a : Option Addr) (cap lo : Nat) (w : World) (hin : SliceC LikC 2 lo w a xs) :
  Calls Tryz.prog 116 #[.slice a xs.length cap] w fun e w' => e = .returned (.bool (likesOk xs)) ∧ Below w.heap.size w w' := by
 have hlen := hin.1
 unfold maxLen at hlen
 have HI : Hid (SliceC LikC 2 lo w a xs) := hin
 clear hin
 by_cases h5 : xs.length ≤ 5
 ·go_enter Tryz.func116, Tryz.ntmps116
  go_wp2_with fail
  go_loopw [10] (fun i wr => ∃ k : Nat, k ≤ xs.length ∧ i = .int .i64 k ∧ Hid (∀ j x, j < k → xs[j]? = some x → likeOk x = true) ∧ Below w.heap.size w wr) (fun i _ => xs.length - (intOf i).toNat)
  case atStart => exact ⟨0, Nat.zero_le _, rfl, fun j x h => absurd h (Nat.not_lt_zero _), by go_grown⟩
  case round =>
   obtain ⟨k, hk, rfl, ho, hbel⟩ := hrel
   by_cases hlt : k < xs.length
   ·obtain ⟨x, hx⟩ : ∃ x, xs[k]? = some x := ⟨xs[k], List.getElem?_eq_getElem hlt⟩
    obtain ⟨b, o, rfl, _, _, hc⟩ := (HI.out.below LikC.holds hbel nL).at hx
    obtain ⟨q0, q1, z0⟩ := hc
    simp only [Nat.add_zero] at q0 q1
    have HX : Hid (xs[k]? = some x) := hx
    have HZ : Hid (x.select.size ≤ maxLen) := z0
    have HB : Hid (Below w.heap.size w wr) := hbel
    have HSZ : Hid (w.heap.size ≤ wr.heap.size) := hbel.size
    clear hx z0 hbel
    go_upto_region 6 with fail
    have e0 : (wr.alloc (Obj.cells #[.string x.select, .int .i64 x.weight] 108)).cell? ⟨wr.heap.size, 0, none⟩ = some (.string x.select) := by simp
    have e1 : (wr.alloc (Obj.cells #[.string x.select, .int .i64 x.weight] 108)).cell? ⟨wr.heap.size, 1, none⟩ = some (.int .i64 x.weight) := by simp
    have HB4 : Hid (Below w.heap.size w (wr.alloc (Obj.cells #[.string x.select, .int .i64 x.weight] 108))) := HB.out.alloc HSZ.out _
    have hs4 : wr.heap.size < (wr.alloc (Obj.cells #[.string x.select, .int .i64 x.weight] 108)).heap.size := by simp
    clear HB HSZ q0 q1
    generalize wr.alloc (Obj.cells #[.string x.select, .int .i64 x.weight] 108) = w4 at *
    cases hr : decide (codeOf x.select = 0)
    ·have HC : Hid (likesOk xs = false) := by
      show _ = _
      have hm := List.mem_of_getElem? HX.out
      have : likeOk x = false := by simp [likeOk, hr]
      have : xs.all likeOk = false := List.all_eq_false.mpr ⟨x, hm, by simp [this]⟩
      simp [likesOk, this]
     have HR : Hid (decide (codeOf x.select = 0) = false) := hr
     clear hr
     go_wp2_with fail
     refine (isRead_any _ _ HZ.out).mono ?_
     rintro e w5 ⟨rfl, hb5⟩
     rw [HR.out]
     have HB5 : Hid (Below w.heap.size w w5) := HB4.out.trans (hb5.mono HB4.out.size)
     clear hb5
     go_wp2_with fail
     go_ret
     exact ⟨ret_bool HC.out.symm, HB5.out⟩
    ·have HR : Hid (decide (codeOf x.select = 0) = true) := hr
     go_wp2_with fail
     refine (isRead_any _ _ HZ.out).mono ?_
     rintro e w5 ⟨rfl, hb5⟩
     rw [HR.out]
     have e5 : w5.cell? ⟨wr.heap.size, 1, none⟩ = some (.int .i64 x.weight) := by rw [hb5.cell (p := ⟨wr.heap.size, 1, none⟩) hs4]; exact e1
     have HB5 : Hid (Below w.heap.size w w5) := HB4.out.trans (hb5.mono HB4.out.size)
     clear hb5 e0 e1 hs4 HB4
     go_wp2_with fail
     refine (isIn_any _ _ _ _).mono ?_
     rintro e w6 ⟨rfl, hb6⟩
     have HB6 : Hid (Below w.heap.size w w6) := HB5.out.trans (hb6.mono HB5.out.size)
     clear hb6 HB5 e5
     cases hi : inR x.weight (-9) 9
     ·have HC : Hid (likesOk xs = false) := by
       show _ = _
       have hm := List.mem_of_getElem? HX.out
       have : likeOk x = false := by simp [likeOk, hi]
       have : xs.all likeOk = false := List.all_eq_false.mpr ⟨x, hm, by simp [this]⟩
       simp [likesOk, this]
      clear hi hr
      go_wp2_with fail
      go_ret
      exact ⟨ret_bool HC.out.symm, HB6.out⟩
     ·have HO : Hid (∀ j y, j < k + 1 → xs[j]? = some y → likeOk y = true) := by
       intro j y hj hy
       by_cases e : j = k
       ·subst e
        rw [HX.out] at hy
        cases hy
        simp only [likeOk, hi, HR.out, Bool.and_self]
       ·exact ho.out j y (by omega) hy
      clear hi hr ho
      go_wp2_with fail
      go_roundw
      case rel => exact ⟨k + 1, by omega, by go_num, HO, HB6.out⟩
      case measure => simp [intOf]; omega
   ·have hke : k = xs.length := by omega
    subst hke
    have HC : Hid (likesOk xs = true) := by
     show _ = _
     simp only [likesOk, h5, decide_true, Bool.true_and, List.all_eq_true]
     intro x hx
     obtain ⟨j, hj, e⟩ := List.mem_iff_getElem.mp hx
     exact ho.out j x hj (by rw [List.getElem?_eq_getElem hj, e])
    clear ho
    go_wp2_with fail
    go_ret
    exact ⟨ret_bool HC.out.symm, hbel⟩
 ·have HC : Hid (likesOk xs = false) := by show _ = _; simp [likesOk, h5]
  go_enter Tryz.func116, Tryz.ntmps116
  go_wp2_with fail
  go_ret
  exact ⟨ret_bool HC.out.symm, by go_grown⟩
set_option maxHeartbeats 1000000 in
theorem indexByte_any (s : ByteArray) (c : Int) (w : World) :
  Calls Tryz.prog 146 #[.string s, .int .u8 c] w fun e w' => e = .returned (.int .i64 (Lib.indexByte s.data.toList c.toNat.toUInt8)) ∧ w' = w := by
 go_enter Tryz.func146, Tryz.ntmps146
 go_wp2
 rw [run_callFunc_extern Tryz.func153 (by kernel_rfl) (by kernel_rfl) (by kernel_rfl) (e := Extern.BytealgIndexByte.indexByte) (by kernel_rfl), Lib.run_indexByteString]
 simp only [Result.andThen]
 rw [Oper.upon_value]
 go_wp2
 go_ret
 exact ⟨rfl, rfl⟩
def eqIdx (s : ByteArray) : Int := Lib.indexByte s.data.toList 61
def mName (s : ByteArray) : ByteArray := if eqIdx s < 0 then s else s.extract 0 (eqIdx s).toNat
def mVal (s : ByteArray) : ByteArray := if eqIdx s < 0 then ⟨#[]⟩ else s.extract ((eqIdx s).toNat + 1) s.size
def isMk (s : ByteArray) : Bool := P.nameOk (mName s) && (decide (eqIdx s < 0) || P.nameOk (mVal s))
set_option maxHeartbeats 2000000 in
theorem index_any (s : ByteArray) (w : World) :
  Calls Tryz.prog 140 #[.string s, .string ⟨#[61]⟩] w fun e w' => e = .returned (.int .i64 (eqIdx s)) ∧ w' = w := by
 go_enter Tryz.func140, Tryz.ntmps140
 go_wp2_with (go_at_call 146; refine (indexByte_any _ _ _).mono ?_; rintro e w' ⟨rfl, rfl⟩)
 ·have h : ([61] == s.toList) = true := by assumption
  go_ret
  refine ⟨?_, rfl⟩
  have e : s.data.toList = [61] := by rw [← Lib.toList_data]; exact (beq_iff_eq.1 h).symm
  unfold eqIdx
  rw [e]
  simp [Lib.indexByte]
 ·go_ret
  exact ⟨rfl, rfl⟩
theorem eqIdx_ge (s : ByteArray) : -1 ≤ eqIdx s := Lib.indexByte_ge _ _
theorem eqIdx_lt {s : ByteArray} {o : Nat} (h : eqIdx s = o) : o < s.size := by
 have := (Lib.indexByte_some h).1
 rcases Nat.lt_or_ge o s.data.toList.length with h' | h'
 ·simpa using h'
 ·rw [List.getElem?_eq_none h'] at this; cases this
set_option maxHeartbeats 2000000 in
theorem cutLite_any (s : ByteArray) (w : World) (hs : s.size ≤ maxLen) :
  Calls Tryz.prog 134 #[.string s, .string ⟨#[61]⟩] w fun e w' => e = .returned (.tuple #[.string (mName s), .string (mVal s), .bool (!decide (eqIdx s < 0))]) ∧ Below w.heap.size w w' := by
 unfold maxLen at hs
 by_cases hn : eqIdx s < 0
 ·have HN : Hid (eqIdx s < 0) := hn
  have h1 : eqIdx s = -1 := by have := eqIdx_ge s; omega
  go_enter Tryz.func134, Tryz.ntmps134
  go_wp2_with (go_at_call 140; refine (index_any _ _).mono ?_; rintro e w' ⟨rfl, rfl⟩; rw [h1])
  go_ret3
  exact ⟨by unfold mName mVal; rw [if_pos HN.out, if_pos HN.out, decide_eq_true HN.out]; rfl, by go_grown⟩
 ·obtain ⟨o, ho⟩ : ∃ o : Nat, eqIdx s = o := ⟨(eqIdx s).toNat, by omega⟩
  have hlt := eqIdx_lt ho
  have HN : Hid (¬ eqIdx s < 0) := hn
  have HO : Hid (eqIdx s = o) := ho
  clear hn
  go_enter Tryz.func134, Tryz.ntmps134
  go_wp2_with (go_at_call 140; refine (index_any _ _).mono ?_; rintro e w' ⟨rfl, rfl⟩; rw [HO.out])
  have i0 : (0 : Int) ≤ (o : Int) := by omega
  have i1 : (o : Int) ≤ (s.size : Int) := by omega
  obtain ⟨n1, hn1⟩ : ∃ n1 : Nat, n1 = o + 1 := ⟨_, rfl⟩
  have i2 : (n1 : Int) ≤ (s.size : Int) := by omega
  have i3 : (0 : Int) ≤ (n1 : Int) := by omega
  have HW : Hid (IntKind.i64.wrap ((o : Int) + 1) = (n1 : Int)) := by show _ = _; rw [IntKind.wrap_i64]; omega
  have HN1 : Hid (n1 = o + 1) := hn1
  clear hn1
  clear ho
  refine wp_region_quiet_below (by kernel_rfl) (by kernel_rfl) ?_
  repeat (quiet_step (fail))
  rw [HW.out]
  repeat (quiet_step (fail))
  refine wpQuiet_nil ?_
  intro _ hw'
  obtain ⟨⟨dq, osq⟩, hw''⟩ := hw'
  have hB := below_regrown w' dq osq
  simp only [] at hw''
  rw [← hw''] at hB
  clear hw''
  have HB : Hid (Below w'.heap.size w' _) := hB
  clear hB
  go_wp2_with fail
  go_ret3
  have HN2 : ¬ eqIdx s < 0 := by have := HN.out; omega
  refine ⟨?_, HB.out⟩
  unfold mName mVal
  rw [if_neg HN2, if_neg HN2, decide_eq_false HN2, HO.out]
  simp [HN1.out]
set_option maxHeartbeats 1000000 in
theorem cut_any (s : ByteArray) (w : World) (hs : s.size ≤ maxLen) :
  Calls Tryz.prog 114 #[.string s, .string ⟨#[61]⟩] w fun e w' => e = .returned (.tuple #[.string (mName s), .string (mVal s), .bool (!decide (eqIdx s < 0))]) ∧ Below w.heap.size w w' := by
 have HS : Hid (s.size ≤ maxLen) := hs
 clear hs
 go_enter Tryz.func114, Tryz.ntmps114
 go_wp2_with fail
 refine (cutLite_any s _ HS.out).mono ?_
 rintro e w1 ⟨rfl, hb⟩
 have HB : Hid (Below w.heap.size w w1) := (show Below w.heap.size w _ by go_grown).trans (hb.mono (by simp))
 clear hb
 go_wp2_with fail
 go_ret3
 exact ⟨rfl, HB.out⟩
theorem mName_size {s : ByteArray} (hs : s.size ≤ maxLen) : (mName s).size ≤ maxLen := by
 unfold mName
 split
 ·exact hs
 ·simp [ByteArray.size_extract]; omega
theorem mVal_size {s : ByteArray} (hs : s.size ≤ maxLen) : (mVal s).size ≤ maxLen := by
 unfold mVal
 split
 ·simp [ByteArray.size, maxLen]
 ·simp [ByteArray.size_extract]; omega
set_option maxHeartbeats 1000000 in
theorem isMark_any (s : ByteArray) (w : World) (hs : s.size ≤ maxLen) :
  Calls Tryz.prog 113 #[.string s] w fun e w' => e = .returned (.bool (isMk s)) ∧ Below w.heap.size w w' := by
 have HS : Hid (s.size ≤ maxLen) := hs
 have HM : Hid (isMk s = (P.nameOk (mName s) && (decide (eqIdx s < 0) || P.nameOk (mVal s)))) := rfl
 clear hs
 generalize isMk s = R at *
 go_enter Tryz.func113, Tryz.ntmps113
 go_wp2_with fail
 refine (cut_any s _ HS.out).mono ?_
 rintro e w1 ⟨rfl, hb⟩
 have HB : Hid (Below w.heap.size w w1) := (show Below w.heap.size w _ by go_grown).trans (hb.mono (by simp))
 clear hb
 have Z1 : Hid ((mName s).size ≤ maxLen) := mName_size HS.out
 have Z2 : Hid ((mVal s).size ≤ maxLen) := mVal_size HS.out
 generalize mName s = x at *
 generalize mVal s = y at *
 generalize decide (eqIdx s < 0) = b at *
 go_wp2_with fail
 refine (isName_any x _ Z1.out).mono ?_
 rintro e w2 ⟨rfl, rfl⟩
 cases hx : P.nameOk x with
 | false =>
  rw [hx] at HM
  go_wp2_with fail
  go_ret
  exact ⟨ret_bool (by rw [HM.out]; rfl), HB.out⟩
 | true =>
  rw [hx] at HM
  cases b with
  | true =>
   go_wp2_with fail
   go_ret
   exact ⟨ret_bool (by rw [HM.out]; rfl), HB.out⟩
  | false =>
   go_wp2_with fail
   refine (isName_any y _ Z2.out).mono ?_
   rintro e w2 ⟨rfl, rfl⟩
   generalize P.nameOk y = c at *
   go_wp2_with fail
   go_ret
   exact ⟨ret_bool (by rw [HM.out]; simp), HB.out⟩
structure Svc where
 name : ByteArray
 spare : Int
def wSvc (x : Svc) : Nat := x.name.size
def SvcC : Make Svc := fun _ _ f x => f 0 = some (.string x.name) ∧ f 1 = some (.int .i64 x.spare) ∧ x.name.size ≤ maxLen
theorem SvcC.holds : Holds SvcC 2 := by
 rintro lo lo' w w' f g x h _ _ ⟨q0, q1, z0⟩
 exact ⟨(h 0 (by omega)).trans q0, (h 1 (by omega)).trans q1, z0⟩
set_option maxHeartbeats 1000000 in
theorem szSvc_any (x : Svc)  (L : Int) (w : World) (z0 : x.name.size ≤ maxLen)  (h0 : 0 ≤ L) (h1 : L ≤ 1048576) :
  Calls Tryz.prog 25 #[.agg #[.string x.name, .int .i64 x.spare], .int .i64 L] w fun e w' => e = .returned (.int .i64 (szR (wSvc x) L)) ∧ Below w.heap.size w w' := by
 unfold maxLen at z0
 have HW : Hid (wSvc x = x.name.size) := rfl
 generalize wSvc x = W at *
 by_cases d0 : L - (x.name.size : Nat) < 0
 ·go_enter Tryz.func25, Tryz.ntmps25
  go_wp2_with fail
  go_ret
  exact ⟨ret_int (by have := HW.out; unfold szR; rw [if_neg (by omega)]), by go_grown⟩
 ·skip
  go_enter Tryz.func25, Tryz.ntmps25
  go_wp2_with fail
  go_ret
  exact ⟨ret_int (by have := HW.out; unfold szR; rw [if_pos (by omega)]; omega), by go_grown⟩
theorem isz_Svc : (Tryz.prog.info? 74).map (·.size) = some 2 := by kernel_rfl
set_option maxHeartbeats 2000000 in
theorem toSvc_any (x : Svc) (w : World) :
  Calls Tryz.prog 39 #[.agg #[.string x.name, .int .i64 x.spare]] w fun e w' => e = .returned (.agg #[.string x.name, .int .i64 x.spare]) ∧ Below w.heap.size w w' := by
 go_enter Tryz.func39, Tryz.ntmps39
 go_wp2
 go_returns
 exact ⟨rfl, by go_grown⟩
set_option maxHeartbeats 2000000 in
theorem eqSvc_any (x : Svc) (w : World) :
  Calls Tryz.prog 49 #[.agg #[.string x.name, .int .i64 x.spare], .agg #[.string x.name, .int .i64 x.spare]] w fun e w' => e = .returned (.bool true) ∧ Below w.heap.size w w' := by
 go_enter Tryz.func49, Tryz.ntmps49
 go_wp2
 go_ret
 exact ⟨rfl, by go_grown⟩
set_option maxHeartbeats 1000000 in
theorem szSvcS_any (xs : List Svc) (a : Option Addr) (cap lo : Nat) (L : Int) (w : World) (hin : SliceC SvcC 2 lo w a xs) (h0 : 0 ≤ L) (h1 : L ≤ 1048576) :
  Calls Tryz.prog 10 #[.slice a xs.length cap, .int .i64 L] w fun e w' => e = .returned (.int .i64 (szR (wS wSvc xs) L)) ∧ Below w.heap.size w w' := by
 have hlen := hin.1
 unfold maxLen at hlen
 have HI : Hid (SliceC SvcC 2 lo w a xs) := hin
 clear hin
 have HW : Hid (wS wSvc xs = xs.length + (xs.map wSvc).sum) := rfl
 generalize wS wSvc xs = W at *
 by_cases c1 : L - xs.length < 0
 ·go_enter Tryz.func10, Tryz.ntmps10
  go_wp2_with fail
  go_ret
  exact ⟨ret_int (by have := HW.out; unfold szR; rw [if_neg (by omega)]), Below.refl _ _⟩
 ·go_enter Tryz.func10, Tryz.ntmps10
  go_wp2_with fail
  go_loopw [1, 5] (fun l i wr => ∃ (k : Nat) (M : Int), k ≤ xs.length ∧ i = .int .i64 k ∧ l = .int .i64 M ∧ 0 ≤ M ∧ M ≤ 1048576 ∧ Hid (M = L - xs.length - ((xs.take k).map wSvc).sum) ∧ Below w.heap.size w wr) (fun _ i _ => xs.length - (intOf i).toNat)
  case atStart => exact ⟨0, _, Nat.zero_le _, rfl, rfl, by omega, by omega, by show _ = _; simp, Below.refl _ _⟩
  case round =>
   obtain ⟨k, M, hk, rfl, rfl, hM0, hM1, hM, hbel⟩ := hrel
   by_cases hlt : k < xs.length
   ·obtain ⟨x, hx⟩ : ∃ x, xs[k]? = some x := ⟨xs[k], List.getElem?_eq_getElem hlt⟩
    obtain ⟨b, o, rfl, _, _, hc⟩ := (HI.out.below SvcC.holds hbel nL).at hx
    obtain ⟨q0, q1, z0⟩ := hc
    simp only [Nat.add_zero] at q0 q1
    have HX : Hid (((xs.take (k + 1)).map wSvc).sum = ((xs.take k).map wSvc).sum + wSvc x) := sum_take _ _ _ _ hx
    have HY : Hid (((xs.take (k + 1)).map wSvc).sum ≤ (xs.map wSvc).sum) := sum_take_le _ _ _
    have CT := szSvc_any x M wr z0 hM0 hM1
    have HCT := iH CT
    clear hx CT
    by_cases hr : (wSvc x : Int) ≤ M
    ·rw [szR_pos hr] at HCT
     generalize hV : wSvc x = V at *
     clear hV
     go_wp2_with fail
     refine HCT.out.mono ?_
     rintro e w1 ⟨rfl, hb1⟩
     clear HCT
     go_wp2_with fail
     go_roundw
     case rel =>
      refine ⟨k + 1, M - V, by omega, by go_num, rfl, by omega, by omega, ?_, hbel.trans (hb1.mono hbel.size)⟩
      have := hM.out
      have := HX.out
      show _ = _
      omega
     case measure => simp [intOf]; omega
    ·rw [szR_neg hr] at HCT
     generalize hV : wSvc x = V at *
     clear hV
     go_wp2_with fail
     refine HCT.out.mono ?_
     rintro e w1 ⟨rfl, hb1⟩
     clear HCT
     go_wp2_with fail
     go_ret
     refine ⟨ret_int ?_, hbel.trans (hb1.mono hbel.size)⟩
     have := HW.out
     have := HX.out
     have := HY.out
     have := hM.out
     unfold szR
     rw [if_neg (by omega)]
   ·go_wp2_with fail
    go_ret
    refine ⟨ret_int ?_, hbel⟩
    have hke : k = xs.length := by omega
    subst hke
    have h3 := hM.out
    have h4 := HW.out
    simp only [List.take_length] at h3
    unfold szR
    rw [if_pos (by omega)]
    omega
theorem info_Svc : (Tryz.prog.info? 74).map (fun i => (i.zero, i.size, i.bytes)) = some (some (.agg #[.string ⟨#[]⟩, .int .i64 0]), 2, 24) := by kernel_rfl
set_option maxHeartbeats 2000000 in
theorem toSvcS_any (xs : List Svc) (a : Option Addr) (cap lo : Nat) (w : World) (hin : SliceC SvcC 2 lo w a xs) (hsm : wS wSvc xs ≤ 1048576) :
  Calls Tryz.prog 16 #[.slice a xs.length cap] w fun e w' => ∃ g, e = .returned (.slice (some ⟨g, 0, none⟩) xs.length xs.length) ∧ w.heap.size ≤ g ∧ SliceC SvcC 2 w.heap.size w' (some ⟨g, 0, none⟩) xs ∧ Below w.heap.size w w' := by
 obtain ⟨i0, hi, hz0, hz1, hz2⟩ := info_parts info_Svc
 have hlen : xs.length ≤ 1048576 := Nat.le_trans wS_len hsm
 have HI : Hid (SliceC SvcC 2 lo w a xs) := hin
 have HSM : Hid (wS wSvc xs ≤ 1048576) := hsm
 clear hin hsm
 go_enter Tryz.func16, Tryz.ntmps16
 go_wp2_with (at_make; refine wpList_make_full _ rfl _ _ 30 rfl w.heap.size 74 i0 _ 2 Tryz.underlying30 hi hz0 hz1 .i64 .i64 _ _ xs.length rfl rfl rfl rfl (by rw [hz2]; omega) (by unfold maxLen; omega) nL ?_; intro w1 hown hgrow)
 have hb1 : Below w.heap.size w w1 := (Below.refl _ _).grown hgrow nL (fun k h => by cases h)
 have hsz1 := (hown.lt w.heap.size rfl).2
 generalize hX : (madeCells _ (xs.length * 2)).toList = xs0 at hown
 clear hX hgrow hi hz0 hz1 hz2
 go_loopw [4] (fun i wr => ∃ (k : Nat) (cs : List Value), k ≤ xs.length ∧ i = .int .i64 k ∧ w.heap.size < wr.heap.size ∧ wr.ownsRow w.heap.size 74 2 (.slice (some ⟨w.heap.size, 0, none⟩) xs.length xs.length) xs.length cs ∧ RowC SvcC 2 (w.heap.size + 1) wr cs xs k ∧ Below w.heap.size w wr) (fun i _ => xs.length - (intOf i).toNat)
 case atStart => exact ⟨0, xs0, Nat.zero_le _, rfl, hsz1, hown, fun j n h => by omega, hb1⟩
 case round =>
  clear hown hb1 hsz1
  obtain ⟨k, cs, hk, rfl, hszr, hown, hfil, hbel⟩ := hrel
  by_cases hlt : k < xs.length
  ·obtain ⟨x, hx⟩ : ∃ x, xs[k]? = some x := ⟨xs[k], List.getElem?_eq_getElem hlt⟩
   obtain ⟨b, o, rfl, _, _, hc⟩ := (HI.out.below SvcC.holds hbel nL).at hx
   obtain ⟨q0, q1, z0⟩ := hc
   simp only [Nat.add_zero] at q0 q1
   have HN : Hid (xs[k]? = some x) := hx
   have hwx : wSvc x ≤ 1048576 := Nat.le_trans (wS_mem (List.mem_of_getElem? hx)) HSM.out
   have HO : Hid (wr.ownsRow w.heap.size 74 2 (.slice (some ⟨w.heap.size, 0, none⟩) xs.length xs.length) xs.length cs) := hown
   have HF : Hid (RowC SvcC 2 (w.heap.size + 1) wr cs xs k) := hfil
   have HS : Hid (w.heap.size < wr.heap.size) := hszr
   have CT := toSvc_any x wr
   have HCT := iH CT
   clear hx hown hfil CT hszr
   go_wp2_with fail
   refine HCT.out.mono ?_
   rintro e w2 ⟨rfl, hb2⟩
   clear HCT q0 q1
   have ho2 := ownsRow_below HO.out hb2
   have HB2 : Hid (Below w.heap.size w w2) := hbel.trans (hb2.mono hbel.size)
   have HF2 : Hid (RowC SvcC 2 (w.heap.size + 1) w2 cs xs k) := HF.out.keep SvcC.holds (Keeps.of_below hb2 nL _)
   have hs2 : Hid (w.heap.size < w2.heap.size) := Nat.lt_of_lt_of_le HS.out hb2.size
   have HR : Hid (SvcC (w.heap.size + 1) w2 (fun i => ([.string x.name, .int .i64 x.spare] : List Value)[i]?) x) := ⟨rfl, rfl, z0⟩
   have hxl : cs.length = xs.length * 2 := ho2.1
   have HT : Hid (w2.there w.heap.size (k * 2) 2) := ownsRow_there ho2 (by omega)
   have HL : Hid (cs.length = xs.length * 2) := hxl
   have HO2 : Hid (w2.ownsRow w.heap.size 74 2 (.slice (some ⟨w.heap.size, 0, none⟩) xs.length xs.length) xs.length cs) := ho2
   clear hxl ho2 HO hb2 hwx
   obtain ⟨w3, hw3⟩ : ∃ w', w' = w2.setCells w.heap.size (k * 2) [.string x.name, .int .i64 x.spare] := ⟨_, rfl⟩
   have HW3 : Hid (w3 = w2.setCells w.heap.size (k * 2) [.string x.name, .int .i64 x.spare]) := hw3
   have HS3 : Hid (w.heap.size < w3.heap.size) := by rw [hw3, size_setCells]; exact hs2
   have HO3 : Hid (w3.ownsRow w.heap.size 74 2 (.slice (some ⟨w.heap.size, 0, none⟩) xs.length xs.length) xs.length (setRun cs (k * 2) [.string x.name, .int .i64 x.spare])) := by rw [hw3]; exact ownsRow_run _ _ _ _ HO2.out
   have HB3 : Hid (Below w.heap.size w w3) := by rw [hw3]; exact below_setCells nL _ _ _ HB2.out
   have HR3 : Hid (RowC SvcC 2 (w.heap.size + 1) w3 (setRun cs (k * 2) [.string x.name, .int .i64 x.spare]) xs (k + 1)) := by
    rw [hw3]
    exact (HF2.out.step (vs := [.string x.name, .int .i64 x.spare]) SvcC.holds HN.out rfl (by have := HL.out; omega) HR.out).keep SvcC.holds (Keeps.setCells (by omega) _ _ _)
   clear hw3 HB2 HF2 hs2 HR HL HO2
   go_wp2_with (refine wpList_store_to rfl 74 _ _ rfl w.heap.size (k * 2) #[.string x.name, .int .i64 x.spare] (by first | rfl | (simp [go_sem]; done)) rfl HT.out isz_Svc (by simp [Value.oneCell']) w3 HW3.out ?_)
   go_roundw
   case rel => exact ⟨k + 1, _, by omega, by go_num, HS3.out, HO3.out, HR3.out, HB3.out⟩
   case measure => simp [intOf]; omega
  ·have HO : Hid (wr.ownsRow w.heap.size 74 2 (.slice (some ⟨w.heap.size, 0, none⟩) xs.length xs.length) xs.length cs) := hown
   have HF : Hid (RowC SvcC 2 (w.heap.size + 1) wr cs xs k) := hfil
   clear hown hfil
   go_wp2_with fail
   go_ret
   have hke : k = xs.length := by omega
   subst hke
   exact ⟨_, rfl, Nat.le_refl _, sliceC_of_row HO.out HF.out SvcC.holds HI.out.1 (by omega) nL, hbel⟩
set_option maxHeartbeats 2000000 in
theorem eqSvcS_any (xs : List Svc) (a a' : Option Addr) (cap cap' lo lo' : Nat) (w : World) (hg : SliceC SvcC 2 lo w a xs) (hh : SliceC SvcC 2 lo' w a' xs) (hsm : wS wSvc xs ≤ 1048576) :
  Calls Tryz.prog 22 #[.slice a xs.length cap, .slice a' xs.length cap'] w fun e w' => e = .returned (.bool true) ∧ Below w.heap.size w w' := by
 have hlen : xs.length ≤ 1048576 := Nat.le_trans wS_len hsm
 have HG : Hid (SliceC SvcC 2 lo w a xs) := hg
 have HH : Hid (SliceC SvcC 2 lo' w a' xs) := hh
 clear hg hh hsm
 go_enter Tryz.func22, Tryz.ntmps22
 go_wp2_with fail
 go_loopw [5] (fun i wr => ∃ (k : Nat), k ≤ xs.length ∧ i = .int .i64 k ∧ Below w.heap.size w wr) (fun i _ => xs.length - (intOf i).toNat)
 case atStart => exact ⟨0, Nat.zero_le _, rfl, Below.refl _ _⟩
 case round =>
  obtain ⟨k, hk, rfl, hbel⟩ := hrel
  by_cases hlt : k < xs.length
  ·obtain ⟨x, hx⟩ : ∃ x, xs[k]? = some x := ⟨xs[k], List.getElem?_eq_getElem hlt⟩
   obtain ⟨b, o, rfl, _, _, hc⟩ := (HG.out.below SvcC.holds hbel nL).at hx
   obtain ⟨b', o', rfl, _, _, hc'⟩ := (HH.out.below SvcC.holds hbel nL).at hx
   obtain ⟨q0, q1, _⟩ := hc
   obtain ⟨r0, r1, _⟩ := hc'
   simp only [Nat.add_zero] at q0 q1 r0 r1
   have k0 := cell_regrown q0
   have l0 := cell_regrown r0
   have k1 := cell_regrown q1
   have l1 := cell_regrown r1
   have cE : ∀ d os, Calls Tryz.prog 49 #[.agg #[.string x.name, .int .i64 x.spare], .agg #[.string x.name, .int .i64 x.spare]] (Sort.grow (redrawn wr d) os) fun e w'' => e = .returned (.bool true) ∧ ∃ p : Regrown, w'' = Sort.grow (redrawn wr p.d) p.os := fun d os => Calls.regrown_of (eqSvc_any x _)
   have i0 : (0 : Int) ≤ (k : Int) := by omega
   have i1 : (k : Int) < (xs.length : Int) := by omega
   clear hx q0 q1 r0 r1
   go_wp2_with fail
   refine wp_region_quiet_below (by kernel_rfl) (by kernel_rfl) ?_
   repeat (quiet_step (first | exact cE _ _))
   refine wpQuiet_nil ?_
   intro _ hw'
   obtain ⟨⟨dq, osq⟩, hw''⟩ := hw'
   have hB := hbel.trans ((below_regrown wr dq osq).mono hbel.size)
   simp only [] at hw''
   rw [← hw''] at hB
   clear hw'' cE k0 l0 k1 l1
   go_wp2_with fail
   go_roundw
   case rel => exact ⟨k + 1, by omega, by go_num, hB⟩
   case measure => simp [intOf]; omega
  ·go_wp2_with fail
   go_ret
   exact ⟨rfl, hbel⟩
end Go.Proofs.YtebfdgfhadpieaaGreat
