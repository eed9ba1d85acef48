/-
  Several texts in one: Mk1, Mk2, Mk3, Mk4.
-/
import Derived.Test.YtbaafgjiblkckaaGreatVaAll
import Derived.Lib.Strings
import Derived.Lib.Slices
import Derived.Lib.Walk
import Derived.Lib.Bytealg
import Derived.Lib.IndexLaws
import Derived.Test.YtbaafgjiblkckaaGreatPlc
import Derived.Maps.OwnOps
import Derived.Laws.Cover1
import Derived.Test.YtbaafgjiblkckaaGreatVa4
import Derived.Test.YtbaafgjiblkckaaGreatVa5
namespace Go.Proofs.YtbaafgjiblkckaaGreat
open Go.RowKit

set_option maxHeartbeats 1000000 in
set_option maxRecDepth 100000 in
theorem indexByte_any (s : ByteArray) (c : Int) (w : World) :
    Calls Tryz.prog 106 #[.string s, .int .u8 c] w fun e w' => e = .returned (.int .i64 (Lib.indexByte s.data.toList c.toNat.toUInt8)) ∧ w' = w := by
  go_enter Tryz.func106, Tryz.ntmps106
  go_wp2
  rw [run_callFunc_extern Tryz.func113 (by kernel_rfl) (by kernel_rfl) (by kernel_rfl) (e := Extern.BytealgIndexByte.indexByte) (by kernel_rfl), Lib.run_indexByteString]
  simp only [Result.andThen]
  rw [Oper.upon_value]
  go_wp2
  go_ret
  exact ⟨rfl, rfl⟩

/-- where the sign of equality is first, or -1 -/
def eqIdx (s : ByteArray) : Int := Lib.indexByte s.data.toList 61
def mName (s : ByteArray) : ByteArray := if eqIdx s < 0 then s else s.extract 0 (eqIdx s).toNat
def mVal (s : ByteArray) : ByteArray := if eqIdx s < 0 then ⟨#[]⟩ else s.extract ((eqIdx s).toNat + 1) s.size
def isMk (s : ByteArray) : Bool := P.nameOk (mName s) && (decide (eqIdx s < 0) || P.nameOk (mVal s))

set_option maxHeartbeats 2000000 in
set_option maxRecDepth 100000 in
theorem index_any (s : ByteArray) (w : World) :
    Calls Tryz.prog 101 #[.string s, .string ⟨#[61]⟩] w fun e w' => e = .returned (.int .i64 (eqIdx s)) ∧ w' = w := by
  go_enter Tryz.func101, Tryz.ntmps101
  go_wp2_with (go_at_call 106; refine (indexByte_any _ _ _).mono ?_; rintro e w' ⟨rfl, rfl⟩)
  · have h : ([61] == s.toList) = true := by assumption
    go_ret
    refine ⟨?_, rfl⟩
    have e : s.data.toList = [61] := by rw [← Lib.toList_data]; exact (beq_iff_eq.1 h).symm
    unfold eqIdx
    rw [e]
    simp [Lib.indexByte]
  · go_ret
    exact ⟨rfl, rfl⟩

theorem eqIdx_ge (s : ByteArray) : -1 ≤ eqIdx s := Lib.indexByte_ge _ _

theorem eqIdx_lt {s : ByteArray} {o : Nat} (h : eqIdx s = o) : o < s.size := by
  have := (Lib.indexByte_some h).1
  rcases Nat.lt_or_ge o s.data.toList.length with h' | h'
  · simpa using h'
  · rw [List.getElem?_eq_none h'] at this; cases this

set_option maxHeartbeats 2000000 in
set_option maxRecDepth 100000 in
theorem cutLite_any (s : ByteArray) (w : World) (hs : s.size ≤ maxLen) :
    Calls Tryz.prog 97 #[.string s, .string ⟨#[61]⟩] w fun e w' => e = .returned (.tuple #[.string (mName s), .string (mVal s), .bool (!decide (eqIdx s < 0))]) ∧ Below w.heap.size w w' := by
  unfold maxLen at hs
  by_cases hn : eqIdx s < 0
  · have HN : Hid (eqIdx s < 0) := hn
    have h1 : eqIdx s = -1 := by have := eqIdx_ge s; omega
    go_enter Tryz.func97, Tryz.ntmps97
    go_wp2_with (go_at_call 101; refine (index_any _ _).mono ?_; rintro e w' ⟨rfl, rfl⟩; rw [h1])
    go_ret3
    exact ⟨by unfold mName mVal; rw [if_pos HN.out, if_pos HN.out, decide_eq_true HN.out]; rfl, by go_grown⟩
  · obtain ⟨o, ho⟩ : ∃ o : Nat, eqIdx s = o := ⟨(eqIdx s).toNat, by omega⟩
    have hlt := eqIdx_lt ho
    have HN : Hid (¬ eqIdx s < 0) := hn
    have HO : Hid (eqIdx s = o) := ho
    clear hn
    go_enter Tryz.func97, Tryz.ntmps97
    go_wp2_with (go_at_call 101; refine (index_any _ _).mono ?_; rintro e w' ⟨rfl, rfl⟩; rw [HO.out])
    have i0 : (0 : Int) ≤ (o : Int) := by omega
    have i1 : (o : Int) ≤ (s.size : Int) := by omega
    obtain ⟨n1, hn1⟩ : ∃ n1 : Nat, n1 = o + 1 := ⟨_, rfl⟩
    have i2 : (n1 : Int) ≤ (s.size : Int) := by omega
    have i3 : (0 : Int) ≤ (n1 : Int) := by omega
    have HW : Hid (IntKind.i64.wrap ((o : Int) + 1) = (n1 : Int)) := by show _ = _; rw [IntKind.wrap_i64]; omega
    have HN1 : Hid (n1 = o + 1) := hn1
    clear hn1
    clear ho
    refine wp_region_quiet_below (by kernel_rfl) (by kernel_rfl) ?_
    repeat (quiet_step (fail))
    rw [HW.out]
    repeat (quiet_step (fail))
    refine wpQuiet_nil ?_
    intro _ hw'
    obtain ⟨⟨dq, osq⟩, hw''⟩ := hw'
    have hB := below_regrown w' dq osq
    simp only [] at hw''
    rw [← hw''] at hB
    clear hw''
    have HB : Hid (Below w'.heap.size w' _) := hB
    clear hB
    go_wp2_with fail
    go_ret3
    have HN2 : ¬ eqIdx s < 0 := by have := HN.out; omega
    refine ⟨?_, HB.out⟩
    unfold mName mVal
    rw [if_neg HN2, if_neg HN2, decide_eq_false HN2, HO.out]
    simp [HN1.out]

set_option maxHeartbeats 1000000 in
theorem cut_any (s : ByteArray) (w : World) (hs : s.size ≤ maxLen) :
    Calls Tryz.prog 87 #[.string s, .string ⟨#[61]⟩] w fun e w' => e = .returned (.tuple #[.string (mName s), .string (mVal s), .bool (!decide (eqIdx s < 0))]) ∧ Below w.heap.size w w' := by
  have HS : Hid (s.size ≤ maxLen) := hs
  clear hs
  go_enter Tryz.func87, Tryz.ntmps87
  go_wp2_with fail
  refine (cutLite_any s _ HS.out).mono ?_
  rintro e w1 ⟨rfl, hb⟩
  have HB : Hid (Below w.heap.size w w1) := (show Below w.heap.size w _ by go_grown).trans (hb.mono (by simp))
  clear hb
  go_wp2_with fail
  go_ret3
  exact ⟨rfl, HB.out⟩

theorem mName_size {s : ByteArray} (hs : s.size ≤ maxLen) : (mName s).size ≤ maxLen := by
  unfold mName
  split
  · exact hs
  · simp [ByteArray.size_extract]; omega

theorem mVal_size {s : ByteArray} (hs : s.size ≤ maxLen) : (mVal s).size ≤ maxLen := by
  unfold mVal
  split
  · simp [ByteArray.size, maxLen]
  · simp [ByteArray.size_extract]; omega

set_option maxHeartbeats 1000000 in
theorem isMark_any (s : ByteArray) (w : World) (hs : s.size ≤ maxLen) :
    Calls Tryz.prog 86 #[.string s] w fun e w' => e = .returned (.bool (isMk s)) ∧ Below w.heap.size w w' := by
  have HS : Hid (s.size ≤ maxLen) := hs
  have HM : Hid (isMk s = (P.nameOk (mName s) && (decide (eqIdx s < 0) || P.nameOk (mVal s)))) := rfl
  clear hs
  generalize isMk s = R at *
  go_enter Tryz.func86, Tryz.ntmps86
  go_wp2_with fail
  refine (cut_any s _ HS.out).mono ?_
  rintro e w1 ⟨rfl, hb⟩
  have HB : Hid (Below w.heap.size w w1) := (show Below w.heap.size w _ by go_grown).trans (hb.mono (by simp))
  clear hb
  have Z1 : Hid ((mName s).size ≤ maxLen) := mName_size HS.out
  have Z2 : Hid ((mVal s).size ≤ maxLen) := mVal_size HS.out
  generalize mName s = x at *
  generalize mVal s = y at *
  generalize decide (eqIdx s < 0) = b at *
  go_wp2_with fail
  refine (isName_any x _ Z1.out).mono ?_
  rintro e w2 ⟨rfl, rfl⟩
  cases hx : P.nameOk x with
  | false =>
    rw [hx] at HM
    go_wp2_with fail
    go_ret
    exact ⟨ret_bool (by rw [HM.out]; rfl), HB.out⟩
  | true =>
    rw [hx] at HM
    cases b with
    | true =>
      go_wp2_with fail
      go_ret
      exact ⟨ret_bool (by rw [HM.out]; rfl), HB.out⟩
    | false =>
      go_wp2_with fail
      refine (isName_any y _ Z2.out).mono ?_
      rintro e w2 ⟨rfl, rfl⟩
      generalize P.nameOk y = c at *
      go_wp2_with fail
      go_ret
      exact ⟨ret_bool (by rw [HM.out]; simp), HB.out⟩

end Go.Proofs.YtbaafgjiblkckaaGreat

namespace Go.Proofs.YtbaafgjiblkckaaGreat
open Go.RowKit Go.WideMaps Go.Maps

/-- how often a text is in a list -/
def cntOf (t : ByteArray) (r : List ByteArray) : Nat := r.countP (fun s => decide (s = t))

theorem cntOf_le (t : ByteArray) (r : List ByteArray) : cntOf t r ≤ r.length := List.countP_le_length
theorem cntOf_same (t : ByteArray) (r : List ByteArray) : cntOf t (t :: r) = cntOf t r + 1 := by simp [cntOf]
theorem cntOf_other {t s : ByteArray} (h : ¬ s = t) (r : List ByteArray) : cntOf t (s :: r) = cntOf t r := by simp [cntOf, h]

/-- the map that counts keys, the last one in front -/
def cntR : List ByteArray → DataW Unit
  | [] => .map []
  | s :: r => (cntR r).put (kOf s) (.lit (.int .i64 (((cntOf s r : Nat) : Int) + 1)))

theorem cntR_isMap : ∀ r, IsMap (cntR r)
  | [] => ⟨_, rfl⟩
  | _ :: r => IsMap.put (cntR_isMap r) _ _

theorem at_cntR (t : ByteArray) : ∀ r : List ByteArray, (cntR r).atKey (kOf t) (.lit (.int .i64 0)) = .lit (.int .i64 ((cntOf t r : Nat) : Int))
  | [] => rfl
  | s :: r => by
    unfold cntR
    by_cases e : s = t
    · subst e
      rw [atKey_put_same (cntR_isMap r) (show WideAt.IsKeyLit (kOf _) from trivial), cntOf_same]
      simp
    · rw [atKey_put_other (fun h => e (kOf_inj h).symm), at_cntR t r, cntOf_other e]

/-- the keys of a text, the last one in front -/
def keyR (m : ByteArray) : List ByteArray := if isMk m = true then (if eqIdx m < 0 then [mName m] else [m, mName m]) else []
def keysR (ms : List ByteArray) : Nat → List ByteArray
  | 0 => []
  | k + 1 => match ms[k]? with
    | some m => keyR m ++ keysR ms k
    | none => keysR ms k

theorem keyR_len (m : ByteArray) : (keyR m).length ≤ 2 := by
  unfold keyR
  split
  · split <;> simp
  · simp

theorem keysR_len (ms : List ByteArray) : ∀ k, (keysR ms k).length ≤ 2 * k
  | 0 => by simp [keysR]
  | k + 1 => by
    unfold keysR
    have := keysR_len ms k
    split
    · rename_i m _
      have := keyR_len m
      simp
      omega
    · omega

theorem keysR_step {ms : List ByteArray} {k : Nat} {m : ByteArray} (h : ms[k]? = some m) : keysR ms (k + 1) = keyR m ++ keysR ms k := by
  simp [keysR, h]

theorem run_mapNone {P : Program} {w : World} (t : TypeId) : (Instr.makeMap t none).run P w = .ok (.map (some w.heap.size)) (w.alloc (.map #[] 0)) := rfl

theorem lit_int_inj {a b : Int} (h : (DataW.lit (Lit.int .i64 a) : DataW Unit) = .lit (.int .i64 b)) : a = b := by
  injection h with h
  injection h

set_option maxHeartbeats 2000000 in
set_option maxRecDepth 100000 in
theorem marksOf_any (ms : List ByteArray) (a : Option Addr) (cap lo : Nat) (w : World) (hin : SliceC StrC 1 lo w a ms) (hsm : ms.length ≤ 1048576) :
    Calls Tryz.prog 85 #[.slice a ms.length cap] w fun e w' => ∃ m n, e = .returned (.map (some m)) ∧ w'.ownsMap Tryz.prog 9 (plainElem Tryz.prog 3) m n (cntR (keysR ms ms.length)) ∧ Below w.heap.size w w' := by
  have hmm : ∀ w, (Instr.makeMap 138 none).run Tryz.prog w = .ok (.map (some w.heap.size)) (w.alloc (.map #[] 0)) := fun w => run_mapNone _
  have HI : Hid (SliceC StrC 1 lo w a ms) := hin
  clear hin
  go_enter Tryz.func85, Tryz.ntmps85
  go_wp2_with fail
  go_loopw [12] (fun i wr => ∃ k n : Nat, k ≤ ms.length ∧ i = .int .i64 k ∧ Hid (n ≤ 2 * k) ∧ Hid (wr.ownsMap Tryz.prog 9 (plainElem Tryz.prog 3) w.heap.size n (cntR (keysR ms k))) ∧ Hid (Below w.heap.size w wr))
    (fun i _ => ms.length - (intOf i).toNat)
  case atStart => exact ⟨0, 0, Nat.zero_le _, rfl, Nat.le_refl _, World.ownsMap_made _ _ _ _, (Below.refl _ _).alloc (Nat.le_refl _) _⟩
  case round =>
    obtain ⟨k, n, hk, rfl, hn, ho, hbel⟩ := hrel
    by_cases hlt : k < ms.length
    · obtain ⟨m, hm⟩ : ∃ m, ms[k]? = some m := ⟨ms[k], List.getElem?_eq_getElem hlt⟩
      obtain ⟨b, o, rfl, _, _, hc⟩ := (HI.out.below StrC.holds hbel.out (Nat.le_refl _)).at hm
      obtain ⟨q0, z0⟩ := hc
      simp only [Nat.mul_one, Nat.add_zero] at q0
      have HX : Hid (ms[k]? = some m) := hm
      have HZ : Hid (m.size ≤ maxLen) := z0
      clear hm z0
      go_wp2_with fail
      refine (isMark_any m _ HZ.out).mono ?_
      rintro e w1 ⟨rfl, hb1⟩
      have HB1 : Hid (Below w.heap.size w w1) := hbel.out.trans (hb1.mono hbel.out.size)
      have HO1 : Hid (w1.ownsMap Tryz.prog 9 (plainElem Tryz.prog 3) w.heap.size n (cntR (keysR ms k))) := ownsMap_below ho.out hb1 ho.out.lt
      clear hb1 hbel ho q0
      cases hmk : isMk m with
      | false =>
        have HK : Hid (keysR ms (k + 1) = keysR ms k) := by show _ = _; rw [keysR_step HX.out]; simp [keyR, hmk]
        clear hmk
        go_wp2_with fail
        go_roundw
        case rel => exact ⟨k + 1, n, by omega, by go_num, by have := hn.out; show _ ≤ _; omega, by show World.ownsMap _ _ _ _ _ _ _; rw [HK.out]; exact HO1.out, HB1⟩
        case measure => simp [intOf]; omega
      | true =>
        go_wp2_with fail
        refine (cut_any m _ HZ.out).mono ?_
        rintro e w2 ⟨rfl, hb2⟩
        have HB2 : Hid (Below w.heap.size w w2) := HB1.out.trans (hb2.mono HB1.out.size)
        have HO2 : Hid (w2.ownsMap Tryz.prog 9 (plainElem Tryz.prog 3) w.heap.size n (cntR (keysR ms k))) := ownsMap_below HO1.out hb2 HO1.out.lt
        clear hb2 HB1 HO1
        have ZN : Hid ((mName m).size ≤ maxLen) := mName_size HZ.out
        have HKR : Hid (keyR m = if eqIdx m < 0 then [mName m] else [m, mName m]) := by show _ = _; simp [keyR, hmk]
        clear hmk
        have hkn : keyOf Tryz.prog 9 (.string (mName m)) = some (kOf (mName m)) := keyOf_string_mk Tryz.underlying9 ZN.out
        have hkm : keyOf Tryz.prog 9 (.string m) = some (kOf m) := keyOf_string_mk Tryz.underlying9 HZ.out
        have HL : Hid ((keysR ms k).length ≤ 2 * k) := keysR_len ms k
        obtain ⟨R, hR⟩ : ∃ R, R = keysR ms k := ⟨_, rfl⟩
        have HR : Hid (R = keysR ms k) := hR
        rw [← hR] at HO2 HL
        clear hR
        generalize mName m = nm at *
        generalize mVal m = vl at *
        obtain ⟨c0, hc0⟩ : ∃ c0 : Nat, c0 = cntOf nm R := ⟨_, rfl⟩
        have HA0 : Hid ((cntR R).atKey (kOf nm) (.lit (.int .i64 0)) = .lit (.int .i64 (c0 : Int))) := by show _ = _; rw [hc0]; exact at_cntR nm R
        have hc0l : c0 ≤ 2097152 := by have := cntOf_le nm R; have := HL.out; omega
        have HC0 : Hid (cntR (nm :: R) = (cntR R).put (kOf nm) (.lit (.int .i64 ((c0 : Int) + 1)))) := by show _ = _; rw [hc0]; rfl
        clear hc0
        go_upto_region 8 with (first | (at_lookup; refine wpList_lookup_own_int _ rfl _ _ 138 rfl 9 3 .i64 law_str Tryz.underlying138 Tryz.underlying3 (zero_int _) w.heap.size _ _ rfl HO2.out _ _ rfl hkn ?_; intro c hcc _; obtain rfl := lit_int_inj (hcc.symm.trans HA0.out)) | (at_mapUpdate; refine wpList_mapUpdate_own _ rfl _ _ _ 138 rfl 9 3 law_str Tryz.underlying138 _ w.heap.size n _ rfl HO2.out (by have := hn.out; unfold maxLen; omega) _ _ _ rfl rfl hkn _ [] (plainElem_int Tryz.underlying3 (WalkArith.wf_i64 (by omega))) ?_; intro w3 hown3 hgrow3))
        have HO3 : Hid (w3.ownsMap Tryz.prog 9 (plainElem Tryz.prog 3) w.heap.size (n + 1) (cntR (nm :: R))) := HC0.out.symm ▸ hown3
        have HB3 : Hid (Below w.heap.size w w3) := HB2.out.grown hgrow3 HB2.out.size (fun j hj => by cases hj; exact Nat.le_refl _)
        clear hown3 hgrow3 HO2 HB2 HA0 HC0 hkn
        by_cases hv : eqIdx m < 0
        · have HK : Hid (keysR ms (k + 1) = nm :: R) := by show _ = _; rw [keysR_step HX.out, HKR.out, if_pos hv, ← HR.out]; rfl
          have hvd : decide (eqIdx m < 0) = true := decide_eq_true hv
          rw [hvd]
          clear hv hvd HKR
          go_wp2_with fail
          go_roundw
          case rel => exact ⟨k + 1, n + 1, by omega, by go_num, by have := hn.out; show _ ≤ _; omega, by show World.ownsMap _ _ _ _ _ _ _; rw [HK.out]; exact HO3.out, HB3⟩
          case measure => simp [intOf]; omega
        · have HK : Hid (keysR ms (k + 1) = m :: nm :: R) := by show _ = _; rw [keysR_step HX.out, HKR.out, if_neg hv, ← HR.out]; rfl
          have hvd : decide (eqIdx m < 0) = false := decide_eq_false hv
          rw [hvd]
          clear hv hvd HKR
          obtain ⟨c1, hc1⟩ : ∃ c1 : Nat, c1 = cntOf m (nm :: R) := ⟨_, rfl⟩
          have HA1 : Hid ((cntR (nm :: R)).atKey (kOf m) (.lit (.int .i64 0)) = .lit (.int .i64 (c1 : Int))) := by show _ = _; rw [hc1]; exact at_cntR m _
          have hc1l : c1 ≤ 2097153 := by have := cntOf_le m (nm :: R); have := HL.out; simp at *; omega
          have HC1 : Hid (cntR (m :: nm :: R) = (cntR (nm :: R)).put (kOf m) (.lit (.int .i64 ((c1 : Int) + 1)))) := by show _ = _; rw [hc1]; rfl
          clear hc1
          generalize cntR (nm :: R) = D at *
          go_upto_region 10 with (first | (at_lookup; refine wpList_lookup_own_int _ rfl _ _ 138 rfl 9 3 .i64 law_str Tryz.underlying138 Tryz.underlying3 (zero_int _) w.heap.size _ _ rfl HO3.out _ _ rfl hkm ?_; intro c hcc _; obtain rfl := lit_int_inj (hcc.symm.trans HA1.out)) | (at_mapUpdate; refine wpList_mapUpdate_own _ rfl _ _ _ 138 rfl 9 3 law_str Tryz.underlying138 _ w.heap.size (n + 1) _ rfl HO3.out (by have := hn.out; unfold maxLen; omega) _ _ _ rfl rfl hkm _ [] (plainElem_int Tryz.underlying3 (WalkArith.wf_i64 (by omega))) ?_; intro w4 hown4 hgrow4))
          have HO4 : Hid (w4.ownsMap Tryz.prog 9 (plainElem Tryz.prog 3) w.heap.size (n + 1 + 1) (cntR (m :: nm :: R))) := HC1.out.symm ▸ hown4
          have HB4 : Hid (Below w.heap.size w w4) := HB3.out.grown hgrow4 HB3.out.size (fun j hj => by cases hj; exact Nat.le_refl _)
          clear hown4 hgrow4 HO3 HB3 HA1 HC1 hkm
          go_wp2_with fail
          go_roundw
          case rel => exact ⟨k + 1, n + 1 + 1, by omega, by go_num, by have := hn.out; show _ ≤ _; omega, by show World.ownsMap _ _ _ _ _ _ _; rw [HK.out]; exact HO4.out, HB4⟩
          case measure => simp [intOf]; omega
    · have hke : k = ms.length := by omega
      subst hke
      go_wp2_with fail
      go_ret
      exact ⟨_, n, rfl, ho.out, hbel.out⟩

end Go.Proofs.YtbaafgjiblkckaaGreat

namespace Go.Proofs.YtbaafgjiblkckaaGreat
open Go.RowKit Go.WideMaps Go.Maps

/-- the mark at a place is one, stands behind the one ahead of it, and has a name of its own -/
def mkAt (ms : List ByteArray) : Nat → Bool
  | 0 => match ms[0]? with
    | none => true
    | some m => isMk m && decide (cntOf (mName m) (keysR ms ms.length) ≤ 1)
  | j + 1 => match ms[j + 1]?, ms[j]? with
    | some m, some t => isMk m && Op.bytesLess t.toList m.toList && decide (cntOf (mName m) (keysR ms ms.length) ≤ 1)
    | _, _ => true

def mkTo (ms : List ByteArray) : Nat → Bool
  | 0 => true
  | k + 1 => mkTo ms k && mkAt ms k

def mkOk (ms : List ByteArray) : Bool := decide (ms.length ≤ 10) && mkTo ms ms.length

theorem mkTo_false {ms : List ByteArray} {k : Nat} (h : mkAt ms k = false) : ∀ n, k < n → mkTo ms n = false
  | 0, hn => absurd hn (Nat.not_lt_zero _)
  | n + 1, hn => by
    by_cases e : k = n
    · subst e; simp only [mkTo, h, Bool.and_false]
    · simp only [mkTo, mkTo_false h n (by omega), Bool.false_and]

theorem mkTo_step {ms : List ByteArray} {k : Nat} (h : mkTo ms k = true) (h' : mkAt ms k = true) : mkTo ms (k + 1) = true := by
  simp only [mkTo, h, h', Bool.and_self]

theorem mkOk_false {ms : List ByteArray} {k : Nat} (h : mkAt ms k = false) (hk : k < ms.length) : mkOk ms = false := by
  simp only [mkOk, mkTo_false h _ hk, Bool.and_false]

set_option maxHeartbeats 2000000 in
set_option maxRecDepth 100000 in
theorem marksOk_any (ms : List ByteArray) (a : Option Addr) (cap lo : Nat) (w : World) (hin : SliceC StrC 1 lo w a ms) :
    Calls Tryz.prog 76 #[.slice a ms.length cap] w fun e w' => e = .returned (.bool (mkOk ms)) ∧ Below w.heap.size w w' := by
  have hlen := hin.1
  unfold maxLen at hlen
  have HI : Hid (SliceC StrC 1 lo w a ms) := hin
  clear hin
  by_cases h10 : ms.length ≤ 10
  · have HM : Hid (mkOk ms = mkTo ms ms.length) := by show _ = _; simp [mkOk, h10]
    have HF : Hid (∀ k, mkAt ms k = false → k < ms.length → mkOk ms = false) := fun k h hk => mkOk_false h hk
    go_enter Tryz.func76, Tryz.ntmps76
    go_wp2_with fail
    refine (marksOf_any ms a cap lo _ HI.out (by omega)).mono ?_
    rintro e w1 ⟨mb, n, rfl, ho1, hb1⟩
    have HO1 : Hid (w1.ownsMap Tryz.prog 9 (plainElem Tryz.prog 3) mb n (cntR (keysR ms ms.length))) := ho1
    have HB1 : Hid (Below w.heap.size w w1) := hb1
    clear ho1 hb1
    have HCN : Hid (∀ t, (cntR (keysR ms ms.length)).atKey (kOf t) (.lit (.int .i64 0)) = .lit (.int .i64 ((cntOf t (keysR ms ms.length) : Nat) : Int))) := fun t => at_cntR t _
    have HA0 : Hid (∀ m, ms[0]? = some m → mkAt ms 0 = (isMk m && decide (cntOf (mName m) (keysR ms ms.length) ≤ 1))) := fun m h => by simp only [mkAt, h]
    have HAJ : Hid (∀ j m t, ms[j + 1]? = some m → ms[j]? = some t → mkAt ms (j + 1) = (isMk m && Op.bytesLess t.toList m.toList && decide (cntOf (mName m) (keysR ms ms.length) ≤ 1))) := fun j m t h h' => by simp only [mkAt, h, h']
    have HKL : Hid ((keysR ms ms.length).length ≤ 2 * ms.length) := keysR_len ms _
    generalize keysR ms ms.length = R at *
    go_wp2_with fail
    go_loopw [16] (fun i wr => ∃ k : Nat, k ≤ ms.length ∧ i = .int .i64 k ∧ Hid (mkTo ms k = true) ∧ Hid (wr.ownsMap Tryz.prog 9 (plainElem Tryz.prog 3) mb n (cntR R)) ∧ Hid (Below w.heap.size w wr)) (fun i _ => ms.length - (intOf i).toNat)
    case atStart => exact ⟨0, Nat.zero_le _, rfl, rfl, HO1, HB1⟩
    case round =>
      clear HO1 HB1
      obtain ⟨k, hk, rfl, ht, ho, hb⟩ := hrel
      by_cases hlt : k < ms.length
      · obtain ⟨m, hm⟩ : ∃ m, ms[k]? = some m := ⟨ms[k], List.getElem?_eq_getElem hlt⟩
        obtain ⟨b, o, rfl, _, _, hc⟩ := (HI.out.below StrC.holds hb.out (Nat.le_refl _)).at hm
        obtain ⟨q0, z0⟩ := hc
        simp only [Nat.mul_one, Nat.add_zero] at q0
        have HX : Hid (ms[k]? = some m) := hm
        have HZ : Hid (m.size ≤ maxLen) := z0
        clear hm z0
        go_wp2_with fail
        refine (isMark_any m _ HZ.out).mono ?_
        rintro e w2 ⟨rfl, hb2⟩
        have HB2 : Hid (Below w.heap.size w w2) := hb.out.trans (hb2.mono hb.out.size)
        have HO2 : Hid (w2.ownsMap Tryz.prog 9 (plainElem Tryz.prog 3) mb n (cntR R)) := ownsMap_below ho.out hb2 ho.out.lt
        have HI2 : Hid (SliceC StrC 1 lo w2 (some ⟨b, o, none⟩) ms) := HI.out.below StrC.holds HB2.out (Nat.le_refl _)
        clear hb2 hb ho q0
        have hkn : keyOf Tryz.prog 9 (.string (mName m)) = some (kOf (mName m)) := keyOf_string_mk Tryz.underlying9 (mName_size HZ.out)
        cases k with
        | zero =>
          have HAT : Hid (mkAt ms 0 = (isMk m && decide (cntOf (mName m) R ≤ 1))) := HA0.out m HX.out
          cases hmk : isMk m with
          | false =>
            have HC : Hid (mkOk ms = false) := HF.out 0 (by rw [HAT.out, hmk]; rfl) hlt
            clear hmk
            go_wp2_with fail
            go_ret
            exact ⟨ret_bool HC.out.symm, HB2.out⟩
          | true =>
            rw [hmk, Bool.true_and] at HAT
            clear hmk
            go_wp2_with fail
            refine (cut_any m _ HZ.out).mono ?_
            rintro e w3 ⟨rfl, hb3⟩
            have HB3 : Hid (Below w.heap.size w w3) := HB2.out.trans (hb3.mono HB2.out.size)
            have HO3 : Hid (w3.ownsMap Tryz.prog 9 (plainElem Tryz.prog 3) mb n (cntR R)) := ownsMap_below HO2.out hb3 HO2.out.lt
            have HAC : Hid ((cntR R).atKey (kOf (mName m)) (.lit (.int .i64 0)) = .lit (.int .i64 ((cntOf (mName m) R : Nat) : Int))) := HCN.out _
            clear hb3 HB2 HO2 HI2
            generalize mName m = nm at *
            generalize mVal m = vl at *
            generalize decide (eqIdx m < 0) = bb at *
            generalize cntOf nm R = c0 at *
            by_cases hc : c0 ≤ 1
            · have HN : Hid (mkTo ms (0 + 1) = true) := mkTo_step ht.out (by rw [HAT.out]; exact decide_eq_true hc)
              clear HAT ht
              go_wp2_with (at_lookup; refine wpList_lookup_own_int _ rfl _ _ 138 rfl 9 3 .i64 law_str Tryz.underlying138 Tryz.underlying3 (zero_int _) mb _ _ rfl HO3.out _ _ rfl hkn ?_; intro c hcc _; obtain rfl := lit_int_inj (hcc.symm.trans HAC.out))
              go_roundw
              case rel => exact ⟨0 + 1, by omega, by go_num, HN, HO3, HB3⟩
              case measure => simp [intOf]; omega
            · have HC : Hid (mkOk ms = false) := HF.out 0 (by rw [HAT.out]; simp [hc]) hlt
              clear HAT ht
              go_wp2_with (at_lookup; refine wpList_lookup_own_int _ rfl _ _ 138 rfl 9 3 .i64 law_str Tryz.underlying138 Tryz.underlying3 (zero_int _) mb _ _ rfl HO3.out _ _ rfl hkn ?_; intro c hcc _; obtain rfl := lit_int_inj (hcc.symm.trans HAC.out))
              go_ret
              exact ⟨ret_bool HC.out.symm, HB3.out⟩
        | succ j =>
          obtain ⟨t, htt⟩ : ∃ t, ms[j]? = some t := ⟨ms[j], List.getElem?_eq_getElem (by omega)⟩
          have HAT : Hid (mkAt ms (j + 1) = (isMk m && Op.bytesLess t.toList m.toList && decide (cntOf (mName m) R ≤ 1))) := HAJ.out j m t HX.out htt
          obtain ⟨b', o', hbo, _, _, hc'⟩ := HI2.out.at htt
          cases hbo
          obtain ⟨q1, z1⟩ := hc'
          simp only [Nat.mul_one, Nat.add_zero] at q1
          have hjl : j < ms.length := by omega
          clear htt z1
          cases hmk : isMk m with
          | false =>
            have HC : Hid (mkOk ms = false) := HF.out (j + 1) (by rw [HAT.out, hmk]; rfl) hlt
            clear hmk
            go_wp2_with fail
            go_ret
            exact ⟨ret_bool HC.out.symm, HB2.out⟩
          | true =>
            rw [hmk, Bool.true_and] at HAT
            clear hmk
            cases hless : Op.bytesLess t.toList m.toList with
            | false =>
              have HC : Hid (mkOk ms = false) := HF.out (j + 1) (by rw [HAT.out, hless]; rfl) hlt
              go_wp2_with fail
              go_ret
              exact ⟨ret_bool HC.out.symm, HB2.out⟩
            | true =>
              rw [hless, Bool.true_and] at HAT
              go_wp2_with fail
              refine (cut_any m _ HZ.out).mono ?_
              rintro e w3 ⟨rfl, hb3⟩
              have HB3 : Hid (Below w.heap.size w w3) := HB2.out.trans (hb3.mono HB2.out.size)
              have HO3 : Hid (w3.ownsMap Tryz.prog 9 (plainElem Tryz.prog 3) mb n (cntR R)) := ownsMap_below HO2.out hb3 HO2.out.lt
              have HAC : Hid ((cntR R).atKey (kOf (mName m)) (.lit (.int .i64 0)) = .lit (.int .i64 ((cntOf (mName m) R : Nat) : Int))) := HCN.out _
              clear hb3 HB2 HO2 HI2
              generalize mName m = nm at *
              generalize mVal m = vl at *
              generalize decide (eqIdx m < 0) = bb at *
              generalize cntOf nm R = c0 at *
              by_cases hc : c0 ≤ 1
              · have HN : Hid (mkTo ms ((j + 1) + 1) = true) := mkTo_step ht.out (by rw [HAT.out]; exact decide_eq_true hc)
                clear HAT ht
                go_wp2_with (at_lookup; refine wpList_lookup_own_int _ rfl _ _ 138 rfl 9 3 .i64 law_str Tryz.underlying138 Tryz.underlying3 (zero_int _) mb _ _ rfl HO3.out _ _ rfl hkn ?_; intro c hcc _; obtain rfl := lit_int_inj (hcc.symm.trans HAC.out))
                go_roundw
                case rel => exact ⟨(j + 1) + 1, by omega, by go_num, HN, HO3, HB3⟩
                case measure => simp [intOf]; omega
              · have HC : Hid (mkOk ms = false) := HF.out (j + 1) (by rw [HAT.out]; simp [hc]) hlt
                clear HAT ht
                go_wp2_with (at_lookup; refine wpList_lookup_own_int _ rfl _ _ 138 rfl 9 3 .i64 law_str Tryz.underlying138 Tryz.underlying3 (zero_int _) mb _ _ rfl HO3.out _ _ rfl hkn ?_; intro c hcc _; obtain rfl := lit_int_inj (hcc.symm.trans HAC.out))
                go_ret
                exact ⟨ret_bool HC.out.symm, HB3.out⟩
      · have hke : k = ms.length := by omega
        subst hke
        have HC : Hid (mkOk ms = true) := by show _ = _; rw [HM.out]; exact ht.out
        clear ht
        go_wp2_with fail
        go_ret
        exact ⟨ret_bool HC.out.symm, hb.out⟩
  · have HM : Hid (mkOk ms = false) := by show _ = _; simp [mkOk, h10]
    go_enter Tryz.func76, Tryz.ntmps76
    go_wp2_with fail
    go_ret
    exact ⟨ret_bool HM.out.symm, by go_grown⟩

end Go.Proofs.YtbaafgjiblkckaaGreat

namespace Go.Proofs.YtbaafgjiblkckaaGreat
open Go.RowKit

/-- a berth looked at alone, but for its name -/
def berthAt (b : Brt) : Bool := P.nameOk b.zone && inR b.room 0 1000 && inR b.hold 0 1000 && mkOk b.marks
def berthsOk (bs : List Brt) : Bool := bs.all berthAt

set_option maxHeartbeats 1000000 in
set_option maxRecDepth 100000 in
theorem berths_any (p : Nat) (xs : List Brt) (a : Option Addr) (cap lo : Nat) (w : World) (hp : w.cell? ⟨p, 1, none⟩ = some (.slice a xs.length cap)) (n1 : SliceC BrtC 6 lo w a xs) :
    Calls Tryz.prog 61 #[.pointer (some ⟨p, 0, none⟩)] w fun e w' => e = .returned (.bool (berthsOk xs)) ∧ Below w.heap.size w w' := by
  have hlen := n1.1
  unfold maxLen at hlen
  have N1 : Hid (SliceC BrtC 6 lo w a xs) := n1
  clear n1
  go_enter Tryz.func61, Tryz.ntmps61
  go_wp2_with fail
  clear hp
  go_loopw [11] (fun i wr => ∃ k : Nat, k ≤ xs.length ∧ i = .int .i64 k ∧ Hid (∀ j y, j < k → xs[j]? = some y → berthAt y = true) ∧ Below w.heap.size w wr) (fun i _ => xs.length - (intOf i).toNat)
  case atStart => exact ⟨0, Nat.zero_le _, rfl, fun j y h => absurd h (Nat.not_lt_zero _), by go_grown⟩
  case round =>
    obtain ⟨k, hk, rfl, ho, hbel⟩ := hrel
    by_cases hlt : k < xs.length
    · obtain ⟨y, hy⟩ : ∃ y, xs[k]? = some y := ⟨xs[k], List.getElem?_eq_getElem hlt⟩
      obtain ⟨b, o, rfl, _, _, hc⟩ := (N1.out.below BrtC.holds hbel (Nat.le_refl _)).at hy
      obtain ⟨m2, d2, q0, q1, q2, q3, q4, q5, _, z1, nm⟩ := hc
      simp only [Nat.add_zero] at q0 q1 q2 q3 q4 q5
      have HRA : Hid (wr.rangeAt b (o + k * 6) [.string y.name, .string y.zone, .slice m2 y.marks.length d2, .int .i64 y.room, .int .i64 y.hold, .bool y.closed]) := range_cons q0 (range_cons q1 (range_cons q2 (range_cons q3 (range_cons q4 (range_cons q5 (range_nil _ _ _))))))
      have HX : Hid (xs[k]? = some y) := hy
      have HB : Hid (Below w.heap.size w wr) := hbel
      have HZ : Hid (y.zone.size ≤ maxLen) := z1
      have HM : Hid (SliceC StrC 1 lo wr m2 y.marks) := nm
      clear hy hbel q0 q1 q2 q3 q4 q5 z1 nm
      go_upto_region 4 with (first | (refine wpList_load_mid rfl 75 _ rfl b (o + k * 6) (by first | rfl | (simp [go_sem]; done)) [.string y.name, .string y.zone, .slice m2 y.marks.length d2, .int .i64 y.room, .int .i64 y.hold, .bool y.closed] _ HRA.out Tryz.underlying75 rfl isz_Brt ?_))
      have HG : Hid ((wr.alloc (Obj.cells #[.string y.name, .string y.zone, .slice m2 y.marks.length d2, .int .i64 y.room, .int .i64 y.hold, .bool y.closed] 75)).rangeAt wr.heap.size 0 [.string y.name, .string y.zone, .slice m2 y.marks.length d2, .int .i64 y.room, .int .i64 y.hold, .bool y.closed]) := range_cons (by simp) (range_cons (by simp) (range_cons (by simp) (range_cons (by simp) (range_cons (by simp) (range_cons (by simp) (range_nil _ _ _))))))
      have hal : Below wr.heap.size wr (wr.alloc (Obj.cells #[.string y.name, .string y.zone, .slice m2 y.marks.length d2, .int .i64 y.room, .int .i64 y.hold, .bool y.closed] 75)) := (Below.refl _ _).alloc (Nat.le_refl _) _
      have HB4 : Hid (Below w.heap.size w (wr.alloc (Obj.cells #[.string y.name, .string y.zone, .slice m2 y.marks.length d2, .int .i64 y.room, .int .i64 y.hold, .bool y.closed] 75))) := HB.out.alloc HB.out.size _
      have HM4 : Hid (SliceC StrC 1 lo (wr.alloc (Obj.cells #[.string y.name, .string y.zone, .slice m2 y.marks.length d2, .int .i64 y.room, .int .i64 y.hold, .bool y.closed] 75)) m2 y.marks) := HM.out.below StrC.holds hal (Nat.le_refl _)
      have HS4 : Hid (wr.heap.size < (wr.alloc (Obj.cells #[.string y.name, .string y.zone, .slice m2 y.marks.length d2, .int .i64 y.room, .int .i64 y.hold, .bool y.closed] 75)).heap.size) := by show _ < _; simp
      clear HB HRA hal HM
      generalize wr.alloc (Obj.cells #[.string y.name, .string y.zone, .slice m2 y.marks.length d2, .int .i64 y.room, .int .i64 y.hold, .bool y.closed] 75) = w4 at *
      have e1 : w4.cell? ⟨wr.heap.size, 1, none⟩ = some (.string y.zone) := HG.out 1 _ rfl
      have HBA : Hid (berthAt y = (P.nameOk y.zone && inR y.room 0 1000 && inR y.hold 0 1000 && mkOk y.marks)) := rfl
      have bad : Hid (berthAt y = false → berthsOk xs = false) := fun h => List.all_eq_false.mpr ⟨y, List.mem_of_getElem? HX.out, by simp [h]⟩
      go_wp2_with fail
      refine (isName_any y.zone _ HZ.out).mono ?_
      rintro e w' ⟨rfl, rfl⟩
      clear e1
      cases hz : P.nameOk y.zone with
      | false =>
        have HC : Hid (berthsOk xs = false) := bad.out (by rw [HBA.out, hz]; rfl)
        clear ho bad HBA hz
        go_wp2_with fail
        go_ret
        exact ⟨ret_bool HC.out.symm, HB4.out⟩
      | true =>
      rw [hz, Bool.true_and] at HBA
      clear hz
      have e3 : w'.cell? ⟨wr.heap.size, 3, none⟩ = some (.int .i64 y.room) := HG.out 3 _ rfl
      go_wp2_with fail
      refine (isSize_any y.room _).mono ?_
      rintro e w5 ⟨rfl, hb5⟩
      have HB5 : Hid (Below w.heap.size w w5) := HB4.out.trans (hb5.mono HB4.out.size)
      have HG5 : Hid (w5.rangeAt wr.heap.size 0 [.string y.name, .string y.zone, .slice m2 y.marks.length d2, .int .i64 y.room, .int .i64 y.hold, .bool y.closed]) := range_belowV HG.out hb5 HS4.out
      have HS5 : Hid (wr.heap.size < w5.heap.size) := Nat.lt_of_lt_of_le HS4.out hb5.size
      have HM5 : Hid (SliceC StrC 1 lo w5 m2 y.marks) := HM4.out.below StrC.holds hb5 (Nat.le_refl _)
      clear hb5 e3 HB4 HG HS4 HM4
      cases hr : inR y.room 0 1000 with
      | false =>
        have HC : Hid (berthsOk xs = false) := bad.out (by rw [HBA.out, hr]; rfl)
        clear ho bad HBA hr
        go_wp2_with fail
        go_ret
        exact ⟨ret_bool HC.out.symm, HB5.out⟩
      | true =>
      rw [hr, Bool.true_and] at HBA
      clear hr
      have e4 : w5.cell? ⟨wr.heap.size, 4, none⟩ = some (.int .i64 y.hold) := HG5.out 4 _ rfl
      go_wp2_with fail
      refine (isSize_any y.hold _).mono ?_
      rintro e w6 ⟨rfl, hb6⟩
      have HB6 : Hid (Below w.heap.size w w6) := HB5.out.trans (hb6.mono HB5.out.size)
      have HG6 : Hid (w6.rangeAt wr.heap.size 0 [.string y.name, .string y.zone, .slice m2 y.marks.length d2, .int .i64 y.room, .int .i64 y.hold, .bool y.closed]) := range_belowV HG5.out hb6 HS5.out
      have HM6 : Hid (SliceC StrC 1 lo w6 m2 y.marks) := HM5.out.below StrC.holds hb6 (Nat.le_refl _)
      clear hb6 e4 HB5 HG5 HS5 HM5
      cases hh : inR y.hold 0 1000 with
      | false =>
        have HC : Hid (berthsOk xs = false) := bad.out (by rw [HBA.out, hh]; rfl)
        clear ho bad HBA hh
        go_wp2_with fail
        go_ret
        exact ⟨ret_bool HC.out.symm, HB6.out⟩
      | true =>
      rw [hh, Bool.true_and] at HBA
      clear hh
      have e2 : w6.cell? ⟨wr.heap.size, 2, none⟩ = some (.slice m2 y.marks.length d2) := HG6.out 2 _ rfl
      go_wp2_with fail
      refine (marksOk_any y.marks m2 d2 lo _ HM6.out).mono ?_
      rintro e w7 ⟨rfl, hb7⟩
      have HB7 : Hid (Below w.heap.size w w7) := HB6.out.trans (hb7.mono HB6.out.size)
      clear hb7 e2 HB6 HG6 HM6
      cases hm : mkOk y.marks with
      | false =>
        have HC : Hid (berthsOk xs = false) := bad.out (by rw [HBA.out, hm])
        clear ho bad HBA hm
        go_wp2_with fail
        go_ret
        exact ⟨ret_bool HC.out.symm, HB7.out⟩
      | true =>
        have HO : Hid (∀ j z, j < k + 1 → xs[j]? = some z → berthAt z = true) := by
          intro j z hj hz
          by_cases e : j = k
          · subst e
            rw [HX.out] at hz
            cases hz
            rw [HBA.out, hm]
          · exact ho.out j z (by omega) hz
        clear ho bad HBA hm
        go_wp2_with fail
        go_roundw
        case rel => exact ⟨k + 1, by omega, by go_num, HO, HB7.out⟩
        case measure => simp [intOf]; omega
    · have hke : k = xs.length := by omega
      subst hke
      have HC : Hid (berthsOk xs = true) := by
        show _ = _
        simp only [berthsOk, List.all_eq_true]
        intro y hy
        obtain ⟨j, hj, e⟩ := List.mem_iff_getElem.mp hy
        exact ho.out j y hj (by rw [List.getElem?_eq_getElem hj, e])
      clear ho
      go_wp2_with fail
      go_ret
      exact ⟨ret_bool HC.out.symm, hbel⟩

end Go.Proofs.YtbaafgjiblkckaaGreat
