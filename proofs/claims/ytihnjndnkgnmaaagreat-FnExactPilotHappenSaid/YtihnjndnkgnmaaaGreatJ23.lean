import Derived.Test.YtihnjndnkgnmaaaGreatJ21
import Derived.Test.YtihnjndnkgnmaaaGreatFnd
import Derived.Test.YtihnjndnkgnmaaaGreatJ17
import Derived.Deep.DeepCutAuto
import Derived.Sort.AtCall
import Derived.Test.YtihnjndnkgnmaaaGreatTk0
import Derived.Test.YtihnjndnkgnmaaaGreatJ20
import Derived.Laws.Cover1
namespace Go.Proofs.YtihnjndnkgnmaaaGreat
open Go.RowKit Go.WideMaps Go.Maps

def validI (x : Flt) : Bool := fewOk x && (ordOk x && (berthsOk x.berths && (svcsOk x.services && (copiesOk x && standOk x.berths x.copies))))

set_option maxHeartbeats 1000000 in
theorem checks_any (w : World) :
  Calls Tryz.prog 62 #[] w fun e w' => ∃ g, e = .returned (.slice (some ⟨g, 0, none⟩) 6 6) ∧
   w'.rangeAt g 0 [.func (.func 91) #[] #[], .func (.func 92) #[] #[], .func (.func 93) #[] #[], .func (.func 94) #[] #[], .func (.func 95) #[] #[], .func (.func 96) #[] #[]] ∧ g < w'.heap.size ∧ Below w.heap.size w w' := by
 go_enter Tryz.func62, Tryz.ntmps62
 go_wp2_with fail
 go_ret
 refine ⟨_, rfl, ?_, ?_, ?_⟩
 ·exact range_cons (by simp) (range_cons (by simp) (range_cons (by simp) (range_cons (by simp) (range_cons (by simp) (range_cons (by simp) (range_nil _ _ _))))))
 ·simp
 ·go_grown

end Go.Proofs.YtihnjndnkgnmaaaGreat

namespace Go.Proofs.YtihnjndnkgnmaaaGreat
open Go.RowKit

theorem eqIdx_at {s : ByteArray} {k : Nat} (hlt : k < s.size) (h : s[k].toNat = 61) (hn : ∀ j, j < k → s.data.toList[j]? ≠ some 61) : eqIdx s = k := by
 have hk : s.data.toList[k]? = some 61 := by
  rw [List.getElem?_eq_getElem (by simpa using hlt)]
  congr 1
  exact UInt8.toNat_inj.1 h
 by_cases hz : eqIdx s = -1
 ·exact absurd hk (Lib.indexByte_none hz k)
 ·obtain ⟨o, ho⟩ : ∃ o : Nat, eqIdx s = o := ⟨(eqIdx s).toNat, by have := eqIdx_ge s; omega⟩
  have h2 := Lib.indexByte_some ho
  rcases Nat.lt_trichotomy o k with h3 | h3 | h3
  ·exact absurd h2.1 (hn o h3)
  ·rw [ho, h3]
  ·exact absurd hk (h2.2 k h3)

theorem eqIdx_no {s : ByteArray} (hn : ∀ j, j < s.size → s.data.toList[j]? ≠ some 61) : eqIdx s = -1 := by
 by_cases hz : eqIdx s = -1
 ·exact hz
 ·obtain ⟨o, ho⟩ : ∃ o : Nat, eqIdx s = o := ⟨(eqIdx s).toNat, by have := eqIdx_ge s; omega⟩
  exact absurd (Lib.indexByte_some ho).1 (hn o (eqIdx_lt ho))

set_option maxHeartbeats 2000000 in
set_option maxRecDepth 100000 in
theorem sMark_any (s : ByteArray) (w : World) (hs : s.size ≤ maxLen) :
  Calls Tryz.prog 111 #[.string s] w fun e w' => e = .returned (.tuple #[.string (mName s), .string (mVal s), .bool (isMk s)]) ∧ Below w.heap.size w w' := by
 have HS : Hid (s.size ≤ maxLen) := hs
 unfold maxLen at hs
 go_enter Tryz.func111, Tryz.ntmps111
 go_wp2_with fail
 go_loopw [5] (fun i wr => ∃ k : Nat, k ≤ s.size ∧ i = .int .i64 k ∧ Hid (∀ j, j < k → s.data.toList[j]? ≠ some 61) ∧ Below w.heap.size w wr) (fun i _ => s.size - (intOf i).toNat)
 case atStart => exact ⟨0, Nat.zero_le _, rfl, fun j h => absurd h (Nat.not_lt_zero _), Below.refl _ _⟩
 case round =>
  obtain ⟨k, hk, rfl, hn, hbel⟩ := hrel
  by_cases hlt : k < s.size
  ·by_cases hb : s[k].toNat = 61
   ·have HE : Hid (eqIdx s = k) := eqIdx_at hlt hb hn.out
    have HN : Hid (¬ eqIdx s < 0) := by have := HE.out; show ¬ _; omega
    have hbq : ((s[k].toNat : Int) == 61) = true := by simp; omega
    have HB : Hid (Below w.heap.size w wr) := hbel
    have HNm : Hid (mName s = s.extract 0 k) := by show _ = _; unfold mName; rw [if_neg HN.out, HE.out]; rfl
    obtain ⟨n1, hn1⟩ : ∃ n1 : Nat, n1 = k + 1 := ⟨_, rfl⟩
    have HVl : Hid (mVal s = s.extract n1 s.size) := by show _ = _; unfold mVal; rw [if_neg HN.out, HE.out, hn1]; rfl
    have HMk : Hid (isMk s = (P.nameOk (s.extract 0 k) && P.nameOk (s.extract n1 s.size))) := by show _ = _; unfold isMk; rw [decide_eq_false HN.out, Bool.false_or, HNm.out, HVl.out]
    have i0 : (0 : Int) ≤ (k : Int) := by omega
    have i1 : (k : Int) ≤ (s.size : Int) := by omega
    have i2 : (n1 : Int) ≤ (s.size : Int) := by omega
    have i3 : (0 : Int) ≤ (n1 : Int) := by omega
    have HW : Hid (IntKind.i64.wrap ((k : Int) + 1) = (n1 : Int)) := by show _ = _; rw [IntKind.wrap_i64]; omega
    have Z1 : Hid ((s.extract 0 k).size ≤ maxLen) := by have := mName_size HS.out; rw [HNm.out] at this; exact this
    have Z2 : Hid ((s.extract n1 s.size).size ≤ maxLen) := by have := mVal_size HS.out; rw [HVl.out] at this; exact this
    clear hn hbel hn1
    go_upto_region 5 with fail
    generalize hX : P.nameOk (s.extract 0 k) = X at *
    generalize hY : P.nameOk (s.extract n1 s.size) = Y at *
    have cN : ∀ d os, Calls Tryz.prog 47 #[.string (s.extract 0 k)] (Sort.grow (redrawn wr d) os) fun e w'' => e = .returned (.bool X) ∧ ∃ p : Regrown, w'' = Sort.grow (redrawn wr p.d) p.os := fun d os => by
     refine (nameOk_any _ _ Z1.out).mono ?_
     rintro e w' ⟨rfl, rfl⟩
     exact ⟨by rw [hX], ⟨d, os⟩, rfl⟩
    have cV : ∀ d os, Calls Tryz.prog 47 #[.string (s.extract n1 s.size)] (Sort.grow (redrawn wr d) os) fun e w'' => e = .returned (.bool Y) ∧ ∃ p : Regrown, w'' = Sort.grow (redrawn wr p.d) p.os := fun d os => by
     refine (nameOk_any _ _ Z2.out).mono ?_
     rintro e w' ⟨rfl, rfl⟩
     exact ⟨by rw [hY], ⟨d, os⟩, rfl⟩
    clear hX hY
    cases X with
    | false =>
     refine wp_region_quiet_below (by kernel_rfl) (by kernel_rfl) ?_
     repeat (quiet_step (first | (go_at_call_has 47 (s.extract 0 k); exact cN _ _) | (go_at_call_has 47 (s.extract n1 s.size); exact cV _ _)))
     rw [HW.out]
     repeat (quiet_step (first | (go_at_call_has 47 (s.extract 0 k); exact cN _ _) | (go_at_call_has 47 (s.extract n1 s.size); exact cV _ _)))
     refine wpQuiet_nil ?_
     intro w5 hw'
     obtain ⟨⟨dq, osq⟩, hw''⟩ := hw'
     have hB := below_regrown wr dq osq
     simp only [] at hw''
     rw [← hw''] at hB
     clear hw'' cN cV
     have HB5 : Hid (Below w.heap.size w w5) := HB.out.trans (hB.mono HB.out.size)
     clear hB
     go_wp2_with fail
     go_ret3
     exact ⟨by rw [HNm.out, HVl.out, HMk.out]; rfl, HB5.out⟩
    | true =>
     refine wp_region_quiet_below (by kernel_rfl) (by kernel_rfl) ?_
     repeat (quiet_step (first | (go_at_call_has 47 (s.extract 0 k); exact cN _ _) | (go_at_call_has 47 (s.extract n1 s.size); exact cV _ _)))
     rw [HW.out]
     repeat (quiet_step (first | (go_at_call_has 47 (s.extract 0 k); exact cN _ _) | (go_at_call_has 47 (s.extract n1 s.size); exact cV _ _)))
     rw [HW.out]
     repeat (quiet_step (first | (go_at_call_has 47 (s.extract 0 k); exact cN _ _) | (go_at_call_has 47 (s.extract n1 s.size); exact cV _ _)))
     refine wpQuiet_nil ?_
     intro w5 hw'
     obtain ⟨⟨dq, osq⟩, hw''⟩ := hw'
     have hB := below_regrown wr dq osq
     simp only [] at hw''
     rw [← hw''] at hB
     clear hw'' cN cV
     have HB5 : Hid (Below w.heap.size w w5) := HB.out.trans (hB.mono HB.out.size)
     clear hB
     go_wp2_with fail
     go_ret3
     exact ⟨by rw [HNm.out, HVl.out, HMk.out]; rfl, HB5.out⟩
   ·have hbq : ((s[k].toNat : Int) == 61) = false := by simp; omega
    have HN : Hid (∀ j, j < k + 1 → s.data.toList[j]? ≠ some 61) := by
     intro j hj e
     by_cases hjk : j = k
     ·subst hjk
      rw [List.getElem?_eq_getElem (by simpa using hlt)] at e
      injection e with e
      exact hb (by rw [show s[j] = (61 : UInt8) from e]; rfl)
     ·exact hn.out j (by omega) e
    clear hn hb
    go_wp2_with fail
    go_roundw
    case rel => exact ⟨k + 1, by omega, by go_num, HN, hbel⟩
    case measure => simp [intOf]; omega
  ·have hke : k = s.size := by omega
   have HE : Hid (eqIdx s < 0) := by have := eqIdx_no (s := s) (fun j hj => hn.out j (by omega)); show _ < _; omega
   have HNm : Hid (mName s = s) := by show _ = _; unfold mName; rw [if_pos HE.out]
   have HVl : Hid (mVal s = ⟨#[]⟩) := by show _ = _; unfold mVal; rw [if_pos HE.out]
   have HMk : Hid (isMk s = P.nameOk s) := by show _ = _; unfold isMk; rw [decide_eq_true HE.out, Bool.true_or, Bool.and_true, HNm.out]
   have HB : Hid (Below w.heap.size w wr) := hbel
   clear hn hbel
   subst hke
   go_wp2_with fail
   refine (nameOk_any s _ HS.out).mono ?_
   rintro e w' ⟨rfl, rfl⟩
   generalize P.nameOk s = X at *
   go_wp2_with fail
   go_ret3
   exact ⟨by rw [HNm.out, HVl.out, HMk.out]; rfl, HB.out⟩

end Go.Proofs.YtihnjndnkgnmaaaGreat

namespace Go.Proofs.YtihnjndnkgnmaaaGreat
open Go.RowKit

def freshTo (ms : List ByteArray) (nm : ByteArray) : Nat → Bool
 | 0 => true
 | j + 1 => freshTo ms nm j && (match ms[j]? with
  | some t => !decide (mName t = nm)
  | none => true)

def smAt (ms : List ByteArray) : Nat → Bool
 | 0 => match ms[0]? with
  | none => true
  | some m => isMk m
 | j + 1 => match ms[j + 1]?, ms[j]? with
  | some m, some t => isMk m && Op.bytesLess t.toList m.toList && !decide (mName m = mName t) && freshTo ms (mName m) (j + 1)
  | _, _ => true

def smTo (ms : List ByteArray) : Nat → Bool
 | 0 => true
 | k + 1 => smTo ms k && smAt ms k

def smOk (ms : List ByteArray) : Bool := decide (ms.length ≤ 10) && smTo ms ms.length

theorem smTo_false {ms : List ByteArray} {k : Nat} (h : smAt ms k = false) : ∀ n, k < n → smTo ms n = false
 | 0, hn => absurd hn (Nat.not_lt_zero _)
 | n + 1, hn => by
  by_cases e : k = n
  ·subst e; simp only [smTo, h, Bool.and_false]
  ·simp only [smTo, smTo_false h n (by omega), Bool.false_and]

theorem smOk_false {ms : List ByteArray} {k : Nat} (h : smAt ms k = false) (hk : k < ms.length) : smOk ms = false := by
 simp only [smOk, smTo_false h _ hk, Bool.and_false]

theorem smTo_step {ms : List ByteArray} {k : Nat} (h : smTo ms k = true) (h' : smAt ms k = true) : smTo ms (k + 1) = true := by
 simp only [smTo, h, h', Bool.and_self]

theorem fresh_false {ms : List ByteArray} {nm : ByteArray} {q : Nat} {t : ByteArray} (h : ms[q]? = some t) (h' : mName t = nm) : ∀ n, q < n → freshTo ms nm n = false
 | 0, hn => absurd hn (Nat.not_lt_zero _)
 | n + 1, hn => by
  by_cases e : q = n
  ·subst e; simp only [freshTo, h, h', decide_true, Bool.not_true, Bool.and_false]
  ·simp only [freshTo, fresh_false h h' n (by omega), Bool.false_and]

theorem fresh_step {ms : List ByteArray} {nm : ByteArray} {q : Nat} {t : ByteArray} (h : freshTo ms nm q = true) (ht : ms[q]? = some t) (h' : ¬ mName t = nm) : freshTo ms nm (q + 1) = true := by
 simp only [freshTo, h, ht, h', decide_false, Bool.not_false, Bool.and_self]

def smBad (ms : List ByteArray) (k : Nat) (m L : ByteArray) : Bool :=
 !isMk m || (match k with
  | 0 => false
  | j + 1 => match ms[j]? with
   | some t => !Op.bytesLess t.toList m.toList || decide (mName m = L)
   | none => false)

theorem smBad_mk {ms : List ByteArray} {k : Nat} {m L : ByteArray} (h : isMk m = false) : smBad ms k m L = true := by simp [smBad, h]
theorem smBad_zero {ms : List ByteArray} {m L : ByteArray} (h : isMk m = true) : smBad ms 0 m L = false := by simp [smBad, h]
theorem smBad_succ {ms : List ByteArray} {j k : Nat} {m L t : ByteArray} (h : isMk m = true) (hk : k = j + 1) (ht : ms[j]? = some t) : smBad ms k m L = (!Op.bytesLess t.toList m.toList || decide (mName m = L)) := by
 subst hk
 simp only [smBad, h, ht, Bool.not_true, Bool.false_or]

theorem smBad_true_at {ms : List ByteArray} {k : Nat} {m L : ByteArray} (hx : ms[k]? = some m) (hl : ∀ j t, k = j + 1 → ms[j]? = some t → L = mName t) (hlt : k < ms.length) (h1 : smBad ms k m L = true) : smAt ms k = false := by
 cases k with
 | zero => cases hi : isMk m with
  | false => simp only [smAt, hx, hi]
  | true => rw [smBad_zero hi] at h1; cases h1
 | succ j =>
  obtain ⟨t, htt⟩ : ∃ t, ms[j]? = some t := ⟨ms[j], List.getElem?_eq_getElem (by omega)⟩
  have hlt' := hl j t rfl htt
  subst hlt'
  simp only [smAt, hx, htt]
  cases hi : isMk m with
  | false => simp
  | true =>
   rw [smBad_succ hi rfl htt] at h1
   cases hbl : Op.bytesLess t.toList m.toList with
   | false => simp
   | true =>
    rw [hbl] at h1
    simp at h1
    simp [h1]

theorem smBad_false_at {ms : List ByteArray} {k : Nat} {m L : ByteArray} (hx : ms[k]? = some m) (hl : ∀ j t, k = j + 1 → ms[j]? = some t → L = mName t) (hlt : k < ms.length) (h1 : smBad ms k m L = false) (hf : freshTo ms (mName m) k = true) : smAt ms k = true := by
 cases hi : isMk m with
 | false => rw [smBad_mk hi] at h1; cases h1
 | true =>
 cases k with
 | zero => simp only [smAt, hx, hi]
 | succ j =>
  obtain ⟨t, htt⟩ : ∃ t, ms[j]? = some t := ⟨ms[j], List.getElem?_eq_getElem (by omega)⟩
  have hlt' := hl j t rfl htt
  subst hlt'
  rw [smBad_succ hi rfl htt] at h1
  simp only [smAt, hx, htt, hi, hf]
  simp at h1
  simp [h1]

theorem fresh_false_at {ms : List ByteArray} {k : Nat} {m : ByteArray} (hx : ms[k]? = some m) (hlt : k < ms.length) (hf : freshTo ms (mName m) k = false) : smAt ms k = false := by
 cases k with
 | zero => simp [freshTo] at hf
 | succ j =>
  obtain ⟨t, htt⟩ : ∃ t, ms[j]? = some t := ⟨ms[j], List.getElem?_eq_getElem (by omega)⟩
  simp only [smAt, hx, htt, hf, Bool.and_false]

set_option maxHeartbeats 4000000 in
set_option maxRecDepth 100000 in
theorem sMarksOk_any (ms : List ByteArray) (a : Option Addr) (cap lo : Nat) (w : World) (hin : SliceC StrC 1 lo w a ms) :
  Calls Tryz.prog 83 #[.slice a ms.length cap] w fun e w' => e = .returned (.bool (smOk ms)) ∧ Below w.heap.size w w' := by
 have hlen := hin.1
 unfold maxLen at hlen
 have HI : Hid (SliceC StrC 1 lo w a ms) := hin
 clear hin
 by_cases h10 : ms.length ≤ 10
 ·have HM : Hid (smOk ms = smTo ms ms.length) := by show _ = _; simp [smOk, h10]
  go_enter Tryz.func83, Tryz.ntmps83
  go_wp2_with fail
  go_loopw [3, 4] (fun v i wr => ∃ (k : Nat) (L : ByteArray), k ≤ ms.length ∧ i = .int .i64 k ∧ v = .string L ∧ Hid (smTo ms k = true) ∧ Hid (∀ j t, k = j + 1 → ms[j]? = some t → L = mName t) ∧ Hid (Below w.heap.size w wr)) (fun _ i _ => ms.length - (intOf i).toNat)
  case atStart => exact ⟨0, _, Nat.zero_le _, rfl, rfl, rfl, fun j t h => by omega, Below.refl _ _⟩
  case round =>
   obtain ⟨k, L, hk, rfl, rfl, ht, hL, hb⟩ := hrel
   by_cases hlt : k < ms.length
   ·obtain ⟨m, hm⟩ : ∃ m, ms[k]? = some m := ⟨ms[k], List.getElem?_eq_getElem hlt⟩
    obtain ⟨b, o, rfl, _, _, hc⟩ := (HI.out.below StrC.holds hb.out nL).at hm
    obtain ⟨q0, z0⟩ := hc
    simp only [Nat.mul_one, Nat.add_zero] at q0
    have HX : Hid (ms[k]? = some m) := hm
    have HZ : Hid (m.size ≤ maxLen) := z0
    clear hm z0
    go_wp2_with fail
    refine (sMark_any m _ HZ.out).mono ?_
    rintro e w2 ⟨rfl, hb2⟩
    have HB2 : Hid (Below w.heap.size w w2) := hb.out.trans (hb2.mono hb.out.size)
    have HI2 : Hid (SliceC StrC 1 lo w2 (some ⟨b, o, none⟩) ms) := HI.out.below StrC.holds HB2.out nL
    clear hb2 hb q0
    generalize hnm : mName m = nm at *
    have HNM : Hid (mName m = nm) := hnm
    clear hnm
    generalize mVal m = vl at *
    go_upto_region 8 with fail
    go_cut [52] (fun c wx => c = .bool (smBad ms k m L) ∧ Hid (Below w2.heap.size w2 wx))
    case first =>
     rcases Bool.eq_false_or_eq_true (isMk m) with hmk | hmk
     rotate_left
     ·have HR : Hid (smBad ms k m L = true) := by show _ = _; exact smBad_mk hmk
      clear hL ht HI2 HM
      refine wp_region_quiet_below (by kernel_rfl) (by kernel_rfl) ?_
      repeat (go_big_quiet_step (fail))
      refine wpQuiet_nil ?_
      intro w5 hw'
      obtain ⟨⟨dq, osq⟩, hw''⟩ := hw'
      have hB := below_regrown w2 dq osq
      simp only [] at hw''
      rw [← hw''] at hB
      clear hw''
      go_wp2_with fail
      go_meet
      exact ⟨by rw [HR.out], hB⟩
     ·rcases Nat.eq_zero_or_pos k with hk0 | hk0
      ·subst hk0
       have HR : Hid (smBad ms 0 m L = false) := by show _ = _; exact smBad_zero hmk
       clear hL ht HI2 HM
       refine wp_region_quiet_below (by kernel_rfl) (by kernel_rfl) ?_
       repeat (go_big_quiet_step (fail))
       refine wpQuiet_nil ?_
       intro w5 hw'
       obtain ⟨⟨dq, osq⟩, hw''⟩ := hw'
       have hB := below_regrown w2 dq osq
       simp only [] at hw''
       rw [← hw''] at hB
       clear hw''
       go_wp2_with fail
       go_meet
       exact ⟨by rw [HR.out], hB⟩
      ·obtain ⟨j, hj⟩ : ∃ j, k = j + 1 := ⟨k - 1, by omega⟩
       obtain ⟨t, htt⟩ : ∃ t, ms[j]? = some t := ⟨ms[j], List.getElem?_eq_getElem (by omega)⟩
       obtain ⟨b', o', hbo, _, _, hc'⟩ := HI2.out.at htt
       cases hbo
       obtain ⟨q1, z1⟩ := hc'
       obtain ⟨b2, o2, hbo2, _, _, hc2⟩ := HI2.out.at HX.out
       cases hbo2
       obtain ⟨q2, _⟩ := hc2
       simp only [Nat.mul_one, Nat.add_zero] at q1 q2
       have q1' : w2.cell? ⟨b, o + (k - 1), none⟩ = some (.string t) := by rw [show k - 1 = j from by omega]; exact q1
       have r1 := cell_regrown q1'
       have r2 := cell_regrown q2
       have hjl : j < ms.length := by omega
       have i0 : (0 : Int) ≤ (j : Int) := by omega
       have i1 : (j : Int) < (ms.length : Int) := by omega
       have i2 : (0 : Int) < (k : Int) := by omega
       have i3 : (0 : Int) ≤ (k : Int) := by omega
       have i4 : (k : Int) < (ms.length : Int) := by omega
       have HWJ : Hid (IntKind.i64.wrap ((k : Int) - 1) = (j : Int)) := by show _ = _; rw [IntKind.wrap_i64]; omega
       have HS : Hid (smBad ms k m L = (!Op.bytesLess t.toList m.toList || decide (nm = L))) := by show _ = _; rw [smBad_succ hmk hj htt, HNM.out]
       clear z1 q1 q2 hj q1' HWJ
       rcases Bool.eq_false_or_eq_true (Op.bytesLess t.toList m.toList) with hless | hless
       rotate_left
       ·have HR : Hid (smBad ms k m L = true) := by show _ = _; rw [HS.out, hless]; rfl
        clear hL ht HI2 HM
        refine wp_region_quiet_below (by kernel_rfl) (by kernel_rfl) ?_
        repeat (go_big_quiet_step (fail))
        refine wpQuiet_nil ?_
        intro w5 hw'
        obtain ⟨⟨dq, osq⟩, hw''⟩ := hw'
        have hB := below_regrown w2 dq osq
        simp only [] at hw''
        rw [← hw''] at hB
        clear hw''
        go_wp2_with fail
        go_meet
        exact ⟨by rw [HR.out], hB⟩
       ·by_cases hne : nm = L
        ·have hte := bts_eq hne
         have HR : Hid (smBad ms k m L = true) := by show _ = _; rw [HS.out, hless, decide_eq_true hne]; rfl
         clear hL ht HI2 HM
         refine wp_region_quiet_below (by kernel_rfl) (by kernel_rfl) ?_
         repeat (go_big_quiet_step (fail))
         refine wpQuiet_nil ?_
         intro w5 hw'
         obtain ⟨⟨dq, osq⟩, hw''⟩ := hw'
         have hB := below_regrown w2 dq osq
         simp only [] at hw''
         rw [← hw''] at hB
         clear hw''
         go_wp2_with fail
         go_meet
         exact ⟨by rw [HR.out], hB⟩
        ·have hte := bts_ne hne
         have HR : Hid (smBad ms k m L = false) := by show _ = _; rw [HS.out, hless, decide_eq_false hne]; rfl
         clear hL ht HI2 HM
         refine wp_region_quiet_below (by kernel_rfl) (by kernel_rfl) ?_
         repeat (go_big_quiet_step (fail))
         refine wpQuiet_nil ?_
         intro w5 hw'
         obtain ⟨⟨dq, osq⟩, hw''⟩ := hw'
         have hB := below_regrown w2 dq osq
         simp only [] at hw''
         rw [← hw''] at hB
         clear hw''
         go_wp2_with fail
         go_meet
         exact ⟨by rw [HR.out], hB⟩
    case rest =>
     obtain ⟨rfl, hbc⟩ := hcut
     have HB3 : Hid (Below w.heap.size w wc) := HB2.out.trans (hbc.out.mono HB2.out.size)
     clear hbc HB2
     cases hbd : smBad ms k m L with
     | true =>
      have HC : Hid (smOk ms = false) := smOk_false (k := k) (smBad_true_at HX.out hL.out hlt hbd) hlt
      clear hL ht hbd
      go_wp2_with fail
      go_ret
      exact ⟨ret_bool HC.out.symm, HB3.out⟩
     | false =>
      have HA : Hid (freshTo ms nm k = true → smAt ms k = true) := fun hf => smBad_false_at HX.out hL.out hlt hbd (by rw [HNM.out]; exact hf)
      have HF : Hid (freshTo ms nm k = false → smAt ms k = false) := fun hf => fresh_false_at HX.out hlt (by rw [HNM.out]; exact hf)
      clear hL hbd
      go_wp2_with fail
      obtain ⟨wo, hwo⟩ : ∃ wo, wo = wc := ⟨_, rfl⟩
      subst hwo
      go_loopw [8] (fun i wx => ∃ q : Nat, q ≤ k ∧ i = .int .i64 q ∧ Hid (freshTo ms nm q = true) ∧ Hid (Below w.heap.size w wx)) (fun i _ => k - (intOf i).toNat)
      case atStart => exact ⟨0, Nat.zero_le _, rfl, rfl, HB3⟩
      case round =>
       clear HB3
       obtain ⟨q, hq, rfl, hfr, hbq⟩ := hrel
       by_cases hql : q < k
       ·obtain ⟨t, htt⟩ : ∃ t, ms[q]? = some t := ⟨ms[q], List.getElem?_eq_getElem (by omega)⟩
        obtain ⟨b', o', hbo, _, _, hc'⟩ := (HI.out.below StrC.holds hbq.out nL).at htt
        cases hbo
        obtain ⟨q1, z1⟩ := hc'
        simp only [Nat.mul_one, Nat.add_zero] at q1
        have HT : Hid (ms[q]? = some t) := htt
        have HTZ : Hid (t.size ≤ maxLen) := z1
        have hqm : q < ms.length := by omega
        clear htt z1
        go_wp2_with fail
        refine (sMark_any t _ HTZ.out).mono ?_
        rintro e w5 ⟨rfl, hb5⟩
        have HB5 : Hid (Below w.heap.size w w5) := hbq.out.trans (hb5.mono hbq.out.size)
        clear hb5 hbq q1
        by_cases hne : mName t = nm
        ·have HC : Hid (smOk ms = false) := smOk_false (k := k) (HF.out (fresh_false HT.out hne k hql)) hlt
         have hte := bts_eq hne
         generalize mName t = nt at *
         generalize mVal t = vt at *
         clear hne HA HF ht hfr
         go_wp2_with fail
         go_ret
         exact ⟨ret_bool HC.out.symm, HB5.out⟩
        ·have HN : Hid (freshTo ms nm (q + 1) = true) := fresh_step hfr.out HT.out hne
         have hte := bts_ne hne
         generalize mName t = nt at *
         generalize mVal t = vt at *
         clear hne hfr
         go_wp2_with fail
         go_roundw
         case rel => exact ⟨q + 1, by omega, by go_num, HN, HB5⟩
         case measure => simp [intOf]; omega
       ·have hqe : q = k := by omega
        subst hqe
        have HN : Hid (smTo ms (q + 1) = true) := smTo_step ht.out (HA.out hfr.out)
        have HLN : Hid (∀ j t, q + 1 = j + 1 → ms[j]? = some t → nm = mName t) := by
         intro j t hj htt
         have e : q = j := Nat.succ.inj hj
         subst e
         rw [HX.out] at htt
         cases htt
         exact HNM.out.symm
        clear hfr HA HF ht
        go_wp2_with fail
        go_roundw
        case rel => exact ⟨q + 1, nm, by omega, by go_num, rfl, HN, HLN, hbq⟩
        case measure => simp [intOf]; omega
   ·have hke : k = ms.length := by omega
    subst hke
    have HC : Hid (smOk ms = true) := by show _ = _; rw [HM.out]; exact ht.out
    clear ht
    go_wp2_with fail
    go_ret
    exact ⟨ret_bool HC.out.symm, hb.out⟩
 ·have HM : Hid (smOk ms = false) := by show _ = _; simp [smOk, h10]
  go_enter Tryz.func83, Tryz.ntmps83
  go_wp2_with fail
  go_ret
  exact ⟨ret_bool HM.out.symm, by go_grown⟩

end Go.Proofs.YtihnjndnkgnmaaaGreat
