/-
  Several texts in one: Fv1, Sm1.
-/
import Derived.Test.YtggbhggnemlpnaaGreatJ25
import Derived.Test.YtggbhggnemlpnaaGreatVa6
import Derived.Test.YtggbhggnemlpnaaGreatFnd
import Derived.Test.YtggbhggnemlpnaaGreatJ20
import Derived.Deep.DeepCutAuto
import Derived.Sort.AtCall
namespace Go.Proofs.YtggbhggnemlpnaaGreat
open Go.RowKit Go.WideMaps Go.Maps

def validI (x : Flt) : Bool := fewOk x && (ordOk x && (berthsOk x.berths && (svcsOk x.services && (copiesOk x && standOk x.berths x.copies))))

def fnV (n : Nat) : Value := .func (.func n) #[] #[]

set_option maxHeartbeats 1000000 in
theorem checks_any (w : World) :
    Calls Tryz.prog 60 #[] w fun e w' => ∃ g, e = .returned (.slice (some ⟨g, 0, none⟩) 6 6) ∧
      w'.rangeAt g 0 [.func (.func 85) #[] #[], .func (.func 86) #[] #[], .func (.func 87) #[] #[], .func (.func 88) #[] #[], .func (.func 89) #[] #[], .func (.func 90) #[] #[]] ∧ g < w'.heap.size ∧ Below w.heap.size w w' := by
  go_enter Tryz.func60, Tryz.ntmps60
  go_wp2_with fail
  go_ret
  refine ⟨_, rfl, ?_, ?_, ?_⟩
  · exact range_cons (by simp) (range_cons (by simp) (range_cons (by simp) (range_cons (by simp) (range_cons (by simp) (range_cons (by simp) (range_nil _ _ _))))))
  · simp
  · go_grown

end Go.Proofs.YtggbhggnemlpnaaGreat

namespace Go.Proofs.YtggbhggnemlpnaaGreat
open Go.RowKit

theorem eqIdx_at {s : ByteArray} {k : Nat} (hlt : k < s.size) (h : s[k].toNat = 61) (hn : ∀ j, j < k → s.data.toList[j]? ≠ some 61) : eqIdx s = k := by
  have hk : s.data.toList[k]? = some 61 := by
    rw [List.getElem?_eq_getElem (by simpa using hlt)]
    congr 1
    exact UInt8.toNat_inj.1 h
  by_cases hz : eqIdx s = -1
  · exact absurd hk (Lib.indexByte_none hz k)
  · obtain ⟨o, ho⟩ : ∃ o : Nat, eqIdx s = o := ⟨(eqIdx s).toNat, by have := eqIdx_ge s; omega⟩
    have h2 := Lib.indexByte_some ho
    rcases Nat.lt_trichotomy o k with h3 | h3 | h3
    · exact absurd h2.1 (hn o h3)
    · rw [ho, h3]
    · exact absurd hk (h2.2 k h3)

theorem eqIdx_no {s : ByteArray} (hn : ∀ j, j < s.size → s.data.toList[j]? ≠ some 61) : eqIdx s = -1 := by
  by_cases hz : eqIdx s = -1
  · exact hz
  · obtain ⟨o, ho⟩ : ∃ o : Nat, eqIdx s = o := ⟨(eqIdx s).toNat, by have := eqIdx_ge s; omega⟩
    exact absurd (Lib.indexByte_some ho).1 (hn o (eqIdx_lt ho))

set_option maxHeartbeats 2000000 in
set_option maxRecDepth 100000 in
theorem sMark_any (s : ByteArray) (w : World) (hs : s.size ≤ maxLen) :
    Calls Tryz.prog 101 #[.string s] w fun e w' => e = .returned (.tuple #[.string (mName s), .string (mVal s), .bool (isMk s)]) ∧ Below w.heap.size w w' := by
  have HS : Hid (s.size ≤ maxLen) := hs
  unfold maxLen at hs
  go_enter Tryz.func101, Tryz.ntmps101
  go_wp2_with fail
  go_loopw [5] (fun i wr => ∃ k : Nat, k ≤ s.size ∧ i = .int .i64 k ∧ Hid (∀ j, j < k → s.data.toList[j]? ≠ some 61) ∧ Below w.heap.size w wr) (fun i _ => s.size - (intOf i).toNat)
  case atStart => exact ⟨0, Nat.zero_le _, rfl, fun j h => absurd h (Nat.not_lt_zero _), Below.refl _ _⟩
  case round =>
    obtain ⟨k, hk, rfl, hn, hbel⟩ := hrel
    by_cases hlt : k < s.size
    · by_cases hb : s[k].toNat = 61
      · have HE : Hid (eqIdx s = k) := eqIdx_at hlt hb hn.out
        have HN : Hid (¬ eqIdx s < 0) := by have := HE.out; show ¬ _; omega
        have hbq : ((s[k].toNat : Int) == 61) = true := by simp; omega
        have HB : Hid (Below w.heap.size w wr) := hbel
        have HNm : Hid (mName s = s.extract 0 k) := by show _ = _; unfold mName; rw [if_neg HN.out, HE.out]; rfl
        obtain ⟨n1, hn1⟩ : ∃ n1 : Nat, n1 = k + 1 := ⟨_, rfl⟩
        have HVl : Hid (mVal s = s.extract n1 s.size) := by show _ = _; unfold mVal; rw [if_neg HN.out, HE.out, hn1]; rfl
        have HMk : Hid (isMk s = (P.nameOk (s.extract 0 k) && P.nameOk (s.extract n1 s.size))) := by show _ = _; unfold isMk; rw [decide_eq_false HN.out, Bool.false_or, HNm.out, HVl.out]
        have i0 : (0 : Int) ≤ (k : Int) := by omega
        have i1 : (k : Int) ≤ (s.size : Int) := by omega
        have i2 : (n1 : Int) ≤ (s.size : Int) := by omega
        have i3 : (0 : Int) ≤ (n1 : Int) := by omega
        have HW : Hid (IntKind.i64.wrap ((k : Int) + 1) = (n1 : Int)) := by show _ = _; rw [IntKind.wrap_i64]; omega
        have Z1 : Hid ((s.extract 0 k).size ≤ maxLen) := by have := mName_size HS.out; rw [HNm.out] at this; exact this
        have Z2 : Hid ((s.extract n1 s.size).size ≤ maxLen) := by have := mVal_size HS.out; rw [HVl.out] at this; exact this
        clear hn hbel hn1
        go_upto_region 5 with fail
        generalize hX : P.nameOk (s.extract 0 k) = X at *
        generalize hY : P.nameOk (s.extract n1 s.size) = Y at *
        have cN : ∀ d os, Calls Tryz.prog 47 #[.string (s.extract 0 k)] (Sort.grow (redrawn wr d) os) fun e w'' => e = .returned (.bool X) ∧ ∃ p : Regrown, w'' = Sort.grow (redrawn wr p.d) p.os := fun d os => by
          refine (nameOk_any _ _ Z1.out).mono ?_
          rintro e w' ⟨rfl, rfl⟩
          exact ⟨by rw [hX], ⟨d, os⟩, rfl⟩
        have cV : ∀ d os, Calls Tryz.prog 47 #[.string (s.extract n1 s.size)] (Sort.grow (redrawn wr d) os) fun e w'' => e = .returned (.bool Y) ∧ ∃ p : Regrown, w'' = Sort.grow (redrawn wr p.d) p.os := fun d os => by
          refine (nameOk_any _ _ Z2.out).mono ?_
          rintro e w' ⟨rfl, rfl⟩
          exact ⟨by rw [hY], ⟨d, os⟩, rfl⟩
        clear hX hY
        cases X with
        | false =>
          refine wp_region_quiet_below (by kernel_rfl) (by kernel_rfl) ?_
          repeat (quiet_step (first | (go_at_call_has 47 (s.extract 0 k); exact cN _ _) | (go_at_call_has 47 (s.extract n1 s.size); exact cV _ _)))
          rw [HW.out]
          repeat (quiet_step (first | (go_at_call_has 47 (s.extract 0 k); exact cN _ _) | (go_at_call_has 47 (s.extract n1 s.size); exact cV _ _)))
          refine wpQuiet_nil ?_
          intro w5 hw'
          obtain ⟨⟨dq, osq⟩, hw''⟩ := hw'
          have hB := below_regrown wr dq osq
          simp only [] at hw''
          rw [← hw''] at hB
          clear hw'' cN cV
          have HB5 : Hid (Below w.heap.size w w5) := HB.out.trans (hB.mono HB.out.size)
          clear hB
          go_wp2_with fail
          go_ret3
          exact ⟨by rw [HNm.out, HVl.out, HMk.out]; rfl, HB5.out⟩
        | true =>
          refine wp_region_quiet_below (by kernel_rfl) (by kernel_rfl) ?_
          repeat (quiet_step (first | (go_at_call_has 47 (s.extract 0 k); exact cN _ _) | (go_at_call_has 47 (s.extract n1 s.size); exact cV _ _)))
          rw [HW.out]
          repeat (quiet_step (first | (go_at_call_has 47 (s.extract 0 k); exact cN _ _) | (go_at_call_has 47 (s.extract n1 s.size); exact cV _ _)))
          rw [HW.out]
          repeat (quiet_step (first | (go_at_call_has 47 (s.extract 0 k); exact cN _ _) | (go_at_call_has 47 (s.extract n1 s.size); exact cV _ _)))
          refine wpQuiet_nil ?_
          intro w5 hw'
          obtain ⟨⟨dq, osq⟩, hw''⟩ := hw'
          have hB := below_regrown wr dq osq
          simp only [] at hw''
          rw [← hw''] at hB
          clear hw'' cN cV
          have HB5 : Hid (Below w.heap.size w w5) := HB.out.trans (hB.mono HB.out.size)
          clear hB
          go_wp2_with fail
          go_ret3
          exact ⟨by rw [HNm.out, HVl.out, HMk.out]; rfl, HB5.out⟩
      · have hbq : ((s[k].toNat : Int) == 61) = false := by simp; omega
        have HN : Hid (∀ j, j < k + 1 → s.data.toList[j]? ≠ some 61) := by
          intro j hj e
          by_cases hjk : j = k
          · subst hjk
            rw [List.getElem?_eq_getElem (by simpa using hlt)] at e
            injection e with e
            exact hb (by rw [show s[j] = (61 : UInt8) from e]; rfl)
          · exact hn.out j (by omega) e
        clear hn hb
        go_wp2_with fail
        go_roundw
        case rel => exact ⟨k + 1, by omega, by go_num, HN, hbel⟩
        case measure => simp [intOf]; omega
    · have hke : k = s.size := by omega
      have HE : Hid (eqIdx s < 0) := by have := eqIdx_no (s := s) (fun j hj => hn.out j (by omega)); show _ < _; omega
      have HNm : Hid (mName s = s) := by show _ = _; unfold mName; rw [if_pos HE.out]
      have HVl : Hid (mVal s = ⟨#[]⟩) := by show _ = _; unfold mVal; rw [if_pos HE.out]
      have HMk : Hid (isMk s = P.nameOk s) := by show _ = _; unfold isMk; rw [decide_eq_true HE.out, Bool.true_or, Bool.and_true, HNm.out]
      have HB : Hid (Below w.heap.size w wr) := hbel
      clear hn hbel
      subst hke
      go_wp2_with fail
      refine (nameOk_any s _ HS.out).mono ?_
      rintro e w' ⟨rfl, rfl⟩
      generalize P.nameOk s = X at *
      go_wp2_with fail
      go_ret3
      exact ⟨by rw [HNm.out, HVl.out, HMk.out]; rfl, HB.out⟩

end Go.Proofs.YtggbhggnemlpnaaGreat
