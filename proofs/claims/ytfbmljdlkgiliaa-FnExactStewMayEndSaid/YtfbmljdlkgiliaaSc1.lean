/-
  Where the copies of a service begin. Made by mksc1.py.
-/
import Derived.Test.YtfbmljdlkgiliaaSvi
namespace Go.Proofs.Ytfbmljdlkgiliaa
open Go.RowKit

set_option maxHeartbeats 1000000 in
theorem cmpSvc_any (x : Scp) (s : ByteArray) (w : World) :
    Calls Try.prog 89 #[.agg #[.string x.service, .int .i64 x.number, .int .i64 x.version, .int .i64 x.image, .int .i64 x.state, .bool x.ending, .string x.berth], .string s] w fun e w' => e = .returned (.int .i64 (Lib.compareBytes x.service.data.toList s.data.toList)) ∧ Below w.heap.size w w' := by
  have hB1 : Below w.heap.size w (w.alloc (Obj.cells #[.string x.service, .int .i64 x.number, .int .i64 x.version, .int .i64 x.image, .int .i64 x.state, .bool x.ending, .string x.berth] 48)) := by go_grown
  have HK : Hid (Blk w.heap.size #[.string x.service, .int .i64 x.number, .int .i64 x.version, .int .i64 x.image, .int .i64 x.state, .bool x.ending, .string x.berth] 48 (w.alloc (Obj.cells #[.string x.service, .int .i64 x.number, .int .i64 x.version, .int .i64 x.image, .int .i64 x.state, .bool x.ending, .string x.berth] 48))) := Blk.alloc _ _ _
  go_enter Try.func89, Try.ntmps89
  go_upto_region 1 with fail
  generalize w.alloc (Obj.cells #[.string x.service, .int .i64 x.number, .int .i64 x.version, .int .i64 x.image, .int .i64 x.state, .bool x.ending, .string x.berth] 48) = w1 at *
  have k0 : w1.cell? ⟨w.heap.size, 0, none⟩ = some (.string x.service) := HK.out.cell rfl
  clear HK
  go_wp2_with (go_at_call 90; refine (strCmp_any _ _ _).mono ?_; rintro e w' ⟨rfl, rfl⟩)
  go_ret
  exact ⟨rfl, hB1⟩

/-- where they begin, and whether there is one -/
def BsRes (xs : List Scp) (s : ByteArray) (w : World) (e : Ending) (w' : World) : Prop := ∃ (i : Nat) (q : Bool), e = .returned (.tuple #[.int .i64 i, .bool q]) ∧ i ≤ xs.length ∧ (∀ (j : Nat) u, j < i → xs[j]? = some u → Lib.compareBytes u.service.data.toList s.data.toList < 0) ∧ (∀ (j : Nat) u, i ≤ j → xs[j]? = some u → 0 ≤ Lib.compareBytes u.service.data.toList s.data.toList) ∧ Below w.heap.size w w'

set_option maxHeartbeats 4000000 in
set_option maxRecDepth 100000 in
theorem bsCopies_any (xs : List Scp) (s : ByteArray) (a : Option Addr) (cap lo : Nat) (w : World) (hin : SliceC ScpC 7 lo w a xs) (hsm : xs.length ≤ 1048576) (hmono : ∀ (j k : Nat) u v, j ≤ k → xs[j]? = some u → xs[k]? = some v → Lib.compareBytes v.service.data.toList s.data.toList < 0 → Lib.compareBytes u.service.data.toList s.data.toList < 0) :
    Calls Try.prog 88 #[.slice a xs.length cap, .string s, .func (.func 89) #[] #[]] w fun e w' => BsRes xs s w e w' := by
  have HI := Hid.intro hin
  have HM := Hid.intro hmono
  clear hin hmono
  go_enter Try.func88, Try.ntmps88
  go_wp2_with fail
  go_loopw [9, 10] (fun s9 s10 wr => ∃ l h : Nat, s9 = .int .i64 l ∧ s10 = .int .i64 h ∧ l ≤ h ∧ h ≤ xs.length ∧ Hid (∀ (j : Nat) u, j < l → xs[j]? = some u → Lib.compareBytes u.service.data.toList s.data.toList < 0) ∧ Hid (∀ (j : Nat) u, h ≤ j → xs[j]? = some u → 0 ≤ Lib.compareBytes u.service.data.toList s.data.toList) ∧ Below w.heap.size w wr) (fun s9 s10 _ => (intOf s10).toNat - (intOf s9).toNat)
  case atStart => exact ⟨0, xs.length, rfl, rfl, Nat.zero_le _, Nat.le_refl _, fun j u h => by omega, fun j u h hx => by have := lt_of_some hx; omega, Below.refl _ _⟩
  case round =>
    obtain ⟨l, h, rfl, rfl, hlh, hhn, hA, hC, hB⟩ := hrel
    by_cases hlt : l < h
    · obtain ⟨y, hy⟩ : ∃ y, xs[(l + h) / 2]? = some y := ⟨xs[(l + h) / 2], List.getElem?_eq_getElem (by omega)⟩
      have hml : (l + h) / 2 < xs.length := by omega
      have hm1 : l ≤ (l + h) / 2 ∧ (l + h) / 2 < h := by omega
      have HWM : Hid (((l : Int) + (h : Int)) / 2 = (((l + h) / 2 : Nat) : Int)) := by show _ = _; omega
      obtain ⟨b, o, ea, _, hbl, hc⟩ := (HI.out.below ScpC.holds hB (Nat.le_refl _)).at hy
      subst ea
      have HRY := Hid.intro (rngScp hc)
      have HYY := Hid.intro hy
      clear hc hy
      go_upto_region 5 with fail
      try rw [HWM.out]
      clear HWM
      obtain ⟨hm1, hm2⟩ := hm1
      have HLH := Hid.intro hlt
      generalize (l + h) / 2 = m at *
      have i1 : (m : Int) < (xs.length : Int) := by omega
      go_wp2_with (refine wpList_load_mid rfl 48 _ rfl b (o + m * 7) (by first | rfl | (simp [go_sem]; done)) [.string y.service, .int .i64 y.number, .int .i64 y.version, .int .i64 y.image, .int .i64 y.state, .bool y.ending, .string y.berth] _ HRY.out Try.underlying48 rfl isz_Scp ?_)
      refine (cmpSvc_any y s _).mono ?_
      rintro e w3 ⟨rfl, hb3⟩
      have hB3 : Below w.heap.size w w3 := hB.trans (hb3.mono hB.size)
      clear hb3 hB HRY
      generalize hcy : Lib.compareBytes y.service.data.toList s.data.toList = cy at *
      by_cases hn : cy < 0
      · have HA2 : Hid (∀ (j : Nat) u, j < m + 1 → xs[j]? = some u → Lib.compareBytes u.service.data.toList s.data.toList < 0) := fun j u hj hu => HM.out j m u y (by omega) hu HYY.out (by rw [hcy]; exact hn)
        clear hcy hA
        go_wp2_with fail
        go_roundw
        case rel => exact ⟨m + 1, h, by go_num, rfl, by omega, hhn, HA2, hC, hB3⟩
        case measure => simp [intOf]; omega
      · have hn0 : 0 ≤ cy := by omega
        have HC2 : Hid (∀ (j : Nat) u, m ≤ j → xs[j]? = some u → 0 ≤ Lib.compareBytes u.service.data.toList s.data.toList) := fun j u hj hu => by
          by_cases h9 : Lib.compareBytes u.service.data.toList s.data.toList < 0
          · have := HM.out m j y u hj HYY.out hu h9
            omega
          · omega
        have hn1 : decide (cy < 0) = false := by simpa using hn
        clear hcy hn hC
        go_wp2_with fail
        go_roundw
        case rel => exact ⟨l, m, rfl, rfl, by omega, by omega, hA, HC2, hB3⟩
        case measure => simp [intOf]; omega
    · obtain rfl : l = h := by omega
      by_cases hn : l < xs.length
      · obtain ⟨y, hy⟩ : ∃ y, xs[l]? = some y := ⟨xs[l], List.getElem?_eq_getElem hn⟩
        obtain ⟨b, o, ea, _, hbl, hc⟩ := (HI.out.below ScpC.holds hB (Nat.le_refl _)).at hy
        subst ea
        have HRY := Hid.intro (rngScp hc)
        clear hc hy
        have i1 : (l : Int) < (xs.length : Int) := by omega
        obtain ⟨q0, q1, q2, q3, q4, q5, q6⟩ : wr.cell? ⟨b, o + l * 7, none⟩ = some (.string y.service) ∧ wr.cell? ⟨b, o + l * 7 + 1, none⟩ = some (.int .i64 y.number) ∧ wr.cell? ⟨b, o + l * 7 + 2, none⟩ = some (.int .i64 y.version) ∧ wr.cell? ⟨b, o + l * 7 + 3, none⟩ = some (.int .i64 y.image) ∧ wr.cell? ⟨b, o + l * 7 + 4, none⟩ = some (.int .i64 y.state) ∧ wr.cell? ⟨b, o + l * 7 + 5, none⟩ = some (.bool y.ending) ∧ wr.cell? ⟨b, o + l * 7 + 6, none⟩ = some (.string y.berth) := ⟨HRY.out 0 _ rfl, HRY.out 1 _ rfl, HRY.out 2 _ rfl, HRY.out 3 _ rfl, HRY.out 4 _ rfl, HRY.out 5 _ rfl, HRY.out 6 _ rfl⟩
        clear HRY
        go_wp2_with fail
        refine (cmpSvc_any y s _).mono ?_
        rintro e w3 ⟨rfl, hb3⟩
        have hB3 : Below w.heap.size w w3 := hB.trans (hb3.mono hB.size)
        clear hb3 hB q0 q1 q2 q3 q4 q5 q6
        go_wp2_with fail
        exact bodyPost_ret (results_tmp2 rfl _ _ _) rfl ⟨l, _, rfl, hhn, hA.out, hC.out, hB3⟩
      · have i1 : ¬ (l : Int) < (xs.length : Int) := by omega
        go_wp2_with fail
        exact bodyPost_ret (results_tmp2 rfl _ _ _) rfl ⟨l, _, rfl, hhn, hA.out, hC.out, hB⟩

/-- copies that ascend: what comes ahead of one whose service is ahead of s is ahead of s, too -/
theorem asc_mono {xs : List Scp} (h : ∀ (j : Nat) u v, xs[j]? = some u → xs[j + 1]? = some v → ahB u v = true) (s : ByteArray) : ∀ (j k : Nat) u v, j ≤ k → xs[j]? = some u → xs[k]? = some v → Lib.compareBytes v.service.data.toList s.data.toList < 0 → Lib.compareBytes u.service.data.toList s.data.toList < 0 := by
  have hs : ∀ u v : Scp, ahB u v = true → Op.bytesLess u.service.data.toList v.service.data.toList = true ∨ u.service.data.toList = v.service.data.toList := by
    intro u v huv
    unfold ahB at huv
    rw [ByteArray.toList_eq, ByteArray.toList_eq] at huv
    simp only [Bool.or_eq_true, Bool.and_eq_true, beq_iff_eq] at huv
    rcases huv with h1 | h1
    · exact .inl h1
    · exact .inr h1.1
  have hlt : ∀ a b : List UInt8, Lib.compareBytes a b < 0 ↔ Op.bytesLess a b = true := by
    intro a b
    rcases cmpL_cases a b with ⟨e1, e2, _, _⟩ | ⟨e1, e2, _, _⟩ | ⟨e1, e2, _, _⟩ <;> rw [e1, e2] <;> simp
  have step : ∀ (d j : Nat) u v, xs[j]? = some u → xs[j + d]? = some v → Lib.compareBytes v.service.data.toList s.data.toList < 0 → Lib.compareBytes u.service.data.toList s.data.toList < 0 := by
    intro d
    induction d with
    | zero =>
      intro j u v h1 h2 h3
      have : u = v := Option.some.inj (h1.symm.trans h2)
      rw [this]
      exact h3
    | succ d ih =>
      intro j u v h1 h2 h3
      have hd : j + d < xs.length := by have := lt_of_some h2; omega
      have h4 : xs[j + d]? = some xs[j + d] := List.getElem?_eq_getElem hd
      refine ih j u _ h1 h4 ?_
      have h5 := hs _ _ (h (j + d) _ _ h4 h2)
      rw [hlt] at h3 ⊢
      rcases h5 with h5 | h5
      · exact bl_tr _ _ _ h5 h3
      · rw [h5]; exact h3
  intro j k u v hjk hu hv h3
  exact step (k - j) j u v hu (by rw [show j + (k - j) = k by omega]; exact hv) h3

end Go.Proofs.Ytfbmljdlkgiliaa
