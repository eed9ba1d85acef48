import Derived.Test.YtnifmiacobfplaaTkw
import Derived.Test.YtnifmiacobfplaaMt5
namespace Go.Proofs.Ytnifmiacobfplaa
open Go.RowKit

theorem rsB_asc {xs : List Rn} {c : Int} {k : Nat} (hk : k < xs.length) (h : ascAt (xs.map (·.want.copy)) k = false) : rsB xs c = false := by
 unfold rsB
 rw [ascTo_false h _ hk]
 simp

set_option maxHeartbeats 4000000 in
set_option maxRecDepth 100000 in
theorem specRunsOk_any (xs : List Rn) (a : Option Addr) (cap lo : Nat) (c : Int) (w : World) (hin : SliceC RnC 11 lo w a xs) (hsm : xs.length ≤ 1048576) :
  Calls Try.prog 29 #[.slice a xs.length cap, .int .i64 c] w fun e w' => e = .returned (.bool (rsB xs c)) ∧ Below w.heap.size w w' := by
 have HI : Hid (SliceC RnC 11 lo w a xs) := hin
 clear hin
 by_cases hl : xs.length ≤ 20
 case neg =>
  have hl' : (20 : Int) < xs.length := by omega
  have HE : Hid (rsB xs c = false) := by show _ = _; unfold rsB; rw [decide_eq_false hl]; rfl
  clear hl
  go_enter Try.func29, Try.ntmps29
  go_wp2_with fail
  go_ret
  exact ⟨ret_bool HE.out.symm, by go_grown⟩
 have hl' : (xs.length : Int) ≤ 20 := by omega
 go_enter Try.func29, Try.ntmps29
 go_wp2_with fail
 go_loopw [5] (fun i wr => ∃ k : Nat, k ≤ xs.length ∧ i = .int .i64 k ∧ Hid (∀ (j : Nat) x, j < k → xs[j]? = some x → roB x c = true) ∧ Hid (ascTo (xs.map (·.want.copy)) k = true) ∧ Below w.heap.size w wr) (fun i _ => xs.length - (intOf i).toNat)
 case atStart => exact ⟨0, Nat.zero_le _, rfl, fun j q h => by omega, rfl, by go_grown⟩
 case round =>
  obtain ⟨k, hk, rfl, hN, hA, hB⟩ := hrel
  by_cases hlt : k < xs.length
  ·obtain ⟨y, hy⟩ : ∃ y, xs[k]? = some y := ⟨xs[k], List.getElem?_eq_getElem hlt⟩
   have HIR := Hid.intro (HI.out.below RnC.holds hB (Nat.le_refl _))
   obtain ⟨b, o, rfl, _, hbl, hc⟩ := HIR.out.at hy
   have hz := hc
   obtain ⟨_, _, _, _, _, _, _, _, _, _, _, z0, z2⟩ := hz
   have HRY := Hid.intro (range_of_cells hc)
   have Z0 := Hid.intro z0
   have Z2 := Hid.intro z2
   have HYY := Hid.intro hy
   have HB := Hid.intro hB
   clear z0 z2 hc hy hB
   cases hro : roB y c with
   | false =>
    have HE := Hid.intro (rsB_no HYY.out hro)
    have HRO := Hid.intro hro
    clear hro HIR
    go_wp2_with fail
    refine wp_region_held_drew (S := fun wy => wy.rangeAt b (o + k * 11) [.string y.want.copy, .int .i64 y.want.version, .string y.want.hold, .int .i64 y.want.pull, .int .i64 y.want.start, .int .i64 y.want.dies, .int .i64 y.want.grace, .int .i64 y.state, .int .i64 y.left, .int .i64 y.falls, .int .i64 y.until_]) (by kernel_rfl) (range_drew HRY.out) (fun hS => ?_)
    refine ty 0 ⟨some 15, _, _, _, _, none⟩ (.slice (some ⟨b, o, none⟩) xs.length cap) rfl (by rfl) ?_ hS ?_
    ·intro wy hy
     clear hy
     go_simp
    simp only [pA, pB, pC, pD]
    refine ty 1 ⟨some 16, _, _, _, _, none⟩ (.int .i64 ((k : Nat) : Int)) rfl (by rfl) ?_ hS ?_
    ·intro wy hy
     clear hy
     go_simp
    simp only [pA, pB, pC, pD]
    refine ty 2 ⟨some 17, _, _, _, _, none⟩ (.pointer (some ⟨b, o + k * 11, none⟩)) rfl (by rfl) ?_ hS ?_
    ·intro wy hy
     clear hy
     first | (go_simp; done) | (go_simp; intro hh; omega)
    simp only [pA, pB, pC, pD]
    refine tk 3 ⟨some 18, _, _, _, _, none⟩ (.agg #[.string y.want.copy, .int .i64 y.want.version, .string y.want.hold, .int .i64 y.want.pull, .int .i64 y.want.start, .int .i64 y.want.dies, .int .i64 y.want.grace, .int .i64 y.state, .int .i64 y.left, .int .i64 y.falls, .int .i64 y.until_]) rfl (yieldsIf_load_mid (by rfl) _ _ rfl b (o + k * 11) rfl [.string y.want.copy, .int .i64 y.want.version, .string y.want.hold, .int .i64 y.want.pull, .int .i64 y.want.start, .int .i64 y.want.dies, .int .i64 y.want.grace, .int .i64 y.state, .int .i64 y.left, .int .i64 y.falls, .int .i64 y.until_] _ (fun _ h => h) Try.underlying38 rfl isz_Rn) hS ?_
    simp only [pA, pB, pC, pD]
    refine ty 4 ⟨some 19, _, _, _, _, none⟩ (.int .i64 c) rfl (by rfl) ?_ hS ?_
    ·intro wy hy
     clear hy
     go_simp
    simp only [pA, pB, pC, pD]
    refine rd1 5 ⟨some 20, _, _, _, _, none⟩ rfl (fun K hK => ?_)
    go_simp
    refine (runOk11_any y c _ Z0.out Z2.out).mono ?_
    rintro e w5 ⟨rfl, hb⟩
    have HB5 : Hid (Below w.heap.size w w5) := HB.out.trans (((Below.refl wr.heap.size wr).drew.trans hb).mono HB.out.size)
    refine hK.out _ _ (range_belowV hS hb hbl) (fun hS => ?_)
    clear hK K
    rw [HRO.out]
    clear hb
    refine ty 6 ⟨some 21, _, _, _, _, none⟩ (.bool true) rfl (by rfl) ?_ hS ?_
    ·intro wy hy
     clear hy
     go_simp
    simp only [pA, pB, pC, pD]
    refine ty 7 ⟨some 22, _, _, _, _, none⟩ (.bool true) rfl (by rfl) ?_ hS ?_
    ·intro wy hy
     clear hy
     go_simp
    simp only [pA, pB, pC, pD]
    refine tk 8 ⟨some 23, _, _, _, _, some (7, false)⟩ undef rfl (Or.inr ⟨by rfl, rfl⟩) hS ?_
    simp only [pA, pB, pC, pD]
    refine tk 9 ⟨some 24, _, _, _, _, some (7, false)⟩ undef rfl (Or.inr ⟨by rfl, rfl⟩) hS ?_
    simp only [pA, pB, pC, pD]
    refine tk 10 ⟨some 25, _, _, _, _, some (7, false)⟩ undef rfl (Or.inr ⟨by rfl, rfl⟩) hS ?_
    simp only [pA, pB, pC, pD]
    refine tk 11 ⟨some 26, _, _, _, _, some (10, true)⟩ undef rfl (Or.inr ⟨by rfl, rfl⟩) hS ?_
    simp only [pA, pB, pC, pD]
    refine tk 12 ⟨some 27, _, _, _, _, some (10, true)⟩ undef rfl (Or.inr ⟨by rfl, rfl⟩) hS ?_
    simp only [pA, pB, pC, pD]
    refine tk 13 ⟨some 28, _, _, _, _, some (10, true)⟩ undef rfl (Or.inr ⟨by rfl, rfl⟩) hS ?_
    simp only [pA, pB, pC, pD]
    refine tk 14 ⟨some 29, _, _, _, _, some (10, true)⟩ undef rfl (Or.inr ⟨by rfl, rfl⟩) hS ?_
    simp only [pA, pB, pC, pD]
    refine tk 15 ⟨some 30, _, _, _, _, some (10, true)⟩ undef rfl (Or.inr ⟨by rfl, rfl⟩) hS ?_
    simp only [pA, pB, pC, pD]
    refine tk 16 ⟨some 31, _, _, _, _, some (10, true)⟩ undef rfl (Or.inr ⟨by rfl, rfl⟩) hS ?_
    simp only [pA, pB, pC, pD]
    refine tk 17 ⟨some 32, _, _, _, _, some (10, true)⟩ undef rfl (Or.inr ⟨by rfl, rfl⟩) hS ?_
    simp only [pA, pB, pC, pD]
    refine tk 18 ⟨some 33, _, _, _, _, some (10, true)⟩ undef rfl (Or.inr ⟨by rfl, rfl⟩) hS ?_
    simp only [pA, pB, pC, pD]
    refine tk 19 ⟨some 34, _, _, _, _, some (10, true)⟩ undef rfl (Or.inr ⟨by rfl, rfl⟩) hS ?_
    simp only [pA, pB, pC, pD]
    refine tk 20 ⟨some 35, _, _, _, _, some (10, true)⟩ undef rfl (Or.inr ⟨by rfl, rfl⟩) hS ?_
    simp only [pA, pB, pC, pD]
    refine tk 21 ⟨some 36, _, _, _, _, some (10, true)⟩ undef rfl (Or.inr ⟨by rfl, rfl⟩) hS ?_
    simp only [pA, pB, pC, pD]
    refine tk 22 ⟨some 37, _, _, _, _, some (10, true)⟩ undef rfl (Or.inr ⟨by rfl, rfl⟩) hS ?_
    simp only [pA, pB, pC, pD]
    refine tk 23 ⟨some 38, _, _, _, _, some (10, true)⟩ undef rfl (Or.inr ⟨by rfl, rfl⟩) hS ?_
    simp only [pA, pB, pC, pD]
    refine tk 24 ⟨some 39, _, _, _, _, some (10, true)⟩ undef rfl (Or.inr ⟨by rfl, rfl⟩) hS ?_
    simp only [pA, pB, pC, pD]
    refine tk 25 ⟨some 40, _, _, _, _, some (7, false)⟩ undef rfl (Or.inr ⟨by rfl, rfl⟩) hS ?_
    simp only [pA, pB, pC, pD]
    refine ty 26 ⟨some 41, _, _, _, _, none⟩ (.bool true) rfl (by rfl) ?_ hS ?_
    ·intro wy hy
     clear hy
     go_simp
    simp only [pA, pB, pC, pD]
    refine wpAnyH_done (by kernel_rfl) ?_ _
    clear hS
    go_wp2_with fail
    go_ret
    exact ⟨ret_bool HE.out.symm, HB5.out⟩
   | true =>
    have HRO := Hid.intro hro
    have HN2 : Hid (∀ (j : Nat) z, j < k + 1 → xs[j]? = some z → roB z c = true) := fun j z hj hz => by
     by_cases e : j = k
     ·subst e
      have := HYY.out.symm.trans hz
      cases this
      exact hro
     ·exact hN.out j z (by omega) hz
    clear hro
    cases k with
    | zero =>
     have HA2 : Hid (ascTo (xs.map (·.want.copy)) (0 + 1) = true) := rfl
     clear HIR
     go_wp2_with fail
     refine wp_region_held_drew (S := fun wy => wy.rangeAt b (o + 0 * 11) [.string y.want.copy, .int .i64 y.want.version, .string y.want.hold, .int .i64 y.want.pull, .int .i64 y.want.start, .int .i64 y.want.dies, .int .i64 y.want.grace, .int .i64 y.state, .int .i64 y.left, .int .i64 y.falls, .int .i64 y.until_]) (by kernel_rfl) (range_drew HRY.out) (fun hS => ?_)
     refine ty 0 ⟨some 15, _, _, _, _, none⟩ (.slice (some ⟨b, o, none⟩) xs.length cap) rfl (by rfl) ?_ hS ?_
     ·intro wy hy
      clear hy
      go_simp
     simp only [pA, pB, pC, pD]
     refine ty 1 ⟨some 16, _, _, _, _, none⟩ (.int .i64 ((0 : Nat) : Int)) rfl (by rfl) ?_ hS ?_
     ·intro wy hy
      clear hy
      go_simp
     simp only [pA, pB, pC, pD]
     refine ty 2 ⟨some 17, _, _, _, _, none⟩ (.pointer (some ⟨b, o + 0 * 11, none⟩)) rfl (by rfl) ?_ hS ?_
     ·intro wy hy
      clear hy
      first | (go_simp; done) | (go_simp; intro hh; omega)
     simp only [pA, pB, pC, pD]
     refine tk 3 ⟨some 18, _, _, _, _, none⟩ (.agg #[.string y.want.copy, .int .i64 y.want.version, .string y.want.hold, .int .i64 y.want.pull, .int .i64 y.want.start, .int .i64 y.want.dies, .int .i64 y.want.grace, .int .i64 y.state, .int .i64 y.left, .int .i64 y.falls, .int .i64 y.until_]) rfl (yieldsIf_load_mid (by rfl) _ _ rfl b (o + 0 * 11) rfl [.string y.want.copy, .int .i64 y.want.version, .string y.want.hold, .int .i64 y.want.pull, .int .i64 y.want.start, .int .i64 y.want.dies, .int .i64 y.want.grace, .int .i64 y.state, .int .i64 y.left, .int .i64 y.falls, .int .i64 y.until_] _ (fun _ h => h) Try.underlying38 rfl isz_Rn) hS ?_
     simp only [pA, pB, pC, pD]
     refine ty 4 ⟨some 19, _, _, _, _, none⟩ (.int .i64 c) rfl (by rfl) ?_ hS ?_
     ·intro wy hy
      clear hy
      go_simp
     simp only [pA, pB, pC, pD]
     refine rd1 5 ⟨some 20, _, _, _, _, none⟩ rfl (fun K hK => ?_)
     go_simp
     refine (runOk11_any y c _ Z0.out Z2.out).mono ?_
     rintro e w5 ⟨rfl, hb⟩
     have HB5 : Hid (Below w.heap.size w w5) := HB.out.trans (((Below.refl wr.heap.size wr).drew.trans hb).mono HB.out.size)
     refine hK.out _ _ (range_belowV hS hb hbl) (fun hS => ?_)
     clear hK K
     rw [HRO.out]
     clear hb
     refine ty 6 ⟨some 21, _, _, _, _, none⟩ (.bool false) rfl (by rfl) ?_ hS ?_
     ·intro wy hy
      clear hy
      go_simp
     simp only [pA, pB, pC, pD]
     refine ty 7 ⟨some 22, _, _, _, _, none⟩ (.bool false) rfl (by rfl) ?_ hS ?_
     ·intro wy hy
      clear hy
      go_simp
     simp only [pA, pB, pC, pD]
     refine ty 8 ⟨some 23, _, _, _, _, some (7, false)⟩ (.int .i64 ((0 : Nat) : Int)) rfl (by rfl) ?_ hS ?_
     ·intro wy hy
      clear hy
      go_simp
     simp only [pA, pB, pC, pD]
     refine ty 9 ⟨some 24, _, _, _, _, some (7, false)⟩ (.bool false) rfl (by rfl) ?_ hS ?_
     ·intro wy hy
      clear hy
      go_simp
     simp only [pA, pB, pC, pD]
     refine ty 10 ⟨some 25, _, _, _, _, some (7, false)⟩ (.bool false) rfl (by rfl) ?_ hS ?_
     ·intro wy hy
      clear hy
      go_simp
     simp only [pA, pB, pC, pD]
     refine tk 11 ⟨some 26, _, _, _, _, some (10, true)⟩ undef rfl (Or.inr ⟨by rfl, rfl⟩) hS ?_
     simp only [pA, pB, pC, pD]
     refine tk 12 ⟨some 27, _, _, _, _, some (10, true)⟩ undef rfl (Or.inr ⟨by rfl, rfl⟩) hS ?_
     simp only [pA, pB, pC, pD]
     refine tk 13 ⟨some 28, _, _, _, _, some (10, true)⟩ undef rfl (Or.inr ⟨by rfl, rfl⟩) hS ?_
     simp only [pA, pB, pC, pD]
     refine tk 14 ⟨some 29, _, _, _, _, some (10, true)⟩ undef rfl (Or.inr ⟨by rfl, rfl⟩) hS ?_
     simp only [pA, pB, pC, pD]
     refine tk 15 ⟨some 30, _, _, _, _, some (10, true)⟩ undef rfl (Or.inr ⟨by rfl, rfl⟩) hS ?_
     simp only [pA, pB, pC, pD]
     refine tk 16 ⟨some 31, _, _, _, _, some (10, true)⟩ undef rfl (Or.inr ⟨by rfl, rfl⟩) hS ?_
     simp only [pA, pB, pC, pD]
     refine tk 17 ⟨some 32, _, _, _, _, some (10, true)⟩ undef rfl (Or.inr ⟨by rfl, rfl⟩) hS ?_
     simp only [pA, pB, pC, pD]
     refine tk 18 ⟨some 33, _, _, _, _, some (10, true)⟩ undef rfl (Or.inr ⟨by rfl, rfl⟩) hS ?_
     simp only [pA, pB, pC, pD]
     refine tk 19 ⟨some 34, _, _, _, _, some (10, true)⟩ undef rfl (Or.inr ⟨by rfl, rfl⟩) hS ?_
     simp only [pA, pB, pC, pD]
     refine tk 20 ⟨some 35, _, _, _, _, some (10, true)⟩ undef rfl (Or.inr ⟨by rfl, rfl⟩) hS ?_
     simp only [pA, pB, pC, pD]
     refine tk 21 ⟨some 36, _, _, _, _, some (10, true)⟩ undef rfl (Or.inr ⟨by rfl, rfl⟩) hS ?_
     simp only [pA, pB, pC, pD]
     refine tk 22 ⟨some 37, _, _, _, _, some (10, true)⟩ undef rfl (Or.inr ⟨by rfl, rfl⟩) hS ?_
     simp only [pA, pB, pC, pD]
     refine tk 23 ⟨some 38, _, _, _, _, some (10, true)⟩ undef rfl (Or.inr ⟨by rfl, rfl⟩) hS ?_
     simp only [pA, pB, pC, pD]
     refine tk 24 ⟨some 39, _, _, _, _, some (10, true)⟩ undef rfl (Or.inr ⟨by rfl, rfl⟩) hS ?_
     simp only [pA, pB, pC, pD]
     refine ty 25 ⟨some 40, _, _, _, _, some (7, false)⟩ (.bool false) rfl (by rfl) ?_ hS ?_
     ·intro wy hy
      clear hy
      go_simp
     simp only [pA, pB, pC, pD]
     refine ty 26 ⟨some 41, _, _, _, _, none⟩ (.bool false) rfl (by rfl) ?_ hS ?_
     ·intro wy hy
      clear hy
      go_simp
     simp only [pA, pB, pC, pD]
     refine wpAnyH_done (by kernel_rfl) ?_ _
     clear hS
     go_wp2_with fail
     go_roundw
     case rel => exact ⟨0 + 1, by omega, by go_num, HN2, HA2, HB5.out⟩
     case measure => simp [intOf]; omega
    | succ m =>
     obtain ⟨x, hx⟩ : ∃ x, xs[m]? = some x := ⟨xs[m], List.getElem?_eq_getElem (by omega)⟩
     obtain ⟨b', o', e', _, _, hcx⟩ := HIR.out.at hx
     cases e'
     have HRX := Hid.intro (range_of_cells hcx)
     have HQA := Hid.intro (ascAt_at (ns := xs.map (·.want.copy)) (m := m) (s := x.want.copy) (t := y.want.copy) (by rw [List.getElem?_map, hx]; rfl) (by rw [List.getElem?_map, HYY.out]; rfl))
     generalize hq : Op.bytesLess x.want.copy.toList y.want.copy.toList = Q at HQA
     have HQ := Hid.intro hq
     clear hq hx hcx HIR
     go_wp2_with fail
     refine wp_region_held_drew (S := fun wy => wy.rangeAt b (o + (m + 1) * 11) [.string y.want.copy, .int .i64 y.want.version, .string y.want.hold, .int .i64 y.want.pull, .int .i64 y.want.start, .int .i64 y.want.dies, .int .i64 y.want.grace, .int .i64 y.state, .int .i64 y.left, .int .i64 y.falls, .int .i64 y.until_] ∧ wy.rangeAt b (o + m * 11) [.string x.want.copy, .int .i64 x.want.version, .string x.want.hold, .int .i64 x.want.pull, .int .i64 x.want.start, .int .i64 x.want.dies, .int .i64 x.want.grace, .int .i64 x.state, .int .i64 x.left, .int .i64 x.falls, .int .i64 x.until_]) (by kernel_rfl) (⟨range_drew HRY.out, range_drew HRX.out⟩) (fun hS => ?_)
     refine ty 0 ⟨some 15, _, _, _, _, none⟩ (.slice (some ⟨b, o, none⟩) xs.length cap) rfl (by rfl) ?_ hS ?_
     ·intro wy hy
      clear hy
      go_simp
     simp only [pA, pB, pC, pD]
     refine ty 1 ⟨some 16, _, _, _, _, none⟩ (.int .i64 ((m + 1 : Nat) : Int)) rfl (by rfl) ?_ hS ?_
     ·intro wy hy
      clear hy
      go_simp
     simp only [pA, pB, pC, pD]
     refine ty 2 ⟨some 17, _, _, _, _, none⟩ (.pointer (some ⟨b, o + (m + 1) * 11, none⟩)) rfl (by rfl) ?_ hS ?_
     ·intro wy hy
      clear hy
      first | (go_simp; done) | (go_simp; intro hh; omega)
     simp only [pA, pB, pC, pD]
     refine tk 3 ⟨some 18, _, _, _, _, none⟩ (.agg #[.string y.want.copy, .int .i64 y.want.version, .string y.want.hold, .int .i64 y.want.pull, .int .i64 y.want.start, .int .i64 y.want.dies, .int .i64 y.want.grace, .int .i64 y.state, .int .i64 y.left, .int .i64 y.falls, .int .i64 y.until_]) rfl (yieldsIf_load_mid (by rfl) _ _ rfl b (o + (m + 1) * 11) rfl [.string y.want.copy, .int .i64 y.want.version, .string y.want.hold, .int .i64 y.want.pull, .int .i64 y.want.start, .int .i64 y.want.dies, .int .i64 y.want.grace, .int .i64 y.state, .int .i64 y.left, .int .i64 y.falls, .int .i64 y.until_] _ (fun _ h => h.1) Try.underlying38 rfl isz_Rn) hS ?_
     simp only [pA, pB, pC, pD]
     refine ty 4 ⟨some 19, _, _, _, _, none⟩ (.int .i64 c) rfl (by rfl) ?_ hS ?_
     ·intro wy hy
      clear hy
      go_simp
     simp only [pA, pB, pC, pD]
     refine rd1 5 ⟨some 20, _, _, _, _, none⟩ rfl (fun K hK => ?_)
     go_simp
     refine (runOk11_any y c _ Z0.out Z2.out).mono ?_
     rintro e w5 ⟨rfl, hb⟩
     have HB5 : Hid (Below w.heap.size w w5) := HB.out.trans (((Below.refl wr.heap.size wr).drew.trans hb).mono HB.out.size)
     refine hK.out _ _ ⟨range_belowV hS.1 hb hbl, range_belowV hS.2 hb hbl⟩ (fun hS => ?_)
     clear hK K
     rw [HRO.out]
     clear hb
     refine ty 6 ⟨some 21, _, _, _, _, none⟩ (.bool false) rfl (by rfl) ?_ hS ?_
     ·intro wy hy
      clear hy
      go_simp
     simp only [pA, pB, pC, pD]
     refine ty 7 ⟨some 22, _, _, _, _, none⟩ (.bool false) rfl (by rfl) ?_ hS ?_
     ·intro wy hy
      clear hy
      go_simp
     simp only [pA, pB, pC, pD]
     refine ty 8 ⟨some 23, _, _, _, _, some (7, false)⟩ (.int .i64 ((m + 1 : Nat) : Int)) rfl (by rfl) ?_ hS ?_
     ·intro wy hy
      clear hy
      go_simp
     simp only [pA, pB, pC, pD]
     refine ty 9 ⟨some 24, _, _, _, _, some (7, false)⟩ (.bool true) rfl (by rfl) ?_ hS ?_
     ·intro wy hy
      clear hy
      go_simp
     simp only [pA, pB, pC, pD]
     refine ty 10 ⟨some 25, _, _, _, _, some (7, false)⟩ (.bool true) rfl (by rfl) ?_ hS ?_
     ·intro wy hy
      clear hy
      go_simp
     simp only [pA, pB, pC, pD]
     refine ty 11 ⟨some 26, _, _, _, _, some (10, true)⟩ (.slice (some ⟨b, o, none⟩) xs.length cap) rfl (by rfl) ?_ hS ?_
     ·intro wy hy
      clear hy
      go_simp
     simp only [pA, pB, pC, pD]
     refine ty 12 ⟨some 27, _, _, _, _, some (10, true)⟩ (.int .i64 ((m + 1 : Nat) : Int)) rfl (by rfl) ?_ hS ?_
     ·intro wy hy
      clear hy
      go_simp
     simp only [pA, pB, pC, pD]
     refine ty 13 ⟨some 28, _, _, _, _, some (10, true)⟩ (.int .i64 (m : Int)) rfl (by rfl) ?_ hS ?_
     ·intro wy hy
      clear hy
      go_simp; rw [IntKind.wrap_i64]; omega
     simp only [pA, pB, pC, pD]
     refine ty 14 ⟨some 29, _, _, _, _, some (10, true)⟩ (.pointer (some ⟨b, o + m * 11, none⟩)) rfl (by rfl) ?_ hS ?_
     ·intro wy hy
      clear hy
      first | (go_simp; done) | (go_simp; intro hh; omega)
     simp only [pA, pB, pC, pD]
     refine ty 15 ⟨some 30, _, _, _, _, some (10, true)⟩ (.pointer (some ⟨b, o + m * 11, none⟩)) rfl (by rfl) ?_ hS ?_
     ·intro wy hy
      clear hy
      go_simp
     simp only [pA, pB, pC, pD]
     refine ty 16 ⟨some 31, _, _, _, _, some (10, true)⟩ (.pointer (some ⟨b, o + m * 11, none⟩)) rfl (by rfl) ?_ hS ?_
     ·intro wy hy
      clear hy
      go_simp
     simp only [pA, pB, pC, pD]
     refine ty 17 ⟨some 32, _, _, _, _, some (10, true)⟩ (.string x.want.copy) rfl (by rfl) ?_ hS ?_
     ·intro wy hy
      have h0 := hy.2 0 _ rfl
      simp only [Nat.add_zero] at h0
      clear hy
      go_simp
     simp only [pA, pB, pC, pD]
     refine ty 18 ⟨some 33, _, _, _, _, some (10, true)⟩ (.slice (some ⟨b, o, none⟩) xs.length cap) rfl (by rfl) ?_ hS ?_
     ·intro wy hy
      clear hy
      go_simp
     simp only [pA, pB, pC, pD]
     refine ty 19 ⟨some 34, _, _, _, _, some (10, true)⟩ (.int .i64 ((m + 1 : Nat) : Int)) rfl (by rfl) ?_ hS ?_
     ·intro wy hy
      clear hy
      go_simp
     simp only [pA, pB, pC, pD]
     refine ty 20 ⟨some 35, _, _, _, _, some (10, true)⟩ (.pointer (some ⟨b, o + (m + 1) * 11, none⟩)) rfl (by rfl) ?_ hS ?_
     ·intro wy hy
      clear hy
      first | (go_simp; done) | (go_simp; intro hh; omega)
     simp only [pA, pB, pC, pD]
     refine ty 21 ⟨some 36, _, _, _, _, some (10, true)⟩ (.pointer (some ⟨b, o + (m + 1) * 11, none⟩)) rfl (by rfl) ?_ hS ?_
     ·intro wy hy
      clear hy
      go_simp
     simp only [pA, pB, pC, pD]
     refine ty 22 ⟨some 37, _, _, _, _, some (10, true)⟩ (.pointer (some ⟨b, o + (m + 1) * 11, none⟩)) rfl (by rfl) ?_ hS ?_
     ·intro wy hy
      clear hy
      go_simp
     simp only [pA, pB, pC, pD]
     refine ty 23 ⟨some 38, _, _, _, _, some (10, true)⟩ (.string y.want.copy) rfl (by rfl) ?_ hS ?_
     ·intro wy hy
      have h0 := hy.1 0 _ rfl
      simp only [Nat.add_zero] at h0
      clear hy
      go_simp
     simp only [pA, pB, pC, pD]
     refine ty 24 ⟨some 39, _, _, _, _, some (10, true)⟩ (.bool (!Q)) rfl (by rfl) ?_ hS ?_
     ·intro wy hy
      clear hy
      go_simp; rw [HQ.out]
     simp only [pA, pB, pC, pD]
     refine ty 25 ⟨some 40, _, _, _, _, some (7, false)⟩ (.bool (!Q)) rfl (by rfl) ?_ hS ?_
     ·intro wy hy
      clear hy
      go_simp
     simp only [pA, pB, pC, pD]
     refine ty 26 ⟨some 41, _, _, _, _, none⟩ (.bool (!Q)) rfl (by rfl) ?_ hS ?_
     ·intro wy hy
      clear hy
      go_simp
     simp only [pA, pB, pC, pD]
     refine wpAnyH_done (by kernel_rfl) ?_ _
     clear hS
     cases Q with
     | false =>
      have HE := Hid.intro (rsB_asc (c := c) hlt HQA.out)
      go_wp2_with fail
      go_ret
      exact ⟨ret_bool HE.out.symm, HB5.out⟩
     | true =>
      have HA2 : Hid (ascTo (xs.map (·.want.copy)) (m + 1 + 1) = true) := by show _ = _; rw [ascTo, hA.out, HQA.out]; rfl
      go_wp2_with fail
      go_roundw
      case rel => exact ⟨m + 1 + 1, by omega, by go_num, HN2, HA2, HB5.out⟩
      case measure => simp [intOf]; omega
  ·have hke : k = xs.length := by omega
   subst hke
   have HE := Hid.intro (rsB_yes hl hA.out hN.out)
   go_wp2_with fail
   go_ret
   exact ⟨ret_bool HE.out.symm, hB⟩

end Go.Proofs.Ytnifmiacobfplaa
