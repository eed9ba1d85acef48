/-
  Checks of a book, and of each of some; checks of a world of the stewards. Made by mkswi.py.
-/
import Derived.Test.YtnkggfnblcadoaaSwd
import Derived.Test.YtnkggfnblcadoaaSvi
import Derived.Test.YtnkggfnblcadoaaBls
namespace Go.Proofs.Ytnkggfnblcadoaa
open Go.RowKit

set_option maxHeartbeats 2000000 in
set_option maxRecDepth 100000 in
theorem allSbk_any (x : Sbk) (a1 : Option Addr) (c1 : Nat) (a2 : Option Addr) (c2 : Nat) (a3 : Option Addr) (c3 : Nat) (rs : List Chk) (g cap : Nat) (w : World) (hrl : rs.length ≤ 8)
    (hsay : ∀ (k : Nat) r, rs[k]? = some r → (∀ (j : Nat) q, j < k → rs[j]? = some q → q.2.2 = true) → ∀ v, Below w.heap.size w v → Calls Try.prog r.1 (r.2.1 ++ #[.agg #[.int .i64 x.now, .slice a1 x.services.length c1, .slice a2 x.copies.length c2, .slice a3 x.berths.length c3]]) v fun e w' => e = .returned (.bool r.2.2) ∧ Below v.heap.size v w') (heg : Enters rs)
    (hR : ChkIn g rs w) (hg : g < w.heap.size) :
    Calls Try.prog 53 #[.slice (some ⟨g, 0, none⟩) rs.length cap, .agg #[.int .i64 x.now, .slice a1 x.services.length c1, .slice a2 x.copies.length c2, .slice a3 x.berths.length c3]] w fun e w' => e = .returned (.bool (allR rs)) ∧ Below w.heap.size w w' := by
  have HR := Hid.intro hR
  have HSAY := Hid.intro hsay
  have HEG := Hid.intro heg
  have HX0 : Hid (Blk w.heap.size #[.int .i64 x.now, .slice a1 x.services.length c1, .slice a2 x.copies.length c2, .slice a3 x.berths.length c3] 37 (w.alloc (.cells #[.int .i64 x.now, .slice a1 x.services.length c1, .slice a2 x.copies.length c2, .slice a3 x.berths.length c3] 37))) := Blk.alloc _ _ _
  have hb0 : Below w.heap.size w (w.alloc (Obj.cells #[.int .i64 x.now, .slice a1 x.services.length c1, .slice a2 x.copies.length c2, .slice a3 x.berths.length c3] 37)) := (Below.refl _ w).alloc (Nat.le_refl _) _
  clear hR hsay heg
  go_enter Try.func53, Try.ntmps53
  go_wp2_with fail
  generalize w.alloc (Obj.cells #[.int .i64 x.now, .slice a1 x.services.length c1, .slice a2 x.copies.length c2, .slice a3 x.berths.length c3] 37) = w0 at *
  go_loopw [9] (fun i wr => ∃ k : Nat, k ≤ rs.length ∧ i = .int .i64 k ∧ Hid (∀ (j : Nat) q, j < k → rs[j]? = some q → q.2.2 = true) ∧ Hid (Blk w.heap.size #[.int .i64 x.now, .slice a1 x.services.length c1, .slice a2 x.copies.length c2, .slice a3 x.berths.length c3] 37 wr) ∧ Below w.heap.size w wr) (fun i _ => rs.length - (intOf i).toNat)
  case atStart => exact ⟨0, Nat.zero_le _, rfl, fun j q h => by omega, HX0, hb0⟩
  case round =>
    clear HX0 hb0
    obtain ⟨k, hk, rfl, hN, hX, hB⟩ := hrel
    by_cases hlt : k < rs.length
    · obtain ⟨r, hr⟩ : ∃ r, rs[k]? = some r := ⟨rs[k], List.getElem?_eq_getElem hlt⟩
      have cf : wr.cell? ⟨g, k, none⟩ = some (.func (.func r.1) r.2.1 #[]) := (hB.cell (p := ⟨g, k, none⟩) hg).trans (HR.out k r hr)
      have HSK := Hid.intro (HSAY.out k r hr hN.out)
      have heg := HEG.out k r hr
      have HRR := Hid.intro hr
      obtain ⟨fid, bnd, tr⟩ := r
      simp only at cf HSK heg
      clear hr
      go_wp2_with (first | (refine wpList_load_mid rfl 37 _ rfl w.heap.size 0 (by first | rfl | (simp [go_sem]; done)) [.int .i64 x.now, .slice a1 x.services.length c1, .slice a2 x.copies.length c2, .slice a3 x.berths.length c3] _ hX.out.rangeA Try.underlying37 rfl isz_Sbk ?_))
      refine (HSK.out wr hB).mono ?_
      rintro e w5 ⟨rfl, hb5⟩
      have HX5 := Hid.intro (hX.out.below hb5 hX.out.lt)
      have hB5 := hB.trans (hb5.mono hB.size)
      clear hb5 heg HSK cf hB hX
      cases tr with
      | false =>
        have HE := Hid.intro (allR_no HRR.out rfl)
        go_wp2_with fail
        go_ret
        exact ⟨ret_bool HE.out.symm, hB5⟩
      | true =>
        have HN2 : Hid (∀ (j : Nat) q, j < k + 1 → rs[j]? = some q → q.2.2 = true) := fun j q hj hq => by
          by_cases e : j = k
          · subst e
            have := HRR.out.symm.trans hq
            cases this
            rfl
          · exact hN.out j q (by omega) hq
        go_wp2_with fail
        go_roundw
        case rel => exact ⟨k + 1, by omega, by go_num, HN2, HX5, hB5⟩
        case measure => simp [intOf]; omega
    · have hke : k = rs.length := by omega
      subst hke
      have HE := Hid.intro (allR_yes hN.out)
      go_wp2_with fail
      go_ret
      exact ⟨ret_bool HE.out.symm, hB⟩


set_option maxHeartbeats 2000000 in
set_option maxRecDepth 100000 in
theorem allSwd_any (x : Swd) (a0 : Option Addr) (c0 : Nat) (a1 : Option Addr) (c1 : Nat) (a2 : Option Addr) (c2 : Nat) (a3 : Option Addr) (c3 : Nat) (rs : List Chk) (g cap : Nat) (w : World) (hrl : rs.length ≤ 8)
    (hsay : ∀ (k : Nat) r, rs[k]? = some r → (∀ (j : Nat) q, j < k → rs[j]? = some q → q.2.2 = true) → ∀ v, Below w.heap.size w v → Calls Try.prog r.1 (r.2.1 ++ #[.agg #[.slice a0 x.past.length c0, .int .i64 x.book.now, .slice a1 x.book.services.length c1, .slice a2 x.book.copies.length c2, .slice a3 x.book.berths.length c3]]) v fun e w' => e = .returned (.bool r.2.2) ∧ Below v.heap.size v w') (heg : Enters rs)
    (hR : ChkIn g rs w) (hg : g < w.heap.size) :
    Calls Try.prog 14 #[.slice (some ⟨g, 0, none⟩) rs.length cap, .agg #[.slice a0 x.past.length c0, .int .i64 x.book.now, .slice a1 x.book.services.length c1, .slice a2 x.book.copies.length c2, .slice a3 x.book.berths.length c3]] w fun e w' => e = .returned (.bool (allR rs)) ∧ Below w.heap.size w w' := by
  have HR := Hid.intro hR
  have HSAY := Hid.intro hsay
  have HEG := Hid.intro heg
  have HX0 : Hid (Blk w.heap.size #[.slice a0 x.past.length c0, .int .i64 x.book.now, .slice a1 x.book.services.length c1, .slice a2 x.book.copies.length c2, .slice a3 x.book.berths.length c3] 39 (w.alloc (.cells #[.slice a0 x.past.length c0, .int .i64 x.book.now, .slice a1 x.book.services.length c1, .slice a2 x.book.copies.length c2, .slice a3 x.book.berths.length c3] 39))) := Blk.alloc _ _ _
  have hb0 : Below w.heap.size w (w.alloc (Obj.cells #[.slice a0 x.past.length c0, .int .i64 x.book.now, .slice a1 x.book.services.length c1, .slice a2 x.book.copies.length c2, .slice a3 x.book.berths.length c3] 39)) := (Below.refl _ w).alloc (Nat.le_refl _) _
  clear hR hsay heg
  go_enter Try.func14, Try.ntmps14
  go_wp2_with fail
  generalize w.alloc (Obj.cells #[.slice a0 x.past.length c0, .int .i64 x.book.now, .slice a1 x.book.services.length c1, .slice a2 x.book.copies.length c2, .slice a3 x.book.berths.length c3] 39) = w0 at *
  go_loopw [9] (fun i wr => ∃ k : Nat, k ≤ rs.length ∧ i = .int .i64 k ∧ Hid (∀ (j : Nat) q, j < k → rs[j]? = some q → q.2.2 = true) ∧ Hid (Blk w.heap.size #[.slice a0 x.past.length c0, .int .i64 x.book.now, .slice a1 x.book.services.length c1, .slice a2 x.book.copies.length c2, .slice a3 x.book.berths.length c3] 39 wr) ∧ Below w.heap.size w wr) (fun i _ => rs.length - (intOf i).toNat)
  case atStart => exact ⟨0, Nat.zero_le _, rfl, fun j q h => by omega, HX0, hb0⟩
  case round =>
    clear HX0 hb0
    obtain ⟨k, hk, rfl, hN, hX, hB⟩ := hrel
    by_cases hlt : k < rs.length
    · obtain ⟨r, hr⟩ : ∃ r, rs[k]? = some r := ⟨rs[k], List.getElem?_eq_getElem hlt⟩
      have cf : wr.cell? ⟨g, k, none⟩ = some (.func (.func r.1) r.2.1 #[]) := (hB.cell (p := ⟨g, k, none⟩) hg).trans (HR.out k r hr)
      have HSK := Hid.intro (HSAY.out k r hr hN.out)
      have heg := HEG.out k r hr
      have HRR := Hid.intro hr
      obtain ⟨fid, bnd, tr⟩ := r
      simp only at cf HSK heg
      clear hr
      go_wp2_with (first | (refine wpList_load_mid rfl 39 _ rfl w.heap.size 0 (by first | rfl | (simp [go_sem]; done)) [.slice a0 x.past.length c0, .int .i64 x.book.now, .slice a1 x.book.services.length c1, .slice a2 x.book.copies.length c2, .slice a3 x.book.berths.length c3] _ hX.out.rangeA Try.underlying39 rfl isz_Swd ?_))
      refine (HSK.out wr hB).mono ?_
      rintro e w5 ⟨rfl, hb5⟩
      have HX5 := Hid.intro (hX.out.below hb5 hX.out.lt)
      have hB5 := hB.trans (hb5.mono hB.size)
      clear hb5 heg HSK cf hB hX
      cases tr with
      | false =>
        have HE := Hid.intro (allR_no HRR.out rfl)
        go_wp2_with fail
        go_ret
        exact ⟨ret_bool HE.out.symm, hB5⟩
      | true =>
        have HN2 : Hid (∀ (j : Nat) q, j < k + 1 → rs[j]? = some q → q.2.2 = true) := fun j q hj hq => by
          by_cases e : j = k
          · subst e
            have := HRR.out.symm.trans hq
            cases this
            rfl
          · exact hN.out j q (by omega) hq
        go_wp2_with fail
        go_roundw
        case rel => exact ⟨k + 1, by omega, by go_num, HN2, HX5, hB5⟩
        case measure => simp [intOf]; omega
    · have hke : k = rs.length := by omega
      subst hke
      have HE := Hid.intro (allR_yes hN.out)
      go_wp2_with fail
      go_ret
      exact ⟨ret_bool HE.out.symm, hB⟩


theorem svT (x : Sbk) : ∃ t : Bool, t = true ↔ SVal x := by
  by_cases h : SVal x
  · exact ⟨true, by simp [h]⟩
  · exact ⟨false, by simp [h]⟩

theorem implSValT_any (x : Sbk) (t : Bool) (ht : t = true ↔ SVal x) (a1 : Option Addr) (c1 : Nat) (a2 : Option Addr) (c2 : Nat) (a3 : Option Addr) (c3 : Nat) (lo : Nat) (w : World) (n1 : SliceC SsvC 13 lo w a1 x.services) (n2 : SliceC ScpC 7 lo w a2 x.copies) (n3 : SliceC SbtC 2 lo w a3 x.berths) (hw : NumOk x) :
    Calls Try.prog 43 #[.agg #[.int .i64 x.now, .slice a1 x.services.length c1, .slice a2 x.copies.length c2, .slice a3 x.berths.length c3]] w fun e w' => e = .returned (.bool t) ∧ Below w.heap.size w w' := by
  refine (implSVal_any x a1 c1 a2 c2 a3 c3 lo w n1 n2 n3 hw).mono ?_
  rintro e w' ⟨u, rfl, hu, hb⟩
  have : u = t := Bool.eq_iff_iff.2 (hu.trans ht.symm)
  subst this
  exact ⟨rfl, hb⟩

theorem enters1 {F : Nat} {t : Bool} (h : ∀ args w, (callFunc F args).run Try.prog w = .ok (.enter F args) w) : Enters [(F, #[], t)] := by
  intro k r hr
  cases k with
  | zero => simp at hr; subst hr; exact h
  | succ k => simp at hr

set_option maxHeartbeats 4000000 in
set_option maxRecDepth 100000 in
theorem eachSbk_any (xs : List Sbk) (g cap lo : Nat) (a : Option Addr) (w : World) (hin : SliceC SbkC 4 lo w a xs) (hsm : xs.length ≤ 1048576) (hnum : ∀ b ∈ xs, NumOk b)
    (hR : w.cell? ⟨g, 0, none⟩ = some (.func (.func 43) #[] #[])) (hg : g < w.heap.size) :
    Calls Try.prog 44 #[.slice a xs.length cap, .slice (some ⟨g, 0, none⟩) 1 1] w fun e w' => ∃ t : Bool, e = .returned (.bool t) ∧ (t = true ↔ ∀ b ∈ xs, SVal b) ∧ Below w.heap.size w w' := by
  have HI := Hid.intro hin
  have HR := Hid.intro hR
  have HNU := Hid.intro hnum
  clear hR hin hnum
  go_enter Try.func44, Try.ntmps44
  go_wp2_with fail
  go_loopw [9] (fun i wr => ∃ k : Nat, k ≤ xs.length ∧ i = .int .i64 k ∧ Hid (∀ (j : Nat) y, j < k → xs[j]? = some y → SVal y) ∧ Below w.heap.size w wr) (fun i _ => xs.length - (intOf i).toNat)
  case atStart => exact ⟨0, Nat.zero_le _, rfl, fun j q h => by omega, Below.refl _ _⟩
  case round =>
    obtain ⟨k, hk, rfl, hN, hB⟩ := hrel
    by_cases hlt : k < xs.length
    · obtain ⟨y, hy⟩ : ∃ y, xs[k]? = some y := ⟨xs[k], List.getElem?_eq_getElem hlt⟩
      obtain ⟨b, o, ea, _, hbl, hc⟩ := (HI.out.below SbkC.holds hB (Nat.le_refl _)).at hy
      subst ea
      obtain ⟨d1, e1, d2, e2, d3, e3, q0, q1, q2, q3, m1, m2, m3⟩ := hc
      have HRY : Hid (wr.rangeAt b (o + k * 4) [.int .i64 y.now, .slice d1 y.services.length e1, .slice d2 y.copies.length e2, .slice d3 y.berths.length e3]) := range_cons q0 (range_cons q1 (range_cons q2 (range_cons q3 (range_nil _ _ _))))
      have M1 := Hid.intro m1
      have M2 := Hid.intro m2
      have M3 := Hid.intro m3
      have HYY := Hid.intro hy
      obtain ⟨t, ht⟩ := svT y
      have HT := Hid.intro ht
      clear hy q0 q1 q2 q3 m1 m2 m3 ht
      have hza : Blk wr.heap.size #[.int .i64 0, .slice none 0 0, .slice none 0 0, .slice none 0 0] 37 (wr.alloc (Obj.cells #[.int .i64 0, .slice none 0 0, .slice none 0 0, .slice none 0 0] 37)) := Blk.alloc _ _ _
      have HTS : Hid ((wr.alloc (Obj.cells #[.int .i64 0, .slice none 0 0, .slice none 0 0, .slice none 0 0] 37)).there wr.heap.size 0 4) := hza.there
      obtain ⟨w5, HW5⟩ : ∃ w5, Hid (w5 = (wr.alloc (Obj.cells #[.int .i64 0, .slice none 0 0, .slice none 0 0, .slice none 0 0] 37)).setCells wr.heap.size 0 [.int .i64 y.now, .slice d1 y.services.length e1, .slice d2 y.copies.length e2, .slice d3 y.berths.length e3]) := ⟨_, rfl⟩
      have HK5 : Hid (Blk wr.heap.size #[.int .i64 y.now, .slice d1 y.services.length e1, .slice d2 y.copies.length e2, .slice d3 y.berths.length e3] 37 w5) := by
        show Blk _ _ _ _
        rw [HW5.out]
        exact hza.setAll #[.int .i64 y.now, .slice d1 y.services.length e1, .slice d2 y.copies.length e2, .slice d3 y.berths.length e3] rfl
      have hbx : Below wr.heap.size wr w5 := by
        rw [HW5.out]
        exact below_setCells (Nat.le_refl _) _ _ _ ((Below.refl _ wr).alloc (Nat.le_refl _) _)
      have HBX := Hid.intro hbx
      have hB5 : Below w.heap.size w w5 := hB.trans (hbx.mono hB.size)
      clear hza hbx hB
      go_upto_region 4 with (first | (refine wpList_load_mid rfl 37 _ rfl b (o + k * 4) (by first | rfl | (simp [go_sem]; done)) [.int .i64 y.now, .slice d1 y.services.length e1, .slice d2 y.copies.length e2, .slice d3 y.berths.length e3] _ HRY.out Try.underlying37 rfl isz_Sbk ?_) | (refine wpList_store_to rfl 37 _ _ rfl wr.heap.size 0 #[.int .i64 y.now, .slice d1 y.services.length e1, .slice d2 y.copies.length e2, .slice d3 y.berths.length e3] rfl rfl HTS.out isz_Sbk (by simp [Value.oneCell']) w5 HW5.out ?_))
      clear HRY HTS HW5
      have M1' := Hid.intro (M1.out.below SsvC.holds HBX.out (Nat.le_refl _))
      have M2' := Hid.intro (M2.out.below ScpC.holds HBX.out (Nat.le_refl _))
      have M3' := Hid.intro (M3.out.below SbtC.holds HBX.out (Nat.le_refl _))
      clear M1 M2 M3 HBX
      generalize wr.heap.size = q at *
      go_wp2_with (refine wpList_load_mid rfl 37 _ rfl q 0 (by first | rfl | (simp [go_sem]; done)) [.int .i64 y.now, .slice d1 y.services.length e1, .slice d2 y.copies.length e2, .slice d3 y.berths.length e3] _ HK5.out.rangeA Try.underlying37 rfl isz_Sbk ?_)
      refine Calls.mono (allSbk_any y d1 e1 d2 e2 d3 e3 [(43, #[], t)] g 1 w5 (by simp) (fun k' r hr _ v hv => by
        cases k' with
        | succ k' => simp at hr
        | zero =>
          simp at hr
          subst hr
          exact implSValT_any y t HT.out d1 e1 d2 e2 d3 e3 lo v (M1'.out.below SsvC.holds hv (Nat.le_refl _)) (M2'.out.below ScpC.holds hv (Nat.le_refl _)) (M3'.out.below SbtC.holds hv (Nat.le_refl _)) (HNU.out y (List.mem_of_getElem? HYY.out))) (enters1 (fun _ _ => by rfl)) (fun k' r hr => by
        cases k' with
        | succ k' => simp at hr
        | zero =>
          simp at hr
          subst hr
          exact (hB5.cell (p := ⟨g, 0, none⟩) hg).trans HR.out) (Nat.lt_of_lt_of_le hg hB5.size)) ?_
      rintro e w6 ⟨rfl, hb6⟩
      have hB6 := hB5.trans (hb6.mono hB5.size)
      clear hb6 HK5 hB5 M1' M2' M3'
      have HAR : Hid (allR [((43 : Nat), (#[] : Array Value), t)] = t) := by show _ = _; simp [allR]
      rw [HAR.out]
      clear HAR
      cases t with
      | false =>
        have HE : Hid (¬ ∀ b ∈ xs, SVal b) := fun h => by have := HT.out.2 (h y (List.mem_of_getElem? HYY.out)); cases this
        go_wp2_with fail
        go_ret
        exact ⟨false, rfl, by simp only [HE.out]; simp, hB6⟩
      | true =>
        have HN2 : Hid (∀ (j : Nat) y, j < k + 1 → xs[j]? = some y → SVal y) := fun j u hj hq => by
          by_cases e : j = k
          · subst e
            have := HYY.out.symm.trans hq
            cases this
            exact HT.out.1 rfl
          · exact hN.out j u (by omega) hq
        go_wp2_with fail
        go_roundw
        case rel => exact ⟨k + 1, by omega, by go_num, HN2, hB6⟩
        case measure => simp [intOf]; omega
    · have hke : k = xs.length := by omega
      subst hke
      have HE : Hid (∀ b ∈ xs, SVal b) := fun b hb => by
        obtain ⟨j, hj⟩ := List.getElem?_of_mem hb
        exact hN.out j b (lt_of_some hj) hj
      go_wp2_with fail
      go_ret
      exact ⟨true, rfl, ⟨fun _ => HE.out, fun _ => rfl⟩, hB⟩

end Go.Proofs.Ytnkggfnblcadoaa
