/-
  Runs held against wants. Made by mkse.py.
-/
import Derived.Test.YtlcjfiikiblcdaaGreatSep
namespace Go.Proofs.YtlcjfiikiblcdaaGreat
open Go.RowKit

set_option maxHeartbeats 4000000 in
set_option maxRecDepth 100000 in
theorem readyAs_any (r : Rn) (v : Wnt) (w : World) :
    Calls Tryz.prog 51 #[.agg #[.string r.want.copy, .int .i64 r.want.version, .string r.want.hold, .int .i64 r.want.pull, .int .i64 r.want.start, .int .i64 r.want.dies, .int .i64 r.want.grace, .int .i64 r.state, .int .i64 r.left, .int .i64 r.falls, .int .i64 r.until_], .agg #[.string v.copy, .int .i64 v.version, .string v.hold, .int .i64 v.pull, .int .i64 v.start, .int .i64 v.dies, .int .i64 v.grace]] w fun e w' => e = .returned (.bool (decide (r.state = 4) && eqW r.want v)) ∧ Below w.heap.size w w' := by
  have hq : ∀ w, (Op.equalIn 10000 72 (.agg #[.string r.want.copy, .int .i64 r.want.version, .string r.want.hold, .int .i64 r.want.pull, .int .i64 r.want.start, .int .i64 r.want.dies, .int .i64 r.want.grace]) (.agg #[.string v.copy, .int .i64 v.version, .string v.hold, .int .i64 v.pull, .int .i64 v.start, .int .i64 v.dies, .int .i64 v.grace])).run Tryz.prog w = .ok (eqW r.want v) w := fun w => equalW r.want v w
  have hgd := guardW
  have HX0 : Blk w.heap.size #[.string r.want.copy, .int .i64 r.want.version, .string r.want.hold, .int .i64 r.want.pull, .int .i64 r.want.start, .int .i64 r.want.dies, .int .i64 r.want.grace, .int .i64 r.state, .int .i64 r.left, .int .i64 r.falls, .int .i64 r.until_] 74 (w.alloc (.cells #[.string r.want.copy, .int .i64 r.want.version, .string r.want.hold, .int .i64 r.want.pull, .int .i64 r.want.start, .int .i64 r.want.dies, .int .i64 r.want.grace, .int .i64 r.state, .int .i64 r.left, .int .i64 r.falls, .int .i64 r.until_] 74)) := Blk.alloc _ _ _
  have HX1 : Hid (Blk w.heap.size #[.string r.want.copy, .int .i64 r.want.version, .string r.want.hold, .int .i64 r.want.pull, .int .i64 r.want.start, .int .i64 r.want.dies, .int .i64 r.want.grace, .int .i64 r.state, .int .i64 r.left, .int .i64 r.falls, .int .i64 r.until_] 74 ((w.alloc (.cells #[.string r.want.copy, .int .i64 r.want.version, .string r.want.hold, .int .i64 r.want.pull, .int .i64 r.want.start, .int .i64 r.want.dies, .int .i64 r.want.grace, .int .i64 r.state, .int .i64 r.left, .int .i64 r.falls, .int .i64 r.until_] 74)).alloc (.cells #[.string v.copy, .int .i64 v.version, .string v.hold, .int .i64 v.pull, .int .i64 v.start, .int .i64 v.dies, .int .i64 v.grace] 72))) := HX0.below ((Below.refl _ _).alloc (Nat.le_refl _) _) HX0.lt
  have HY1 : Hid (Blk (w.heap.size + 1) #[.string v.copy, .int .i64 v.version, .string v.hold, .int .i64 v.pull, .int .i64 v.start, .int .i64 v.dies, .int .i64 v.grace] 72 ((w.alloc (.cells #[.string r.want.copy, .int .i64 r.want.version, .string r.want.hold, .int .i64 r.want.pull, .int .i64 r.want.start, .int .i64 r.want.dies, .int .i64 r.want.grace, .int .i64 r.state, .int .i64 r.left, .int .i64 r.falls, .int .i64 r.until_] 74)).alloc (.cells #[.string v.copy, .int .i64 v.version, .string v.hold, .int .i64 v.pull, .int .i64 v.start, .int .i64 v.dies, .int .i64 v.grace] 72))) := Hid.intro (by
    have := Blk.alloc (w.alloc (.cells #[.string r.want.copy, .int .i64 r.want.version, .string r.want.hold, .int .i64 r.want.pull, .int .i64 r.want.start, .int .i64 r.want.dies, .int .i64 r.want.grace, .int .i64 r.state, .int .i64 r.left, .int .i64 r.falls, .int .i64 r.until_] 74)) #[.string v.copy, .int .i64 v.version, .string v.hold, .int .i64 v.pull, .int .i64 v.start, .int .i64 v.dies, .int .i64 v.grace] 72
    simpa using this)
  have hB1 : Below w.heap.size w ((w.alloc (.cells #[.string r.want.copy, .int .i64 r.want.version, .string r.want.hold, .int .i64 r.want.pull, .int .i64 r.want.start, .int .i64 r.want.dies, .int .i64 r.want.grace, .int .i64 r.state, .int .i64 r.left, .int .i64 r.falls, .int .i64 r.until_] 74)).alloc (.cells #[.string v.copy, .int .i64 v.version, .string v.hold, .int .i64 v.pull, .int .i64 v.start, .int .i64 v.dies, .int .i64 v.grace] 72)) := by go_grown
  clear HX0
  go_enter Tryz.func51, Tryz.ntmps51
  go_upto_region 1 with fail
  generalize (w.alloc (.cells #[.string r.want.copy, .int .i64 r.want.version, .string r.want.hold, .int .i64 r.want.pull, .int .i64 r.want.start, .int .i64 r.want.dies, .int .i64 r.want.grace, .int .i64 r.state, .int .i64 r.left, .int .i64 r.falls, .int .i64 r.until_] 74)).alloc (.cells #[.string v.copy, .int .i64 v.version, .string v.hold, .int .i64 v.pull, .int .i64 v.start, .int .i64 v.dies, .int .i64 v.grace] 72) = w1 at *
  have a0 : w1.cell? ⟨w.heap.size, 0, none⟩ = some (.string r.want.copy) := HX1.out.cell rfl
  have a1 : w1.cell? ⟨w.heap.size, 1, none⟩ = some (.int .i64 r.want.version) := HX1.out.cell rfl
  have a2 : w1.cell? ⟨w.heap.size, 2, none⟩ = some (.string r.want.hold) := HX1.out.cell rfl
  have a3 : w1.cell? ⟨w.heap.size, 3, none⟩ = some (.int .i64 r.want.pull) := HX1.out.cell rfl
  have a4 : w1.cell? ⟨w.heap.size, 4, none⟩ = some (.int .i64 r.want.start) := HX1.out.cell rfl
  have a5 : w1.cell? ⟨w.heap.size, 5, none⟩ = some (.int .i64 r.want.dies) := HX1.out.cell rfl
  have a6 : w1.cell? ⟨w.heap.size, 6, none⟩ = some (.int .i64 r.want.grace) := HX1.out.cell rfl
  have a7 : w1.cell? ⟨w.heap.size, 7, none⟩ = some (.int .i64 r.state) := HX1.out.cell rfl
  have a8 : w1.cell? ⟨w.heap.size, 8, none⟩ = some (.int .i64 r.left) := HX1.out.cell rfl
  have a9 : w1.cell? ⟨w.heap.size, 9, none⟩ = some (.int .i64 r.falls) := HX1.out.cell rfl
  have a10 : w1.cell? ⟨w.heap.size, 10, none⟩ = some (.int .i64 r.until_) := HX1.out.cell rfl
  have b0 : w1.cell? ⟨w.heap.size + 1, 0, none⟩ = some (.string v.copy) := HY1.out.cell rfl
  have b1 : w1.cell? ⟨w.heap.size + 1, 1, none⟩ = some (.int .i64 v.version) := HY1.out.cell rfl
  have b2 : w1.cell? ⟨w.heap.size + 1, 2, none⟩ = some (.string v.hold) := HY1.out.cell rfl
  have b3 : w1.cell? ⟨w.heap.size + 1, 3, none⟩ = some (.int .i64 v.pull) := HY1.out.cell rfl
  have b4 : w1.cell? ⟨w.heap.size + 1, 4, none⟩ = some (.int .i64 v.start) := HY1.out.cell rfl
  have b5 : w1.cell? ⟨w.heap.size + 1, 5, none⟩ = some (.int .i64 v.dies) := HY1.out.cell rfl
  have b6 : w1.cell? ⟨w.heap.size + 1, 6, none⟩ = some (.int .i64 v.grace) := HY1.out.cell rfl
  clear HX1 HY1
  by_cases hs : r.state = 4
  · have HE : Hid ((decide (r.state = 4) && eqW r.want v) = eqW r.want v) := by show _ = _; rw [decide_eq_true hs, Bool.true_and]
    rw [hs] at a7
    go_wp2_with fail
    go_ret
    exact ⟨ret_bool HE.out.symm, hB1⟩
  · have HE : Hid ((decide (r.state = 4) && eqW r.want v) = false) := by show _ = _; rw [decide_eq_false hs, Bool.false_and]
    go_wp2_with fail
    go_ret
    exact ⟨ret_bool HE.out.symm, hB1⟩

set_option maxHeartbeats 8000000 in
set_option maxRecDepth 100000 in
theorem eqFunc_any (rs : List Rn) (ws : List Wnt) (a : Option Addr) (ca : Nat) (d : Option Addr) (cd lo lo' : Nat) (w : World) (hr : SliceC RnC 11 lo w a rs) (hw : SliceC WntC 7 lo' w d ws) (hl : rs.length ≤ 1048576) :
    Calls Tryz.prog 50 #[.slice a rs.length ca, .slice d ws.length cd, .func (.func 51) #[] #[]] w fun e w' => e = .returned (.bool (rdL rs ws)) ∧ Below w.heap.size w w' := by
  have HR := Hid.intro hr
  have HV := Hid.intro hw
  have heg : ∀ args w, (callFunc 51 args).run Tryz.prog w = .ok (.enter 51 args) w := enters_of Tryz.func51 (by kernel_rfl) rfl
  clear hr hw
  go_enter Tryz.func50, Tryz.ntmps50
  by_cases hne : rs.length = ws.length
  case neg =>
    have HE := Hid.intro (rd_len hne)
    have hne' : ¬ (rs.length : Int) = (ws.length : Int) := by omega
    clear hne
    go_wp2_with fail
    go_ret
    exact ⟨ret_bool HE.out.symm, Below.refl _ _⟩
  have HL := Hid.intro hne
  have hne' : (rs.length : Int) = (ws.length : Int) := by omega
  clear hne
  go_wp2_with fail
  clear hne'
  go_loopw [17] (fun i wr => ∃ k : Nat, k ≤ rs.length ∧ i = .int .i64 k ∧ Hid (∀ (j : Nat) r v, j < k → rs[j]? = some r → ws[j]? = some v → (decide (r.state = 4) && eqW r.want v) = true) ∧ Below w.heap.size w wr) (fun i _ => rs.length - (intOf i).toNat)
  case atStart => exact ⟨0, Nat.zero_le _, rfl, fun j r v h => by omega, Below.refl _ _⟩
  case round =>
    obtain ⟨k, hk, rfl, hN, hB⟩ := hrel
    by_cases hlt : k < rs.length
    case neg =>
      have hke : k = rs.length := by omega
      subst hke
      have HE := Hid.intro (rd_yes HL.out hN.out)
      have hz : ¬ (rs.length : Int) < (ws.length : Int) := by have := HL.out; omega
      go_wp2_with fail
      go_ret
      exact ⟨ret_bool HE.out.symm, hB⟩
    obtain ⟨r, hr⟩ : ∃ r, rs[k]? = some r := ⟨rs[k], List.getElem?_eq_getElem hlt⟩
    obtain ⟨v, hv⟩ : ∃ v, ws[k]? = some v := ⟨ws[k]'(by have := HL.out; omega), List.getElem?_eq_getElem _⟩
    obtain ⟨b, o, e1, _, hbl, hc⟩ := (HR.out.below RnC.holds hB (Nat.le_refl _)).at hr
    subst e1
    obtain ⟨bv, ov, e2, _, hbv, hcv⟩ := (HV.out.below WntC.holds hB (Nat.le_refl _)).at hv
    subst e2
    have HRR := Hid.intro (range_of_cells hc)
    have hb4 : Below wr.heap.size wr (wr.alloc (Obj.cells #[.string r.want.copy, .int .i64 r.want.version, .string r.want.hold, .int .i64 r.want.pull, .int .i64 r.want.start, .int .i64 r.want.dies, .int .i64 r.want.grace, .int .i64 r.state, .int .i64 r.left, .int .i64 r.falls, .int .i64 r.until_] 74)) := (Below.refl _ _).alloc (Nat.le_refl _) _
    have HVV : Hid (World.rangeAt (wr.alloc (Obj.cells #[.string r.want.copy, .int .i64 r.want.version, .string r.want.hold, .int .i64 r.want.pull, .int .i64 r.want.start, .int .i64 r.want.dies, .int .i64 r.want.grace, .int .i64 r.state, .int .i64 r.left, .int .i64 r.falls, .int .i64 r.until_] 74)) bv (ov + k * 7) [.string v.copy, .int .i64 v.version, .string v.hold, .int .i64 v.pull, .int .i64 v.start, .int .i64 v.dies, .int .i64 v.grace]) := range_belowW (wntRange hcv) hb4 hbv
    have HRX := Hid.intro hr
    have HVX := Hid.intro hv
    have hlv : (k : Int) < (ws.length : Int) := by have := HL.out; omega
    clear hr hv hc hcv hbl hbv
    have HG1 : Hid (Blk wr.heap.size #[.string r.want.copy, .int .i64 r.want.version, .string r.want.hold, .int .i64 r.want.pull, .int .i64 r.want.start, .int .i64 r.want.dies, .int .i64 r.want.grace, .int .i64 r.state, .int .i64 r.left, .int .i64 r.falls, .int .i64 r.until_] 74 (wr.alloc (Obj.cells #[.string r.want.copy, .int .i64 r.want.version, .string r.want.hold, .int .i64 r.want.pull, .int .i64 r.want.start, .int .i64 r.want.dies, .int .i64 r.want.grace, .int .i64 r.state, .int .i64 r.left, .int .i64 r.falls, .int .i64 r.until_] 74))) := Blk.alloc _ _ _
    have hB4 := hB.trans (hb4.mono hB.size)
    clear hb4 hB
    go_upto_region 6 with (refine wpList_load_mid rfl 74 _ rfl b (o + k * 11) (by first | rfl | (simp [go_sem]; done)) [.string r.want.copy, .int .i64 r.want.version, .string r.want.hold, .int .i64 r.want.pull, .int .i64 r.want.start, .int .i64 r.want.dies, .int .i64 r.want.grace, .int .i64 r.state, .int .i64 r.left, .int .i64 r.falls, .int .i64 r.until_] _ HRR.out Tryz.underlying74 rfl isz_Rn ?_)
    clear HRR
    generalize wr.alloc (Obj.cells #[.string r.want.copy, .int .i64 r.want.version, .string r.want.hold, .int .i64 r.want.pull, .int .i64 r.want.start, .int .i64 r.want.dies, .int .i64 r.want.grace, .int .i64 r.state, .int .i64 r.left, .int .i64 r.falls, .int .i64 r.until_] 74) = w4 at *
    generalize wr.heap.size = g1 at *
    have hb5 : Below w4.heap.size w4 (w4.alloc (Obj.cells #[.string v.copy, .int .i64 v.version, .string v.hold, .int .i64 v.pull, .int .i64 v.start, .int .i64 v.dies, .int .i64 v.grace] 72)) := (Below.refl _ _).alloc (Nat.le_refl _) _
    have HG2 : Hid (Blk w4.heap.size #[.string v.copy, .int .i64 v.version, .string v.hold, .int .i64 v.pull, .int .i64 v.start, .int .i64 v.dies, .int .i64 v.grace] 72 (w4.alloc (Obj.cells #[.string v.copy, .int .i64 v.version, .string v.hold, .int .i64 v.pull, .int .i64 v.start, .int .i64 v.dies, .int .i64 v.grace] 72))) := Blk.alloc _ _ _
    replace HG1 := Hid.intro (HG1.out.below hb5 HG1.out.lt)
    have hB5 := hB4.trans (hb5.mono hB4.size)
    clear hb5 hB4
    go_upto_region 7 with (refine wpList_load_mid rfl 72 _ rfl bv (ov + k * 7) (by first | rfl | (simp [go_sem]; done)) [.string v.copy, .int .i64 v.version, .string v.hold, .int .i64 v.pull, .int .i64 v.start, .int .i64 v.dies, .int .i64 v.grace] _ HVV.out Tryz.underlying72 rfl isz_Wnt ?_)
    clear HVV
    generalize w4.alloc (Obj.cells #[.string v.copy, .int .i64 v.version, .string v.hold, .int .i64 v.pull, .int .i64 v.start, .int .i64 v.dies, .int .i64 v.grace] 72) = w5 at *
    generalize w4.heap.size = g2 at *
    go_wp2_with (first | (refine wpList_load_mid rfl 74 _ rfl g1 0 (by first | rfl | (simp [go_sem]; done)) [.string r.want.copy, .int .i64 r.want.version, .string r.want.hold, .int .i64 r.want.pull, .int .i64 r.want.start, .int .i64 r.want.dies, .int .i64 r.want.grace, .int .i64 r.state, .int .i64 r.left, .int .i64 r.falls, .int .i64 r.until_] _ HG1.out.rangeA Tryz.underlying74 rfl isz_Rn ?_) | (refine wpList_load_mid rfl 72 _ rfl g2 0 (by first | rfl | (simp [go_sem]; done)) [.string v.copy, .int .i64 v.version, .string v.hold, .int .i64 v.pull, .int .i64 v.start, .int .i64 v.dies, .int .i64 v.grace] _ HG2.out.rangeA Tryz.underlying72 rfl isz_Wnt ?_))
    refine (readyAs_any r v _).mono ?_
    rintro e w6 ⟨rfl, hb6⟩
    have hB6 := hB5.trans (hb6.mono hB5.size)
    clear hb6 hB5 HG1 HG2
    cases hq : (decide (r.state = 4) && eqW r.want v) with
    | false =>
      have HE := Hid.intro (rd_no HRX.out HVX.out hq)
      clear hq
      go_wp2_with fail
      go_ret
      exact ⟨ret_bool HE.out.symm, hB6⟩
    | true =>
      have HN2 : Hid (∀ (j : Nat) z u, j < k + 1 → rs[j]? = some z → ws[j]? = some u → (decide (z.state = 4) && eqW z.want u) = true) := fun j z u hj hz hu => by
        by_cases e : j = k
        · subst e
          have h1 := HRX.out.symm.trans hz
          have h2 := HVX.out.symm.trans hu
          cases h1
          cases h2
          exact hq
        · exact hN.out j z u (by omega) hz hu
      clear hq
      go_wp2_with fail
      go_roundw
      case rel => exact ⟨k + 1, by omega, by go_num, HN2, hB6⟩
      case measure => simp [intOf]; omega

set_option maxHeartbeats 8000000 in
set_option maxRecDepth 100000 in
theorem same15_any (xs ys : List Wnt) (a : Option Addr) (ca : Nat) (d : Option Addr) (cd lo lo' : Nat) (w : World) (hx : SliceC WntC 7 lo w a xs) (hy : SliceC WntC 7 lo' w d ys) (hl : xs.length ≤ 1048576) :
    Calls Tryz.prog 47 #[.slice a xs.length ca, .slice d ys.length cd] w fun e w' => e = .returned (.bool (sameW xs ys)) ∧ Below w.heap.size w w' := by
  have HX := Hid.intro hx
  have HY := Hid.intro hy
  clear hx hy
  go_enter Tryz.func47, Tryz.ntmps47
  by_cases hne : xs.length = ys.length
  case neg =>
    have HE := Hid.intro (same_len hne)
    have hne' : ¬ (xs.length : Int) = (ys.length : Int) := by omega
    clear hne
    go_wp2_with fail
    go_ret
    exact ⟨ret_bool HE.out.symm, Below.refl _ _⟩
  have HL := Hid.intro hne
  have hne' : (xs.length : Int) = (ys.length : Int) := by omega
  clear hne
  go_wp2_with fail
  clear hne'
  go_loopw [5] (fun i wr => ∃ k : Nat, k ≤ xs.length ∧ i = .int .i64 k ∧ Hid (∀ (j : Nat) x y, j < k → xs[j]? = some x → ys[j]? = some y → eqW x y = true) ∧ Below w.heap.size w wr) (fun i _ => xs.length - (intOf i).toNat)
  case atStart => exact ⟨0, Nat.zero_le _, rfl, fun j r v h => by omega, Below.refl _ _⟩
  case round =>
    obtain ⟨k, hk, rfl, hN, hB⟩ := hrel
    by_cases hlt : k < xs.length
    case neg =>
      have hke : k = xs.length := by omega
      subst hke
      have HE := Hid.intro (same_yes HL.out (fun j x y hx hy => hN.out j x y (lt_of_some hx) hx hy))
      have hz : ¬ (xs.length : Int) < (ys.length : Int) := by have := HL.out; omega
      go_wp2_with fail
      go_ret
      exact ⟨ret_bool HE.out.symm, hB⟩
    obtain ⟨x, hx⟩ : ∃ x, xs[k]? = some x := ⟨xs[k], List.getElem?_eq_getElem hlt⟩
    obtain ⟨y, hy⟩ : ∃ y, ys[k]? = some y := ⟨ys[k]'(by have := HL.out; omega), List.getElem?_eq_getElem _⟩
    obtain ⟨b, o, e1, _, hbl, hc⟩ := (HX.out.below WntC.holds hB (Nat.le_refl _)).at hx
    subst e1
    obtain ⟨bv, ov, e2, _, hbv, hcv⟩ := (HY.out.below WntC.holds hB (Nat.le_refl _)).at hy
    subst e2
    have HXR : Hid (wr.drew.rangeAt b (o + k * 7) [.string x.copy, .int .i64 x.version, .string x.hold, .int .i64 x.pull, .int .i64 x.start, .int .i64 x.dies, .int .i64 x.grace]) := wntRange (w := wr) (lo := lo) hc
    have HYR : Hid (wr.drew.rangeAt bv (ov + k * 7) [.string y.copy, .int .i64 y.version, .string y.hold, .int .i64 y.pull, .int .i64 y.start, .int .i64 y.dies, .int .i64 y.grace]) := wntRange (w := wr) (lo := lo') hcv
    have HXX := Hid.intro hx
    have HYY := Hid.intro hy
    have i0 : (0 : Int) ≤ (k : Int) := by omega
    have i1 : (k : Int) < (xs.length : Int) := by omega
    have i2 : (k : Int) < (ys.length : Int) := by have := HL.out; omega
    clear hx hy hc hcv hbl hbv
    generalize hE : eqW x y = E
    have HQ := Hid.intro hE
    have hq : ∀ w, (Op.equalIn 10000 72 (.agg #[.string x.copy, .int .i64 x.version, .string x.hold, .int .i64 x.pull, .int .i64 x.start, .int .i64 x.dies, .int .i64 x.grace]) (.agg #[.string y.copy, .int .i64 y.version, .string y.hold, .int .i64 y.pull, .int .i64 y.start, .int .i64 y.dies, .int .i64 y.grace])).run Tryz.prog w = .ok E w := fun w => by rw [equalW, hE]
    have hgd := guardW
    clear hE
    go_wp2_with fail
    refine wp_region_held_drew (S := fun wy => wy.rangeAt b (o + k * 7) [.string x.copy, .int .i64 x.version, .string x.hold, .int .i64 x.pull, .int .i64 x.start, .int .i64 x.dies, .int .i64 x.grace] ∧ wy.rangeAt bv (ov + k * 7) [.string y.copy, .int .i64 y.version, .string y.hold, .int .i64 y.pull, .int .i64 y.start, .int .i64 y.dies, .int .i64 y.grace]) (by kernel_rfl) ⟨HXR.out, HYR.out⟩ (fun hS => ?_)
    have hBd : Below w.heap.size w wr.drew := hB.drew
    clear hB HXR HYR
    generalize wr.drew = wd at *
    refine wpAnyH_take (i := 0) (oi := { dst := some 17, op := _, type := _, pos := _, after := _, guard := none }) (v := .slice (some ⟨b, o, none⟩) xs.length ca) rfl (by kernel_rfl) (by kernel_rfl) (by kernel_rfl) (fun _ _ _ h => h) (Or.inl ⟨by rfl, ?_⟩) hS ?_
    · intro wy hy
      clear hy
      go_simp
    simp only [Act.put, List.setIfInBounds_toArray, List.set_cons_zero, List.set_cons_succ]
    refine wpAnyH_take (i := 1) (oi := { dst := some 18, op := _, type := _, pos := _, after := _, guard := none }) (v := .int .i64 (k : Int)) rfl (by kernel_rfl) (by kernel_rfl) (by kernel_rfl) (fun _ _ _ h => h) (Or.inl ⟨by rfl, ?_⟩) hS ?_
    · intro wy hy
      clear hy
      go_simp
    simp only [Act.put, List.setIfInBounds_toArray, List.set_cons_zero, List.set_cons_succ]
    refine wpAnyH_take (i := 2) (oi := { dst := some 19, op := _, type := _, pos := _, after := _, guard := none }) (v := .pointer (some ⟨b, o + k * 7, none⟩)) rfl (by kernel_rfl) (by kernel_rfl) (by kernel_rfl) (fun _ _ _ h => h) (Or.inl ⟨by rfl, ?_⟩) hS ?_
    · intro wy hy
      clear hy
      first | (go_simp; done) | (go_simp; intro hh; omega) | (go_simp; omega)
    simp only [Act.put, List.setIfInBounds_toArray, List.set_cons_zero, List.set_cons_succ]
    refine wpAnyH_take (i := 3) (oi := { dst := some 20, op := _, type := _, pos := _, after := _, guard := none }) (v := .agg #[.string x.copy, .int .i64 x.version, .string x.hold, .int .i64 x.pull, .int .i64 x.start, .int .i64 x.dies, .int .i64 x.grace]) rfl (by kernel_rfl) (by kernel_rfl) (by kernel_rfl) (fun _ _ _ h => h) (yieldsIf_load_mid (by rfl) _ _ rfl b (o + k * 7) rfl [.string x.copy, .int .i64 x.version, .string x.hold, .int .i64 x.pull, .int .i64 x.start, .int .i64 x.dies, .int .i64 x.grace] _ (fun _ h => h.1) Tryz.underlying72 rfl isz_Wnt) hS ?_
    simp only [Act.put, List.setIfInBounds_toArray, List.set_cons_zero, List.set_cons_succ]
    refine wpAnyH_take (i := 4) (oi := { dst := some 21, op := _, type := _, pos := _, after := _, guard := none }) (v := .slice (some ⟨bv, ov, none⟩) ys.length cd) rfl (by kernel_rfl) (by kernel_rfl) (by kernel_rfl) (fun _ _ _ h => h) (Or.inl ⟨by rfl, ?_⟩) hS ?_
    · intro wy hy
      clear hy
      go_simp
    simp only [Act.put, List.setIfInBounds_toArray, List.set_cons_zero, List.set_cons_succ]
    refine wpAnyH_take (i := 5) (oi := { dst := some 22, op := _, type := _, pos := _, after := _, guard := none }) (v := .int .i64 (k : Int)) rfl (by kernel_rfl) (by kernel_rfl) (by kernel_rfl) (fun _ _ _ h => h) (Or.inl ⟨by rfl, ?_⟩) hS ?_
    · intro wy hy
      clear hy
      go_simp
    simp only [Act.put, List.setIfInBounds_toArray, List.set_cons_zero, List.set_cons_succ]
    refine wpAnyH_take (i := 6) (oi := { dst := some 23, op := _, type := _, pos := _, after := _, guard := none }) (v := .pointer (some ⟨bv, ov + k * 7, none⟩)) rfl (by kernel_rfl) (by kernel_rfl) (by kernel_rfl) (fun _ _ _ h => h) (Or.inl ⟨by rfl, ?_⟩) hS ?_
    · intro wy hy
      clear hy
      first | (go_simp; done) | (go_simp; intro hh; omega) | (go_simp; omega)
    simp only [Act.put, List.setIfInBounds_toArray, List.set_cons_zero, List.set_cons_succ]
    refine wpAnyH_take (i := 7) (oi := { dst := some 24, op := _, type := _, pos := _, after := _, guard := none }) (v := .agg #[.string y.copy, .int .i64 y.version, .string y.hold, .int .i64 y.pull, .int .i64 y.start, .int .i64 y.dies, .int .i64 y.grace]) rfl (by kernel_rfl) (by kernel_rfl) (by kernel_rfl) (fun _ _ _ h => h) (yieldsIf_load_mid (by rfl) _ _ rfl bv (ov + k * 7) rfl [.string y.copy, .int .i64 y.version, .string y.hold, .int .i64 y.pull, .int .i64 y.start, .int .i64 y.dies, .int .i64 y.grace] _ (fun _ h => h.2) Tryz.underlying72 rfl isz_Wnt) hS ?_
    simp only [Act.put, List.setIfInBounds_toArray, List.set_cons_zero, List.set_cons_succ]
    refine wpAnyH_take (i := 8) (oi := { dst := some 25, op := _, type := _, pos := _, after := _, guard := none }) (v := .bool (!E)) rfl (by kernel_rfl) (by kernel_rfl) (by kernel_rfl) (fun _ _ _ h => h) (Or.inl ⟨by rfl, ?_⟩) hS ?_
    · intro wy hy
      clear hy
      go_simp
    simp only [Act.put, List.setIfInBounds_toArray, List.set_cons_zero, List.set_cons_succ]
    refine wpAnyH_done (by kernel_rfl) ?_ _
    clear hS
    clear hq hgd
    cases E with
    | false =>
      have HE := Hid.intro (same_no HXX.out HYY.out HQ.out)
      go_wp2_with fail
      go_ret
      exact ⟨ret_bool HE.out.symm, hBd⟩
    | true =>
      have HN2 : Hid (∀ (j : Nat) z u, j < k + 1 → xs[j]? = some z → ys[j]? = some u → eqW z u = true) := fun j z u hj hz hu => by
        by_cases e : j = k
        · subst e
          have h1 := HXX.out.symm.trans hz
          have h2 := HYY.out.symm.trans hu
          cases h1
          cases h2
          exact HQ.out
        · exact hN.out j z u (by omega) hz hu
      go_wp2_with fail
      go_roundw
      case rel => exact ⟨k + 1, by omega, by go_num, HN2, hBd⟩
      case measure => simp [intOf]; omega

end Go.Proofs.YtlcjfiikiblcdaaGreat
