import Derived.Test.YtnggdpjfmpjlhaaGreatSi3
import Derived.Shelf.Abstract
namespace Go.Proofs.YtnggdpjfmpjlhaaGreat
open Go.RowKit

abbrev Chk := Nat × Array Value × Bool

def allR (rs : List Chk) : Bool := rs.all (·.2.2)

theorem allR_no {rs : List Chk} {k : Nat} {r : Chk} (h : rs[k]? = some r) (hr : r.2.2 = false) : allR rs = false := by
 unfold allR
 rw [List.all_eq_false]
 exact ⟨r, List.mem_of_getElem? h, by simp [hr]⟩

theorem allR_yes {rs : List Chk} (h : ∀ (j : Nat) q, j < rs.length → rs[j]? = some q → q.2.2 = true) : allR rs = true := by
 unfold allR
 rw [List.all_eq_true]
 intro r hr
 obtain ⟨j, hj, e⟩ := List.getElem_of_mem hr
 exact h j r hj (by rw [List.getElem?_eq_getElem hj, e])

def ChkIn (g : Nat) (rs : List Chk) (w : World) : Prop := ∀ (k : Nat) r, rs[k]? = some r → w.cell? ⟨g, k, none⟩ = some (.func (.func r.1) r.2.1 #[])

theorem ChkIn.below {g : Nat} {rs : List Chk} {w w' : World} {B : Nat} (h : ChkIn g rs w) (hb : Below B w w') (hB : g < B) : ChkIn g rs w' := fun k r hr => (hb.cell (p := ⟨g, k, none⟩) hB).trans (h k r hr)

def Enters (rs : List Chk) : Prop := ∀ (k : Nat) r, rs[k]? = some r → ∀ args w, (callFunc r.1 args).run Tryz.prog w = .ok (.enter r.1 args) w

set_option maxHeartbeats 2000000 in
set_option maxRecDepth 100000 in
theorem allF_any (p : Nat) (rs : List Chk) (g cap : Nat) (w : World) (hrl : rs.length ≤ 8)
  (hsay : ∀ (k : Nat) r, rs[k]? = some r → (∀ (j : Nat) q, j < k → rs[j]? = some q → q.2.2 = true) → ∀ v, Below w.heap.size w v → Calls Tryz.prog r.1 (r.2.1 ++ #[.pointer (some ⟨p, 0, none⟩)]) v fun e w' => e = .returned (.bool r.2.2) ∧ Below v.heap.size v w') (heg : Enters rs)
  (hR : ChkIn g rs w) (hg : g < w.heap.size) :
  Calls Tryz.prog 55 #[.slice (some ⟨g, 0, none⟩) rs.length cap, .pointer (some ⟨p, 0, none⟩)] w fun e w' => e = .returned (.bool (allR rs)) ∧ Below w.heap.size w w' := by
 have HR := Hid.intro hR
 have HSAY := Hid.intro hsay
 have HEG := Hid.intro heg
 clear hR hsay heg
 go_enter Tryz.func55, Tryz.ntmps55
 go_wp2_with fail
 go_loopw [9] (fun i wr => ∃ k : Nat, k ≤ rs.length ∧ i = .int .i64 k ∧ Hid (∀ (j : Nat) q, j < k → rs[j]? = some q → q.2.2 = true) ∧ Below w.heap.size w wr) (fun i _ => rs.length - (intOf i).toNat)
 case atStart => exact ⟨0, Nat.zero_le _, rfl, fun j q h => by omega, Below.refl _ _⟩
 case round =>
  obtain ⟨k, hk, rfl, hN, hB⟩ := hrel
  by_cases hlt : k < rs.length
  ·obtain ⟨r, hr⟩ : ∃ r, rs[k]? = some r := ⟨rs[k], List.getElem?_eq_getElem hlt⟩
   have c0 : wr.cell? ⟨g, k, none⟩ = some (.func (.func r.1) r.2.1 #[]) := (hB.cell (p := ⟨g, k, none⟩) hg).trans (HR.out k r hr)
   have HSK := Hid.intro (HSAY.out k r hr hN.out)
   have heg := HEG.out k r hr
   have HRR := Hid.intro hr
   obtain ⟨fid, bnd, tr⟩ := r
   simp only at c0 HSK heg
   clear hr
   go_wp2_with fail
   refine (HSK.out wr hB).mono ?_
   rintro e w5 ⟨rfl, hb5⟩
   have hB5 := hB.trans (hb5.mono hB.size)
   clear hb5 heg HSK c0 hB
   cases tr with
   | false =>
    have HE := Hid.intro (allR_no HRR.out rfl)
    go_wp2_with fail
    go_ret
    exact ⟨ret_bool HE.out.symm, hB5⟩
   | true =>
    have HN2 : Hid (∀ (j : Nat) q, j < k + 1 → rs[j]? = some q → q.2.2 = true) := fun j q hj hq => by
     by_cases e : j = k
     ·subst e
      have := HRR.out.symm.trans hq
      cases this
      rfl
     ·exact hN.out j q (by omega) hq
    go_wp2_with fail
    go_roundw
    case rel => exact ⟨k + 1, by omega, by go_num, HN2, hB5⟩
    case measure => simp [intOf]; omega
  ·have hke : k = rs.length := by omega
   subst hke
   have HE := Hid.intro (allR_yes hN.out)
   go_wp2_with fail
   go_ret
   exact ⟨ret_bool HE.out.symm, hB⟩

set_option maxHeartbeats 2000000 in
set_option maxRecDepth 100000 in
theorem allSsv_any (x : Ssv) (rs : List Chk) (g cap : Nat) (w : World) (hrl : rs.length ≤ 8)
  (hsay : ∀ (k : Nat) r, rs[k]? = some r → (∀ (j : Nat) q, j < k → rs[j]? = some q → q.2.2 = true) → ∀ v, Below w.heap.size w v → Calls Tryz.prog r.1 (r.2.1 ++ #[.agg #[.string x.name, .int .i64 x.version, .bool x.gone, .int .i64 x.image, .int .i64 x.want, .int .i64 x.down, .int .i64 x.over, .int .i64 x.next, .int .i64 x.per, .int .i64 x.least, .int .i64 x.most, .int .i64 x.load, .int .i64 x.cool]]) v fun e w' => e = .returned (.bool r.2.2) ∧ Below v.heap.size v w') (heg : Enters rs)
  (hR : ChkIn g rs w) (hg : g < w.heap.size) :
  Calls Tryz.prog 126 #[.slice (some ⟨g, 0, none⟩) rs.length cap, .agg #[.string x.name, .int .i64 x.version, .bool x.gone, .int .i64 x.image, .int .i64 x.want, .int .i64 x.down, .int .i64 x.over, .int .i64 x.next, .int .i64 x.per, .int .i64 x.least, .int .i64 x.most, .int .i64 x.load, .int .i64 x.cool]] w fun e w' => e = .returned (.bool (allR rs)) ∧ Below w.heap.size w w' := by
 have HR := Hid.intro hR
 have HSAY := Hid.intro hsay
 have HEG := Hid.intro heg
 have HX0 : Hid (Blk w.heap.size #[.string x.name, .int .i64 x.version, .bool x.gone, .int .i64 x.image, .int .i64 x.want, .int .i64 x.down, .int .i64 x.over, .int .i64 x.next, .int .i64 x.per, .int .i64 x.least, .int .i64 x.most, .int .i64 x.load, .int .i64 x.cool] 50 (w.alloc (.cells #[.string x.name, .int .i64 x.version, .bool x.gone, .int .i64 x.image, .int .i64 x.want, .int .i64 x.down, .int .i64 x.over, .int .i64 x.next, .int .i64 x.per, .int .i64 x.least, .int .i64 x.most, .int .i64 x.load, .int .i64 x.cool] 50))) := Blk.alloc _ _ _
 have hb0 : Below w.heap.size w (w.alloc (Obj.cells #[.string x.name, .int .i64 x.version, .bool x.gone, .int .i64 x.image, .int .i64 x.want, .int .i64 x.down, .int .i64 x.over, .int .i64 x.next, .int .i64 x.per, .int .i64 x.least, .int .i64 x.most, .int .i64 x.load, .int .i64 x.cool] 50)) := (Below.refl _ w).alloc (Nat.le_refl _) _
 clear hR hsay heg
 go_enter Tryz.func126, Tryz.ntmps126
 go_wp2_with fail
 generalize w.alloc (Obj.cells #[.string x.name, .int .i64 x.version, .bool x.gone, .int .i64 x.image, .int .i64 x.want, .int .i64 x.down, .int .i64 x.over, .int .i64 x.next, .int .i64 x.per, .int .i64 x.least, .int .i64 x.most, .int .i64 x.load, .int .i64 x.cool] 50) = w0 at *
 go_loopw [9] (fun i wr => ∃ k : Nat, k ≤ rs.length ∧ i = .int .i64 k ∧ Hid (∀ (j : Nat) q, j < k → rs[j]? = some q → q.2.2 = true) ∧ Hid (Blk w.heap.size #[.string x.name, .int .i64 x.version, .bool x.gone, .int .i64 x.image, .int .i64 x.want, .int .i64 x.down, .int .i64 x.over, .int .i64 x.next, .int .i64 x.per, .int .i64 x.least, .int .i64 x.most, .int .i64 x.load, .int .i64 x.cool] 50 wr) ∧ Below w.heap.size w wr) (fun i _ => rs.length - (intOf i).toNat)
 case atStart => exact ⟨0, Nat.zero_le _, rfl, fun j q h => by omega, HX0, hb0⟩
 case round =>
  clear HX0 hb0
  obtain ⟨k, hk, rfl, hN, hX, hB⟩ := hrel
  by_cases hlt : k < rs.length
  ·obtain ⟨r, hr⟩ : ∃ r, rs[k]? = some r := ⟨rs[k], List.getElem?_eq_getElem hlt⟩
   have c0 : wr.cell? ⟨g, k, none⟩ = some (.func (.func r.1) r.2.1 #[]) := (hB.cell (p := ⟨g, k, none⟩) hg).trans (HR.out k r hr)
   have HSK := Hid.intro (HSAY.out k r hr hN.out)
   have heg := HEG.out k r hr
   have HRR := Hid.intro hr
   obtain ⟨fid, bnd, tr⟩ := r
   simp only at c0 HSK heg
   clear hr
   go_wp2_with (first | (refine wpList_load_mid rfl 50 _ rfl w.heap.size 0 (by first | rfl | (simp [go_sem]; done)) [.string x.name, .int .i64 x.version, .bool x.gone, .int .i64 x.image, .int .i64 x.want, .int .i64 x.down, .int .i64 x.over, .int .i64 x.next, .int .i64 x.per, .int .i64 x.least, .int .i64 x.most, .int .i64 x.load, .int .i64 x.cool] _ hX.out.rangeA Tryz.underlying50 rfl isz_Ssv ?_))
   refine (HSK.out wr hB).mono ?_
   rintro e w5 ⟨rfl, hb5⟩
   have HX5 := Hid.intro (hX.out.below hb5 hX.out.lt)
   have hB5 := hB.trans (hb5.mono hB.size)
   clear hb5 heg HSK c0 hB hX
   cases tr with
   | false =>
    have HE := Hid.intro (allR_no HRR.out rfl)
    go_wp2_with fail
    go_ret
    exact ⟨ret_bool HE.out.symm, hB5⟩
   | true =>
    have HN2 : Hid (∀ (j : Nat) q, j < k + 1 → rs[j]? = some q → q.2.2 = true) := fun j q hj hq => by
     by_cases e : j = k
     ·subst e
      have := HRR.out.symm.trans hq
      cases this
      rfl
     ·exact hN.out j q (by omega) hq
    go_wp2_with fail
    go_roundw
    case rel => exact ⟨k + 1, by omega, by go_num, HN2, HX5, hB5⟩
    case measure => simp [intOf]; omega
  ·have hke : k = rs.length := by omega
   subst hke
   have HE := Hid.intro (allR_yes hN.out)
   go_wp2_with fail
   go_ret
   exact ⟨ret_bool HE.out.symm, hB⟩

set_option maxHeartbeats 2000000 in
set_option maxRecDepth 100000 in
theorem allSbt_any (x : Sbt) (rs : List Chk) (g cap : Nat) (w : World) (hrl : rs.length ≤ 8)
  (hsay : ∀ (k : Nat) r, rs[k]? = some r → (∀ (j : Nat) q, j < k → rs[j]? = some q → q.2.2 = true) → ∀ v, Below w.heap.size w v → Calls Tryz.prog r.1 (r.2.1 ++ #[.agg #[.string x.name, .bool x.drain]]) v fun e w' => e = .returned (.bool r.2.2) ∧ Below v.heap.size v w') (heg : Enters rs)
  (hR : ChkIn g rs w) (hg : g < w.heap.size) :
  Calls Tryz.prog 132 #[.slice (some ⟨g, 0, none⟩) rs.length cap, .agg #[.string x.name, .bool x.drain]] w fun e w' => e = .returned (.bool (allR rs)) ∧ Below w.heap.size w w' := by
 have HR := Hid.intro hR
 have HSAY := Hid.intro hsay
 have HEG := Hid.intro heg
 have HX0 : Hid (Blk w.heap.size #[.string x.name, .bool x.drain] 85 (w.alloc (.cells #[.string x.name, .bool x.drain] 85))) := Blk.alloc _ _ _
 have hb0 : Below w.heap.size w (w.alloc (Obj.cells #[.string x.name, .bool x.drain] 85)) := (Below.refl _ w).alloc (Nat.le_refl _) _
 clear hR hsay heg
 go_enter Tryz.func132, Tryz.ntmps132
 go_wp2_with fail
 generalize w.alloc (Obj.cells #[.string x.name, .bool x.drain] 85) = w0 at *
 go_loopw [9] (fun i wr => ∃ k : Nat, k ≤ rs.length ∧ i = .int .i64 k ∧ Hid (∀ (j : Nat) q, j < k → rs[j]? = some q → q.2.2 = true) ∧ Hid (Blk w.heap.size #[.string x.name, .bool x.drain] 85 wr) ∧ Below w.heap.size w wr) (fun i _ => rs.length - (intOf i).toNat)
 case atStart => exact ⟨0, Nat.zero_le _, rfl, fun j q h => by omega, HX0, hb0⟩
 case round =>
  clear HX0 hb0
  obtain ⟨k, hk, rfl, hN, hX, hB⟩ := hrel
  by_cases hlt : k < rs.length
  ·obtain ⟨r, hr⟩ : ∃ r, rs[k]? = some r := ⟨rs[k], List.getElem?_eq_getElem hlt⟩
   have c0 : wr.cell? ⟨g, k, none⟩ = some (.func (.func r.1) r.2.1 #[]) := (hB.cell (p := ⟨g, k, none⟩) hg).trans (HR.out k r hr)
   have HSK := Hid.intro (HSAY.out k r hr hN.out)
   have heg := HEG.out k r hr
   have HRR := Hid.intro hr
   obtain ⟨fid, bnd, tr⟩ := r
   simp only at c0 HSK heg
   clear hr
   go_wp2_with (first | (refine wpList_load_mid rfl 85 _ rfl w.heap.size 0 (by first | rfl | (simp [go_sem]; done)) [.string x.name, .bool x.drain] _ hX.out.rangeA Tryz.underlying85 rfl isz_Sbt ?_))
   refine (HSK.out wr hB).mono ?_
   rintro e w5 ⟨rfl, hb5⟩
   have HX5 := Hid.intro (hX.out.below hb5 hX.out.lt)
   have hB5 := hB.trans (hb5.mono hB.size)
   clear hb5 heg HSK c0 hB hX
   cases tr with
   | false =>
    have HE := Hid.intro (allR_no HRR.out rfl)
    go_wp2_with fail
    go_ret
    exact ⟨ret_bool HE.out.symm, hB5⟩
   | true =>
    have HN2 : Hid (∀ (j : Nat) q, j < k + 1 → rs[j]? = some q → q.2.2 = true) := fun j q hj hq => by
     by_cases e : j = k
     ·subst e
      have := HRR.out.symm.trans hq
      cases this
      rfl
     ·exact hN.out j q (by omega) hq
    go_wp2_with fail
    go_roundw
    case rel => exact ⟨k + 1, by omega, by go_num, HN2, HX5, hB5⟩
    case measure => simp [intOf]; omega
  ·have hke : k = rs.length := by omega
   subst hke
   have HE := Hid.intro (allR_yes hN.out)
   go_wp2_with fail
   go_ret
   exact ⟨ret_bool HE.out.symm, hB⟩

set_option maxHeartbeats 2000000 in
set_option maxRecDepth 100000 in
theorem allScp_any (x : Scp) (rs : List Chk) (g cap : Nat) (w : World) (hrl : rs.length ≤ 8)
  (hsay : ∀ (k : Nat) r, rs[k]? = some r → (∀ (j : Nat) q, j < k → rs[j]? = some q → q.2.2 = true) → ∀ v, Below w.heap.size w v → Calls Tryz.prog r.1 (r.2.1 ++ #[.agg #[.string x.service, .int .i64 x.number, .int .i64 x.version, .int .i64 x.image, .int .i64 x.state, .bool x.ending, .string x.berth]]) v fun e w' => e = .returned (.bool r.2.2) ∧ Below v.heap.size v w') (heg : Enters rs)
  (hR : ChkIn g rs w) (hg : g < w.heap.size) :
  Calls Tryz.prog 134 #[.slice (some ⟨g, 0, none⟩) rs.length cap, .agg #[.string x.service, .int .i64 x.number, .int .i64 x.version, .int .i64 x.image, .int .i64 x.state, .bool x.ending, .string x.berth]] w fun e w' => e = .returned (.bool (allR rs)) ∧ Below w.heap.size w w' := by
 have HR := Hid.intro hR
 have HSAY := Hid.intro hsay
 have HEG := Hid.intro heg
 have HX0 : Hid (Blk w.heap.size #[.string x.service, .int .i64 x.number, .int .i64 x.version, .int .i64 x.image, .int .i64 x.state, .bool x.ending, .string x.berth] 87 (w.alloc (.cells #[.string x.service, .int .i64 x.number, .int .i64 x.version, .int .i64 x.image, .int .i64 x.state, .bool x.ending, .string x.berth] 87))) := Blk.alloc _ _ _
 have hb0 : Below w.heap.size w (w.alloc (Obj.cells #[.string x.service, .int .i64 x.number, .int .i64 x.version, .int .i64 x.image, .int .i64 x.state, .bool x.ending, .string x.berth] 87)) := (Below.refl _ w).alloc (Nat.le_refl _) _
 clear hR hsay heg
 go_enter Tryz.func134, Tryz.ntmps134
 go_wp2_with fail
 generalize w.alloc (Obj.cells #[.string x.service, .int .i64 x.number, .int .i64 x.version, .int .i64 x.image, .int .i64 x.state, .bool x.ending, .string x.berth] 87) = w0 at *
 go_loopw [9] (fun i wr => ∃ k : Nat, k ≤ rs.length ∧ i = .int .i64 k ∧ Hid (∀ (j : Nat) q, j < k → rs[j]? = some q → q.2.2 = true) ∧ Hid (Blk w.heap.size #[.string x.service, .int .i64 x.number, .int .i64 x.version, .int .i64 x.image, .int .i64 x.state, .bool x.ending, .string x.berth] 87 wr) ∧ Below w.heap.size w wr) (fun i _ => rs.length - (intOf i).toNat)
 case atStart => exact ⟨0, Nat.zero_le _, rfl, fun j q h => by omega, HX0, hb0⟩
 case round =>
  clear HX0 hb0
  obtain ⟨k, hk, rfl, hN, hX, hB⟩ := hrel
  by_cases hlt : k < rs.length
  ·obtain ⟨r, hr⟩ : ∃ r, rs[k]? = some r := ⟨rs[k], List.getElem?_eq_getElem hlt⟩
   have c0 : wr.cell? ⟨g, k, none⟩ = some (.func (.func r.1) r.2.1 #[]) := (hB.cell (p := ⟨g, k, none⟩) hg).trans (HR.out k r hr)
   have HSK := Hid.intro (HSAY.out k r hr hN.out)
   have heg := HEG.out k r hr
   have HRR := Hid.intro hr
   obtain ⟨fid, bnd, tr⟩ := r
   simp only at c0 HSK heg
   clear hr
   go_wp2_with (first | (refine wpList_load_mid rfl 87 _ rfl w.heap.size 0 (by first | rfl | (simp [go_sem]; done)) [.string x.service, .int .i64 x.number, .int .i64 x.version, .int .i64 x.image, .int .i64 x.state, .bool x.ending, .string x.berth] _ hX.out.rangeA Tryz.underlying87 rfl isz_Scp ?_))
   refine (HSK.out wr hB).mono ?_
   rintro e w5 ⟨rfl, hb5⟩
   have HX5 := Hid.intro (hX.out.below hb5 hX.out.lt)
   have hB5 := hB.trans (hb5.mono hB.size)
   clear hb5 heg HSK c0 hB hX
   cases tr with
   | false =>
    have HE := Hid.intro (allR_no HRR.out rfl)
    go_wp2_with fail
    go_ret
    exact ⟨ret_bool HE.out.symm, hB5⟩
   | true =>
    have HN2 : Hid (∀ (j : Nat) q, j < k + 1 → rs[j]? = some q → q.2.2 = true) := fun j q hj hq => by
     by_cases e : j = k
     ·subst e
      have := HRR.out.symm.trans hq
      cases this
      rfl
     ·exact hN.out j q (by omega) hq
    go_wp2_with fail
    go_roundw
    case rel => exact ⟨k + 1, by omega, by go_num, HN2, HX5, hB5⟩
    case measure => simp [intOf]; omega
  ·have hke : k = rs.length := by omega
   subst hke
   have HE := Hid.intro (allR_yes hN.out)
   go_wp2_with fail
   go_ret
   exact ⟨ret_bool HE.out.symm, hB⟩

theorem eachSsv_no {xs : List Ssv} {rsOf : Ssv → List Chk} {k : Nat} {y : Ssv} (h : xs[k]? = some y) (hr : allR (rsOf y) = false) : xs.all (fun y => allR (rsOf y)) = false := by
 rw [List.all_eq_false]
 exact ⟨y, List.mem_of_getElem? h, by simp [hr]⟩

theorem eachSsv_yes {xs : List Ssv} {rsOf : Ssv → List Chk} (h : ∀ (j : Nat) y, j < xs.length → xs[j]? = some y → allR (rsOf y) = true) : xs.all (fun y => allR (rsOf y)) = true := by
 rw [List.all_eq_true]
 intro y hy
 obtain ⟨j, hj, e⟩ := List.getElem_of_mem hy
 exact h j y hj (by rw [List.getElem?_eq_getElem hj, e])

set_option maxHeartbeats 4000000 in
set_option maxRecDepth 100000 in
theorem eachSsv_any (xs : List Ssv) (rsOf : Ssv → List Chk) (L g cap cap2 lo : Nat) (a : Option Addr) (w : World) (hin : SliceC SsvC 13 lo w a xs) (hsm : xs.length ≤ 1048576) (hL : ∀ y, (rsOf y).length = L) (hL8 : L ≤ 8)
  (hsay : ∀ (i : Nat) y, xs[i]? = some y → ∀ (k : Nat) r, (rsOf y)[k]? = some r → ∀ v, Below w.heap.size w v → Calls Tryz.prog r.1 (r.2.1 ++ #[.agg #[.string y.name, .int .i64 y.version, .bool y.gone, .int .i64 y.image, .int .i64 y.want, .int .i64 y.down, .int .i64 y.over, .int .i64 y.next, .int .i64 y.per, .int .i64 y.least, .int .i64 y.most, .int .i64 y.load, .int .i64 y.cool]]) v fun e w' => e = .returned (.bool r.2.2) ∧ Below v.heap.size v w') (heg : ∀ y, Enters (rsOf y))
  (hR : ∀ y, ChkIn g (rsOf y) w) (hg : g < w.heap.size) :
  Calls Tryz.prog 97 #[.slice a xs.length cap, .slice (some ⟨g, 0, none⟩) L cap2] w fun e w' => e = .returned (.bool (xs.all (fun y => allR (rsOf y)))) ∧ Below w.heap.size w w' := by
 have HI := Hid.intro hin
 have HR := Hid.intro hR
 have HSAY := Hid.intro hsay
 have HEG := Hid.intro heg
 have HL := Hid.intro hL
 clear hR hsay heg hin hL
 go_enter Tryz.func97, Tryz.ntmps97
 go_wp2_with fail
 go_loopw [9] (fun i wr => ∃ k : Nat, k ≤ xs.length ∧ i = .int .i64 k ∧ Hid (∀ (j : Nat) y, j < k → xs[j]? = some y → allR (rsOf y) = true) ∧ Below w.heap.size w wr) (fun i _ => xs.length - (intOf i).toNat)
 case atStart => exact ⟨0, Nat.zero_le _, rfl, fun j q h => by omega, Below.refl _ _⟩
 case round =>
  obtain ⟨k, hk, rfl, hN, hB⟩ := hrel
  by_cases hlt : k < xs.length
  ·obtain ⟨y, hy⟩ : ∃ y, xs[k]? = some y := ⟨xs[k], List.getElem?_eq_getElem hlt⟩
   obtain ⟨b, o, ea, _, hbl, hc⟩ := (HI.out.below SsvC.holds hB (Nat.le_refl _)).at hy
   subst ea
   have HRY := Hid.intro (rngSsv hc)
   have HYY := Hid.intro hy
   clear hc hy
   have hza : Blk wr.heap.size #[.string ⟨#[]⟩, .int .i64 0, .bool false, .int .i64 0, .int .i64 0, .int .i64 0, .int .i64 0, .int .i64 0, .int .i64 0, .int .i64 0, .int .i64 0, .int .i64 0, .int .i64 0] 50 (wr.alloc (Obj.cells #[.string ⟨#[]⟩, .int .i64 0, .bool false, .int .i64 0, .int .i64 0, .int .i64 0, .int .i64 0, .int .i64 0, .int .i64 0, .int .i64 0, .int .i64 0, .int .i64 0, .int .i64 0] 50)) := Blk.alloc _ _ _
   have HTS : Hid ((wr.alloc (Obj.cells #[.string ⟨#[]⟩, .int .i64 0, .bool false, .int .i64 0, .int .i64 0, .int .i64 0, .int .i64 0, .int .i64 0, .int .i64 0, .int .i64 0, .int .i64 0, .int .i64 0, .int .i64 0] 50)).there wr.heap.size 0 13) := hza.there
   obtain ⟨w5, HW5⟩ : ∃ w5, Hid (w5 = (wr.alloc (Obj.cells #[.string ⟨#[]⟩, .int .i64 0, .bool false, .int .i64 0, .int .i64 0, .int .i64 0, .int .i64 0, .int .i64 0, .int .i64 0, .int .i64 0, .int .i64 0, .int .i64 0, .int .i64 0] 50)).setCells wr.heap.size 0 [.string y.name, .int .i64 y.version, .bool y.gone, .int .i64 y.image, .int .i64 y.want, .int .i64 y.down, .int .i64 y.over, .int .i64 y.next, .int .i64 y.per, .int .i64 y.least, .int .i64 y.most, .int .i64 y.load, .int .i64 y.cool]) := ⟨_, rfl⟩
   have HK5 : Hid (Blk wr.heap.size #[.string y.name, .int .i64 y.version, .bool y.gone, .int .i64 y.image, .int .i64 y.want, .int .i64 y.down, .int .i64 y.over, .int .i64 y.next, .int .i64 y.per, .int .i64 y.least, .int .i64 y.most, .int .i64 y.load, .int .i64 y.cool] 50 w5) := by
    show Blk _ _ _ _
    rw [HW5.out]
    exact hza.setAll #[.string y.name, .int .i64 y.version, .bool y.gone, .int .i64 y.image, .int .i64 y.want, .int .i64 y.down, .int .i64 y.over, .int .i64 y.next, .int .i64 y.per, .int .i64 y.least, .int .i64 y.most, .int .i64 y.load, .int .i64 y.cool] rfl
   have hbx : Below wr.heap.size wr w5 := by
    rw [HW5.out]
    exact below_setCells (Nat.le_refl _) _ _ _ ((Below.refl _ wr).alloc (Nat.le_refl _) _)
   have hB5 : Below w.heap.size w w5 := hB.trans (hbx.mono hB.size)
   clear hza hbx hB
   go_upto_region 4 with (first | (refine wpList_load_mid rfl 50 _ rfl b (o + k * 13) (by first | rfl | (simp [go_sem]; done)) [.string y.name, .int .i64 y.version, .bool y.gone, .int .i64 y.image, .int .i64 y.want, .int .i64 y.down, .int .i64 y.over, .int .i64 y.next, .int .i64 y.per, .int .i64 y.least, .int .i64 y.most, .int .i64 y.load, .int .i64 y.cool] _ HRY.out Tryz.underlying50 rfl isz_Ssv ?_) | (refine wpList_store_to rfl 50 _ _ rfl wr.heap.size 0 #[.string y.name, .int .i64 y.version, .bool y.gone, .int .i64 y.image, .int .i64 y.want, .int .i64 y.down, .int .i64 y.over, .int .i64 y.next, .int .i64 y.per, .int .i64 y.least, .int .i64 y.most, .int .i64 y.load, .int .i64 y.cool] rfl rfl HTS.out isz_Ssv (by simp [Value.oneCell']) w5 HW5.out ?_))
   clear HRY HTS HW5
   generalize wr.heap.size = q at *
   go_wp2_with (refine wpList_load_mid rfl 50 _ rfl q 0 (by first | rfl | (simp [go_sem]; done)) [.string y.name, .int .i64 y.version, .bool y.gone, .int .i64 y.image, .int .i64 y.want, .int .i64 y.down, .int .i64 y.over, .int .i64 y.next, .int .i64 y.per, .int .i64 y.least, .int .i64 y.most, .int .i64 y.load, .int .i64 y.cool] _ HK5.out.rangeA Tryz.underlying50 rfl isz_Ssv ?_)
   refine Calls.mono (by have h := allSsv_any y (rsOf y) g cap2 w5 (by rw [HL.out]; exact hL8) (fun k' r hr _ v hv => HSAY.out k y HYY.out k' r hr v (hB5.trans (hv.mono hB5.size))) (HEG.out y) ((HR.out y).below hB5 hg) (Nat.lt_of_lt_of_le hg hB5.size); rw [HL.out] at h; exact h) ?_
   rintro e w6 ⟨rfl, hb6⟩
   have hB6 := hB5.trans (hb6.mono hB5.size)
   clear hb6 HK5 hB5
   cases ht : allR (rsOf y) with
   | false =>
    have HE := Hid.intro (eachSsv_no HYY.out ht)
    clear ht
    go_wp2_with fail
    go_ret
    exact ⟨ret_bool HE.out.symm, hB6⟩
   | true =>
    have HN2 : Hid (∀ (j : Nat) y, j < k + 1 → xs[j]? = some y → allR (rsOf y) = true) := fun j u hj hq => by
     by_cases e : j = k
     ·subst e
      have := HYY.out.symm.trans hq
      cases this
      exact ht
     ·exact hN.out j u (by omega) hq
    clear ht
    go_wp2_with fail
    go_roundw
    case rel => exact ⟨k + 1, by omega, by go_num, HN2, hB6⟩
    case measure => simp [intOf]; omega
  ·have hke : k = xs.length := by omega
   subst hke
   have HE := Hid.intro (eachSsv_yes hN.out)
   go_wp2_with fail
   go_ret
   exact ⟨ret_bool HE.out.symm, hB⟩

theorem eachSbt_no {xs : List Sbt} {rsOf : Sbt → List Chk} {k : Nat} {y : Sbt} (h : xs[k]? = some y) (hr : allR (rsOf y) = false) : xs.all (fun y => allR (rsOf y)) = false := by
 rw [List.all_eq_false]
 exact ⟨y, List.mem_of_getElem? h, by simp [hr]⟩

theorem eachSbt_yes {xs : List Sbt} {rsOf : Sbt → List Chk} (h : ∀ (j : Nat) y, j < xs.length → xs[j]? = some y → allR (rsOf y) = true) : xs.all (fun y => allR (rsOf y)) = true := by
 rw [List.all_eq_true]
 intro y hy
 obtain ⟨j, hj, e⟩ := List.getElem_of_mem hy
 exact h j y hj (by rw [List.getElem?_eq_getElem hj, e])

set_option maxHeartbeats 4000000 in
set_option maxRecDepth 100000 in
theorem eachSbt_any (xs : List Sbt) (rsOf : Sbt → List Chk) (L g cap cap2 lo : Nat) (a : Option Addr) (w : World) (hin : SliceC SbtC 2 lo w a xs) (hsm : xs.length ≤ 1048576) (hL : ∀ y, (rsOf y).length = L) (hL8 : L ≤ 8)
  (hsay : ∀ (i : Nat) y, xs[i]? = some y → ∀ (k : Nat) r, (rsOf y)[k]? = some r → ∀ v, Below w.heap.size w v → Calls Tryz.prog r.1 (r.2.1 ++ #[.agg #[.string y.name, .bool y.drain]]) v fun e w' => e = .returned (.bool r.2.2) ∧ Below v.heap.size v w') (heg : ∀ y, Enters (rsOf y))
  (hR : ∀ y, ChkIn g (rsOf y) w) (hg : g < w.heap.size) :
  Calls Tryz.prog 105 #[.slice a xs.length cap, .slice (some ⟨g, 0, none⟩) L cap2] w fun e w' => e = .returned (.bool (xs.all (fun y => allR (rsOf y)))) ∧ Below w.heap.size w w' := by
 have HI := Hid.intro hin
 have HR := Hid.intro hR
 have HSAY := Hid.intro hsay
 have HEG := Hid.intro heg
 have HL := Hid.intro hL
 clear hR hsay heg hin hL
 go_enter Tryz.func105, Tryz.ntmps105
 go_wp2_with fail
 go_loopw [9] (fun i wr => ∃ k : Nat, k ≤ xs.length ∧ i = .int .i64 k ∧ Hid (∀ (j : Nat) y, j < k → xs[j]? = some y → allR (rsOf y) = true) ∧ Below w.heap.size w wr) (fun i _ => xs.length - (intOf i).toNat)
 case atStart => exact ⟨0, Nat.zero_le _, rfl, fun j q h => by omega, Below.refl _ _⟩
 case round =>
  obtain ⟨k, hk, rfl, hN, hB⟩ := hrel
  by_cases hlt : k < xs.length
  ·obtain ⟨y, hy⟩ : ∃ y, xs[k]? = some y := ⟨xs[k], List.getElem?_eq_getElem hlt⟩
   obtain ⟨b, o, ea, _, hbl, hc⟩ := (HI.out.below SbtC.holds hB (Nat.le_refl _)).at hy
   subst ea
   have HRY := Hid.intro (rngSbt hc)
   have HYY := Hid.intro hy
   clear hc hy
   have hza : Blk wr.heap.size #[.string ⟨#[]⟩, .bool false] 85 (wr.alloc (Obj.cells #[.string ⟨#[]⟩, .bool false] 85)) := Blk.alloc _ _ _
   have HTS : Hid ((wr.alloc (Obj.cells #[.string ⟨#[]⟩, .bool false] 85)).there wr.heap.size 0 2) := hza.there
   obtain ⟨w5, HW5⟩ : ∃ w5, Hid (w5 = (wr.alloc (Obj.cells #[.string ⟨#[]⟩, .bool false] 85)).setCells wr.heap.size 0 [.string y.name, .bool y.drain]) := ⟨_, rfl⟩
   have HK5 : Hid (Blk wr.heap.size #[.string y.name, .bool y.drain] 85 w5) := by
    show Blk _ _ _ _
    rw [HW5.out]
    exact hza.setAll #[.string y.name, .bool y.drain] rfl
   have hbx : Below wr.heap.size wr w5 := by
    rw [HW5.out]
    exact below_setCells (Nat.le_refl _) _ _ _ ((Below.refl _ wr).alloc (Nat.le_refl _) _)
   have hB5 : Below w.heap.size w w5 := hB.trans (hbx.mono hB.size)
   clear hza hbx hB
   go_upto_region 4 with (first | (refine wpList_load_mid rfl 85 _ rfl b (o + k * 2) (by first | rfl | (simp [go_sem]; done)) [.string y.name, .bool y.drain] _ HRY.out Tryz.underlying85 rfl isz_Sbt ?_) | (refine wpList_store_to rfl 85 _ _ rfl wr.heap.size 0 #[.string y.name, .bool y.drain] rfl rfl HTS.out isz_Sbt (by simp [Value.oneCell']) w5 HW5.out ?_))
   clear HRY HTS HW5
   generalize wr.heap.size = q at *
   go_wp2_with (refine wpList_load_mid rfl 85 _ rfl q 0 (by first | rfl | (simp [go_sem]; done)) [.string y.name, .bool y.drain] _ HK5.out.rangeA Tryz.underlying85 rfl isz_Sbt ?_)
   refine Calls.mono (by have h := allSbt_any y (rsOf y) g cap2 w5 (by rw [HL.out]; exact hL8) (fun k' r hr _ v hv => HSAY.out k y HYY.out k' r hr v (hB5.trans (hv.mono hB5.size))) (HEG.out y) ((HR.out y).below hB5 hg) (Nat.lt_of_lt_of_le hg hB5.size); rw [HL.out] at h; exact h) ?_
   rintro e w6 ⟨rfl, hb6⟩
   have hB6 := hB5.trans (hb6.mono hB5.size)
   clear hb6 HK5 hB5
   cases ht : allR (rsOf y) with
   | false =>
    have HE := Hid.intro (eachSbt_no HYY.out ht)
    clear ht
    go_wp2_with fail
    go_ret
    exact ⟨ret_bool HE.out.symm, hB6⟩
   | true =>
    have HN2 : Hid (∀ (j : Nat) y, j < k + 1 → xs[j]? = some y → allR (rsOf y) = true) := fun j u hj hq => by
     by_cases e : j = k
     ·subst e
      have := HYY.out.symm.trans hq
      cases this
      exact ht
     ·exact hN.out j u (by omega) hq
    clear ht
    go_wp2_with fail
    go_roundw
    case rel => exact ⟨k + 1, by omega, by go_num, HN2, hB6⟩
    case measure => simp [intOf]; omega
  ·have hke : k = xs.length := by omega
   subst hke
   have HE := Hid.intro (eachSbt_yes hN.out)
   go_wp2_with fail
   go_ret
   exact ⟨ret_bool HE.out.symm, hB⟩

theorem eachScp_no {xs : List Scp} {rsOf : Scp → List Chk} {k : Nat} {y : Scp} (h : xs[k]? = some y) (hr : allR (rsOf y) = false) : xs.all (fun y => allR (rsOf y)) = false := by
 rw [List.all_eq_false]
 exact ⟨y, List.mem_of_getElem? h, by simp [hr]⟩

theorem eachScp_yes {xs : List Scp} {rsOf : Scp → List Chk} (h : ∀ (j : Nat) y, j < xs.length → xs[j]? = some y → allR (rsOf y) = true) : xs.all (fun y => allR (rsOf y)) = true := by
 rw [List.all_eq_true]
 intro y hy
 obtain ⟨j, hj, e⟩ := List.getElem_of_mem hy
 exact h j y hj (by rw [List.getElem?_eq_getElem hj, e])

set_option maxHeartbeats 4000000 in
set_option maxRecDepth 100000 in
theorem eachScp_any (xs : List Scp) (rsOf : Scp → List Chk) (L g cap cap2 lo : Nat) (a : Option Addr) (w : World) (hin : SliceC ScpC 7 lo w a xs) (hsm : xs.length ≤ 1048576) (hL : ∀ y, (rsOf y).length = L) (hL8 : L ≤ 8)
  (hsay : ∀ (i : Nat) y, xs[i]? = some y → ∀ (k : Nat) r, (rsOf y)[k]? = some r → ∀ v, Below w.heap.size w v → Calls Tryz.prog r.1 (r.2.1 ++ #[.agg #[.string y.service, .int .i64 y.number, .int .i64 y.version, .int .i64 y.image, .int .i64 y.state, .bool y.ending, .string y.berth]]) v fun e w' => e = .returned (.bool r.2.2) ∧ Below v.heap.size v w') (heg : ∀ y, Enters (rsOf y))
  (hR : ∀ y, ChkIn g (rsOf y) w) (hg : g < w.heap.size) :
  Calls Tryz.prog 108 #[.slice a xs.length cap, .slice (some ⟨g, 0, none⟩) L cap2] w fun e w' => e = .returned (.bool (xs.all (fun y => allR (rsOf y)))) ∧ Below w.heap.size w w' := by
 have HI := Hid.intro hin
 have HR := Hid.intro hR
 have HSAY := Hid.intro hsay
 have HEG := Hid.intro heg
 have HL := Hid.intro hL
 clear hR hsay heg hin hL
 go_enter Tryz.func108, Tryz.ntmps108
 go_wp2_with fail
 go_loopw [9] (fun i wr => ∃ k : Nat, k ≤ xs.length ∧ i = .int .i64 k ∧ Hid (∀ (j : Nat) y, j < k → xs[j]? = some y → allR (rsOf y) = true) ∧ Below w.heap.size w wr) (fun i _ => xs.length - (intOf i).toNat)
 case atStart => exact ⟨0, Nat.zero_le _, rfl, fun j q h => by omega, Below.refl _ _⟩
 case round =>
  obtain ⟨k, hk, rfl, hN, hB⟩ := hrel
  by_cases hlt : k < xs.length
  ·obtain ⟨y, hy⟩ : ∃ y, xs[k]? = some y := ⟨xs[k], List.getElem?_eq_getElem hlt⟩
   obtain ⟨b, o, ea, _, hbl, hc⟩ := (HI.out.below ScpC.holds hB (Nat.le_refl _)).at hy
   subst ea
   have HRY := Hid.intro (rngScp hc)
   have HYY := Hid.intro hy
   clear hc hy
   have hza : Blk wr.heap.size #[.string ⟨#[]⟩, .int .i64 0, .int .i64 0, .int .i64 0, .int .i64 0, .bool false, .string ⟨#[]⟩] 87 (wr.alloc (Obj.cells #[.string ⟨#[]⟩, .int .i64 0, .int .i64 0, .int .i64 0, .int .i64 0, .bool false, .string ⟨#[]⟩] 87)) := Blk.alloc _ _ _
   have HTS : Hid ((wr.alloc (Obj.cells #[.string ⟨#[]⟩, .int .i64 0, .int .i64 0, .int .i64 0, .int .i64 0, .bool false, .string ⟨#[]⟩] 87)).there wr.heap.size 0 7) := hza.there
   obtain ⟨w5, HW5⟩ : ∃ w5, Hid (w5 = (wr.alloc (Obj.cells #[.string ⟨#[]⟩, .int .i64 0, .int .i64 0, .int .i64 0, .int .i64 0, .bool false, .string ⟨#[]⟩] 87)).setCells wr.heap.size 0 [.string y.service, .int .i64 y.number, .int .i64 y.version, .int .i64 y.image, .int .i64 y.state, .bool y.ending, .string y.berth]) := ⟨_, rfl⟩
   have HK5 : Hid (Blk wr.heap.size #[.string y.service, .int .i64 y.number, .int .i64 y.version, .int .i64 y.image, .int .i64 y.state, .bool y.ending, .string y.berth] 87 w5) := by
    show Blk _ _ _ _
    rw [HW5.out]
    exact hza.setAll #[.string y.service, .int .i64 y.number, .int .i64 y.version, .int .i64 y.image, .int .i64 y.state, .bool y.ending, .string y.berth] rfl
   have hbx : Below wr.heap.size wr w5 := by
    rw [HW5.out]
    exact below_setCells (Nat.le_refl _) _ _ _ ((Below.refl _ wr).alloc (Nat.le_refl _) _)
   have hB5 : Below w.heap.size w w5 := hB.trans (hbx.mono hB.size)
   clear hza hbx hB
   go_upto_region 4 with (first | (refine wpList_load_mid rfl 87 _ rfl b (o + k * 7) (by first | rfl | (simp [go_sem]; done)) [.string y.service, .int .i64 y.number, .int .i64 y.version, .int .i64 y.image, .int .i64 y.state, .bool y.ending, .string y.berth] _ HRY.out Tryz.underlying87 rfl isz_Scp ?_) | (refine wpList_store_to rfl 87 _ _ rfl wr.heap.size 0 #[.string y.service, .int .i64 y.number, .int .i64 y.version, .int .i64 y.image, .int .i64 y.state, .bool y.ending, .string y.berth] rfl rfl HTS.out isz_Scp (by simp [Value.oneCell']) w5 HW5.out ?_))
   clear HRY HTS HW5
   generalize wr.heap.size = q at *
   go_wp2_with (refine wpList_load_mid rfl 87 _ rfl q 0 (by first | rfl | (simp [go_sem]; done)) [.string y.service, .int .i64 y.number, .int .i64 y.version, .int .i64 y.image, .int .i64 y.state, .bool y.ending, .string y.berth] _ HK5.out.rangeA Tryz.underlying87 rfl isz_Scp ?_)
   refine Calls.mono (by have h := allScp_any y (rsOf y) g cap2 w5 (by rw [HL.out]; exact hL8) (fun k' r hr _ v hv => HSAY.out k y HYY.out k' r hr v (hB5.trans (hv.mono hB5.size))) (HEG.out y) ((HR.out y).below hB5 hg) (Nat.lt_of_lt_of_le hg hB5.size); rw [HL.out] at h; exact h) ?_
   rintro e w6 ⟨rfl, hb6⟩
   have hB6 := hB5.trans (hb6.mono hB5.size)
   clear hb6 HK5 hB5
   cases ht : allR (rsOf y) with
   | false =>
    have HE := Hid.intro (eachScp_no HYY.out ht)
    clear ht
    go_wp2_with fail
    go_ret
    exact ⟨ret_bool HE.out.symm, hB6⟩
   | true =>
    have HN2 : Hid (∀ (j : Nat) y, j < k + 1 → xs[j]? = some y → allR (rsOf y) = true) := fun j u hj hq => by
     by_cases e : j = k
     ·subst e
      have := HYY.out.symm.trans hq
      cases this
      exact ht
     ·exact hN.out j u (by omega) hq
    clear ht
    go_wp2_with fail
    go_roundw
    case rel => exact ⟨k + 1, by omega, by go_num, HN2, hB6⟩
    case measure => simp [intOf]; omega
  ·have hke : k = xs.length := by omega
   subst hke
   have HE := Hid.intro (eachScp_yes hN.out)
   go_wp2_with fail
   go_ret
   exact ⟨ret_bool HE.out.symm, hB⟩

def ascAt (ns : List ByteArray) : Nat → Bool
 | 0 => true
 | m + 1 => match ns[m]?, ns[m + 1]? with
  | some s, some t => Op.bytesLess s.toList t.toList
  | _, _ => true

def ascTo (ns : List ByteArray) : Nat → Bool
 | 0 => true
 | k + 1 => ascTo ns k && ascAt ns k

theorem ascTo_false {ns : List ByteArray} {k : Nat} (h : ascAt ns k = false) : ∀ n, k < n → ascTo ns n = false
 | 0, hn => absurd hn (Nat.not_lt_zero _)
 | n + 1, hn => by
  by_cases e : k = n
  ·subst e; simp only [ascTo, h, Bool.and_false]
  ·simp only [ascTo, ascTo_false h n (by omega), Bool.false_and]

theorem ascAt_at {ns : List ByteArray} {m : Nat} {s t : ByteArray} (h : ns[m]? = some s) (h2 : ns[m + 1]? = some t) : ascAt ns (m + 1) = Op.bytesLess s.toList t.toList := by
 simp only [ascAt, h, h2]

set_option maxHeartbeats 1000000 in
theorem nameSsv_any (x : Ssv) (w : World) :
  Calls Tryz.prog 96 #[.agg #[.string x.name, .int .i64 x.version, .bool x.gone, .int .i64 x.image, .int .i64 x.want, .int .i64 x.down, .int .i64 x.over, .int .i64 x.next, .int .i64 x.per, .int .i64 x.least, .int .i64 x.most, .int .i64 x.load, .int .i64 x.cool]] w fun e w' => e = .returned (.string x.name) ∧ Below w.heap.size w w' := by
 go_enter Tryz.func96, Tryz.ntmps96
 go_wp2_with fail
 go_ret
 exact ⟨rfl, by go_grown⟩

set_option maxHeartbeats 4000000 in
set_option maxRecDepth 100000 in
theorem ascSsv_any (xs : List Ssv) (a : Option Addr) (cap lo : Nat) (w : World) (hin : SliceC SsvC 13 lo w a xs) (hsm : xs.length ≤ 1048576) :
  Calls Tryz.prog 95 #[.slice a xs.length cap, .func (.func 96) #[] #[]] w fun e w' => e = .returned (.bool (ascTo (xs.map (·.name)) xs.length)) ∧ Below w.heap.size w w' := by
 have HI : Hid (SliceC SsvC 13 lo w a xs) := hin
 clear hin
 go_enter Tryz.func95, Tryz.ntmps95
 go_wp2_with fail
 go_loopw [5] (fun i wr => ∃ m : Nat, (m = 0 ∨ m + 1 ≤ xs.length) ∧ i = .int .i64 ((m : Int) + 1) ∧ Hid (ascTo (xs.map (·.name)) (m + 1) = true) ∧ Below w.heap.size w wr) (fun i _ => xs.length + 1 - (intOf i).toNat)
 case atStart => exact ⟨0, .inl rfl, rfl, rfl, by go_grown⟩
 case round =>
  obtain ⟨m, hm, rfl, ho, hbel⟩ := hrel
  by_cases hlt : m + 1 < xs.length
  ·obtain ⟨x, hx⟩ : ∃ x, xs[m]? = some x := ⟨xs[m], List.getElem?_eq_getElem (by omega)⟩
   obtain ⟨y, hy⟩ : ∃ y, xs[m + 1]? = some y := ⟨xs[m + 1], List.getElem?_eq_getElem (by omega)⟩
   have HIR := HI.out.below SsvC.holds hbel (Nat.le_refl _)
   obtain ⟨b, o, rfl, _, _, hc⟩ := HIR.at hx
   obtain ⟨b', o', e', _, _, hc'⟩ := HIR.at hy
   cases e'
   obtain ⟨q0, q1, q2, q3, q4, q5, q6, q7, q8, q9, q10, q11, q12, _⟩ := hc
   obtain ⟨r0, r1, r2, r3, r4, r5, r6, r7, r8, r9, r10, r11, r12, _⟩ := hc'
   simp only [Nat.add_zero] at q0 q1 q2 q3 q4 q5 q6 q7 q8 q9 q10 q11 q12 r0 r1 r2 r3 r4 r5 r6 r7 r8 r9 r10 r11 r12
   have HA : Hid (ascAt (xs.map (·.name)) (m + 1) = Op.bytesLess x.name.toList y.name.toList) := ascAt_at (by rw [List.getElem?_map, hx]; rfl) (by rw [List.getElem?_map, hy]; rfl)
   have k0 := cell_regrown q0
   have l0 := cell_regrown r0
   have k1 := cell_regrown q1
   have l1 := cell_regrown r1
   have k2 := cell_regrown q2
   have l2 := cell_regrown r2
   have k3 := cell_regrown q3
   have l3 := cell_regrown r3
   have k4 := cell_regrown q4
   have l4 := cell_regrown r4
   have k5 := cell_regrown q5
   have l5 := cell_regrown r5
   have k6 := cell_regrown q6
   have l6 := cell_regrown r6
   have k7 := cell_regrown q7
   have l7 := cell_regrown r7
   have k8 := cell_regrown q8
   have l8 := cell_regrown r8
   have k9 := cell_regrown q9
   have l9 := cell_regrown r9
   have k10 := cell_regrown q10
   have l10 := cell_regrown r10
   have k11 := cell_regrown q11
   have l11 := cell_regrown r11
   have k12 := cell_regrown q12
   have l12 := cell_regrown r12
   have cX : ∀ d os, Calls Tryz.prog 96 #[.agg #[.string x.name, .int .i64 x.version, .bool x.gone, .int .i64 x.image, .int .i64 x.want, .int .i64 x.down, .int .i64 x.over, .int .i64 x.next, .int .i64 x.per, .int .i64 x.least, .int .i64 x.most, .int .i64 x.load, .int .i64 x.cool]] (Sort.grow (redrawn wr d) os) fun e w'' => e = .returned (.string x.name) ∧ ∃ p : Regrown, w'' = Sort.grow (redrawn wr p.d) p.os := fun d os => Calls.regrown_of (nameSsv_any x _)
   have cY : ∀ d os, Calls Tryz.prog 96 #[.agg #[.string y.name, .int .i64 y.version, .bool y.gone, .int .i64 y.image, .int .i64 y.want, .int .i64 y.down, .int .i64 y.over, .int .i64 y.next, .int .i64 y.per, .int .i64 y.least, .int .i64 y.most, .int .i64 y.load, .int .i64 y.cool]] (Sort.grow (redrawn wr d) os) fun e w'' => e = .returned (.string y.name) ∧ ∃ p : Regrown, w'' = Sort.grow (redrawn wr p.d) p.os := fun d os => Calls.regrown_of (nameSsv_any y _)
   have i0 : (0 : Int) ≤ (m : Int) := by omega
   have i1 : (m : Int) < (xs.length : Int) := by omega
   have i2 : (0 : Int) ≤ (m : Int) + 1 := by omega
   have i3 : (m : Int) + 1 < (xs.length : Int) := by omega
   clear hx hy q0 q1 q2 q3 q4 q5 q6 q7 q8 q9 q10 q11 q12 r0 r1 r2 r3 r4 r5 r6 r7 r8 r9 r10 r11 r12 HIR
   have HWM : Hid (IntKind.i64.wrap (m : Int) = (m : Int)) := by show _ = _; rw [IntKind.wrap_i64]; omega
   have HLT : Hid (m + 1 < xs.length) := hlt
   generalize hq : Op.bytesLess x.name.toList y.name.toList = Q at HA
   have HQ : Hid (Op.bytesLess x.name.toList y.name.toList = Q) := hq
   clear hq hlt
   go_wp2_with fail
   refine wp_region_quiet_below (by kernel_rfl) (by kernel_rfl) ?_
   repeat (quiet_step (first | exact cX _ _ | exact cY _ _))
   rw [HWM.out]
   repeat (quiet_step (first | exact cX _ _ | exact cY _ _))
   refine wpQuiet_nil ?_
   intro _ hw'
   obtain ⟨⟨dq, osq⟩, hw''⟩ := hw'
   have hB := hbel.trans ((below_regrown wr dq osq).mono hbel.size)
   simp only [] at hw''
   rw [← hw''] at hB
   clear hw'' cX cY k0 l0 k1 l1 k2 l2 k3 l3 k4 l4 k5 l5 k6 l6 k7 l7 k8 l8 k9 l9 k10 l10 k11 l11 k12 l12
   rw [HQ.out]
   cases Q with
   | false =>
    have HE := Hid.intro (ascTo_false HA.out _ HLT.out)
    go_wp2_with fail
    go_ret
    exact ⟨ret_bool HE.out.symm, hB⟩
   | true =>
    have HE : Hid (ascTo (xs.map (·.name)) (m + 1 + 1) = true) := by show _ = _; rw [ascTo, ho.out, HA.out]; rfl
    have hlt := HLT.out
    go_wp2_with fail
    go_roundw
    case rel => exact ⟨m + 1, .inr (by omega), by go_num, HE, hB⟩
    case measure => simp [intOf]; omega
  ·have HE : Hid (ascTo (xs.map (·.name)) xs.length = true) := by
    rcases (show m + 1 = xs.length ∨ xs.length = 0 by omega) with e | e
    ·rw [← e]; exact ho.out
    ·rw [e]; rfl
   go_wp2_with fail
   go_ret
   exact ⟨ret_bool HE.out.symm, hbel⟩

set_option maxHeartbeats 1000000 in
theorem nameSbt_any (x : Sbt) (w : World) :
  Calls Tryz.prog 104 #[.agg #[.string x.name, .bool x.drain]] w fun e w' => e = .returned (.string x.name) ∧ Below w.heap.size w w' := by
 go_enter Tryz.func104, Tryz.ntmps104
 go_wp2_with fail
 go_ret
 exact ⟨rfl, by go_grown⟩

set_option maxHeartbeats 4000000 in
set_option maxRecDepth 100000 in
theorem ascSbt_any (xs : List Sbt) (a : Option Addr) (cap lo : Nat) (w : World) (hin : SliceC SbtC 2 lo w a xs) (hsm : xs.length ≤ 1048576) :
  Calls Tryz.prog 103 #[.slice a xs.length cap, .func (.func 104) #[] #[]] w fun e w' => e = .returned (.bool (ascTo (xs.map (·.name)) xs.length)) ∧ Below w.heap.size w w' := by
 have HI : Hid (SliceC SbtC 2 lo w a xs) := hin
 clear hin
 go_enter Tryz.func103, Tryz.ntmps103
 go_wp2_with fail
 go_loopw [5] (fun i wr => ∃ m : Nat, (m = 0 ∨ m + 1 ≤ xs.length) ∧ i = .int .i64 ((m : Int) + 1) ∧ Hid (ascTo (xs.map (·.name)) (m + 1) = true) ∧ Below w.heap.size w wr) (fun i _ => xs.length + 1 - (intOf i).toNat)
 case atStart => exact ⟨0, .inl rfl, rfl, rfl, by go_grown⟩
 case round =>
  obtain ⟨m, hm, rfl, ho, hbel⟩ := hrel
  by_cases hlt : m + 1 < xs.length
  ·obtain ⟨x, hx⟩ : ∃ x, xs[m]? = some x := ⟨xs[m], List.getElem?_eq_getElem (by omega)⟩
   obtain ⟨y, hy⟩ : ∃ y, xs[m + 1]? = some y := ⟨xs[m + 1], List.getElem?_eq_getElem (by omega)⟩
   have HIR := HI.out.below SbtC.holds hbel (Nat.le_refl _)
   obtain ⟨b, o, rfl, _, _, hc⟩ := HIR.at hx
   obtain ⟨b', o', e', _, _, hc'⟩ := HIR.at hy
   cases e'
   obtain ⟨q0, q1, _⟩ := hc
   obtain ⟨r0, r1, _⟩ := hc'
   simp only [Nat.add_zero] at q0 q1 r0 r1
   have HA : Hid (ascAt (xs.map (·.name)) (m + 1) = Op.bytesLess x.name.toList y.name.toList) := ascAt_at (by rw [List.getElem?_map, hx]; rfl) (by rw [List.getElem?_map, hy]; rfl)
   have k0 := cell_regrown q0
   have l0 := cell_regrown r0
   have k1 := cell_regrown q1
   have l1 := cell_regrown r1
   have cX : ∀ d os, Calls Tryz.prog 104 #[.agg #[.string x.name, .bool x.drain]] (Sort.grow (redrawn wr d) os) fun e w'' => e = .returned (.string x.name) ∧ ∃ p : Regrown, w'' = Sort.grow (redrawn wr p.d) p.os := fun d os => Calls.regrown_of (nameSbt_any x _)
   have cY : ∀ d os, Calls Tryz.prog 104 #[.agg #[.string y.name, .bool y.drain]] (Sort.grow (redrawn wr d) os) fun e w'' => e = .returned (.string y.name) ∧ ∃ p : Regrown, w'' = Sort.grow (redrawn wr p.d) p.os := fun d os => Calls.regrown_of (nameSbt_any y _)
   have i0 : (0 : Int) ≤ (m : Int) := by omega
   have i1 : (m : Int) < (xs.length : Int) := by omega
   have i2 : (0 : Int) ≤ (m : Int) + 1 := by omega
   have i3 : (m : Int) + 1 < (xs.length : Int) := by omega
   clear hx hy q0 q1 r0 r1 HIR
   have HWM : Hid (IntKind.i64.wrap (m : Int) = (m : Int)) := by show _ = _; rw [IntKind.wrap_i64]; omega
   have HLT : Hid (m + 1 < xs.length) := hlt
   generalize hq : Op.bytesLess x.name.toList y.name.toList = Q at HA
   have HQ : Hid (Op.bytesLess x.name.toList y.name.toList = Q) := hq
   clear hq hlt
   go_wp2_with fail
   refine wp_region_quiet_below (by kernel_rfl) (by kernel_rfl) ?_
   repeat (quiet_step (first | exact cX _ _ | exact cY _ _))
   rw [HWM.out]
   repeat (quiet_step (first | exact cX _ _ | exact cY _ _))
   refine wpQuiet_nil ?_
   intro _ hw'
   obtain ⟨⟨dq, osq⟩, hw''⟩ := hw'
   have hB := hbel.trans ((below_regrown wr dq osq).mono hbel.size)
   simp only [] at hw''
   rw [← hw''] at hB
   clear hw'' cX cY k0 l0 k1 l1
   rw [HQ.out]
   cases Q with
   | false =>
    have HE := Hid.intro (ascTo_false HA.out _ HLT.out)
    go_wp2_with fail
    go_ret
    exact ⟨ret_bool HE.out.symm, hB⟩
   | true =>
    have HE : Hid (ascTo (xs.map (·.name)) (m + 1 + 1) = true) := by show _ = _; rw [ascTo, ho.out, HA.out]; rfl
    have hlt := HLT.out
    go_wp2_with fail
    go_roundw
    case rel => exact ⟨m + 1, .inr (by omega), by go_num, HE, hB⟩
    case measure => simp [intOf]; omega
  ·have HE : Hid (ascTo (xs.map (·.name)) xs.length = true) := by
    rcases (show m + 1 = xs.length ∨ xs.length = 0 by omega) with e | e
    ·rw [← e]; exact ho.out
    ·rw [e]; rfl
   go_wp2_with fail
   go_ret
   exact ⟨ret_bool HE.out.symm, hbel⟩

end Go.Proofs.YtnggdpjfmpjlhaaGreat
