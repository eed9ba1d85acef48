/-
  Where a service and a berth are in a stewards' book; which of two copies is ahead: by the specification. Made by mkst2.py.
-/
import Derived.Test.YtnkggfnblcadoaaSt1
namespace Go.Proofs.Ytnkggfnblcadoaa
open Go.RowKit

theorem bts_eq {a b : ByteArray} (h : a = b) : (a.toList == b.toList) = true := bt_eq h
theorem bts_ne {a b : ByteArray} (h : ¬ a = b) : (a.toList == b.toList) = false := bt_ne h

def idxV (bs : List Ssv) (s : ByteArray) : Int := match bs.findIdx? (fun b => decide (b.name = s)) with
  | some k => k
  | none => -1

theorem idxV_at {bs : List Ssv} {s : ByteArray} {k : Nat} {b : Ssv} (hk : bs[k]? = some b) (h : b.name = s) (ho : ∀ j b, j < k → bs[j]? = some b → b.name ≠ s) : idxV bs s = k := by
  have : bs.findIdx? (fun b => decide (b.name = s)) = some k := by
    rw [List.findIdx?_eq_some_iff_getElem]
    have hlt := lt_of_some hk
    rw [List.getElem?_eq_getElem hlt] at hk
    injection hk with hk
    refine ⟨hlt, by simp [hk, h], fun j hj => ?_⟩
    have := ho j bs[j] hj (List.getElem?_eq_getElem (by omega))
    simpa using this
  simp [idxV, this]

theorem idxV_none {bs : List Ssv} {s : ByteArray} (ho : ∀ j b, j < bs.length → bs[j]? = some b → b.name ≠ s) : idxV bs s = -1 := by
  have : bs.findIdx? (fun b => decide (b.name = s)) = none := by
    rw [List.findIdx?_eq_none_iff]
    intro b hb
    obtain ⟨j, hj⟩ := List.getElem?_of_mem hb
    simpa using ho j b (lt_of_some hj) hj
  simp [idxV, this]

set_option maxHeartbeats 1000000 in
set_option maxRecDepth 100000 in
theorem service_at (x : Sbk) (a1 : Option Addr) (c1 : Nat) (a2 : Option Addr) (c2 : Nat) (a3 : Option Addr) (c3 : Nat) (lo : Nat) (s : ByteArray) (w : World) (n1 : SliceC SsvC 13 lo w a1 x.services) (hl : x.services.length ≤ 1048576) :
    Calls Try.prog 38 #[.agg #[.int .i64 x.now, .slice a1 x.services.length c1, .slice a2 x.copies.length c2, .slice a3 x.berths.length c3], .string s] w fun e w' => e = .returned (.int .i64 (idxV x.services s)) ∧ Below w.heap.size w w' := by
  have HI : Hid (SliceC SsvC 13 lo w a1 x.services) := n1
  clear n1
  generalize hbs : x.services = bs at *
  clear hbs
  go_enter Try.func38, Try.ntmps38
  go_wp2_with fail
  go_loopw [5] (fun i wr => ∃ k : Nat, k ≤ bs.length ∧ i = .int .i64 k ∧ wr.cell? ⟨w.heap.size, 1, none⟩ = some (.slice a1 bs.length c1) ∧ Hid (∀ j b, j < k → bs[j]? = some b → b.name ≠ s) ∧ Below w.heap.size w wr) (fun i _ => bs.length - (intOf i).toNat)
  case atStart => exact ⟨0, Nat.zero_le _, rfl, by simp, fun j b h => by omega, by go_grown⟩
  case round =>
    obtain ⟨k, hk, rfl, hcell, ho, hbel⟩ := hrel
    by_cases hlt : k < bs.length
    · obtain ⟨x, hx⟩ : ∃ x, bs[k]? = some x := ⟨bs[k], List.getElem?_eq_getElem hlt⟩
      obtain ⟨b, o, rfl, _, _, hc⟩ := (HI.out.below SsvC.holds hbel (Nat.le_refl _)).at hx
      obtain ⟨q0, q1, q2, q3, q4, q5, q6, q7, q8, q9, q10, q11, q12, z0⟩ := hc
      simp only [Nat.add_zero] at q0
      have HX : Hid (bs[k]? = some x) := hx
      clear hx q1 q2 q3 q4 q5 q6 q7 q8 q9 q10 q11 q12 z0
      by_cases h : x.name = s
      · have HZ : Hid (idxV bs s = k) := idxV_at HX.out h ho.out
        have ht := bts_eq h
        clear h
        go_wp2_with fail
        go_ret
        exact ⟨ret_int HZ.out.symm, hbel⟩
      · have ht := bts_ne h
        go_wp2_with fail
        go_roundw
        case rel =>
          refine ⟨k + 1, by omega, by go_num, hcell, ?_, hbel⟩
          intro j y hj hy
          by_cases e : j = k
          · subst e
            rw [HX.out] at hy
            cases hy
            exact h
          · exact ho.out j y (by omega) hy
        case measure => simp [intOf]; omega
    · have hke : k = bs.length := by omega
      have HZ : Hid (idxV bs s = -1) := idxV_none (hke ▸ ho.out)
      go_wp2_with fail
      go_ret
      exact ⟨ret_int HZ.out.symm, hbel⟩

def idxR (bs : List Sbt) (s : ByteArray) : Int := match bs.findIdx? (fun b => decide (b.name = s)) with
  | some k => k
  | none => -1

theorem idxR_at {bs : List Sbt} {s : ByteArray} {k : Nat} {b : Sbt} (hk : bs[k]? = some b) (h : b.name = s) (ho : ∀ j b, j < k → bs[j]? = some b → b.name ≠ s) : idxR bs s = k := by
  have : bs.findIdx? (fun b => decide (b.name = s)) = some k := by
    rw [List.findIdx?_eq_some_iff_getElem]
    have hlt := lt_of_some hk
    rw [List.getElem?_eq_getElem hlt] at hk
    injection hk with hk
    refine ⟨hlt, by simp [hk, h], fun j hj => ?_⟩
    have := ho j bs[j] hj (List.getElem?_eq_getElem (by omega))
    simpa using this
  simp [idxR, this]

theorem idxR_none {bs : List Sbt} {s : ByteArray} (ho : ∀ j b, j < bs.length → bs[j]? = some b → b.name ≠ s) : idxR bs s = -1 := by
  have : bs.findIdx? (fun b => decide (b.name = s)) = none := by
    rw [List.findIdx?_eq_none_iff]
    intro b hb
    obtain ⟨j, hj⟩ := List.getElem?_of_mem hb
    simpa using ho j b (lt_of_some hj) hj
  simp [idxR, this]

set_option maxHeartbeats 1000000 in
set_option maxRecDepth 100000 in
theorem berth_at (x : Sbk) (a1 : Option Addr) (c1 : Nat) (a2 : Option Addr) (c2 : Nat) (a3 : Option Addr) (c3 : Nat) (lo : Nat) (s : ByteArray) (w : World) (n1 : SliceC SbtC 2 lo w a3 x.berths) (hl : x.berths.length ≤ 1048576) :
    Calls Try.prog 39 #[.agg #[.int .i64 x.now, .slice a1 x.services.length c1, .slice a2 x.copies.length c2, .slice a3 x.berths.length c3], .string s] w fun e w' => e = .returned (.int .i64 (idxR x.berths s)) ∧ Below w.heap.size w w' := by
  have HI : Hid (SliceC SbtC 2 lo w a3 x.berths) := n1
  clear n1
  generalize hbs : x.berths = bs at *
  clear hbs
  go_enter Try.func39, Try.ntmps39
  go_wp2_with fail
  go_loopw [5] (fun i wr => ∃ k : Nat, k ≤ bs.length ∧ i = .int .i64 k ∧ wr.cell? ⟨w.heap.size, 3, none⟩ = some (.slice a3 bs.length c3) ∧ Hid (∀ j b, j < k → bs[j]? = some b → b.name ≠ s) ∧ Below w.heap.size w wr) (fun i _ => bs.length - (intOf i).toNat)
  case atStart => exact ⟨0, Nat.zero_le _, rfl, by simp, fun j b h => by omega, by go_grown⟩
  case round =>
    obtain ⟨k, hk, rfl, hcell, ho, hbel⟩ := hrel
    by_cases hlt : k < bs.length
    · obtain ⟨x, hx⟩ : ∃ x, bs[k]? = some x := ⟨bs[k], List.getElem?_eq_getElem hlt⟩
      obtain ⟨b, o, rfl, _, _, hc⟩ := (HI.out.below SbtC.holds hbel (Nat.le_refl _)).at hx
      obtain ⟨q0, q1, z0⟩ := hc
      simp only [Nat.add_zero] at q0
      have HX : Hid (bs[k]? = some x) := hx
      clear hx q1 z0
      by_cases h : x.name = s
      · have HZ : Hid (idxR bs s = k) := idxR_at HX.out h ho.out
        have ht := bts_eq h
        clear h
        go_wp2_with fail
        go_ret
        exact ⟨ret_int HZ.out.symm, hbel⟩
      · have ht := bts_ne h
        go_wp2_with fail
        go_roundw
        case rel =>
          refine ⟨k + 1, by omega, by go_num, hcell, ?_, hbel⟩
          intro j y hj hy
          by_cases e : j = k
          · subst e
            rw [HX.out] at hy
            cases hy
            exact h
          · exact ho.out j y (by omega) hy
        case measure => simp [intOf]; omega
    · have hke : k = bs.length := by omega
      have HZ : Hid (idxR bs s = -1) := idxR_none (hke ▸ ho.out)
      go_wp2_with fail
      go_ret
      exact ⟨ret_int HZ.out.symm, hbel⟩

/-- a copy ahead of another one -/
def ahB (x y : Scp) : Bool := Op.bytesLess x.service.toList y.service.toList || ((x.service.toList == y.service.toList) && decide (x.number < y.number))

set_option maxHeartbeats 2000000 in
set_option maxRecDepth 100000 in
theorem ahead18_any (x y : Scp) (w : World) :
    Calls Try.prog 25 #[.agg #[.string x.service, .int .i64 x.number, .int .i64 x.version, .int .i64 x.image, .int .i64 x.state, .bool x.ending, .string x.berth], .agg #[.string y.service, .int .i64 y.number, .int .i64 y.version, .int .i64 y.image, .int .i64 y.state, .bool y.ending, .string y.berth]] w fun e w' => e = .returned (.bool (ahB x y)) ∧ Below w.heap.size w w' := by
  cases h1 : Op.bytesLess x.service.toList y.service.toList with
  | true =>
    go_enter Try.func25, Try.ntmps25
    go_wp2_with fail
    go_ret
    exact ⟨ret_bool (by unfold ahB; rw [h1]; rfl), by go_grown⟩
  | false =>
    cases h2 : (x.service.toList == y.service.toList) with
    | false =>
      go_enter Try.func25, Try.ntmps25
      go_wp2_with fail
      go_ret
      exact ⟨ret_bool (by unfold ahB; rw [h1, h2]; rfl), by go_grown⟩
    | true =>
      go_enter Try.func25, Try.ntmps25
      go_wp2_with fail
      go_ret
      exact ⟨ret_bool (by unfold ahB; rw [h1, h2]; simp), by go_grown⟩

end Go.Proofs.Ytnkggfnblcadoaa
