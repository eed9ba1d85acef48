/-
  Walks: a berth, a service, what stands on a berth, by the specification (made by mksp.py).
-/
import Derived.Test.YtggbhggnemlpnaaGreatJ26
import Derived.Test.YtggbhggnemlpnaaGreatJ20
namespace Go.Proofs.YtggbhggnemlpnaaGreat
open Go.RowKit

def sBerth (x : Brt) : Bool := P.nameOk x.name && (P.nameOk x.zone && (smOk x.marks && (inB x.room 0 1000 && inB x.hold 0 1000)))

set_option maxHeartbeats 1000000 in
set_option maxRecDepth 100000 in
theorem sBerthOk_any (x : Brt) (a2 : Option Addr) (c2 lo : Nat) (w : World) (z0 : x.name.size ≤ maxLen) (z1 : x.zone.size ≤ maxLen) (hin : SliceC StrC 1 lo w a2 x.marks) :
    Calls Tryz.prog 53 #[.agg #[.string x.name, .string x.zone, .slice a2 x.marks.length c2, .int .i64 x.room, .int .i64 x.hold, .bool x.closed]] w fun e w' => e = .returned (.bool (sBerth x)) ∧ Below w.heap.size w w' := by
  have HI : Hid (SliceC StrC 1 lo w a2 x.marks) := hin
  have Z0 : Hid (x.name.size ≤ maxLen) := z0
  have Z1 : Hid (x.zone.size ≤ maxLen) := z1
  have HD : Hid (sBerth x = (P.nameOk x.name && (P.nameOk x.zone && (smOk x.marks && (inB x.room 0 1000 && inB x.hold 0 1000))))) := rfl
  clear hin z0 z1
  generalize sBerth x = V at *
  go_enter Tryz.func53, Tryz.ntmps53
  go_wp2_with fail
  have HR : Hid ((w.alloc (Obj.cells #[.string x.name, .string x.zone, .slice a2 x.marks.length c2, .int .i64 x.room, .int .i64 x.hold, .bool x.closed] 91)).rangeAt w.heap.size 0 [.string x.name, .string x.zone, .slice a2 x.marks.length c2, .int .i64 x.room, .int .i64 x.hold, .bool x.closed]) := range_cons (by simp) (range_cons (by simp) (range_cons (by simp) (range_cons (by simp) (range_cons (by simp) (range_cons (by simp) (range_nil _ _ _))))))
  have HB : Hid (Below w.heap.size w (w.alloc (Obj.cells #[.string x.name, .string x.zone, .slice a2 x.marks.length c2, .int .i64 x.room, .int .i64 x.hold, .bool x.closed] 91))) := (Below.refl _ _).alloc (Nat.le_refl _) _
  have HS : Hid (w.heap.size < (w.alloc (Obj.cells #[.string x.name, .string x.zone, .slice a2 x.marks.length c2, .int .i64 x.room, .int .i64 x.hold, .bool x.closed] 91)).heap.size) := by show _ < _; simp
  generalize w.alloc (Obj.cells #[.string x.name, .string x.zone, .slice a2 x.marks.length c2, .int .i64 x.room, .int .i64 x.hold, .bool x.closed] 91) = w0 at *
  refine (nameOk_any x.name _ Z0.out).mono ?_
  rintro e w1 ⟨rfl, rfl⟩
  cases h0 : P.nameOk x.name with
  | false =>
    have HC : Hid (V = false) := by show _ = _; rw [HD.out, h0]; rfl
    clear h0 HD
    go_wp2_with fail
    go_ret
    exact ⟨ret_bool HC.out.symm, HB.out⟩
  | true =>
  rw [h0, Bool.true_and] at HD
  clear h0
  have e1 : w1.cell? ⟨w.heap.size, 1, none⟩ = some (.string x.zone) := HR.out 1 _ rfl
  go_wp2_with fail
  clear e1
  refine (nameOk_any x.zone _ Z1.out).mono ?_
  rintro e w1 ⟨rfl, rfl⟩
  cases h0 : P.nameOk x.zone with
  | false =>
    have HC : Hid (V = false) := by show _ = _; rw [HD.out, h0]; rfl
    clear h0 HD
    go_wp2_with fail
    go_ret
    exact ⟨ret_bool HC.out.symm, HB.out⟩
  | true =>
  rw [h0, Bool.true_and] at HD
  clear h0
  have e2 : w1.cell? ⟨w.heap.size, 2, none⟩ = some (.slice a2 x.marks.length c2) := HR.out 2 _ rfl
  go_wp2_with fail
  clear e2
  refine (sMarksOk_any x.marks a2 c2 lo _ (HI.out.below StrC.holds HB.out (Nat.le_refl _))).mono ?_
  rintro e w2 ⟨rfl, hb⟩
  have HR2 : Hid (w2.rangeAt w.heap.size 0 [.string x.name, .string x.zone, .slice a2 x.marks.length c2, .int .i64 x.room, .int .i64 x.hold, .bool x.closed]) := range_belowV HR.out hb HS.out
  have HB2 : Hid (Below w.heap.size w w2) := HB.out.trans (hb.mono HB.out.size)
  clear hb HR HB HS
  cases h0 : smOk x.marks with
  | false =>
    have HC : Hid (V = false) := by show _ = _; rw [HD.out, h0]; rfl
    clear h0 HD
    go_wp2_with fail
    go_ret
    exact ⟨ret_bool HC.out.symm, HB2.out⟩
  | true =>
  rw [h0, Bool.true_and] at HD
  clear h0
  have e3 : w2.cell? ⟨w.heap.size, 3, none⟩ = some (.int .i64 x.room) := HR2.out 3 _ rfl
  go_wp2_with fail
  clear e3
  refine (in_any _ _ _ _).mono ?_
  rintro e w3 ⟨rfl, rfl⟩
  cases h0 : inB x.room 0 1000 with
  | false =>
    have HC : Hid (V = false) := by show _ = _; rw [HD.out, h0]; rfl
    clear h0 HD
    go_wp2_with fail
    go_ret
    exact ⟨ret_bool HC.out.symm, HB2.out⟩
  | true =>
  rw [h0, Bool.true_and] at HD
  clear h0
  have e4 : w3.cell? ⟨w.heap.size, 4, none⟩ = some (.int .i64 x.hold) := HR2.out 4 _ rfl
  go_wp2_with fail
  clear e4
  refine (in_any _ _ _ _).mono ?_
  rintro e w3 ⟨rfl, rfl⟩
  generalize inB x.hold 0 1000 = bb at *
  go_wp2_with fail
  go_ret
  exact ⟨ret_bool HD.out.symm, HB2.out⟩

/-- the place of a service, or -1 -/
def idxV (xs : List Svc) (s : ByteArray) : Int := match xs.findIdx? (fun b => decide (b.name = s)) with
  | some k => k
  | none => -1

theorem idxV_at {bs : List Svc} {s : ByteArray} {k : Nat} {x : Svc} (hk : bs[k]? = some x) (h : x.name = s) (ho : ∀ j b, j < k → bs[j]? = some b → b.name ≠ s) : idxV bs s = k := by
  have : bs.findIdx? (fun b => decide (b.name = s)) = some k := by
    rw [List.findIdx?_eq_some_iff_getElem]
    obtain ⟨hlt, hx⟩ := List.getElem?_eq_some_iff.mp hk
    refine ⟨hlt, by rw [hx]; exact decide_eq_true h, fun j hj => ?_⟩
    have := ho j bs[j] hj (List.getElem?_eq_getElem (by omega))
    simpa using this
  unfold idxV
  rw [this]

theorem idxV_none {bs : List Svc} {s : ByteArray} (ho : ∀ j b, j < bs.length → bs[j]? = some b → b.name ≠ s) : idxV bs s = -1 := by
  have : bs.findIdx? (fun b => decide (b.name = s)) = none := by
    rw [List.findIdx?_eq_none_iff]
    intro b hb
    obtain ⟨j, hj, e⟩ := List.mem_iff_getElem.mp hb
    have := ho j b hj (by rw [List.getElem?_eq_getElem hj, e])
    simpa using this
  unfold idxV
  rw [this]

set_option maxHeartbeats 1000000 in
theorem sService_any (x : Flt) (a1 : Option Addr) (c1 : Nat) (a2 : Option Addr) (c2 : Nat) (a3 : Option Addr) (c3 : Nat) (lo : Nat) (s : ByteArray) (w : World) (n1 : SliceC SvcC 2 lo w a2 x.services) (hl : x.services.length ≤ 1048576) :
    Calls Tryz.prog 50 #[.agg #[.bool x.pack, .slice a1 x.berths.length c1, .slice a2 x.services.length c2, .slice a3 x.copies.length c3], .string s] w fun e w' => e = .returned (.int .i64 (idxV x.services s)) ∧ Below w.heap.size w w' := by
  have HI : Hid (SliceC SvcC 2 lo w a2 x.services) := n1
  clear n1
  generalize hbs : x.services = bs at *
  clear hbs
  go_enter Tryz.func50, Tryz.ntmps50
  go_wp2_with fail
  go_loopw [5] (fun i wr => ∃ k : Nat, k ≤ bs.length ∧ i = .int .i64 k ∧ wr.cell? ⟨w.heap.size, 2, none⟩ = some (.slice a2 bs.length c2) ∧ Hid (∀ j b, j < k → bs[j]? = some b → b.name ≠ s) ∧ Below w.heap.size w wr) (fun i _ => bs.length - (intOf i).toNat)
  case atStart => exact ⟨0, Nat.zero_le _, rfl, by simp, fun j b h => by omega, by go_grown⟩
  case round =>
    obtain ⟨k, hk, rfl, hcell, ho, hbel⟩ := hrel
    by_cases hlt : k < bs.length
    · obtain ⟨y, hx⟩ : ∃ x, bs[k]? = some x := ⟨bs[k], List.getElem?_eq_getElem hlt⟩
      obtain ⟨b, o, rfl, _, _, hc⟩ := (HI.out.below SvcC.holds hbel (Nat.le_refl _)).at hx
      obtain ⟨q0, q1, z0⟩ := hc
      simp only [Nat.add_zero] at q0
      have HX : Hid (bs[k]? = some y) := hx
      clear hx q1 z0
      by_cases h : y.name = s
      · have HZ : Hid (idxV bs s = k) := idxV_at HX.out h ho.out
        have ht := bts_eq h
        clear h
        go_wp2_with fail
        go_ret
        exact ⟨ret_int HZ.out.symm, hbel⟩
      · have ht := bts_ne h
        go_wp2_with fail
        go_roundw
        case rel =>
          refine ⟨k + 1, by omega, by go_num, hcell, ?_, hbel⟩
          intro j y hj hy
          by_cases e : j = k
          · subst e
            rw [HX.out] at hy
            cases hy
            exact h
          · exact ho.out j y (by omega) hy
        case measure => simp [intOf]; omega
    · have hke : k = bs.length := by omega
      have HZ : Hid (idxV bs s = -1) := idxV_none (hke ▸ ho.out)
      go_wp2_with fail
      go_ret
      exact ⟨ret_int HZ.out.symm, hbel⟩

/-- how many of the first copies stand on a berth -/
def stdTo (cs : List Cpy) (s : ByteArray) : Nat → Nat
  | 0 => 0
  | k + 1 => match cs[k]? with
    | some c => if c.at_ = s then stdTo cs s k + 1 else stdTo cs s k
    | none => stdTo cs s k

theorem stdTo_le (cs : List Cpy) (s : ByteArray) : ∀ k, stdTo cs s k ≤ k
  | 0 => Nat.le_refl _
  | k + 1 => by
    have := stdTo_le cs s k
    unfold stdTo
    split
    · split <;> omega
    · omega

set_option maxHeartbeats 1000000 in
theorem sStand_any (x : Flt) (a1 : Option Addr) (c1 : Nat) (a2 : Option Addr) (c2 : Nat) (a3 : Option Addr) (c3 : Nat) (lo : Nat) (s : ByteArray) (w : World) (n1 : SliceC CpyC 12 lo w a3 x.copies) (hl : x.copies.length ≤ 1048576) :
    Calls Tryz.prog 54 #[.agg #[.bool x.pack, .slice a1 x.berths.length c1, .slice a2 x.services.length c2, .slice a3 x.copies.length c3], .string s] w fun e w' => e = .returned (.int .i64 (stdTo x.copies s x.copies.length)) ∧ Below w.heap.size w w' := by
  have HI : Hid (SliceC CpyC 12 lo w a3 x.copies) := n1
  clear n1
  generalize hbs : x.copies = bs at *
  clear hbs
  go_enter Tryz.func54, Tryz.ntmps54
  go_wp2_with fail
  go_loopw [5, 6] (fun v i wr => ∃ (k c : Nat), k ≤ bs.length ∧ i = .int .i64 k ∧ v = .int .i64 c ∧ c ≤ k ∧ Hid (c = stdTo bs s k) ∧ wr.cell? ⟨w.heap.size, 3, none⟩ = some (.slice a3 bs.length c3) ∧ Below w.heap.size w wr) (fun _ i _ => bs.length - (intOf i).toNat)
  case atStart => exact ⟨0, 0, Nat.zero_le _, rfl, rfl, Nat.le_refl _, rfl, by simp, by go_grown⟩
  case round =>
    obtain ⟨k, c, hk, rfl, rfl, hck, hcc, hcell, hbel⟩ := hrel
    by_cases hlt : k < bs.length
    · obtain ⟨y, hx⟩ : ∃ x, bs[k]? = some x := ⟨bs[k], List.getElem?_eq_getElem hlt⟩
      obtain ⟨b, o, rfl, _, _, hc⟩ := (HI.out.below CpyC.holds hbel (Nat.le_refl _)).at hx
      obtain ⟨a7, c7, q0, q1, q2, q3, q4, q5, q6, q7, q8, q9, q10, q11, _⟩ := hc
      have HX : Hid (bs[k]? = some y) := hx
      clear hx q0 q1 q2 q3 q4 q5 q6 q7 q8 q9 q10
      by_cases h : y.at_ = s
      · have HN : Hid (c + 1 = stdTo bs s (k + 1)) := by show _ = _; simp only [stdTo, HX.out, if_pos h, ← hcc.out]
        have ht := bts_eq h
        clear h hcc
        go_wp2_with fail
        go_roundw
        case rel => exact ⟨k + 1, c + 1, by omega, by go_num, by go_num, by omega, HN, hcell, hbel⟩
        case measure => simp [intOf]; omega
      · have HN : Hid (c = stdTo bs s (k + 1)) := by show _ = _; simp only [stdTo, HX.out, if_neg h, ← hcc.out]
        have ht := bts_ne h
        clear hcc
        go_wp2_with fail
        go_roundw
        case rel => exact ⟨k + 1, c, by omega, by go_num, rfl, by omega, HN, hcell, hbel⟩
        case measure => simp [intOf]; omega
    · have hke : k = bs.length := by omega
      subst hke
      go_wp2_with fail
      go_ret
      exact ⟨ret_int (by rw [hcc.out]), hbel⟩

end Go.Proofs.YtggbhggnemlpnaaGreat
