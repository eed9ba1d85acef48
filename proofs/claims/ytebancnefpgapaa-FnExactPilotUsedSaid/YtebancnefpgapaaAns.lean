/-
  Walks: what is used of a berth, told by the specification and by the program.
-/
import Derived.Test.YtebancnefpgapaaFnd
import Derived.Maps.OwnOps
namespace Go.Proofs.Ytebancnefpgapaa
open Go.RowKit Go.WideMaps Go.Maps

theorem lastOf_none (ns : List ByteArray) (s : ByteArray) : ∀ k, lastOf ns s k = none ↔ ∀ j, j < k → ns[j]? ≠ some s
  | 0 => by simp [lastOf]
  | k + 1 => by
    unfold lastOf
    by_cases h : ns[k]? = some s
    · rw [if_pos h]
      constructor
      · intro e; cases e
      · intro e; exact absurd h (e k (by omega))
    · rw [if_neg h, lastOf_none ns s k]
      constructor
      · intro e j hj
        by_cases hjk : j = k
        · subst hjk; exact h
        · exact e j (by omega)
      · intro e j hj
        exact e j (by omega)

theorem idxB_lt (bs : List Brt) (s : ByteArray) : idxB bs s < 0 ↔ lastOf (bs.map (·.name)) s bs.length = none := by
  rw [lastOf_none]
  unfold idxB
  cases h : bs.findIdx? (fun b => decide (b.name = s)) with
  | none =>
    rw [List.findIdx?_eq_none_iff] at h
    constructor
    · intro _ j hj e
      rw [List.getElem?_map, List.getElem?_eq_getElem hj] at e
      simp at e
      have := h bs[j] (List.getElem_mem hj)
      simp at this
      exact this e
    · intro _; decide
  | some k =>
    rw [List.findIdx?_eq_some_iff_getElem] at h
    obtain ⟨hk, h1, _⟩ := h
    constructor
    · intro e
      simp at e
      omega
    · intro e
      refine absurd ?_ (e k hk)
      rw [List.getElem?_map, List.getElem?_eq_getElem hk]
      simpa using h1

theorem empty_toList {s : ByteArray} (h : s = ⟨#[]⟩) : s.toList = [] := by
  rw [ByteArray.toList_eq, h]

theorem nonempty_toList {s : ByteArray} (h : ¬ s = ⟨#[]⟩) : ¬ s.toList = [] := by
  intro e
  rw [ByteArray.toList_eq] at e
  apply h
  cases s with | mk x => cases x; simp at e; simp [e]

/-- what is used of a berth, behind the first k copies -/
def sumTo (cs : List Cpy) (s : ByteArray) (k : Nat) : Int × Int := if s = ⟨#[]⟩ then (0, 0) else (useTo cs s (-1) k).2

theorem sumTo_in {cs : List Cpy} {s : ByteArray} {k : Nat} {c : Cpy} (hs : ¬ s = ⟨#[]⟩) (hk : cs[k]? = some c) (h1 : c.at_ = s) : sumTo cs s (k + 1) = (wrap64 ((sumTo cs s k).1 + c.room), wrap64 ((sumTo cs s k).2 + c.hold)) := by
  unfold sumTo
  rw [if_neg hs, if_neg hs, useTo_in hk h1 (by omega)]

theorem sumTo_out {cs : List Cpy} {s : ByteArray} {k : Nat} {c : Cpy} (hk : cs[k]? = some c) (h : s = ⟨#[]⟩ ∨ ¬ c.at_ = s) : sumTo cs s (k + 1) = sumTo cs s k := by
  unfold sumTo
  by_cases hs : s = ⟨#[]⟩
  · rw [if_pos hs, if_pos hs]
  · rw [if_neg hs, if_neg hs, useTo_out hk (fun e => by rcases h with h | h; exact hs h; exact h e.1)]

/-- what is used of a berth -/
def usedR (x : Flt) (s : ByteArray) : Int × Int := if idxB x.berths s < 0 then (0, 0) else sumTo x.copies s x.copies.length

set_option maxHeartbeats 1000000 in
set_option maxRecDepth 100000 in
theorem specUsed_any (x : Flt) (a1 : Option Addr) (c1 : Nat) (a2 : Option Addr) (c2 : Nat) (a3 : Option Addr) (c3 : Nat) (lo : Nat) (s : ByteArray) (w : World) (n1 : SliceC BrtC 6 lo w a1 x.berths) (n3 : SliceC CpyC 12 lo w a3 x.copies) (l1 : x.berths.length ≤ 1048576) (l3 : x.copies.length ≤ 1048576) :
    Calls Try.prog 5 #[.agg #[.bool x.pack, .slice a1 x.berths.length c1, .slice a2 x.services.length c2, .slice a3 x.copies.length c3], .string s] w fun e w' => e = .returned (.tuple #[.int .i64 (usedR x s).1, .int .i64 (usedR x s).2]) ∧ Below w.heap.size w w' := by
  have HI : Hid (SliceC CpyC 12 lo w a3 x.copies) := n3
  have HJ : Hid (SliceC BrtC 6 lo w a1 x.berths) := n1
  clear n1 n3
  have HU : Hid (usedR x s = if idxB x.berths s < 0 then (0, 0) else sumTo x.copies s x.copies.length) := rfl
  generalize usedR x s = U at *
  go_enter Try.func5, Try.ntmps5
  go_wp2_with fail
  refine (l2Berth_any x a1 c1 a2 c2 a3 c3 lo s _ (HJ.out.below BrtC.holds (B := w.heap.size) (by go_grown) (Nat.le_refl _)) l1).mono ?_
  rintro e w1 ⟨rfl, hb1⟩
  have hB1 : Below w.heap.size w w1 := (show Below w.heap.size w _ by go_grown).trans (hb1.mono (by simp))
  have k1 : w1.cell? ⟨w.heap.size, 3, none⟩ = some (.slice a3 x.copies.length c3) := (hb1.cell (p := ⟨w.heap.size, 3, none⟩) (by simp)).trans (by simp)
  clear hb1
  generalize x.copies = cs at *
  generalize idxB x.berths s = I at *
  by_cases hI : I < 0
  · have HU2 : Hid (U = (0, 0)) := by rw [HU.out, if_pos hI]; rfl
    go_wp2_with fail
    go_ret2
    exact ⟨by rw [HU2.out]; rfl, hB1⟩
  · have HU2 : Hid (U = sumTo cs s cs.length) := by rw [HU.out, if_neg hI]; rfl
    have HSE : Hid (s = ⟨#[]⟩ ∨ ¬ s = ⟨#[]⟩) := Classical.em _
    go_wp2_with fail
    go_loopw [6, 7, 8] (fun r h i wr => ∃ k : Nat, k ≤ cs.length ∧ i = .int .i64 k ∧ r = .int .i64 (sumTo cs s k).1 ∧ h = .int .i64 (sumTo cs s k).2 ∧ wr.cell? ⟨w.heap.size, 3, none⟩ = some (.slice a3 cs.length c3) ∧ Below w.heap.size w wr) (fun _ _ i _ => cs.length - (intOf i).toNat)
    case atStart => exact ⟨0, Nat.zero_le _, rfl, by simp [sumTo, useTo], by simp [sumTo, useTo], k1, hB1⟩
    case round =>
      obtain ⟨k, hk, rfl, rfl, rfl, hcell, hbel⟩ := hrel
      by_cases hlt : k < cs.length
      · obtain ⟨x, hx⟩ : ∃ x, cs[k]? = some x := ⟨cs[k], List.getElem?_eq_getElem hlt⟩
        obtain ⟨b, o, rfl, _, _, hc⟩ := (HI.out.below CpyC.holds hbel (Nat.le_refl _)).at hx
        obtain ⟨a7, c7, q0, q1, q2, q3, q4, q5, q6, q7, q8, q9, q10, q11, _, _, _, _, _, _, _⟩ := hc
        have HX : Hid (cs[k]? = some x) := hx
        clear hx q0 q1 q2 q3 q6 q7 q8 q9 q10
        rcases HSE.out with hs | hs
        · have HV : Hid (sumTo cs s (k + 1) = sumTo cs s k) := sumTo_out HX.out (.inl hs)
          have hte := empty_toList hs
          have hte2 : s.toList.isEmpty = true := by rw [hte]; rfl
          clear hs
          go_wp2_with fail
          go_roundw
          case rel => exact ⟨k + 1, by omega, by go_num, by rw [HV.out], by rw [HV.out], hcell, hbel⟩
          case measure => simp [intOf]; omega
        · have hte := nonempty_toList hs
          have hte2 : s.toList.isEmpty = false := by
            cases h : s.toList with
            | nil => exact absurd h hte
            | cons a l => rfl
          by_cases h1 : x.at_ = s
          · have HV : Hid (sumTo cs s (k + 1) = _) := sumTo_in hs HX.out h1
            have htf := bts_eq h1
            clear h1 hs
            generalize hS : sumTo cs s k = S at *
            have HS : Hid (sumTo cs s k = S) := hS
            clear hS
            go_wp2_with fail
            go_roundw
            case rel => exact ⟨k + 1, by omega, by go_num, by rw [HV.out], by rw [HV.out], hcell, hbel⟩
            case measure => simp [intOf]; omega
          · have HV : Hid (sumTo cs s (k + 1) = sumTo cs s k) := sumTo_out HX.out (.inr h1)
            have htf := bts_ne h1
            clear h1 hs
            go_wp2_with fail
            go_roundw
            case rel => exact ⟨k + 1, by omega, by go_num, by rw [HV.out], by rw [HV.out], hcell, hbel⟩
            case measure => simp [intOf]; omega
      · have hke : k = cs.length := by omega
        subst hke
        go_wp2_with fail
        go_ret2
        exact ⟨by rw [HU2.out]; rfl, hbel⟩

set_option maxHeartbeats 1000000 in
set_option maxRecDepth 100000 in
theorem implUsed_any (x : Flt) (a1 : Option Addr) (c1 : Nat) (a2 : Option Addr) (c2 : Nat) (a3 : Option Addr) (c3 : Nat) (lo : Nat) (s : ByteArray) (w : World) (n1 : SliceC BrtC 6 lo w a1 x.berths) (n2 : SliceC SvcC 2 lo w a2 x.services) (n3 : SliceC CpyC 12 lo w a3 x.copies)
    (l1 : x.berths.length ≤ 1048576) (l2 : x.services.length ≤ 1048576) (l3 : x.copies.length ≤ 1048576) (hsl : s.size ≤ maxLen) :
    Calls Try.prog 7 #[.agg #[.bool x.pack, .slice a1 x.berths.length c1, .slice a2 x.services.length c2, .slice a3 x.copies.length c3], .string s] w fun e w' => e = .returned (.tuple #[.int .i64 (usedR x s).1, .int .i64 (usedR x s).2]) ∧ Below w.heap.size w w' := by
  have N1 : Hid (SliceC BrtC 6 lo w a1 x.berths) := n1
  have N2 : Hid (SliceC SvcC 2 lo w a2 x.services) := n2
  have N3 : Hid (SliceC CpyC 12 lo w a3 x.copies) := n3
  have hkey : keyOf Try.prog 9 (.string s) = some (kOf s) := keyOf_string_mk Try.underlying9 hsl
  clear n1 n2 n3
  have HC : Hid (usedR x s = if idxB x.berths s < 0 then (0, 0) else sumTo x.copies s x.copies.length) := rfl
  generalize usedR x s = U at *
  go_enter Try.func7, Try.ntmps7
  go_wp2_with fail
  refine (find_any x a1 c1 a2 c2 a3 c3 lo _ (N1.out.below BrtC.holds (B := w.heap.size) (by go_grown) (Nat.le_refl _)) (N2.out.below SvcC.holds (B := w.heap.size) (by go_grown) (Nat.le_refl _)) (N3.out.below CpyC.holds (B := w.heap.size) (by go_grown) (Nat.le_refl _)) l1 l2 l3).mono ?_
  rintro e w1 ⟨p, m1, m2, m3, m4, rfl, _, hrg, ho1, _, _, _, _, hb1⟩
  have HB1 : Hid (Below w.heap.size w w1) := (show Below w.heap.size w _ by go_grown).trans (hb1.mono (by simp))
  have k3 : w1.cell? ⟨p, 3, none⟩ = some (.slice a3 x.copies.length c3) := hrg 3 _ rfl
  have k4 : w1.cell? ⟨p, 4, none⟩ = some (.map (some m1)) := hrg 4 _ rfl
  have HO1 : Hid (w1.ownsMap Try.prog 9 (plainElem Try.prog 3) m1 x.berths.length (placesTo (x.berths.map (·.name)) x.berths.length)) := ho1
  clear hrg ho1 hb1
  have HH : Hid (has (placesTo (x.berths.map (·.name)) x.berths.length) (kOf s) = (lastOf (x.berths.map (·.name)) s x.berths.length).isSome) := has_places _ _ _
  have HL : Hid (idxB x.berths s < 0 ↔ lastOf (x.berths.map (·.name)) s x.berths.length = none) := idxB_lt _ _
  have HSu : Hid (sumTo x.copies s x.copies.length = if s = ⟨#[]⟩ then (0, 0) else (useTo x.copies s (-1) x.copies.length).2) := rfl
  generalize placesTo (x.berths.map (·.name)) x.berths.length = D at *
  go_upto_region 3 with (at_lookup; refine wpList_lookup_own_ok_int _ rfl _ _ 51 rfl 9 3 .i64 law_str Try.underlying51 Try.underlying3 (zero_int _) m1 _ _ rfl HO1.out _ _ rfl hkey ?_; intro c _ _)
  generalize has D (kOf s) = B at *
  cases B with
  | false =>
    have hn : lastOf (x.berths.map (·.name)) s x.berths.length = none := by
      have := HH.out
      cases h : lastOf (x.berths.map (·.name)) s x.berths.length with
      | none => rfl
      | some k => rw [h] at this; cases this
    have HU2 : Hid (U = (0, 0)) := by rw [HC.out, if_pos (HL.out.2 hn)]; rfl
    clear hn HH HL HC HSu
    go_wp2_with fail
    go_ret2
    exact ⟨by rw [HU2.out]; rfl, HB1.out⟩
  | true =>
    have hn : ¬ idxB x.berths s < 0 := by
      intro h
      have h2 := HL.out.1 h
      have := HH.out
      rw [h2] at this
      cases this
    have HU2 : Hid (U = sumTo x.copies s x.copies.length) := by rw [HC.out, if_neg hn]; rfl
    clear hn HH HL HC
    by_cases hs : s = ⟨#[]⟩
    · have HU3 : Hid (U = (0, 0)) := by rw [HU2.out, HSu.out, if_pos hs]; rfl
      have hte := empty_toList hs
      have hte2 : s.toList.isEmpty = true := by rw [hte]; rfl
      clear hs HU2 HSu
      go_wp2_with fail
      go_ret2
      exact ⟨by rw [HU3.out]; rfl, HB1.out⟩
    · have HU3 : Hid (U = (useTo x.copies s (-1) x.copies.length).2) := by rw [HU2.out, HSu.out, if_neg hs]; rfl
      have hte := nonempty_toList hs
      have hte2 : s.toList.isEmpty = false := by
        cases h : s.toList with
        | nil => exact absurd h hte
        | cons a l => rfl
      clear hs HU2 HSu
      go_wp2_with fail
      refine (used_any p x.copies a3 c3 lo s (-1) _ k3 (N3.out.below CpyC.holds (B := w.heap.size) HB1.out (Nat.le_refl _)) l3).mono ?_
      rintro e w2 ⟨rfl, hb2⟩
      have HB2 : Hid (Below w.heap.size w w2) := HB1.out.trans (hb2.mono HB1.out.size)
      clear hb2 k3 k4 HO1 HB1
      generalize useTo x.copies s (-1) x.copies.length = V at *
      have hle : w.heap.size ≤ w2.heap.size := HB2.out.size
      go_wp2_with fail
      go_region
      go_wp2_with fail
      go_ret2
      exact ⟨by rw [HU3.out]; rfl, by have := HB2.out; go_grown⟩

end Go.Proofs.Ytebancnefpgapaa
