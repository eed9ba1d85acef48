/-
  Where a copy is in a stewards' book, by the specification. Made by mkst7.py.
-/
import Derived.Test.YtfbmljdlkgiliaaSt6
namespace Go.Proofs.Ytfbmljdlkgiliaa
open Go.RowKit

def isC (s : ByteArray) (n : Int) (c : Scp) : Bool := decide (c.service = s) && decide (c.number = n)
def idxC (l : List Scp) (s : ByteArray) (n : Int) : Int := match l.findIdx? (isC s n) with
  | some k => (k : Int)
  | none => -1

theorem idxC_at {l : List Scp} {s : ByteArray} {n : Int} {k : Nat} {c : Scp} (hk : l[k]? = some c) (h : isC s n c = true) (ho : ∀ j c, j < k → l[j]? = some c → isC s n c = false) : idxC l s n = k := by
  have : l.findIdx? (isC s n) = some k := by
    rw [List.findIdx?_eq_some_iff_getElem]
    obtain ⟨hlt, e⟩ := List.getElem?_eq_some_iff.1 hk
    refine ⟨hlt, by rw [e]; exact h, fun j hj => ?_⟩
    have := ho j l[j] hj (List.getElem?_eq_getElem (by omega))
    simpa using this
  simp [idxC, this]

theorem idxC_none {l : List Scp} {s : ByteArray} {n : Int} (ho : ∀ j c, j < l.length → l[j]? = some c → isC s n c = false) : idxC l s n = -1 := by
  have : l.findIdx? (isC s n) = none := by
    rw [List.findIdx?_eq_none_iff]
    intro c hc
    obtain ⟨j, hj⟩ := List.getElem?_of_mem hc
    exact ho j c (lt_of_some hj) hj
  simp [idxC, this]

theorem idxC_cases (l : List Scp) (s : ByteArray) (n : Int) : (idxC l s n = -1 ∧ l.find? (isC s n) = none) ∨ ∃ (k : Nat) (c : Scp), idxC l s n = (k : Int) ∧ l[k]? = some c ∧ l.find? (isC s n) = some c := by
  cases h : l.findIdx? (isC s n) with
  | none =>
    refine .inl ⟨by unfold idxC; rw [h], ?_⟩
    rw [List.find?_eq_none]
    intro b hb
    have := List.findIdx?_eq_none_iff.1 h b hb
    simpa using this
  | some k =>
    obtain ⟨hk, h1, h2⟩ := List.findIdx?_eq_some_iff_getElem.1 h
    refine .inr ⟨k, l[k], by unfold idxC; rw [h], List.getElem?_eq_getElem hk, ?_⟩
    rw [List.find?_eq_some_iff_getElem]
    exact ⟨h1, k, hk, rfl, fun j hj => by have := h2 j hj; simpa using this⟩

set_option maxHeartbeats 2000000 in
set_option maxRecDepth 100000 in
theorem copy_at (x : Sbk) (a1 : Option Addr) (c1 : Nat) (a2 : Option Addr) (c2 : Nat) (a3 : Option Addr) (c3 : Nat) (lo : Nat) (s : ByteArray) (n : Int) (w : World) (n1 : SliceC ScpC 7 lo w a2 x.copies) (hl : x.copies.length ≤ 1048576) :
    Calls Try.prog 31 #[.agg #[.int .i64 x.now, .slice a1 x.services.length c1, .slice a2 x.copies.length c2, .slice a3 x.berths.length c3], .string s, .int .i64 n] w fun e w' => e = .returned (.int .i64 (idxC x.copies s n)) ∧ Below w.heap.size w w' := by
  have HI : Hid (SliceC ScpC 7 lo w a2 x.copies) := n1
  clear n1
  generalize hbs : x.copies = bs at *
  clear hbs
  go_enter Try.func31, Try.ntmps31
  go_wp2_with fail
  go_loopw [7] (fun i wr => ∃ k : Nat, k ≤ bs.length ∧ i = .int .i64 k ∧ wr.cell? ⟨w.heap.size, 2, none⟩ = some (.slice a2 bs.length c2) ∧ Hid (∀ j c, j < k → bs[j]? = some c → isC s n c = false) ∧ Below w.heap.size w wr) (fun i _ => bs.length - (intOf i).toNat)
  case atStart => exact ⟨0, Nat.zero_le _, rfl, by simp, fun j b h => by omega, by go_grown⟩
  case round =>
    obtain ⟨k, hk, rfl, hcell, ho, hbel⟩ := hrel
    by_cases hlt : k < bs.length
    · obtain ⟨y, hx⟩ : ∃ y, bs[k]? = some y := ⟨bs[k], List.getElem?_eq_getElem hlt⟩
      obtain ⟨b, o, rfl, _, _, hc⟩ := (HI.out.below ScpC.holds hbel (Nat.le_refl _)).at hx
      obtain ⟨q0, q1, q2, q3, q4, q5, q6, z0, z1⟩ := hc
      simp only [Nat.add_zero] at q0
      have HX : Hid (bs[k]? = some y) := hx
      clear hx q2 q3 q4 q5 q6 z0 z1
      cases hs : (y.service.toList == s.toList) with
      | false =>
        have HN : Hid (isC s n y = false) := by
          show _ = _
          unfold isC
          rw [decide_eq_false (fun e => by rw [bt_eq e] at hs; cases hs)]
          rfl
        go_wp2_with fail
        go_roundw
        case rel =>
          refine ⟨k + 1, by omega, by go_num, hcell, ?_, hbel⟩
          intro j p hj hp
          by_cases e : j = k
          · subst e
            rw [HX.out] at hp
            cases hp
            exact HN.out
          · exact ho.out j p (by omega) hp
        case measure => simp [intOf]; omega
      | true =>
        have HS : Hid (y.service = s) := by
          show _ = _
          refine Classical.byContradiction fun e => ?_
          rw [bt_ne e] at hs
          cases hs
        cases hn : (y.number == n) with
        | false =>
          have HN : Hid (isC s n y = false) := by
            show _ = _
            unfold isC
            rw [decide_eq_false (fun e : y.number = n => by rw [e] at hn; simp at hn)]
            simp
          go_wp2_with fail
          go_roundw
          case rel =>
            refine ⟨k + 1, by omega, by go_num, hcell, ?_, hbel⟩
            intro j p hj hp
            by_cases e : j = k
            · subst e
              rw [HX.out] at hp
              cases hp
              exact HN.out
            · exact ho.out j p (by omega) hp
          case measure => simp [intOf]; omega
        | true =>
          have HZ : Hid (idxC bs s n = k) := idxC_at HX.out (by unfold isC; rw [HS.out, eq_of_beq hn]; simp) ho.out
          go_wp2_with fail
          go_ret
          exact ⟨ret_int HZ.out.symm, hbel⟩
    · have hke : k = bs.length := by omega
      have HZ : Hid (idxC bs s n = -1) := idxC_none (hke ▸ ho.out)
      go_wp2_with fail
      go_ret
      exact ⟨ret_int HZ.out.symm, hbel⟩

end Go.Proofs.Ytfbmljdlkgiliaa
