/-
  A stewards' book that is valid, by the specification. Made by mkst4.py.
-/
import Derived.Test.YtnkggfnblcadoaaSt3
namespace Go.Proofs.Ytnkggfnblcadoaa
open Go.RowKit

theorem rngB {w w' : World} {g o B : Nat} {l : List Value} (h : w.rangeAt g o l) (hb : Below B w w') (hB : g < B) : w'.rangeAt g o l := by
  intro j v hj
  rw [hb.cell (p := ⟨g, _, none⟩) hB]
  exact h j v hj

theorem rngSsv {lo : Nat} {w : World} {b o : Nat} {x : Ssv} (h : SsvC lo w (fun i => w.cell? ⟨b, o + i, none⟩) x) : w.rangeAt b o [.string x.name, .int .i64 x.version, .bool x.gone, .int .i64 x.image, .int .i64 x.want, .int .i64 x.down, .int .i64 x.over, .int .i64 x.next, .int .i64 x.per, .int .i64 x.least, .int .i64 x.most, .int .i64 x.load, .int .i64 x.cool] := by
  obtain ⟨q0, q1, q2, q3, q4, q5, q6, q7, q8, q9, q10, q11, q12, _⟩ := h
  simp only [Nat.add_zero] at q0
  exact range_cons q0 (range_cons q1 (range_cons q2 (range_cons q3 (range_cons q4 (range_cons q5 (range_cons q6 (range_cons q7 (range_cons q8 (range_cons q9 (range_cons q10 (range_cons q11 (range_cons q12 (range_nil _ _ _)))))))))))))

theorem rngSbt {lo : Nat} {w : World} {b o : Nat} {x : Sbt} (h : SbtC lo w (fun i => w.cell? ⟨b, o + i, none⟩) x) : w.rangeAt b o [.string x.name, .bool x.drain] := by
  obtain ⟨q0, q1, _⟩ := h
  simp only [Nat.add_zero] at q0
  exact range_cons q0 (range_cons q1 (range_nil _ _ _))

theorem rngScp {lo : Nat} {w : World} {b o : Nat} {x : Scp} (h : ScpC lo w (fun i => w.cell? ⟨b, o + i, none⟩) x) : w.rangeAt b o [.string x.service, .int .i64 x.number, .int .i64 x.version, .int .i64 x.image, .int .i64 x.state, .bool x.ending, .string x.berth] := by
  obtain ⟨q0, q1, q2, q3, q4, q5, q6, _, _⟩ := h
  simp only [Nat.add_zero] at q0
  exact range_cons q0 (range_cons q1 (range_cons q2 (range_cons q3 (range_cons q4 (range_cons q5 (range_cons q6 (range_nil _ _ _)))))))

/-- a book that is valid -/
structure SVal (x : Sbk) : Prop where
  now : inR x.now 0 1000000 = true
  l1 : x.services.length ≤ 8
  l2 : x.copies.length ≤ 200
  l3 : x.berths.length ≤ 6
  s1 : ∀ (j : Nat) y, x.services[j]? = some y → svB y x.now = true
  s2 : ∀ (j : Nat) u v, x.services[j]? = some u → x.services[j + 1]? = some v → Op.bytesLess u.name.toList v.name.toList = true
  b1 : ∀ (j : Nat) y, x.berths[j]? = some y → snB y.name = true
  b2 : ∀ (j : Nat) u v, x.berths[j]? = some u → x.berths[j + 1]? = some v → Op.bytesLess u.name.toList v.name.toList = true
  c1 : ∀ (j : Nat) y, x.copies[j]? = some y → cpB x y = true
  c2 : ∀ (j : Nat) u v, x.copies[j]? = some u → x.copies[j + 1]? = some v → ahB u v = true

/-- whether it is, is answered -/
def SvRes (x : Sbk) (w : World) (e : Ending) (w' : World) : Prop := ∃ t : Bool, e = .returned (.bool t) ∧ (t = true ↔ SVal x) ∧ Below w.heap.size w w'

set_option maxHeartbeats 16000000 in
set_option maxRecDepth 100000 in
theorem specSVal_any (x : Sbk) (a1 : Option Addr) (c1 : Nat) (a2 : Option Addr) (c2 : Nat) (a3 : Option Addr) (c3 : Nat) (lo : Nat) (w : World) (n1 : SliceC SsvC 13 lo w a1 x.services) (n2 : SliceC ScpC 7 lo w a2 x.copies) (n3 : SliceC SbtC 2 lo w a3 x.berths) :
    Calls Try.prog 11 #[.agg #[.int .i64 x.now, .slice a1 x.services.length c1, .slice a2 x.copies.length c2, .slice a3 x.berths.length c3]] w fun e w' => SvRes x w e w' := by
  have HN1 := Hid.intro n1
  have HN2 := Hid.intro n2
  have HN3 := Hid.intro n3
  clear n1 n2 n3
  have HK1 : Hid (Blk w.heap.size #[.int .i64 x.now, .slice a1 x.services.length c1, .slice a2 x.copies.length c2, .slice a3 x.berths.length c3] 37 (w.alloc (Obj.cells #[.int .i64 x.now, .slice a1 x.services.length c1, .slice a2 x.copies.length c2, .slice a3 x.berths.length c3] 37))) := Blk.alloc _ _ _
  have hB1 : Below w.heap.size w (w.alloc (Obj.cells #[.int .i64 x.now, .slice a1 x.services.length c1, .slice a2 x.copies.length c2, .slice a3 x.berths.length c3] 37)) := by go_grown
  go_enter Try.func11, Try.ntmps11
  go_upto_region 1 with fail
  generalize w.alloc (Obj.cells #[.int .i64 x.now, .slice a1 x.services.length c1, .slice a2 x.copies.length c2, .slice a3 x.berths.length c3] 37) = w1 at *
  have k0 : w1.cell? ⟨w.heap.size, 0, none⟩ = some (.int .i64 x.now) := HK1.out.cell rfl
  have k1 : w1.cell? ⟨w.heap.size, 1, none⟩ = some (.slice a1 x.services.length c1) := HK1.out.cell rfl
  have k2 : w1.cell? ⟨w.heap.size, 2, none⟩ = some (.slice a2 x.copies.length c2) := HK1.out.cell rfl
  have k3 : w1.cell? ⟨w.heap.size, 3, none⟩ = some (.slice a3 x.berths.length c3) := HK1.out.cell rfl
  go_wp2_with fail
  refine (in18_any x.now 0 1000000 _).mono ?_
  rintro e w1 ⟨rfl, rfl⟩
  cases h0 : inR x.now 0 1000000 with
  | false =>
    go_wp2_with fail
    go_ret
    exact ⟨false, rfl, ⟨fun h => (by cases h), fun h => (by have := h.now; rw [h0] at this; cases this)⟩, hB1⟩
  | true =>
    by_cases hl_services : x.services.length ≤ 8
    case neg =>
      have hi : (8 : Int) < (x.services.length : Int) := by omega
      go_wp2_with fail
      go_ret
      exact ⟨false, rfl, ⟨fun h => (by cases h), fun h => (absurd h.l1 hl_services)⟩, hB1⟩
    have hj_services : (x.services.length : Int) ≤ 8 := by omega
    by_cases hl_copies : x.copies.length ≤ 200
    case neg =>
      have hi : (200 : Int) < (x.copies.length : Int) := by omega
      go_wp2_with fail
      go_ret
      exact ⟨false, rfl, ⟨fun h => (by cases h), fun h => (absurd h.l2 hl_copies)⟩, hB1⟩
    have hj_copies : (x.copies.length : Int) ≤ 200 := by omega
    by_cases hl_berths : x.berths.length ≤ 6
    case neg =>
      have hi : (6 : Int) < (x.berths.length : Int) := by omega
      go_wp2_with fail
      go_ret
      exact ⟨false, rfl, ⟨fun h => (by cases h), fun h => (absurd h.l3 hl_berths)⟩, hB1⟩
    have hj_berths : (x.berths.length : Int) ≤ 6 := by omega
    go_upto_region 3 with fail
    clear k0 k1 k2 k3
    go_wp2_with fail
    go_loopw [3] (fun i wr => ∃ k : Nat, k ≤ x.services.length ∧ i = .int .i64 k ∧ Hid (∀ (j : Nat) y, j < k → x.services[j]? = some y → svB y x.now = true) ∧ Hid (∀ (j : Nat) u v, j + 1 < k → x.services[j]? = some u → x.services[j + 1]? = some v → Op.bytesLess u.name.toList v.name.toList = true) ∧ Below w1.heap.size w1 wr) (fun i _ => x.services.length - (intOf i).toNat)
    case atStart => exact ⟨0, Nat.zero_le _, rfl, fun j y h => by omega, fun j u v h => by omega, Below.refl _ _⟩
    case round =>
      obtain ⟨k, hk, rfl, hN, hA, hBB⟩ := hrel
      have hB := hB1.trans (hBB.mono hB1.size)
      have HKW := Hid.intro (HK1.out.below hBB HK1.out.lt)
      have kk : wr.cell? ⟨w.heap.size, 1, none⟩ = some (.slice a1 x.services.length c1) := HKW.out.cell rfl
      by_cases hlt : k < x.services.length
      case neg =>
        have hke : k = x.services.length := by omega
        subst hke
        have Hs1 : Hid (∀ (j : Nat) y, x.services[j]? = some y → svB y x.now = true) := fun j y h => hN.out j y (List.getElem?_eq_some_iff.1 h).1 h
        have Hs2 : Hid (∀ (j : Nat) u v, x.services[j]? = some u → x.services[j + 1]? = some v → Op.bytesLess u.name.toList v.name.toList = true) := fun j u v h h2 => hA.out j u v (List.getElem?_eq_some_iff.1 h2).1 h h2
        clear hN hA
        have HNX : Hid (∀ v ∈ x.services, 1 ≤ v.next ∧ v.next ≤ 1000000) := by
          intro v hv
          obtain ⟨j, hj⟩ := List.getElem?_of_mem hv
          have h9 := Hs1.out j v hj
          unfold svB at h9
          simp [inR] at h9
          exact ⟨by omega, by omega⟩
        go_upto_region 8 with fail
        clear kk hlt hk HKW hB
        go_wp2_with fail
        go_loopw [4] (fun i wr => ∃ k : Nat, k ≤ x.berths.length ∧ i = .int .i64 k ∧ Hid (∀ (j : Nat) y, j < k → x.berths[j]? = some y → snB y.name = true) ∧ Hid (∀ (j : Nat) u v, j + 1 < k → x.berths[j]? = some u → x.berths[j + 1]? = some v → Op.bytesLess u.name.toList v.name.toList = true) ∧ Below w1.heap.size w1 wr) (fun i _ => x.berths.length - (intOf i).toNat)
        case atStart => exact ⟨0, Nat.zero_le _, rfl, fun j y h => by omega, fun j u v h => by omega, hBB⟩
        case round =>
          clear hBB
          obtain ⟨k, hk, rfl, hN, hA, hBB⟩ := hrel
          have hB := hB1.trans (hBB.mono hB1.size)
          have HKW := Hid.intro (HK1.out.below hBB HK1.out.lt)
          have kk : wr.cell? ⟨w.heap.size, 3, none⟩ = some (.slice a3 x.berths.length c3) := HKW.out.cell rfl
          by_cases hlt : k < x.berths.length
          case neg =>
            have hke : k = x.berths.length := by omega
            subst hke
            have Hb1 : Hid (∀ (j : Nat) y, x.berths[j]? = some y → snB y.name = true) := fun j y h => hN.out j y (List.getElem?_eq_some_iff.1 h).1 h
            have Hb2 : Hid (∀ (j : Nat) u v, x.berths[j]? = some u → x.berths[j + 1]? = some v → Op.bytesLess u.name.toList v.name.toList = true) := fun j u v h h2 => hA.out j u v (List.getElem?_eq_some_iff.1 h2).1 h h2
            clear hN hA
            go_upto_region 13 with fail
            clear kk hlt hk HKW hB
            go_wp2_with fail
            go_loopw [5] (fun i wr => ∃ k : Nat, k ≤ x.copies.length ∧ i = .int .i64 k ∧ Hid (∀ (j : Nat) y, j < k → x.copies[j]? = some y → cpB x y = true) ∧ Hid (∀ (j : Nat) u v, j + 1 < k → x.copies[j]? = some u → x.copies[j + 1]? = some v → ahB u v = true) ∧ Below w1.heap.size w1 wr) (fun i _ => x.copies.length - (intOf i).toNat)
            case atStart => exact ⟨0, Nat.zero_le _, rfl, fun j y h => by omega, fun j u v h => by omega, hBB⟩
            case round =>
              clear hBB
              obtain ⟨k, hk, rfl, hN, hA, hBB⟩ := hrel
              have hB := hB1.trans (hBB.mono hB1.size)
              have HKW := Hid.intro (HK1.out.below hBB HK1.out.lt)
              have kk : wr.cell? ⟨w.heap.size, 2, none⟩ = some (.slice a2 x.copies.length c2) := HKW.out.cell rfl
              by_cases hlt : k < x.copies.length
              case neg =>
                have hke : k = x.copies.length := by omega
                subst hke
                have Hc1 : Hid (∀ (j : Nat) y, x.copies[j]? = some y → cpB x y = true) := fun j y h => hN.out j y (List.getElem?_eq_some_iff.1 h).1 h
                have Hc2 : Hid (∀ (j : Nat) u v, x.copies[j]? = some u → x.copies[j + 1]? = some v → ahB u v = true) := fun j u v h h2 => hA.out j u v (List.getElem?_eq_some_iff.1 h2).1 h h2
                clear hN hA
                go_wp2_with fail
                go_ret
                exact ⟨true, rfl, ⟨fun _ => ⟨h0, hl_services, hl_copies, hl_berths, Hs1.out, Hs2.out, Hb1.out, Hb2.out, Hc1.out, Hc2.out⟩, fun _ => rfl⟩, hB⟩
              obtain ⟨y, hy⟩ : ∃ y, x.copies[k]? = some y := ⟨x.copies[k], List.getElem?_eq_getElem hlt⟩
              have HIR := Hid.intro (HN2.out.below ScpC.holds hB (Nat.le_refl _))
              obtain ⟨b, o, ea, _, hbl, hc⟩ := HIR.out.at hy
              subst ea
              have hz := hc
              obtain ⟨_, _, _, _, _, _, _, z0, z1⟩ := hz
              have HRY := Hid.intro (rngScp hc)
              have Z0 := Hid.intro z0
              have HYY := Hid.intro hy
              clear z0 z1 hc hy
              go_upto_region 16 with fail
              clear kk
              cases hro : cpB x y with
              | false =>
                have HRO := Hid.intro hro
                refine wp_region_held_drew (S := fun wy => Blk w.heap.size #[.int .i64 x.now, .slice a1 x.services.length c1, .slice (some ⟨b, o, none⟩) x.copies.length c2, .slice a3 x.berths.length c3] 37 wy ∧ wy.rangeAt b (o + k * 7) [.string y.service, .int .i64 y.number, .int .i64 y.version, .int .i64 y.image, .int .i64 y.state, .bool y.ending, .string y.berth]) (by kernel_rfl) ⟨HKW.out.drew, HRY.out⟩ (fun hS => ?_)
                have HB : Hid (Below w1.heap.size w1 wr.drew) := hBB.drew
                replace hbl : b < wr.drew.heap.size := hbl
                generalize wr.drew = wn at *
                refine wpAnyH_take (i := 0) (oi := { dst := some 106, op := _, type := _, pos := _, after := _, guard := none }) (v := .agg #[.int .i64 x.now, .slice a1 x.services.length c1, .slice (some ⟨b, o, none⟩) x.copies.length c2, .slice a3 x.berths.length c3]) rfl (by kernel_rfl) (by kernel_rfl) (by kernel_rfl) (fun _ _ _ h => h) (yieldsIf_load_mid (by rfl) _ _ rfl w.heap.size (0) rfl [.int .i64 x.now, .slice a1 x.services.length c1, .slice (some ⟨b, o, none⟩) x.copies.length c2, .slice a3 x.berths.length c3] _ (fun _ h => h.1.rangeA) Try.underlying37 rfl isz_Sbk) hS ?_
                simp only [Act.put, List.setIfInBounds_toArray, List.set_cons_zero, List.set_cons_succ]
                refine wpAnyH_take (i := 1) (oi := { dst := some 107, op := _, type := _, pos := _, after := _, guard := none }) (v := .pointer (some ⟨w.heap.size, 2, none⟩)) rfl (by kernel_rfl) (by kernel_rfl) (by kernel_rfl) (fun _ _ _ h => h) (Or.inl ⟨by rfl, ?_⟩) hS ?_
                · intro wy hy
                  clear hy
                  go_simp
                simp only [Act.put, List.setIfInBounds_toArray, List.set_cons_zero, List.set_cons_succ]
                refine wpAnyH_take (i := 2) (oi := { dst := some 108, op := _, type := _, pos := _, after := _, guard := none }) (v := .slice (some ⟨b, o, none⟩) x.copies.length c2) rfl (by kernel_rfl) (by kernel_rfl) (by kernel_rfl) (fun _ _ _ h => h) (Or.inl ⟨by rfl, ?_⟩) hS ?_
                · intro wy hy
                  have h := id hy
                  have h0 := h.1.cell (o := 2) rfl
                  clear hy
                  go_simp
                simp only [Act.put, List.setIfInBounds_toArray, List.set_cons_zero, List.set_cons_succ]
                refine wpAnyH_take (i := 3) (oi := { dst := some 109, op := _, type := _, pos := _, after := _, guard := none }) (v := .int .i64 (k : Int)) rfl (by kernel_rfl) (by kernel_rfl) (by kernel_rfl) (fun _ _ _ h => h) (Or.inl ⟨by rfl, ?_⟩) hS ?_
                · intro wy hy
                  clear hy
                  go_simp
                simp only [Act.put, List.setIfInBounds_toArray, List.set_cons_zero, List.set_cons_succ]
                refine wpAnyH_take (i := 4) (oi := { dst := some 110, op := _, type := _, pos := _, after := _, guard := none }) (v := .pointer (some ⟨b, o + k * 7, none⟩)) rfl (by kernel_rfl) (by kernel_rfl) (by kernel_rfl) (fun _ _ _ h => h) (Or.inl ⟨by rfl, ?_⟩) hS ?_
                · intro wy hy
                  clear hy
                  first | (go_simp; done) | (go_simp; omega) | (go_simp; intro hh; omega)
                simp only [Act.put, List.setIfInBounds_toArray, List.set_cons_zero, List.set_cons_succ]
                refine wpAnyH_take (i := 5) (oi := { dst := some 111, op := _, type := _, pos := _, after := _, guard := none }) (v := .agg #[.string y.service, .int .i64 y.number, .int .i64 y.version, .int .i64 y.image, .int .i64 y.state, .bool y.ending, .string y.berth]) rfl (by kernel_rfl) (by kernel_rfl) (by kernel_rfl) (fun _ _ _ h => h) (yieldsIf_load_mid (by rfl) _ _ rfl b (o + k * 7) rfl [.string y.service, .int .i64 y.number, .int .i64 y.version, .int .i64 y.image, .int .i64 y.state, .bool y.ending, .string y.berth] _ (fun _ h => h.2) Try.underlying65 rfl isz_Scp) hS ?_
                simp only [Act.put, List.setIfInBounds_toArray, List.set_cons_zero, List.set_cons_succ]
                refine wpAnyH_ready (rs := [6]) (by kernel_rfl) (by simp) (AllReadyH.cons (o := { dst := some 112, op := _, type := _, pos := _, after := _, guard := none }) rfl (fun KK hKK => ?_) AllReadyH.nil)
                go_simp
                refine (copy18_any x a1 c1 (some ⟨b, o, none⟩) c2 a3 c3 lo y _ (HN1.out.below SsvC.holds (hB1.trans (HB.out.mono hB1.size)) (Nat.le_refl _)) (HN3.out.below SbtC.holds (hB1.trans (HB.out.mono hB1.size)) (Nat.le_refl _)) (by omega) (by omega) HNX.out).mono ?_
                rintro e w5 ⟨rfl, hb⟩
                rw [HRO.out]
                replace HB : Hid (Below w1.heap.size w1 w5) := HB.out.trans (hb.mono HB.out.size)
                refine hKK.out _ _ ⟨hS.1.below hb hS.1.lt, rngB hS.2 hb hbl⟩ (fun hS => ?_)
                clear hKK KK
                replace hbl : b < w5.heap.size := Nat.lt_of_lt_of_le hbl hb.size
                clear hb
                generalize w5 = wn at *
                refine wpAnyH_take (i := 7) (oi := { dst := some 113, op := _, type := _, pos := _, after := _, guard := none }) (v := .bool true) rfl (by kernel_rfl) (by kernel_rfl) (by kernel_rfl) (fun _ _ _ h => h) (Or.inl ⟨by rfl, ?_⟩) hS ?_
                · intro wy hy
                  clear hy
                  go_simp
                simp only [Act.put, List.setIfInBounds_toArray, List.set_cons_zero, List.set_cons_succ]
                refine wpAnyH_take (i := 8) (oi := { dst := some 114, op := _, type := _, pos := _, after := _, guard := none }) (v := .bool true) rfl (by kernel_rfl) (by kernel_rfl) (by kernel_rfl) (fun _ _ _ h => h) (Or.inl ⟨by rfl, ?_⟩) hS ?_
                · intro wy hy
                  clear hy
                  go_simp
                simp only [Act.put, List.setIfInBounds_toArray, List.set_cons_zero, List.set_cons_succ]
                refine wpAnyH_take (i := 9) (oi := { dst := some 115, op := _, type := _, pos := _, after := _, guard := some (8, false) }) (v := undef) rfl (by kernel_rfl) (by kernel_rfl) (by kernel_rfl) (fun _ _ _ h => h) (Or.inr ⟨by rfl, rfl⟩) hS ?_
                simp only [Act.put, List.setIfInBounds_toArray, List.set_cons_zero, List.set_cons_succ]
                refine wpAnyH_take (i := 10) (oi := { dst := some 116, op := _, type := _, pos := _, after := _, guard := some (8, false) }) (v := undef) rfl (by kernel_rfl) (by kernel_rfl) (by kernel_rfl) (fun _ _ _ h => h) (Or.inr ⟨by rfl, rfl⟩) hS ?_
                simp only [Act.put, List.setIfInBounds_toArray, List.set_cons_zero, List.set_cons_succ]
                refine wpAnyH_take (i := 11) (oi := { dst := some 117, op := _, type := _, pos := _, after := _, guard := some (8, false) }) (v := undef) rfl (by kernel_rfl) (by kernel_rfl) (by kernel_rfl) (fun _ _ _ h => h) (Or.inr ⟨by rfl, rfl⟩) hS ?_
                simp only [Act.put, List.setIfInBounds_toArray, List.set_cons_zero, List.set_cons_succ]
                refine wpAnyH_take (i := 12) (oi := { dst := some 118, op := _, type := _, pos := _, after := _, guard := some (11, true) }) (v := undef) rfl (by kernel_rfl) (by kernel_rfl) (by kernel_rfl) (fun _ _ _ h => h) (Or.inr ⟨by rfl, rfl⟩) hS ?_
                simp only [Act.put, List.setIfInBounds_toArray, List.set_cons_zero, List.set_cons_succ]
                refine wpAnyH_take (i := 13) (oi := { dst := some 119, op := _, type := _, pos := _, after := _, guard := some (11, true) }) (v := undef) rfl (by kernel_rfl) (by kernel_rfl) (by kernel_rfl) (fun _ _ _ h => h) (Or.inr ⟨by rfl, rfl⟩) hS ?_
                simp only [Act.put, List.setIfInBounds_toArray, List.set_cons_zero, List.set_cons_succ]
                refine wpAnyH_take (i := 14) (oi := { dst := some 120, op := _, type := _, pos := _, after := _, guard := some (11, true) }) (v := undef) rfl (by kernel_rfl) (by kernel_rfl) (by kernel_rfl) (fun _ _ _ h => h) (Or.inr ⟨by rfl, rfl⟩) hS ?_
                simp only [Act.put, List.setIfInBounds_toArray, List.set_cons_zero, List.set_cons_succ]
                refine wpAnyH_take (i := 15) (oi := { dst := some 121, op := _, type := _, pos := _, after := _, guard := some (11, true) }) (v := undef) rfl (by kernel_rfl) (by kernel_rfl) (by kernel_rfl) (fun _ _ _ h => h) (Or.inr ⟨by rfl, rfl⟩) hS ?_
                simp only [Act.put, List.setIfInBounds_toArray, List.set_cons_zero, List.set_cons_succ]
                refine wpAnyH_take (i := 16) (oi := { dst := some 122, op := _, type := _, pos := _, after := _, guard := some (11, true) }) (v := undef) rfl (by kernel_rfl) (by kernel_rfl) (by kernel_rfl) (fun _ _ _ h => h) (Or.inr ⟨by rfl, rfl⟩) hS ?_
                simp only [Act.put, List.setIfInBounds_toArray, List.set_cons_zero, List.set_cons_succ]
                refine wpAnyH_take (i := 17) (oi := { dst := some 123, op := _, type := _, pos := _, after := _, guard := some (11, true) }) (v := undef) rfl (by kernel_rfl) (by kernel_rfl) (by kernel_rfl) (fun _ _ _ h => h) (Or.inr ⟨by rfl, rfl⟩) hS ?_
                simp only [Act.put, List.setIfInBounds_toArray, List.set_cons_zero, List.set_cons_succ]
                refine wpAnyH_take (i := 18) (oi := { dst := some 124, op := _, type := _, pos := _, after := _, guard := some (11, true) }) (v := undef) rfl (by kernel_rfl) (by kernel_rfl) (by kernel_rfl) (fun _ _ _ h => h) (Or.inr ⟨by rfl, rfl⟩) hS ?_
                simp only [Act.put, List.setIfInBounds_toArray, List.set_cons_zero, List.set_cons_succ]
                refine wpAnyH_take (i := 19) (oi := { dst := some 125, op := _, type := _, pos := _, after := _, guard := some (11, true) }) (v := undef) rfl (by kernel_rfl) (by kernel_rfl) (by kernel_rfl) (fun _ _ _ h => h) (Or.inr ⟨by rfl, rfl⟩) hS ?_
                simp only [Act.put, List.setIfInBounds_toArray, List.set_cons_zero, List.set_cons_succ]
                refine wpAnyH_take (i := 20) (oi := { dst := some 126, op := _, type := _, pos := _, after := _, guard := some (11, true) }) (v := undef) rfl (by kernel_rfl) (by kernel_rfl) (by kernel_rfl) (fun _ _ _ h => h) (Or.inr ⟨by rfl, rfl⟩) hS ?_
                simp only [Act.put, List.setIfInBounds_toArray, List.set_cons_zero, List.set_cons_succ]
                refine wpAnyH_take (i := 21) (oi := { dst := some 127, op := _, type := _, pos := _, after := _, guard := some (11, true) }) (v := undef) rfl (by kernel_rfl) (by kernel_rfl) (by kernel_rfl) (fun _ _ _ h => h) (Or.inr ⟨by rfl, rfl⟩) hS ?_
                simp only [Act.put, List.setIfInBounds_toArray, List.set_cons_zero, List.set_cons_succ]
                refine wpAnyH_take (i := 22) (oi := { dst := some 128, op := _, type := _, pos := _, after := _, guard := some (11, true) }) (v := undef) rfl (by kernel_rfl) (by kernel_rfl) (by kernel_rfl) (fun _ _ _ h => h) (Or.inr ⟨by rfl, rfl⟩) hS ?_
                simp only [Act.put, List.setIfInBounds_toArray, List.set_cons_zero, List.set_cons_succ]
                refine wpAnyH_take (i := 23) (oi := { dst := some 129, op := _, type := _, pos := _, after := _, guard := some (11, true) }) (v := undef) rfl (by kernel_rfl) (by kernel_rfl) (by kernel_rfl) (fun _ _ _ h => h) (Or.inr ⟨by rfl, rfl⟩) hS ?_
                simp only [Act.put, List.setIfInBounds_toArray, List.set_cons_zero, List.set_cons_succ]
                refine wpAnyH_take (i := 24) (oi := { dst := some 130, op := _, type := _, pos := _, after := _, guard := some (11, true) }) (v := undef) rfl (by kernel_rfl) (by kernel_rfl) (by kernel_rfl) (fun _ _ _ h => h) (Or.inr ⟨by rfl, rfl⟩) hS ?_
                simp only [Act.put, List.setIfInBounds_toArray, List.set_cons_zero, List.set_cons_succ]
                refine wpAnyH_take (i := 25) (oi := { dst := some 131, op := _, type := _, pos := _, after := _, guard := some (8, false) }) (v := undef) rfl (by kernel_rfl) (by kernel_rfl) (by kernel_rfl) (fun _ _ _ h => h) (Or.inr ⟨by rfl, rfl⟩) hS ?_
                simp only [Act.put, List.setIfInBounds_toArray, List.set_cons_zero, List.set_cons_succ]
                refine wpAnyH_take (i := 26) (oi := { dst := some 132, op := _, type := _, pos := _, after := _, guard := none }) (v := .bool true) rfl (by kernel_rfl) (by kernel_rfl) (by kernel_rfl) (fun _ _ _ h => h) (Or.inl ⟨by rfl, ?_⟩) hS ?_
                · intro wy hy
                  clear hy
                  go_simp
                simp only [Act.put, List.setIfInBounds_toArray, List.set_cons_zero, List.set_cons_succ]
                refine wpAnyH_done (by kernel_rfl) ?_ _
                clear hS
                go_wp2_with fail
                go_ret
                exact ⟨false, rfl, ⟨fun h => (by cases h), fun h => (by have h9 := h.c1 k y HYY.out; rw [HRO.out] at h9; cases h9)⟩, hB1.trans (HB.out.mono hB1.size)⟩
              | true =>
                have HRO := Hid.intro hro
                have HN2c : Hid (∀ (j : Nat) y, j < k + 1 → x.copies[j]? = some y → cpB x y = true) := by
                  intro j q hj hq
                  by_cases e : j = k
                  · subst e; rw [HYY.out] at hq; cases hq; exact hro
                  · exact hN.out j q (by omega) hq
                clear hro
                cases k with
                | zero =>
                  refine wp_region_held_drew (S := fun wy => Blk w.heap.size #[.int .i64 x.now, .slice a1 x.services.length c1, .slice (some ⟨b, o, none⟩) x.copies.length c2, .slice a3 x.berths.length c3] 37 wy ∧ wy.rangeAt b (o + 0 * 7) [.string y.service, .int .i64 y.number, .int .i64 y.version, .int .i64 y.image, .int .i64 y.state, .bool y.ending, .string y.berth]) (by kernel_rfl) ⟨HKW.out.drew, HRY.out⟩ (fun hS => ?_)
                  have HB : Hid (Below w1.heap.size w1 wr.drew) := hBB.drew
                  replace hbl : b < wr.drew.heap.size := hbl
                  generalize wr.drew = wn at *
                  refine wpAnyH_take (i := 0) (oi := { dst := some 106, op := _, type := _, pos := _, after := _, guard := none }) (v := .agg #[.int .i64 x.now, .slice a1 x.services.length c1, .slice (some ⟨b, o, none⟩) x.copies.length c2, .slice a3 x.berths.length c3]) rfl (by kernel_rfl) (by kernel_rfl) (by kernel_rfl) (fun _ _ _ h => h) (yieldsIf_load_mid (by rfl) _ _ rfl w.heap.size (0) rfl [.int .i64 x.now, .slice a1 x.services.length c1, .slice (some ⟨b, o, none⟩) x.copies.length c2, .slice a3 x.berths.length c3] _ (fun _ h => h.1.rangeA) Try.underlying37 rfl isz_Sbk) hS ?_
                  simp only [Act.put, List.setIfInBounds_toArray, List.set_cons_zero, List.set_cons_succ]
                  refine wpAnyH_take (i := 1) (oi := { dst := some 107, op := _, type := _, pos := _, after := _, guard := none }) (v := .pointer (some ⟨w.heap.size, 2, none⟩)) rfl (by kernel_rfl) (by kernel_rfl) (by kernel_rfl) (fun _ _ _ h => h) (Or.inl ⟨by rfl, ?_⟩) hS ?_
                  · intro wy hy
                    clear hy
                    go_simp
                  simp only [Act.put, List.setIfInBounds_toArray, List.set_cons_zero, List.set_cons_succ]
                  refine wpAnyH_take (i := 2) (oi := { dst := some 108, op := _, type := _, pos := _, after := _, guard := none }) (v := .slice (some ⟨b, o, none⟩) x.copies.length c2) rfl (by kernel_rfl) (by kernel_rfl) (by kernel_rfl) (fun _ _ _ h => h) (Or.inl ⟨by rfl, ?_⟩) hS ?_
                  · intro wy hy
                    have h := id hy
                    have h0 := h.1.cell (o := 2) rfl
                    clear hy
                    go_simp
                  simp only [Act.put, List.setIfInBounds_toArray, List.set_cons_zero, List.set_cons_succ]
                  refine wpAnyH_take (i := 3) (oi := { dst := some 109, op := _, type := _, pos := _, after := _, guard := none }) (v := .int .i64 ((0 : Nat) : Int)) rfl (by kernel_rfl) (by kernel_rfl) (by kernel_rfl) (fun _ _ _ h => h) (Or.inl ⟨by rfl, ?_⟩) hS ?_
                  · intro wy hy
                    clear hy
                    go_simp
                  simp only [Act.put, List.setIfInBounds_toArray, List.set_cons_zero, List.set_cons_succ]
                  refine wpAnyH_take (i := 4) (oi := { dst := some 110, op := _, type := _, pos := _, after := _, guard := none }) (v := .pointer (some ⟨b, o + 0 * 7, none⟩)) rfl (by kernel_rfl) (by kernel_rfl) (by kernel_rfl) (fun _ _ _ h => h) (Or.inl ⟨by rfl, ?_⟩) hS ?_
                  · intro wy hy
                    clear hy
                    first | (go_simp; done) | (go_simp; omega) | (go_simp; intro hh; omega)
                  simp only [Act.put, List.setIfInBounds_toArray, List.set_cons_zero, List.set_cons_succ]
                  refine wpAnyH_take (i := 5) (oi := { dst := some 111, op := _, type := _, pos := _, after := _, guard := none }) (v := .agg #[.string y.service, .int .i64 y.number, .int .i64 y.version, .int .i64 y.image, .int .i64 y.state, .bool y.ending, .string y.berth]) rfl (by kernel_rfl) (by kernel_rfl) (by kernel_rfl) (fun _ _ _ h => h) (yieldsIf_load_mid (by rfl) _ _ rfl b (o + 0 * 7) rfl [.string y.service, .int .i64 y.number, .int .i64 y.version, .int .i64 y.image, .int .i64 y.state, .bool y.ending, .string y.berth] _ (fun _ h => h.2) Try.underlying65 rfl isz_Scp) hS ?_
                  simp only [Act.put, List.setIfInBounds_toArray, List.set_cons_zero, List.set_cons_succ]
                  refine wpAnyH_ready (rs := [6]) (by kernel_rfl) (by simp) (AllReadyH.cons (o := { dst := some 112, op := _, type := _, pos := _, after := _, guard := none }) rfl (fun KK hKK => ?_) AllReadyH.nil)
                  go_simp
                  refine (copy18_any x a1 c1 (some ⟨b, o, none⟩) c2 a3 c3 lo y _ (HN1.out.below SsvC.holds (hB1.trans (HB.out.mono hB1.size)) (Nat.le_refl _)) (HN3.out.below SbtC.holds (hB1.trans (HB.out.mono hB1.size)) (Nat.le_refl _)) (by omega) (by omega) HNX.out).mono ?_
                  rintro e w5 ⟨rfl, hb⟩
                  rw [HRO.out]
                  replace HB : Hid (Below w1.heap.size w1 w5) := HB.out.trans (hb.mono HB.out.size)
                  refine hKK.out _ _ ⟨hS.1.below hb hS.1.lt, rngB hS.2 hb hbl⟩ (fun hS => ?_)
                  clear hKK KK
                  replace hbl : b < w5.heap.size := Nat.lt_of_lt_of_le hbl hb.size
                  clear hb
                  generalize w5 = wn at *
                  refine wpAnyH_take (i := 7) (oi := { dst := some 113, op := _, type := _, pos := _, after := _, guard := none }) (v := .bool false) rfl (by kernel_rfl) (by kernel_rfl) (by kernel_rfl) (fun _ _ _ h => h) (Or.inl ⟨by rfl, ?_⟩) hS ?_
                  · intro wy hy
                    clear hy
                    go_simp
                  simp only [Act.put, List.setIfInBounds_toArray, List.set_cons_zero, List.set_cons_succ]
                  refine wpAnyH_take (i := 8) (oi := { dst := some 114, op := _, type := _, pos := _, after := _, guard := none }) (v := .bool false) rfl (by kernel_rfl) (by kernel_rfl) (by kernel_rfl) (fun _ _ _ h => h) (Or.inl ⟨by rfl, ?_⟩) hS ?_
                  · intro wy hy
                    clear hy
                    go_simp
                  simp only [Act.put, List.setIfInBounds_toArray, List.set_cons_zero, List.set_cons_succ]
                  refine wpAnyH_take (i := 9) (oi := { dst := some 115, op := _, type := _, pos := _, after := _, guard := some (8, false) }) (v := .int .i64 ((0 : Nat) : Int)) rfl (by kernel_rfl) (by kernel_rfl) (by kernel_rfl) (fun _ _ _ h => h) (Or.inl ⟨by rfl, ?_⟩) hS ?_
                  · intro wy hy
                    clear hy
                    go_simp
                  simp only [Act.put, List.setIfInBounds_toArray, List.set_cons_zero, List.set_cons_succ]
                  refine wpAnyH_take (i := 10) (oi := { dst := some 116, op := _, type := _, pos := _, after := _, guard := some (8, false) }) (v := .bool false) rfl (by kernel_rfl) (by kernel_rfl) (by kernel_rfl) (fun _ _ _ h => h) (Or.inl ⟨by rfl, ?_⟩) hS ?_
                  · intro wy hy
                    clear hy
                    first | (go_simp; done) | (go_simp; omega) | (go_simp; intro hh; omega)
                  simp only [Act.put, List.setIfInBounds_toArray, List.set_cons_zero, List.set_cons_succ]
                  refine wpAnyH_take (i := 11) (oi := { dst := some 117, op := _, type := _, pos := _, after := _, guard := some (8, false) }) (v := .bool false) rfl (by kernel_rfl) (by kernel_rfl) (by kernel_rfl) (fun _ _ _ h => h) (Or.inl ⟨by rfl, ?_⟩) hS ?_
                  · intro wy hy
                    clear hy
                    go_simp
                  simp only [Act.put, List.setIfInBounds_toArray, List.set_cons_zero, List.set_cons_succ]
                  refine wpAnyH_take (i := 12) (oi := { dst := some 118, op := _, type := _, pos := _, after := _, guard := some (11, true) }) (v := undef) rfl (by kernel_rfl) (by kernel_rfl) (by kernel_rfl) (fun _ _ _ h => h) (Or.inr ⟨by rfl, rfl⟩) hS ?_
                  simp only [Act.put, List.setIfInBounds_toArray, List.set_cons_zero, List.set_cons_succ]
                  refine wpAnyH_take (i := 13) (oi := { dst := some 119, op := _, type := _, pos := _, after := _, guard := some (11, true) }) (v := undef) rfl (by kernel_rfl) (by kernel_rfl) (by kernel_rfl) (fun _ _ _ h => h) (Or.inr ⟨by rfl, rfl⟩) hS ?_
                  simp only [Act.put, List.setIfInBounds_toArray, List.set_cons_zero, List.set_cons_succ]
                  refine wpAnyH_take (i := 14) (oi := { dst := some 120, op := _, type := _, pos := _, after := _, guard := some (11, true) }) (v := undef) rfl (by kernel_rfl) (by kernel_rfl) (by kernel_rfl) (fun _ _ _ h => h) (Or.inr ⟨by rfl, rfl⟩) hS ?_
                  simp only [Act.put, List.setIfInBounds_toArray, List.set_cons_zero, List.set_cons_succ]
                  refine wpAnyH_take (i := 15) (oi := { dst := some 121, op := _, type := _, pos := _, after := _, guard := some (11, true) }) (v := undef) rfl (by kernel_rfl) (by kernel_rfl) (by kernel_rfl) (fun _ _ _ h => h) (Or.inr ⟨by rfl, rfl⟩) hS ?_
                  simp only [Act.put, List.setIfInBounds_toArray, List.set_cons_zero, List.set_cons_succ]
                  refine wpAnyH_take (i := 16) (oi := { dst := some 122, op := _, type := _, pos := _, after := _, guard := some (11, true) }) (v := undef) rfl (by kernel_rfl) (by kernel_rfl) (by kernel_rfl) (fun _ _ _ h => h) (Or.inr ⟨by rfl, rfl⟩) hS ?_
                  simp only [Act.put, List.setIfInBounds_toArray, List.set_cons_zero, List.set_cons_succ]
                  refine wpAnyH_take (i := 17) (oi := { dst := some 123, op := _, type := _, pos := _, after := _, guard := some (11, true) }) (v := undef) rfl (by kernel_rfl) (by kernel_rfl) (by kernel_rfl) (fun _ _ _ h => h) (Or.inr ⟨by rfl, rfl⟩) hS ?_
                  simp only [Act.put, List.setIfInBounds_toArray, List.set_cons_zero, List.set_cons_succ]
                  refine wpAnyH_take (i := 18) (oi := { dst := some 124, op := _, type := _, pos := _, after := _, guard := some (11, true) }) (v := undef) rfl (by kernel_rfl) (by kernel_rfl) (by kernel_rfl) (fun _ _ _ h => h) (Or.inr ⟨by rfl, rfl⟩) hS ?_
                  simp only [Act.put, List.setIfInBounds_toArray, List.set_cons_zero, List.set_cons_succ]
                  refine wpAnyH_take (i := 19) (oi := { dst := some 125, op := _, type := _, pos := _, after := _, guard := some (11, true) }) (v := undef) rfl (by kernel_rfl) (by kernel_rfl) (by kernel_rfl) (fun _ _ _ h => h) (Or.inr ⟨by rfl, rfl⟩) hS ?_
                  simp only [Act.put, List.setIfInBounds_toArray, List.set_cons_zero, List.set_cons_succ]
                  refine wpAnyH_take (i := 20) (oi := { dst := some 126, op := _, type := _, pos := _, after := _, guard := some (11, true) }) (v := undef) rfl (by kernel_rfl) (by kernel_rfl) (by kernel_rfl) (fun _ _ _ h => h) (Or.inr ⟨by rfl, rfl⟩) hS ?_
                  simp only [Act.put, List.setIfInBounds_toArray, List.set_cons_zero, List.set_cons_succ]
                  refine wpAnyH_take (i := 21) (oi := { dst := some 127, op := _, type := _, pos := _, after := _, guard := some (11, true) }) (v := undef) rfl (by kernel_rfl) (by kernel_rfl) (by kernel_rfl) (fun _ _ _ h => h) (Or.inr ⟨by rfl, rfl⟩) hS ?_
                  simp only [Act.put, List.setIfInBounds_toArray, List.set_cons_zero, List.set_cons_succ]
                  refine wpAnyH_take (i := 22) (oi := { dst := some 128, op := _, type := _, pos := _, after := _, guard := some (11, true) }) (v := undef) rfl (by kernel_rfl) (by kernel_rfl) (by kernel_rfl) (fun _ _ _ h => h) (Or.inr ⟨by rfl, rfl⟩) hS ?_
                  simp only [Act.put, List.setIfInBounds_toArray, List.set_cons_zero, List.set_cons_succ]
                  refine wpAnyH_take (i := 23) (oi := { dst := some 129, op := _, type := _, pos := _, after := _, guard := some (11, true) }) (v := undef) rfl (by kernel_rfl) (by kernel_rfl) (by kernel_rfl) (fun _ _ _ h => h) (Or.inr ⟨by rfl, rfl⟩) hS ?_
                  simp only [Act.put, List.setIfInBounds_toArray, List.set_cons_zero, List.set_cons_succ]
                  refine wpAnyH_take (i := 24) (oi := { dst := some 130, op := _, type := _, pos := _, after := _, guard := some (11, true) }) (v := undef) rfl (by kernel_rfl) (by kernel_rfl) (by kernel_rfl) (fun _ _ _ h => h) (Or.inr ⟨by rfl, rfl⟩) hS ?_
                  simp only [Act.put, List.setIfInBounds_toArray, List.set_cons_zero, List.set_cons_succ]
                  refine wpAnyH_take (i := 25) (oi := { dst := some 131, op := _, type := _, pos := _, after := _, guard := some (8, false) }) (v := .bool false) rfl (by kernel_rfl) (by kernel_rfl) (by kernel_rfl) (fun _ _ _ h => h) (Or.inl ⟨by rfl, ?_⟩) hS ?_
                  · intro wy hy
                    clear hy
                    go_simp
                  simp only [Act.put, List.setIfInBounds_toArray, List.set_cons_zero, List.set_cons_succ]
                  refine wpAnyH_take (i := 26) (oi := { dst := some 132, op := _, type := _, pos := _, after := _, guard := none }) (v := .bool false) rfl (by kernel_rfl) (by kernel_rfl) (by kernel_rfl) (fun _ _ _ h => h) (Or.inl ⟨by rfl, ?_⟩) hS ?_
                  · intro wy hy
                    clear hy
                    go_simp
                  simp only [Act.put, List.setIfInBounds_toArray, List.set_cons_zero, List.set_cons_succ]
                  refine wpAnyH_done (by kernel_rfl) ?_ _
                  clear hS
                  go_wp2_with fail
                  go_roundw
                  case rel => first | exact ⟨0 + 1, by omega, by go_num, HN2c, (Hid.intro (fun j u v h => by omega)), HB.out⟩ | ((repeat apply Exists.intro); exact ⟨⟨0 + 1, by omega, by go_num, HN2c, (Hid.intro (fun j u v h => by omega)), HB.out⟩, rfl⟩)
                  case measure => simp [intOf]; omega
                | succ m =>
                  obtain ⟨u, hu⟩ : ∃ u, x.copies[m]? = some u := ⟨x.copies[m], List.getElem?_eq_getElem (by omega)⟩
                  obtain ⟨b', o', e', _, _, hcx⟩ := HIR.out.at hu
                  cases e'
                  have HRX := Hid.intro (rngScp hcx)
                  have HUU := Hid.intro hu
                  generalize hq : ahB u y = Q
                  have HQ := Hid.intro hq
                  clear hq hu hcx HIR
                  refine wp_region_held_drew (S := fun wy => Blk w.heap.size #[.int .i64 x.now, .slice a1 x.services.length c1, .slice (some ⟨b, o, none⟩) x.copies.length c2, .slice a3 x.berths.length c3] 37 wy ∧ wy.rangeAt b (o + (m + 1) * 7) [.string y.service, .int .i64 y.number, .int .i64 y.version, .int .i64 y.image, .int .i64 y.state, .bool y.ending, .string y.berth] ∧ wy.rangeAt b (o + m * 7) [.string u.service, .int .i64 u.number, .int .i64 u.version, .int .i64 u.image, .int .i64 u.state, .bool u.ending, .string u.berth]) (by kernel_rfl) ⟨HKW.out.drew, HRY.out, HRX.out⟩ (fun hS => ?_)
                  have HB : Hid (Below w1.heap.size w1 wr.drew) := hBB.drew
                  replace hbl : b < wr.drew.heap.size := hbl
                  generalize wr.drew = wn at *
                  refine wpAnyH_take (i := 0) (oi := { dst := some 106, op := _, type := _, pos := _, after := _, guard := none }) (v := .agg #[.int .i64 x.now, .slice a1 x.services.length c1, .slice (some ⟨b, o, none⟩) x.copies.length c2, .slice a3 x.berths.length c3]) rfl (by kernel_rfl) (by kernel_rfl) (by kernel_rfl) (fun _ _ _ h => h) (yieldsIf_load_mid (by rfl) _ _ rfl w.heap.size (0) rfl [.int .i64 x.now, .slice a1 x.services.length c1, .slice (some ⟨b, o, none⟩) x.copies.length c2, .slice a3 x.berths.length c3] _ (fun _ h => h.1.rangeA) Try.underlying37 rfl isz_Sbk) hS ?_
                  simp only [Act.put, List.setIfInBounds_toArray, List.set_cons_zero, List.set_cons_succ]
                  refine wpAnyH_take (i := 1) (oi := { dst := some 107, op := _, type := _, pos := _, after := _, guard := none }) (v := .pointer (some ⟨w.heap.size, 2, none⟩)) rfl (by kernel_rfl) (by kernel_rfl) (by kernel_rfl) (fun _ _ _ h => h) (Or.inl ⟨by rfl, ?_⟩) hS ?_
                  · intro wy hy
                    clear hy
                    go_simp
                  simp only [Act.put, List.setIfInBounds_toArray, List.set_cons_zero, List.set_cons_succ]
                  refine wpAnyH_take (i := 2) (oi := { dst := some 108, op := _, type := _, pos := _, after := _, guard := none }) (v := .slice (some ⟨b, o, none⟩) x.copies.length c2) rfl (by kernel_rfl) (by kernel_rfl) (by kernel_rfl) (fun _ _ _ h => h) (Or.inl ⟨by rfl, ?_⟩) hS ?_
                  · intro wy hy
                    have h := id hy
                    have h0 := h.1.cell (o := 2) rfl
                    clear hy
                    go_simp
                  simp only [Act.put, List.setIfInBounds_toArray, List.set_cons_zero, List.set_cons_succ]
                  refine wpAnyH_take (i := 3) (oi := { dst := some 109, op := _, type := _, pos := _, after := _, guard := none }) (v := .int .i64 ((m : Int) + 1)) rfl (by kernel_rfl) (by kernel_rfl) (by kernel_rfl) (fun _ _ _ h => h) (Or.inl ⟨by rfl, ?_⟩) hS ?_
                  · intro wy hy
                    clear hy
                    go_simp
                  simp only [Act.put, List.setIfInBounds_toArray, List.set_cons_zero, List.set_cons_succ]
                  refine wpAnyH_take (i := 4) (oi := { dst := some 110, op := _, type := _, pos := _, after := _, guard := none }) (v := .pointer (some ⟨b, o + (m + 1) * 7, none⟩)) rfl (by kernel_rfl) (by kernel_rfl) (by kernel_rfl) (fun _ _ _ h => h) (Or.inl ⟨by rfl, ?_⟩) hS ?_
                  · intro wy hy
                    clear hy
                    first | (go_simp; done) | (go_simp; omega) | (go_simp; intro hh; omega)
                  simp only [Act.put, List.setIfInBounds_toArray, List.set_cons_zero, List.set_cons_succ]
                  refine wpAnyH_take (i := 5) (oi := { dst := some 111, op := _, type := _, pos := _, after := _, guard := none }) (v := .agg #[.string y.service, .int .i64 y.number, .int .i64 y.version, .int .i64 y.image, .int .i64 y.state, .bool y.ending, .string y.berth]) rfl (by kernel_rfl) (by kernel_rfl) (by kernel_rfl) (fun _ _ _ h => h) (yieldsIf_load_mid (by rfl) _ _ rfl b (o + (m + 1) * 7) rfl [.string y.service, .int .i64 y.number, .int .i64 y.version, .int .i64 y.image, .int .i64 y.state, .bool y.ending, .string y.berth] _ (fun _ h => h.2.1) Try.underlying65 rfl isz_Scp) hS ?_
                  simp only [Act.put, List.setIfInBounds_toArray, List.set_cons_zero, List.set_cons_succ]
                  refine wpAnyH_ready (rs := [6]) (by kernel_rfl) (by simp) (AllReadyH.cons (o := { dst := some 112, op := _, type := _, pos := _, after := _, guard := none }) rfl (fun KK hKK => ?_) AllReadyH.nil)
                  go_simp
                  refine (copy18_any x a1 c1 (some ⟨b, o, none⟩) c2 a3 c3 lo y _ (HN1.out.below SsvC.holds (hB1.trans (HB.out.mono hB1.size)) (Nat.le_refl _)) (HN3.out.below SbtC.holds (hB1.trans (HB.out.mono hB1.size)) (Nat.le_refl _)) (by omega) (by omega) HNX.out).mono ?_
                  rintro e w5 ⟨rfl, hb⟩
                  rw [HRO.out]
                  replace HB : Hid (Below w1.heap.size w1 w5) := HB.out.trans (hb.mono HB.out.size)
                  refine hKK.out _ _ ⟨hS.1.below hb hS.1.lt, rngB hS.2.1 hb hbl, rngB hS.2.2 hb hbl⟩ (fun hS => ?_)
                  clear hKK KK
                  replace hbl : b < w5.heap.size := Nat.lt_of_lt_of_le hbl hb.size
                  clear hb
                  generalize w5 = wn at *
                  refine wpAnyH_take (i := 7) (oi := { dst := some 113, op := _, type := _, pos := _, after := _, guard := none }) (v := .bool false) rfl (by kernel_rfl) (by kernel_rfl) (by kernel_rfl) (fun _ _ _ h => h) (Or.inl ⟨by rfl, ?_⟩) hS ?_
                  · intro wy hy
                    clear hy
                    go_simp
                  simp only [Act.put, List.setIfInBounds_toArray, List.set_cons_zero, List.set_cons_succ]
                  refine wpAnyH_take (i := 8) (oi := { dst := some 114, op := _, type := _, pos := _, after := _, guard := none }) (v := .bool false) rfl (by kernel_rfl) (by kernel_rfl) (by kernel_rfl) (fun _ _ _ h => h) (Or.inl ⟨by rfl, ?_⟩) hS ?_
                  · intro wy hy
                    clear hy
                    go_simp
                  simp only [Act.put, List.setIfInBounds_toArray, List.set_cons_zero, List.set_cons_succ]
                  refine wpAnyH_take (i := 9) (oi := { dst := some 115, op := _, type := _, pos := _, after := _, guard := some (8, false) }) (v := .int .i64 ((m : Int) + 1)) rfl (by kernel_rfl) (by kernel_rfl) (by kernel_rfl) (fun _ _ _ h => h) (Or.inl ⟨by rfl, ?_⟩) hS ?_
                  · intro wy hy
                    clear hy
                    go_simp
                  simp only [Act.put, List.setIfInBounds_toArray, List.set_cons_zero, List.set_cons_succ]
                  refine wpAnyH_take (i := 10) (oi := { dst := some 116, op := _, type := _, pos := _, after := _, guard := some (8, false) }) (v := .bool true) rfl (by kernel_rfl) (by kernel_rfl) (by kernel_rfl) (fun _ _ _ h => h) (Or.inl ⟨by rfl, ?_⟩) hS ?_
                  · intro wy hy
                    clear hy
                    first | (go_simp; done) | (go_simp; omega) | (go_simp; intro hh; omega)
                  simp only [Act.put, List.setIfInBounds_toArray, List.set_cons_zero, List.set_cons_succ]
                  refine wpAnyH_take (i := 11) (oi := { dst := some 117, op := _, type := _, pos := _, after := _, guard := some (8, false) }) (v := .bool true) rfl (by kernel_rfl) (by kernel_rfl) (by kernel_rfl) (fun _ _ _ h => h) (Or.inl ⟨by rfl, ?_⟩) hS ?_
                  · intro wy hy
                    clear hy
                    go_simp
                  simp only [Act.put, List.setIfInBounds_toArray, List.set_cons_zero, List.set_cons_succ]
                  refine wpAnyH_take (i := 12) (oi := { dst := some 118, op := _, type := _, pos := _, after := _, guard := some (11, true) }) (v := .pointer (some ⟨w.heap.size, 2, none⟩)) rfl (by kernel_rfl) (by kernel_rfl) (by kernel_rfl) (fun _ _ _ h => h) (Or.inl ⟨by rfl, ?_⟩) hS ?_
                  · intro wy hy
                    clear hy
                    go_simp
                  simp only [Act.put, List.setIfInBounds_toArray, List.set_cons_zero, List.set_cons_succ]
                  refine wpAnyH_take (i := 13) (oi := { dst := some 119, op := _, type := _, pos := _, after := _, guard := some (11, true) }) (v := .slice (some ⟨b, o, none⟩) x.copies.length c2) rfl (by kernel_rfl) (by kernel_rfl) (by kernel_rfl) (fun _ _ _ h => h) (Or.inl ⟨by rfl, ?_⟩) hS ?_
                  · intro wy hy
                    have h := id hy
                    have h0 := h.1.cell (o := 2) rfl
                    clear hy
                    go_simp
                  simp only [Act.put, List.setIfInBounds_toArray, List.set_cons_zero, List.set_cons_succ]
                  refine wpAnyH_take (i := 14) (oi := { dst := some 120, op := _, type := _, pos := _, after := _, guard := some (11, true) }) (v := .int .i64 ((m : Int) + 1)) rfl (by kernel_rfl) (by kernel_rfl) (by kernel_rfl) (fun _ _ _ h => h) (Or.inl ⟨by rfl, ?_⟩) hS ?_
                  · intro wy hy
                    clear hy
                    go_simp
                  simp only [Act.put, List.setIfInBounds_toArray, List.set_cons_zero, List.set_cons_succ]
                  refine wpAnyH_take (i := 15) (oi := { dst := some 121, op := _, type := _, pos := _, after := _, guard := some (11, true) }) (v := .int .i64 (m : Int)) rfl (by kernel_rfl) (by kernel_rfl) (by kernel_rfl) (fun _ _ _ h => h) (Or.inl ⟨by rfl, ?_⟩) hS ?_
                  · intro wy hy
                    clear hy
                    first | (go_simp; done) | (go_simp; rw [IntKind.wrap_i64]; omega) | (go_simp; omega)
                  simp only [Act.put, List.setIfInBounds_toArray, List.set_cons_zero, List.set_cons_succ]
                  refine wpAnyH_take (i := 16) (oi := { dst := some 122, op := _, type := _, pos := _, after := _, guard := some (11, true) }) (v := .pointer (some ⟨b, o + m * 7, none⟩)) rfl (by kernel_rfl) (by kernel_rfl) (by kernel_rfl) (fun _ _ _ h => h) (Or.inl ⟨by rfl, ?_⟩) hS ?_
                  · intro wy hy
                    clear hy
                    first | (go_simp; done) | (go_simp; omega) | (go_simp; intro hh; omega)
                  simp only [Act.put, List.setIfInBounds_toArray, List.set_cons_zero, List.set_cons_succ]
                  refine wpAnyH_take (i := 17) (oi := { dst := some 123, op := _, type := _, pos := _, after := _, guard := some (11, true) }) (v := .agg #[.string u.service, .int .i64 u.number, .int .i64 u.version, .int .i64 u.image, .int .i64 u.state, .bool u.ending, .string u.berth]) rfl (by kernel_rfl) (by kernel_rfl) (by kernel_rfl) (fun _ _ _ h => h) (yieldsIf_load_mid (by rfl) _ _ rfl b (o + m * 7) rfl [.string u.service, .int .i64 u.number, .int .i64 u.version, .int .i64 u.image, .int .i64 u.state, .bool u.ending, .string u.berth] _ (fun _ h => h.2.2) Try.underlying65 rfl isz_Scp) hS ?_
                  simp only [Act.put, List.setIfInBounds_toArray, List.set_cons_zero, List.set_cons_succ]
                  refine wpAnyH_take (i := 18) (oi := { dst := some 124, op := _, type := _, pos := _, after := _, guard := some (11, true) }) (v := .pointer (some ⟨w.heap.size, 2, none⟩)) rfl (by kernel_rfl) (by kernel_rfl) (by kernel_rfl) (fun _ _ _ h => h) (Or.inl ⟨by rfl, ?_⟩) hS ?_
                  · intro wy hy
                    clear hy
                    go_simp
                  simp only [Act.put, List.setIfInBounds_toArray, List.set_cons_zero, List.set_cons_succ]
                  refine wpAnyH_take (i := 19) (oi := { dst := some 125, op := _, type := _, pos := _, after := _, guard := some (11, true) }) (v := .slice (some ⟨b, o, none⟩) x.copies.length c2) rfl (by kernel_rfl) (by kernel_rfl) (by kernel_rfl) (fun _ _ _ h => h) (Or.inl ⟨by rfl, ?_⟩) hS ?_
                  · intro wy hy
                    have h := id hy
                    have h0 := h.1.cell (o := 2) rfl
                    clear hy
                    go_simp
                  simp only [Act.put, List.setIfInBounds_toArray, List.set_cons_zero, List.set_cons_succ]
                  refine wpAnyH_take (i := 20) (oi := { dst := some 126, op := _, type := _, pos := _, after := _, guard := some (11, true) }) (v := .int .i64 ((m : Int) + 1)) rfl (by kernel_rfl) (by kernel_rfl) (by kernel_rfl) (fun _ _ _ h => h) (Or.inl ⟨by rfl, ?_⟩) hS ?_
                  · intro wy hy
                    clear hy
                    go_simp
                  simp only [Act.put, List.setIfInBounds_toArray, List.set_cons_zero, List.set_cons_succ]
                  refine wpAnyH_take (i := 21) (oi := { dst := some 127, op := _, type := _, pos := _, after := _, guard := some (11, true) }) (v := .pointer (some ⟨b, o + (m + 1) * 7, none⟩)) rfl (by kernel_rfl) (by kernel_rfl) (by kernel_rfl) (fun _ _ _ h => h) (Or.inl ⟨by rfl, ?_⟩) hS ?_
                  · intro wy hy
                    clear hy
                    first | (go_simp; done) | (go_simp; omega) | (go_simp; intro hh; omega)
                  simp only [Act.put, List.setIfInBounds_toArray, List.set_cons_zero, List.set_cons_succ]
                  refine wpAnyH_take (i := 22) (oi := { dst := some 128, op := _, type := _, pos := _, after := _, guard := some (11, true) }) (v := .agg #[.string y.service, .int .i64 y.number, .int .i64 y.version, .int .i64 y.image, .int .i64 y.state, .bool y.ending, .string y.berth]) rfl (by kernel_rfl) (by kernel_rfl) (by kernel_rfl) (fun _ _ _ h => h) (yieldsIf_load_mid (by rfl) _ _ rfl b (o + (m + 1) * 7) rfl [.string y.service, .int .i64 y.number, .int .i64 y.version, .int .i64 y.image, .int .i64 y.state, .bool y.ending, .string y.berth] _ (fun _ h => h.2.1) Try.underlying65 rfl isz_Scp) hS ?_
                  simp only [Act.put, List.setIfInBounds_toArray, List.set_cons_zero, List.set_cons_succ]
                  refine wpAnyH_ready (rs := [23]) (by kernel_rfl) (by simp) (AllReadyH.cons (o := { dst := some 129, op := _, type := _, pos := _, after := _, guard := some (11, true) }) rfl (fun KK hKK => ?_) AllReadyH.nil)
                  go_simp
                  refine (ahead18_any u y _).mono ?_
                  rintro e w5 ⟨rfl, hb⟩
                  rw [HQ.out]
                  replace HB : Hid (Below w1.heap.size w1 w5) := HB.out.trans (hb.mono HB.out.size)
                  refine hKK.out _ _ ⟨hS.1.below hb hS.1.lt, rngB hS.2.1 hb hbl, rngB hS.2.2 hb hbl⟩ (fun hS => ?_)
                  clear hKK KK
                  replace hbl : b < w5.heap.size := Nat.lt_of_lt_of_le hbl hb.size
                  clear hb
                  generalize w5 = wn at *
                  refine wpAnyH_take (i := 24) (oi := { dst := some 130, op := _, type := _, pos := _, after := _, guard := some (11, true) }) (v := .bool (!Q)) rfl (by kernel_rfl) (by kernel_rfl) (by kernel_rfl) (fun _ _ _ h => h) (Or.inl ⟨by rfl, ?_⟩) hS ?_
                  · intro wy hy
                    clear hy
                    go_simp
                  simp only [Act.put, List.setIfInBounds_toArray, List.set_cons_zero, List.set_cons_succ]
                  refine wpAnyH_take (i := 25) (oi := { dst := some 131, op := _, type := _, pos := _, after := _, guard := some (8, false) }) (v := .bool (!Q)) rfl (by kernel_rfl) (by kernel_rfl) (by kernel_rfl) (fun _ _ _ h => h) (Or.inl ⟨by rfl, ?_⟩) hS ?_
                  · intro wy hy
                    clear hy
                    go_simp
                  simp only [Act.put, List.setIfInBounds_toArray, List.set_cons_zero, List.set_cons_succ]
                  refine wpAnyH_take (i := 26) (oi := { dst := some 132, op := _, type := _, pos := _, after := _, guard := none }) (v := .bool (!Q)) rfl (by kernel_rfl) (by kernel_rfl) (by kernel_rfl) (fun _ _ _ h => h) (Or.inl ⟨by rfl, ?_⟩) hS ?_
                  · intro wy hy
                    clear hy
                    go_simp
                  simp only [Act.put, List.setIfInBounds_toArray, List.set_cons_zero, List.set_cons_succ]
                  refine wpAnyH_done (by kernel_rfl) ?_ _
                  clear hS
                  cases Q with
                  | false =>
                    go_wp2_with fail
                    go_ret
                    exact ⟨false, rfl, ⟨fun h => (by cases h), fun h => (by have h9 := h.c2 m u y HUU.out HYY.out; rw [HQ.out] at h9; cases h9)⟩, hB1.trans (HB.out.mono hB1.size)⟩
                  | true =>
                    have HA2 : Hid (∀ (j : Nat) u v, j + 1 < m + 1 + 1 → x.copies[j]? = some u → x.copies[j + 1]? = some v → ahB u v = true) := by
                      intro j p q hj hp hq
                      by_cases e : j = m
                      · subst e; rw [HUU.out] at hp; rw [HYY.out] at hq; cases hp; cases hq; exact HQ.out
                      · exact hA.out j p q (by omega) hp hq
                    go_wp2_with fail
                    go_roundw
                    case rel => first | exact ⟨m + 1 + 1, by omega, by go_num, HN2c, HA2, HB.out⟩ | ((repeat apply Exists.intro); exact ⟨⟨m + 1 + 1, by omega, by go_num, HN2c, HA2, HB.out⟩, rfl⟩)
                    case measure => simp [intOf]; omega
          obtain ⟨y, hy⟩ : ∃ y, x.berths[k]? = some y := ⟨x.berths[k], List.getElem?_eq_getElem hlt⟩
          have HIR := Hid.intro (HN3.out.below SbtC.holds hB (Nat.le_refl _))
          obtain ⟨b, o, ea, _, hbl, hc⟩ := HIR.out.at hy
          subst ea
          have hz := hc
          obtain ⟨_, _, z0⟩ := hz
          have HRY := Hid.intro (rngSbt hc)
          have Z0 := Hid.intro z0
          have HYY := Hid.intro hy
          clear z0 hc hy
          go_upto_region 11 with fail
          clear kk
          cases hro : snB y.name with
          | false =>
            have HRO := Hid.intro hro
            refine wp_region_held_drew (S := fun wy => Blk w.heap.size #[.int .i64 x.now, .slice a1 x.services.length c1, .slice a2 x.copies.length c2, .slice (some ⟨b, o, none⟩) x.berths.length c3] 37 wy ∧ wy.rangeAt b (o + k * 2) [.string y.name, .bool y.drain]) (by kernel_rfl) ⟨HKW.out.drew, HRY.out⟩ (fun hS => ?_)
            have HB : Hid (Below w1.heap.size w1 wr.drew) := hBB.drew
            replace hbl : b < wr.drew.heap.size := hbl
            generalize wr.drew = wn at *
            refine wpAnyH_take (i := 0) (oi := { dst := some 71, op := _, type := _, pos := _, after := _, guard := none }) (v := .pointer (some ⟨w.heap.size, 3, none⟩)) rfl (by kernel_rfl) (by kernel_rfl) (by kernel_rfl) (fun _ _ _ h => h) (Or.inl ⟨by rfl, ?_⟩) hS ?_
            · intro wy hy
              clear hy
              go_simp
            simp only [Act.put, List.setIfInBounds_toArray, List.set_cons_zero, List.set_cons_succ]
            refine wpAnyH_take (i := 1) (oi := { dst := some 72, op := _, type := _, pos := _, after := _, guard := none }) (v := .slice (some ⟨b, o, none⟩) x.berths.length c3) rfl (by kernel_rfl) (by kernel_rfl) (by kernel_rfl) (fun _ _ _ h => h) (Or.inl ⟨by rfl, ?_⟩) hS ?_
            · intro wy hy
              have h := id hy
              have h0 := h.1.cell (o := 3) rfl
              clear hy
              go_simp
            simp only [Act.put, List.setIfInBounds_toArray, List.set_cons_zero, List.set_cons_succ]
            refine wpAnyH_take (i := 2) (oi := { dst := some 73, op := _, type := _, pos := _, after := _, guard := none }) (v := .int .i64 (k : Int)) rfl (by kernel_rfl) (by kernel_rfl) (by kernel_rfl) (fun _ _ _ h => h) (Or.inl ⟨by rfl, ?_⟩) hS ?_
            · intro wy hy
              clear hy
              go_simp
            simp only [Act.put, List.setIfInBounds_toArray, List.set_cons_zero, List.set_cons_succ]
            refine wpAnyH_take (i := 3) (oi := { dst := some 74, op := _, type := _, pos := _, after := _, guard := none }) (v := .pointer (some ⟨b, o + k * 2, none⟩)) rfl (by kernel_rfl) (by kernel_rfl) (by kernel_rfl) (fun _ _ _ h => h) (Or.inl ⟨by rfl, ?_⟩) hS ?_
            · intro wy hy
              clear hy
              first | (go_simp; done) | (go_simp; omega) | (go_simp; intro hh; omega)
            simp only [Act.put, List.setIfInBounds_toArray, List.set_cons_zero, List.set_cons_succ]
            refine wpAnyH_take (i := 4) (oi := { dst := some 75, op := _, type := _, pos := _, after := _, guard := none }) (v := .pointer (some ⟨b, o + k * 2, none⟩)) rfl (by kernel_rfl) (by kernel_rfl) (by kernel_rfl) (fun _ _ _ h => h) (Or.inl ⟨by rfl, ?_⟩) hS ?_
            · intro wy hy
              clear hy
              go_simp
            simp only [Act.put, List.setIfInBounds_toArray, List.set_cons_zero, List.set_cons_succ]
            refine wpAnyH_take (i := 5) (oi := { dst := some 76, op := _, type := _, pos := _, after := _, guard := none }) (v := .string y.name) rfl (by kernel_rfl) (by kernel_rfl) (by kernel_rfl) (fun _ _ _ h => h) (Or.inl ⟨by rfl, ?_⟩) hS ?_
            · intro wy hy
              have h := id hy
              have h0 := h.2 0 _ rfl
              simp only [Nat.add_zero] at h0
              clear hy
              go_simp
            simp only [Act.put, List.setIfInBounds_toArray, List.set_cons_zero, List.set_cons_succ]
            refine wpAnyH_ready (rs := [6]) (by kernel_rfl) (by simp) (AllReadyH.cons (o := { dst := some 77, op := _, type := _, pos := _, after := _, guard := none }) rfl (fun KK hKK => ?_) AllReadyH.nil)
            go_simp
            refine (name18_any y.name _ Z0.out).mono ?_
            rintro e wn ⟨rfl, rfl⟩
            rw [HRO.out]
            refine hKK.out _ _ hS (fun hS => ?_)
            clear hKK KK
            refine wpAnyH_take (i := 7) (oi := { dst := some 78, op := _, type := _, pos := _, after := _, guard := none }) (v := .bool true) rfl (by kernel_rfl) (by kernel_rfl) (by kernel_rfl) (fun _ _ _ h => h) (Or.inl ⟨by rfl, ?_⟩) hS ?_
            · intro wy hy
              clear hy
              go_simp
            simp only [Act.put, List.setIfInBounds_toArray, List.set_cons_zero, List.set_cons_succ]
            refine wpAnyH_take (i := 8) (oi := { dst := some 79, op := _, type := _, pos := _, after := _, guard := none }) (v := .bool true) rfl (by kernel_rfl) (by kernel_rfl) (by kernel_rfl) (fun _ _ _ h => h) (Or.inl ⟨by rfl, ?_⟩) hS ?_
            · intro wy hy
              clear hy
              go_simp
            simp only [Act.put, List.setIfInBounds_toArray, List.set_cons_zero, List.set_cons_succ]
            refine wpAnyH_take (i := 9) (oi := { dst := some 80, op := _, type := _, pos := _, after := _, guard := some (8, false) }) (v := undef) rfl (by kernel_rfl) (by kernel_rfl) (by kernel_rfl) (fun _ _ _ h => h) (Or.inr ⟨by rfl, rfl⟩) hS ?_
            simp only [Act.put, List.setIfInBounds_toArray, List.set_cons_zero, List.set_cons_succ]
            refine wpAnyH_take (i := 10) (oi := { dst := some 81, op := _, type := _, pos := _, after := _, guard := some (8, false) }) (v := undef) rfl (by kernel_rfl) (by kernel_rfl) (by kernel_rfl) (fun _ _ _ h => h) (Or.inr ⟨by rfl, rfl⟩) hS ?_
            simp only [Act.put, List.setIfInBounds_toArray, List.set_cons_zero, List.set_cons_succ]
            refine wpAnyH_take (i := 11) (oi := { dst := some 82, op := _, type := _, pos := _, after := _, guard := some (8, false) }) (v := undef) rfl (by kernel_rfl) (by kernel_rfl) (by kernel_rfl) (fun _ _ _ h => h) (Or.inr ⟨by rfl, rfl⟩) hS ?_
            simp only [Act.put, List.setIfInBounds_toArray, List.set_cons_zero, List.set_cons_succ]
            refine wpAnyH_take (i := 12) (oi := { dst := some 83, op := _, type := _, pos := _, after := _, guard := some (11, true) }) (v := undef) rfl (by kernel_rfl) (by kernel_rfl) (by kernel_rfl) (fun _ _ _ h => h) (Or.inr ⟨by rfl, rfl⟩) hS ?_
            simp only [Act.put, List.setIfInBounds_toArray, List.set_cons_zero, List.set_cons_succ]
            refine wpAnyH_take (i := 13) (oi := { dst := some 84, op := _, type := _, pos := _, after := _, guard := some (11, true) }) (v := undef) rfl (by kernel_rfl) (by kernel_rfl) (by kernel_rfl) (fun _ _ _ h => h) (Or.inr ⟨by rfl, rfl⟩) hS ?_
            simp only [Act.put, List.setIfInBounds_toArray, List.set_cons_zero, List.set_cons_succ]
            refine wpAnyH_take (i := 14) (oi := { dst := some 85, op := _, type := _, pos := _, after := _, guard := some (11, true) }) (v := undef) rfl (by kernel_rfl) (by kernel_rfl) (by kernel_rfl) (fun _ _ _ h => h) (Or.inr ⟨by rfl, rfl⟩) hS ?_
            simp only [Act.put, List.setIfInBounds_toArray, List.set_cons_zero, List.set_cons_succ]
            refine wpAnyH_take (i := 15) (oi := { dst := some 86, op := _, type := _, pos := _, after := _, guard := some (11, true) }) (v := undef) rfl (by kernel_rfl) (by kernel_rfl) (by kernel_rfl) (fun _ _ _ h => h) (Or.inr ⟨by rfl, rfl⟩) hS ?_
            simp only [Act.put, List.setIfInBounds_toArray, List.set_cons_zero, List.set_cons_succ]
            refine wpAnyH_take (i := 16) (oi := { dst := some 87, op := _, type := _, pos := _, after := _, guard := some (11, true) }) (v := undef) rfl (by kernel_rfl) (by kernel_rfl) (by kernel_rfl) (fun _ _ _ h => h) (Or.inr ⟨by rfl, rfl⟩) hS ?_
            simp only [Act.put, List.setIfInBounds_toArray, List.set_cons_zero, List.set_cons_succ]
            refine wpAnyH_take (i := 17) (oi := { dst := some 88, op := _, type := _, pos := _, after := _, guard := some (11, true) }) (v := undef) rfl (by kernel_rfl) (by kernel_rfl) (by kernel_rfl) (fun _ _ _ h => h) (Or.inr ⟨by rfl, rfl⟩) hS ?_
            simp only [Act.put, List.setIfInBounds_toArray, List.set_cons_zero, List.set_cons_succ]
            refine wpAnyH_take (i := 18) (oi := { dst := some 89, op := _, type := _, pos := _, after := _, guard := some (11, true) }) (v := undef) rfl (by kernel_rfl) (by kernel_rfl) (by kernel_rfl) (fun _ _ _ h => h) (Or.inr ⟨by rfl, rfl⟩) hS ?_
            simp only [Act.put, List.setIfInBounds_toArray, List.set_cons_zero, List.set_cons_succ]
            refine wpAnyH_take (i := 19) (oi := { dst := some 90, op := _, type := _, pos := _, after := _, guard := some (11, true) }) (v := undef) rfl (by kernel_rfl) (by kernel_rfl) (by kernel_rfl) (fun _ _ _ h => h) (Or.inr ⟨by rfl, rfl⟩) hS ?_
            simp only [Act.put, List.setIfInBounds_toArray, List.set_cons_zero, List.set_cons_succ]
            refine wpAnyH_take (i := 20) (oi := { dst := some 91, op := _, type := _, pos := _, after := _, guard := some (11, true) }) (v := undef) rfl (by kernel_rfl) (by kernel_rfl) (by kernel_rfl) (fun _ _ _ h => h) (Or.inr ⟨by rfl, rfl⟩) hS ?_
            simp only [Act.put, List.setIfInBounds_toArray, List.set_cons_zero, List.set_cons_succ]
            refine wpAnyH_take (i := 21) (oi := { dst := some 92, op := _, type := _, pos := _, after := _, guard := some (11, true) }) (v := undef) rfl (by kernel_rfl) (by kernel_rfl) (by kernel_rfl) (fun _ _ _ h => h) (Or.inr ⟨by rfl, rfl⟩) hS ?_
            simp only [Act.put, List.setIfInBounds_toArray, List.set_cons_zero, List.set_cons_succ]
            refine wpAnyH_take (i := 22) (oi := { dst := some 93, op := _, type := _, pos := _, after := _, guard := some (11, true) }) (v := undef) rfl (by kernel_rfl) (by kernel_rfl) (by kernel_rfl) (fun _ _ _ h => h) (Or.inr ⟨by rfl, rfl⟩) hS ?_
            simp only [Act.put, List.setIfInBounds_toArray, List.set_cons_zero, List.set_cons_succ]
            refine wpAnyH_take (i := 23) (oi := { dst := some 94, op := _, type := _, pos := _, after := _, guard := some (11, true) }) (v := undef) rfl (by kernel_rfl) (by kernel_rfl) (by kernel_rfl) (fun _ _ _ h => h) (Or.inr ⟨by rfl, rfl⟩) hS ?_
            simp only [Act.put, List.setIfInBounds_toArray, List.set_cons_zero, List.set_cons_succ]
            refine wpAnyH_take (i := 24) (oi := { dst := some 95, op := _, type := _, pos := _, after := _, guard := some (11, true) }) (v := undef) rfl (by kernel_rfl) (by kernel_rfl) (by kernel_rfl) (fun _ _ _ h => h) (Or.inr ⟨by rfl, rfl⟩) hS ?_
            simp only [Act.put, List.setIfInBounds_toArray, List.set_cons_zero, List.set_cons_succ]
            refine wpAnyH_take (i := 25) (oi := { dst := some 96, op := _, type := _, pos := _, after := _, guard := some (11, true) }) (v := undef) rfl (by kernel_rfl) (by kernel_rfl) (by kernel_rfl) (fun _ _ _ h => h) (Or.inr ⟨by rfl, rfl⟩) hS ?_
            simp only [Act.put, List.setIfInBounds_toArray, List.set_cons_zero, List.set_cons_succ]
            refine wpAnyH_take (i := 26) (oi := { dst := some 97, op := _, type := _, pos := _, after := _, guard := some (8, false) }) (v := undef) rfl (by kernel_rfl) (by kernel_rfl) (by kernel_rfl) (fun _ _ _ h => h) (Or.inr ⟨by rfl, rfl⟩) hS ?_
            simp only [Act.put, List.setIfInBounds_toArray, List.set_cons_zero, List.set_cons_succ]
            refine wpAnyH_take (i := 27) (oi := { dst := some 98, op := _, type := _, pos := _, after := _, guard := none }) (v := .bool true) rfl (by kernel_rfl) (by kernel_rfl) (by kernel_rfl) (fun _ _ _ h => h) (Or.inl ⟨by rfl, ?_⟩) hS ?_
            · intro wy hy
              clear hy
              go_simp
            simp only [Act.put, List.setIfInBounds_toArray, List.set_cons_zero, List.set_cons_succ]
            refine wpAnyH_done (by kernel_rfl) ?_ _
            clear hS
            go_wp2_with fail
            go_ret
            exact ⟨false, rfl, ⟨fun h => (by cases h), fun h => (by have h9 := h.b1 k y HYY.out; rw [HRO.out] at h9; cases h9)⟩, hB1.trans (HB.out.mono hB1.size)⟩
          | true =>
            have HRO := Hid.intro hro
            have HN2b : Hid (∀ (j : Nat) y, j < k + 1 → x.berths[j]? = some y → snB y.name = true) := by
              intro j q hj hq
              by_cases e : j = k
              · subst e; rw [HYY.out] at hq; cases hq; exact hro
              · exact hN.out j q (by omega) hq
            clear hro
            cases k with
            | zero =>
              refine wp_region_held_drew (S := fun wy => Blk w.heap.size #[.int .i64 x.now, .slice a1 x.services.length c1, .slice a2 x.copies.length c2, .slice (some ⟨b, o, none⟩) x.berths.length c3] 37 wy ∧ wy.rangeAt b (o + 0 * 2) [.string y.name, .bool y.drain]) (by kernel_rfl) ⟨HKW.out.drew, HRY.out⟩ (fun hS => ?_)
              have HB : Hid (Below w1.heap.size w1 wr.drew) := hBB.drew
              replace hbl : b < wr.drew.heap.size := hbl
              generalize wr.drew = wn at *
              refine wpAnyH_take (i := 0) (oi := { dst := some 71, op := _, type := _, pos := _, after := _, guard := none }) (v := .pointer (some ⟨w.heap.size, 3, none⟩)) rfl (by kernel_rfl) (by kernel_rfl) (by kernel_rfl) (fun _ _ _ h => h) (Or.inl ⟨by rfl, ?_⟩) hS ?_
              · intro wy hy
                clear hy
                go_simp
              simp only [Act.put, List.setIfInBounds_toArray, List.set_cons_zero, List.set_cons_succ]
              refine wpAnyH_take (i := 1) (oi := { dst := some 72, op := _, type := _, pos := _, after := _, guard := none }) (v := .slice (some ⟨b, o, none⟩) x.berths.length c3) rfl (by kernel_rfl) (by kernel_rfl) (by kernel_rfl) (fun _ _ _ h => h) (Or.inl ⟨by rfl, ?_⟩) hS ?_
              · intro wy hy
                have h := id hy
                have h0 := h.1.cell (o := 3) rfl
                clear hy
                go_simp
              simp only [Act.put, List.setIfInBounds_toArray, List.set_cons_zero, List.set_cons_succ]
              refine wpAnyH_take (i := 2) (oi := { dst := some 73, op := _, type := _, pos := _, after := _, guard := none }) (v := .int .i64 ((0 : Nat) : Int)) rfl (by kernel_rfl) (by kernel_rfl) (by kernel_rfl) (fun _ _ _ h => h) (Or.inl ⟨by rfl, ?_⟩) hS ?_
              · intro wy hy
                clear hy
                go_simp
              simp only [Act.put, List.setIfInBounds_toArray, List.set_cons_zero, List.set_cons_succ]
              refine wpAnyH_take (i := 3) (oi := { dst := some 74, op := _, type := _, pos := _, after := _, guard := none }) (v := .pointer (some ⟨b, o + 0 * 2, none⟩)) rfl (by kernel_rfl) (by kernel_rfl) (by kernel_rfl) (fun _ _ _ h => h) (Or.inl ⟨by rfl, ?_⟩) hS ?_
              · intro wy hy
                clear hy
                first | (go_simp; done) | (go_simp; omega) | (go_simp; intro hh; omega)
              simp only [Act.put, List.setIfInBounds_toArray, List.set_cons_zero, List.set_cons_succ]
              refine wpAnyH_take (i := 4) (oi := { dst := some 75, op := _, type := _, pos := _, after := _, guard := none }) (v := .pointer (some ⟨b, o + 0 * 2, none⟩)) rfl (by kernel_rfl) (by kernel_rfl) (by kernel_rfl) (fun _ _ _ h => h) (Or.inl ⟨by rfl, ?_⟩) hS ?_
              · intro wy hy
                clear hy
                go_simp
              simp only [Act.put, List.setIfInBounds_toArray, List.set_cons_zero, List.set_cons_succ]
              refine wpAnyH_take (i := 5) (oi := { dst := some 76, op := _, type := _, pos := _, after := _, guard := none }) (v := .string y.name) rfl (by kernel_rfl) (by kernel_rfl) (by kernel_rfl) (fun _ _ _ h => h) (Or.inl ⟨by rfl, ?_⟩) hS ?_
              · intro wy hy
                have h := id hy
                have h0 := h.2 0 _ rfl
                simp only [Nat.add_zero] at h0
                clear hy
                go_simp
              simp only [Act.put, List.setIfInBounds_toArray, List.set_cons_zero, List.set_cons_succ]
              refine wpAnyH_ready (rs := [6]) (by kernel_rfl) (by simp) (AllReadyH.cons (o := { dst := some 77, op := _, type := _, pos := _, after := _, guard := none }) rfl (fun KK hKK => ?_) AllReadyH.nil)
              go_simp
              refine (name18_any y.name _ Z0.out).mono ?_
              rintro e wn ⟨rfl, rfl⟩
              rw [HRO.out]
              refine hKK.out _ _ hS (fun hS => ?_)
              clear hKK KK
              refine wpAnyH_take (i := 7) (oi := { dst := some 78, op := _, type := _, pos := _, after := _, guard := none }) (v := .bool false) rfl (by kernel_rfl) (by kernel_rfl) (by kernel_rfl) (fun _ _ _ h => h) (Or.inl ⟨by rfl, ?_⟩) hS ?_
              · intro wy hy
                clear hy
                go_simp
              simp only [Act.put, List.setIfInBounds_toArray, List.set_cons_zero, List.set_cons_succ]
              refine wpAnyH_take (i := 8) (oi := { dst := some 79, op := _, type := _, pos := _, after := _, guard := none }) (v := .bool false) rfl (by kernel_rfl) (by kernel_rfl) (by kernel_rfl) (fun _ _ _ h => h) (Or.inl ⟨by rfl, ?_⟩) hS ?_
              · intro wy hy
                clear hy
                go_simp
              simp only [Act.put, List.setIfInBounds_toArray, List.set_cons_zero, List.set_cons_succ]
              refine wpAnyH_take (i := 9) (oi := { dst := some 80, op := _, type := _, pos := _, after := _, guard := some (8, false) }) (v := .int .i64 ((0 : Nat) : Int)) rfl (by kernel_rfl) (by kernel_rfl) (by kernel_rfl) (fun _ _ _ h => h) (Or.inl ⟨by rfl, ?_⟩) hS ?_
              · intro wy hy
                clear hy
                go_simp
              simp only [Act.put, List.setIfInBounds_toArray, List.set_cons_zero, List.set_cons_succ]
              refine wpAnyH_take (i := 10) (oi := { dst := some 81, op := _, type := _, pos := _, after := _, guard := some (8, false) }) (v := .bool false) rfl (by kernel_rfl) (by kernel_rfl) (by kernel_rfl) (fun _ _ _ h => h) (Or.inl ⟨by rfl, ?_⟩) hS ?_
              · intro wy hy
                clear hy
                first | (go_simp; done) | (go_simp; omega) | (go_simp; intro hh; omega)
              simp only [Act.put, List.setIfInBounds_toArray, List.set_cons_zero, List.set_cons_succ]
              refine wpAnyH_take (i := 11) (oi := { dst := some 82, op := _, type := _, pos := _, after := _, guard := some (8, false) }) (v := .bool false) rfl (by kernel_rfl) (by kernel_rfl) (by kernel_rfl) (fun _ _ _ h => h) (Or.inl ⟨by rfl, ?_⟩) hS ?_
              · intro wy hy
                clear hy
                go_simp
              simp only [Act.put, List.setIfInBounds_toArray, List.set_cons_zero, List.set_cons_succ]
              refine wpAnyH_take (i := 12) (oi := { dst := some 83, op := _, type := _, pos := _, after := _, guard := some (11, true) }) (v := undef) rfl (by kernel_rfl) (by kernel_rfl) (by kernel_rfl) (fun _ _ _ h => h) (Or.inr ⟨by rfl, rfl⟩) hS ?_
              simp only [Act.put, List.setIfInBounds_toArray, List.set_cons_zero, List.set_cons_succ]
              refine wpAnyH_take (i := 13) (oi := { dst := some 84, op := _, type := _, pos := _, after := _, guard := some (11, true) }) (v := undef) rfl (by kernel_rfl) (by kernel_rfl) (by kernel_rfl) (fun _ _ _ h => h) (Or.inr ⟨by rfl, rfl⟩) hS ?_
              simp only [Act.put, List.setIfInBounds_toArray, List.set_cons_zero, List.set_cons_succ]
              refine wpAnyH_take (i := 14) (oi := { dst := some 85, op := _, type := _, pos := _, after := _, guard := some (11, true) }) (v := undef) rfl (by kernel_rfl) (by kernel_rfl) (by kernel_rfl) (fun _ _ _ h => h) (Or.inr ⟨by rfl, rfl⟩) hS ?_
              simp only [Act.put, List.setIfInBounds_toArray, List.set_cons_zero, List.set_cons_succ]
              refine wpAnyH_take (i := 15) (oi := { dst := some 86, op := _, type := _, pos := _, after := _, guard := some (11, true) }) (v := undef) rfl (by kernel_rfl) (by kernel_rfl) (by kernel_rfl) (fun _ _ _ h => h) (Or.inr ⟨by rfl, rfl⟩) hS ?_
              simp only [Act.put, List.setIfInBounds_toArray, List.set_cons_zero, List.set_cons_succ]
              refine wpAnyH_take (i := 16) (oi := { dst := some 87, op := _, type := _, pos := _, after := _, guard := some (11, true) }) (v := undef) rfl (by kernel_rfl) (by kernel_rfl) (by kernel_rfl) (fun _ _ _ h => h) (Or.inr ⟨by rfl, rfl⟩) hS ?_
              simp only [Act.put, List.setIfInBounds_toArray, List.set_cons_zero, List.set_cons_succ]
              refine wpAnyH_take (i := 17) (oi := { dst := some 88, op := _, type := _, pos := _, after := _, guard := some (11, true) }) (v := undef) rfl (by kernel_rfl) (by kernel_rfl) (by kernel_rfl) (fun _ _ _ h => h) (Or.inr ⟨by rfl, rfl⟩) hS ?_
              simp only [Act.put, List.setIfInBounds_toArray, List.set_cons_zero, List.set_cons_succ]
              refine wpAnyH_take (i := 18) (oi := { dst := some 89, op := _, type := _, pos := _, after := _, guard := some (11, true) }) (v := undef) rfl (by kernel_rfl) (by kernel_rfl) (by kernel_rfl) (fun _ _ _ h => h) (Or.inr ⟨by rfl, rfl⟩) hS ?_
              simp only [Act.put, List.setIfInBounds_toArray, List.set_cons_zero, List.set_cons_succ]
              refine wpAnyH_take (i := 19) (oi := { dst := some 90, op := _, type := _, pos := _, after := _, guard := some (11, true) }) (v := undef) rfl (by kernel_rfl) (by kernel_rfl) (by kernel_rfl) (fun _ _ _ h => h) (Or.inr ⟨by rfl, rfl⟩) hS ?_
              simp only [Act.put, List.setIfInBounds_toArray, List.set_cons_zero, List.set_cons_succ]
              refine wpAnyH_take (i := 20) (oi := { dst := some 91, op := _, type := _, pos := _, after := _, guard := some (11, true) }) (v := undef) rfl (by kernel_rfl) (by kernel_rfl) (by kernel_rfl) (fun _ _ _ h => h) (Or.inr ⟨by rfl, rfl⟩) hS ?_
              simp only [Act.put, List.setIfInBounds_toArray, List.set_cons_zero, List.set_cons_succ]
              refine wpAnyH_take (i := 21) (oi := { dst := some 92, op := _, type := _, pos := _, after := _, guard := some (11, true) }) (v := undef) rfl (by kernel_rfl) (by kernel_rfl) (by kernel_rfl) (fun _ _ _ h => h) (Or.inr ⟨by rfl, rfl⟩) hS ?_
              simp only [Act.put, List.setIfInBounds_toArray, List.set_cons_zero, List.set_cons_succ]
              refine wpAnyH_take (i := 22) (oi := { dst := some 93, op := _, type := _, pos := _, after := _, guard := some (11, true) }) (v := undef) rfl (by kernel_rfl) (by kernel_rfl) (by kernel_rfl) (fun _ _ _ h => h) (Or.inr ⟨by rfl, rfl⟩) hS ?_
              simp only [Act.put, List.setIfInBounds_toArray, List.set_cons_zero, List.set_cons_succ]
              refine wpAnyH_take (i := 23) (oi := { dst := some 94, op := _, type := _, pos := _, after := _, guard := some (11, true) }) (v := undef) rfl (by kernel_rfl) (by kernel_rfl) (by kernel_rfl) (fun _ _ _ h => h) (Or.inr ⟨by rfl, rfl⟩) hS ?_
              simp only [Act.put, List.setIfInBounds_toArray, List.set_cons_zero, List.set_cons_succ]
              refine wpAnyH_take (i := 24) (oi := { dst := some 95, op := _, type := _, pos := _, after := _, guard := some (11, true) }) (v := undef) rfl (by kernel_rfl) (by kernel_rfl) (by kernel_rfl) (fun _ _ _ h => h) (Or.inr ⟨by rfl, rfl⟩) hS ?_
              simp only [Act.put, List.setIfInBounds_toArray, List.set_cons_zero, List.set_cons_succ]
              refine wpAnyH_take (i := 25) (oi := { dst := some 96, op := _, type := _, pos := _, after := _, guard := some (11, true) }) (v := undef) rfl (by kernel_rfl) (by kernel_rfl) (by kernel_rfl) (fun _ _ _ h => h) (Or.inr ⟨by rfl, rfl⟩) hS ?_
              simp only [Act.put, List.setIfInBounds_toArray, List.set_cons_zero, List.set_cons_succ]
              refine wpAnyH_take (i := 26) (oi := { dst := some 97, op := _, type := _, pos := _, after := _, guard := some (8, false) }) (v := .bool false) rfl (by kernel_rfl) (by kernel_rfl) (by kernel_rfl) (fun _ _ _ h => h) (Or.inl ⟨by rfl, ?_⟩) hS ?_
              · intro wy hy
                clear hy
                go_simp
              simp only [Act.put, List.setIfInBounds_toArray, List.set_cons_zero, List.set_cons_succ]
              refine wpAnyH_take (i := 27) (oi := { dst := some 98, op := _, type := _, pos := _, after := _, guard := none }) (v := .bool false) rfl (by kernel_rfl) (by kernel_rfl) (by kernel_rfl) (fun _ _ _ h => h) (Or.inl ⟨by rfl, ?_⟩) hS ?_
              · intro wy hy
                clear hy
                go_simp
              simp only [Act.put, List.setIfInBounds_toArray, List.set_cons_zero, List.set_cons_succ]
              refine wpAnyH_done (by kernel_rfl) ?_ _
              clear hS
              go_wp2_with fail
              go_roundw
              case rel => first | exact ⟨0 + 1, by omega, by go_num, HN2b, (Hid.intro (fun j u v h => by omega)), HB.out⟩ | ((repeat apply Exists.intro); exact ⟨⟨0 + 1, by omega, by go_num, HN2b, (Hid.intro (fun j u v h => by omega)), HB.out⟩, rfl⟩)
              case measure => simp [intOf]; omega
            | succ m =>
              obtain ⟨u, hu⟩ : ∃ u, x.berths[m]? = some u := ⟨x.berths[m], List.getElem?_eq_getElem (by omega)⟩
              obtain ⟨b', o', e', _, _, hcx⟩ := HIR.out.at hu
              cases e'
              have HRX := Hid.intro (rngSbt hcx)
              have HUU := Hid.intro hu
              generalize hq : Op.bytesLess u.name.toList y.name.toList = Q
              have HQ := Hid.intro hq
              clear hq hu hcx HIR
              refine wp_region_held_drew (S := fun wy => Blk w.heap.size #[.int .i64 x.now, .slice a1 x.services.length c1, .slice a2 x.copies.length c2, .slice (some ⟨b, o, none⟩) x.berths.length c3] 37 wy ∧ wy.rangeAt b (o + (m + 1) * 2) [.string y.name, .bool y.drain] ∧ wy.rangeAt b (o + m * 2) [.string u.name, .bool u.drain]) (by kernel_rfl) ⟨HKW.out.drew, HRY.out, HRX.out⟩ (fun hS => ?_)
              have HB : Hid (Below w1.heap.size w1 wr.drew) := hBB.drew
              replace hbl : b < wr.drew.heap.size := hbl
              generalize wr.drew = wn at *
              refine wpAnyH_take (i := 0) (oi := { dst := some 71, op := _, type := _, pos := _, after := _, guard := none }) (v := .pointer (some ⟨w.heap.size, 3, none⟩)) rfl (by kernel_rfl) (by kernel_rfl) (by kernel_rfl) (fun _ _ _ h => h) (Or.inl ⟨by rfl, ?_⟩) hS ?_
              · intro wy hy
                clear hy
                go_simp
              simp only [Act.put, List.setIfInBounds_toArray, List.set_cons_zero, List.set_cons_succ]
              refine wpAnyH_take (i := 1) (oi := { dst := some 72, op := _, type := _, pos := _, after := _, guard := none }) (v := .slice (some ⟨b, o, none⟩) x.berths.length c3) rfl (by kernel_rfl) (by kernel_rfl) (by kernel_rfl) (fun _ _ _ h => h) (Or.inl ⟨by rfl, ?_⟩) hS ?_
              · intro wy hy
                have h := id hy
                have h0 := h.1.cell (o := 3) rfl
                clear hy
                go_simp
              simp only [Act.put, List.setIfInBounds_toArray, List.set_cons_zero, List.set_cons_succ]
              refine wpAnyH_take (i := 2) (oi := { dst := some 73, op := _, type := _, pos := _, after := _, guard := none }) (v := .int .i64 ((m : Int) + 1)) rfl (by kernel_rfl) (by kernel_rfl) (by kernel_rfl) (fun _ _ _ h => h) (Or.inl ⟨by rfl, ?_⟩) hS ?_
              · intro wy hy
                clear hy
                go_simp
              simp only [Act.put, List.setIfInBounds_toArray, List.set_cons_zero, List.set_cons_succ]
              refine wpAnyH_take (i := 3) (oi := { dst := some 74, op := _, type := _, pos := _, after := _, guard := none }) (v := .pointer (some ⟨b, o + (m + 1) * 2, none⟩)) rfl (by kernel_rfl) (by kernel_rfl) (by kernel_rfl) (fun _ _ _ h => h) (Or.inl ⟨by rfl, ?_⟩) hS ?_
              · intro wy hy
                clear hy
                first | (go_simp; done) | (go_simp; omega) | (go_simp; intro hh; omega)
              simp only [Act.put, List.setIfInBounds_toArray, List.set_cons_zero, List.set_cons_succ]
              refine wpAnyH_take (i := 4) (oi := { dst := some 75, op := _, type := _, pos := _, after := _, guard := none }) (v := .pointer (some ⟨b, o + (m + 1) * 2, none⟩)) rfl (by kernel_rfl) (by kernel_rfl) (by kernel_rfl) (fun _ _ _ h => h) (Or.inl ⟨by rfl, ?_⟩) hS ?_
              · intro wy hy
                clear hy
                go_simp
              simp only [Act.put, List.setIfInBounds_toArray, List.set_cons_zero, List.set_cons_succ]
              refine wpAnyH_take (i := 5) (oi := { dst := some 76, op := _, type := _, pos := _, after := _, guard := none }) (v := .string y.name) rfl (by kernel_rfl) (by kernel_rfl) (by kernel_rfl) (fun _ _ _ h => h) (Or.inl ⟨by rfl, ?_⟩) hS ?_
              · intro wy hy
                have h := id hy
                have h0 := h.2.1 0 _ rfl
                simp only [Nat.add_zero] at h0
                clear hy
                go_simp
              simp only [Act.put, List.setIfInBounds_toArray, List.set_cons_zero, List.set_cons_succ]
              refine wpAnyH_ready (rs := [6]) (by kernel_rfl) (by simp) (AllReadyH.cons (o := { dst := some 77, op := _, type := _, pos := _, after := _, guard := none }) rfl (fun KK hKK => ?_) AllReadyH.nil)
              go_simp
              refine (name18_any y.name _ Z0.out).mono ?_
              rintro e wn ⟨rfl, rfl⟩
              rw [HRO.out]
              refine hKK.out _ _ hS (fun hS => ?_)
              clear hKK KK
              refine wpAnyH_take (i := 7) (oi := { dst := some 78, op := _, type := _, pos := _, after := _, guard := none }) (v := .bool false) rfl (by kernel_rfl) (by kernel_rfl) (by kernel_rfl) (fun _ _ _ h => h) (Or.inl ⟨by rfl, ?_⟩) hS ?_
              · intro wy hy
                clear hy
                go_simp
              simp only [Act.put, List.setIfInBounds_toArray, List.set_cons_zero, List.set_cons_succ]
              refine wpAnyH_take (i := 8) (oi := { dst := some 79, op := _, type := _, pos := _, after := _, guard := none }) (v := .bool false) rfl (by kernel_rfl) (by kernel_rfl) (by kernel_rfl) (fun _ _ _ h => h) (Or.inl ⟨by rfl, ?_⟩) hS ?_
              · intro wy hy
                clear hy
                go_simp
              simp only [Act.put, List.setIfInBounds_toArray, List.set_cons_zero, List.set_cons_succ]
              refine wpAnyH_take (i := 9) (oi := { dst := some 80, op := _, type := _, pos := _, after := _, guard := some (8, false) }) (v := .int .i64 ((m : Int) + 1)) rfl (by kernel_rfl) (by kernel_rfl) (by kernel_rfl) (fun _ _ _ h => h) (Or.inl ⟨by rfl, ?_⟩) hS ?_
              · intro wy hy
                clear hy
                go_simp
              simp only [Act.put, List.setIfInBounds_toArray, List.set_cons_zero, List.set_cons_succ]
              refine wpAnyH_take (i := 10) (oi := { dst := some 81, op := _, type := _, pos := _, after := _, guard := some (8, false) }) (v := .bool true) rfl (by kernel_rfl) (by kernel_rfl) (by kernel_rfl) (fun _ _ _ h => h) (Or.inl ⟨by rfl, ?_⟩) hS ?_
              · intro wy hy
                clear hy
                first | (go_simp; done) | (go_simp; omega) | (go_simp; intro hh; omega)
              simp only [Act.put, List.setIfInBounds_toArray, List.set_cons_zero, List.set_cons_succ]
              refine wpAnyH_take (i := 11) (oi := { dst := some 82, op := _, type := _, pos := _, after := _, guard := some (8, false) }) (v := .bool true) rfl (by kernel_rfl) (by kernel_rfl) (by kernel_rfl) (fun _ _ _ h => h) (Or.inl ⟨by rfl, ?_⟩) hS ?_
              · intro wy hy
                clear hy
                go_simp
              simp only [Act.put, List.setIfInBounds_toArray, List.set_cons_zero, List.set_cons_succ]
              refine wpAnyH_take (i := 12) (oi := { dst := some 83, op := _, type := _, pos := _, after := _, guard := some (11, true) }) (v := .pointer (some ⟨w.heap.size, 3, none⟩)) rfl (by kernel_rfl) (by kernel_rfl) (by kernel_rfl) (fun _ _ _ h => h) (Or.inl ⟨by rfl, ?_⟩) hS ?_
              · intro wy hy
                clear hy
                go_simp
              simp only [Act.put, List.setIfInBounds_toArray, List.set_cons_zero, List.set_cons_succ]
              refine wpAnyH_take (i := 13) (oi := { dst := some 84, op := _, type := _, pos := _, after := _, guard := some (11, true) }) (v := .slice (some ⟨b, o, none⟩) x.berths.length c3) rfl (by kernel_rfl) (by kernel_rfl) (by kernel_rfl) (fun _ _ _ h => h) (Or.inl ⟨by rfl, ?_⟩) hS ?_
              · intro wy hy
                have h := id hy
                have h0 := h.1.cell (o := 3) rfl
                clear hy
                go_simp
              simp only [Act.put, List.setIfInBounds_toArray, List.set_cons_zero, List.set_cons_succ]
              refine wpAnyH_take (i := 14) (oi := { dst := some 85, op := _, type := _, pos := _, after := _, guard := some (11, true) }) (v := .int .i64 ((m : Int) + 1)) rfl (by kernel_rfl) (by kernel_rfl) (by kernel_rfl) (fun _ _ _ h => h) (Or.inl ⟨by rfl, ?_⟩) hS ?_
              · intro wy hy
                clear hy
                go_simp
              simp only [Act.put, List.setIfInBounds_toArray, List.set_cons_zero, List.set_cons_succ]
              refine wpAnyH_take (i := 15) (oi := { dst := some 86, op := _, type := _, pos := _, after := _, guard := some (11, true) }) (v := .int .i64 (m : Int)) rfl (by kernel_rfl) (by kernel_rfl) (by kernel_rfl) (fun _ _ _ h => h) (Or.inl ⟨by rfl, ?_⟩) hS ?_
              · intro wy hy
                clear hy
                first | (go_simp; done) | (go_simp; rw [IntKind.wrap_i64]; omega) | (go_simp; omega)
              simp only [Act.put, List.setIfInBounds_toArray, List.set_cons_zero, List.set_cons_succ]
              refine wpAnyH_take (i := 16) (oi := { dst := some 87, op := _, type := _, pos := _, after := _, guard := some (11, true) }) (v := .pointer (some ⟨b, o + m * 2, none⟩)) rfl (by kernel_rfl) (by kernel_rfl) (by kernel_rfl) (fun _ _ _ h => h) (Or.inl ⟨by rfl, ?_⟩) hS ?_
              · intro wy hy
                clear hy
                first | (go_simp; done) | (go_simp; omega) | (go_simp; intro hh; omega)
              simp only [Act.put, List.setIfInBounds_toArray, List.set_cons_zero, List.set_cons_succ]
              refine wpAnyH_take (i := 17) (oi := { dst := some 88, op := _, type := _, pos := _, after := _, guard := some (11, true) }) (v := .pointer (some ⟨b, o + m * 2, none⟩)) rfl (by kernel_rfl) (by kernel_rfl) (by kernel_rfl) (fun _ _ _ h => h) (Or.inl ⟨by rfl, ?_⟩) hS ?_
              · intro wy hy
                clear hy
                go_simp
              simp only [Act.put, List.setIfInBounds_toArray, List.set_cons_zero, List.set_cons_succ]
              refine wpAnyH_take (i := 18) (oi := { dst := some 89, op := _, type := _, pos := _, after := _, guard := some (11, true) }) (v := .string u.name) rfl (by kernel_rfl) (by kernel_rfl) (by kernel_rfl) (fun _ _ _ h => h) (Or.inl ⟨by rfl, ?_⟩) hS ?_
              · intro wy hy
                have h := id hy
                have h0 := h.2.2 0 _ rfl
                simp only [Nat.add_zero] at h0
                clear hy
                go_simp
              simp only [Act.put, List.setIfInBounds_toArray, List.set_cons_zero, List.set_cons_succ]
              refine wpAnyH_take (i := 19) (oi := { dst := some 90, op := _, type := _, pos := _, after := _, guard := some (11, true) }) (v := .pointer (some ⟨w.heap.size, 3, none⟩)) rfl (by kernel_rfl) (by kernel_rfl) (by kernel_rfl) (fun _ _ _ h => h) (Or.inl ⟨by rfl, ?_⟩) hS ?_
              · intro wy hy
                clear hy
                go_simp
              simp only [Act.put, List.setIfInBounds_toArray, List.set_cons_zero, List.set_cons_succ]
              refine wpAnyH_take (i := 20) (oi := { dst := some 91, op := _, type := _, pos := _, after := _, guard := some (11, true) }) (v := .slice (some ⟨b, o, none⟩) x.berths.length c3) rfl (by kernel_rfl) (by kernel_rfl) (by kernel_rfl) (fun _ _ _ h => h) (Or.inl ⟨by rfl, ?_⟩) hS ?_
              · intro wy hy
                have h := id hy
                have h0 := h.1.cell (o := 3) rfl
                clear hy
                go_simp
              simp only [Act.put, List.setIfInBounds_toArray, List.set_cons_zero, List.set_cons_succ]
              refine wpAnyH_take (i := 21) (oi := { dst := some 92, op := _, type := _, pos := _, after := _, guard := some (11, true) }) (v := .int .i64 ((m : Int) + 1)) rfl (by kernel_rfl) (by kernel_rfl) (by kernel_rfl) (fun _ _ _ h => h) (Or.inl ⟨by rfl, ?_⟩) hS ?_
              · intro wy hy
                clear hy
                go_simp
              simp only [Act.put, List.setIfInBounds_toArray, List.set_cons_zero, List.set_cons_succ]
              refine wpAnyH_take (i := 22) (oi := { dst := some 93, op := _, type := _, pos := _, after := _, guard := some (11, true) }) (v := .pointer (some ⟨b, o + (m + 1) * 2, none⟩)) rfl (by kernel_rfl) (by kernel_rfl) (by kernel_rfl) (fun _ _ _ h => h) (Or.inl ⟨by rfl, ?_⟩) hS ?_
              · intro wy hy
                clear hy
                first | (go_simp; done) | (go_simp; omega) | (go_simp; intro hh; omega)
              simp only [Act.put, List.setIfInBounds_toArray, List.set_cons_zero, List.set_cons_succ]
              refine wpAnyH_take (i := 23) (oi := { dst := some 94, op := _, type := _, pos := _, after := _, guard := some (11, true) }) (v := .pointer (some ⟨b, o + (m + 1) * 2, none⟩)) rfl (by kernel_rfl) (by kernel_rfl) (by kernel_rfl) (fun _ _ _ h => h) (Or.inl ⟨by rfl, ?_⟩) hS ?_
              · intro wy hy
                clear hy
                go_simp
              simp only [Act.put, List.setIfInBounds_toArray, List.set_cons_zero, List.set_cons_succ]
              refine wpAnyH_take (i := 24) (oi := { dst := some 95, op := _, type := _, pos := _, after := _, guard := some (11, true) }) (v := .string y.name) rfl (by kernel_rfl) (by kernel_rfl) (by kernel_rfl) (fun _ _ _ h => h) (Or.inl ⟨by rfl, ?_⟩) hS ?_
              · intro wy hy
                have h := id hy
                have h0 := h.2.1 0 _ rfl
                simp only [Nat.add_zero] at h0
                clear hy
                go_simp
              simp only [Act.put, List.setIfInBounds_toArray, List.set_cons_zero, List.set_cons_succ]
              refine wpAnyH_take (i := 25) (oi := { dst := some 96, op := _, type := _, pos := _, after := _, guard := some (11, true) }) (v := .bool (!Q)) rfl (by kernel_rfl) (by kernel_rfl) (by kernel_rfl) (fun _ _ _ h => h) (Or.inl ⟨by rfl, ?_⟩) hS ?_
              · intro wy hy
                clear hy
                go_simp; rw [HQ.out]
              simp only [Act.put, List.setIfInBounds_toArray, List.set_cons_zero, List.set_cons_succ]
              refine wpAnyH_take (i := 26) (oi := { dst := some 97, op := _, type := _, pos := _, after := _, guard := some (8, false) }) (v := .bool (!Q)) rfl (by kernel_rfl) (by kernel_rfl) (by kernel_rfl) (fun _ _ _ h => h) (Or.inl ⟨by rfl, ?_⟩) hS ?_
              · intro wy hy
                clear hy
                go_simp
              simp only [Act.put, List.setIfInBounds_toArray, List.set_cons_zero, List.set_cons_succ]
              refine wpAnyH_take (i := 27) (oi := { dst := some 98, op := _, type := _, pos := _, after := _, guard := none }) (v := .bool (!Q)) rfl (by kernel_rfl) (by kernel_rfl) (by kernel_rfl) (fun _ _ _ h => h) (Or.inl ⟨by rfl, ?_⟩) hS ?_
              · intro wy hy
                clear hy
                go_simp
              simp only [Act.put, List.setIfInBounds_toArray, List.set_cons_zero, List.set_cons_succ]
              refine wpAnyH_done (by kernel_rfl) ?_ _
              clear hS
              cases Q with
              | false =>
                go_wp2_with fail
                go_ret
                exact ⟨false, rfl, ⟨fun h => (by cases h), fun h => (by have h9 := h.b2 m u y HUU.out HYY.out; rw [HQ.out] at h9; cases h9)⟩, hB1.trans (HB.out.mono hB1.size)⟩
              | true =>
                have HA2 : Hid (∀ (j : Nat) u v, j + 1 < m + 1 + 1 → x.berths[j]? = some u → x.berths[j + 1]? = some v → Op.bytesLess u.name.toList v.name.toList = true) := by
                  intro j p q hj hp hq
                  by_cases e : j = m
                  · subst e; rw [HUU.out] at hp; rw [HYY.out] at hq; cases hp; cases hq; exact HQ.out
                  · exact hA.out j p q (by omega) hp hq
                go_wp2_with fail
                go_roundw
                case rel => first | exact ⟨m + 1 + 1, by omega, by go_num, HN2b, HA2, HB.out⟩ | ((repeat apply Exists.intro); exact ⟨⟨m + 1 + 1, by omega, by go_num, HN2b, HA2, HB.out⟩, rfl⟩)
                case measure => simp [intOf]; omega
      obtain ⟨y, hy⟩ : ∃ y, x.services[k]? = some y := ⟨x.services[k], List.getElem?_eq_getElem hlt⟩
      have HIR := Hid.intro (HN1.out.below SsvC.holds hB (Nat.le_refl _))
      obtain ⟨b, o, ea, _, hbl, hc⟩ := HIR.out.at hy
      subst ea
      have hz := hc
      obtain ⟨_, _, _, _, _, _, _, _, _, _, _, _, _, z0⟩ := hz
      have HRY := Hid.intro (rngSsv hc)
      have Z0 := Hid.intro z0
      have HYY := Hid.intro hy
      clear z0 hc hy
      go_upto_region 6 with fail
      clear kk
      cases hro : svB y x.now with
      | false =>
        have HRO := Hid.intro hro
        refine wp_region_held_drew (S := fun wy => Blk w.heap.size #[.int .i64 x.now, .slice (some ⟨b, o, none⟩) x.services.length c1, .slice a2 x.copies.length c2, .slice a3 x.berths.length c3] 37 wy ∧ wy.rangeAt b (o + k * 13) [.string y.name, .int .i64 y.version, .bool y.gone, .int .i64 y.image, .int .i64 y.want, .int .i64 y.down, .int .i64 y.over, .int .i64 y.next, .int .i64 y.per, .int .i64 y.least, .int .i64 y.most, .int .i64 y.load, .int .i64 y.cool]) (by kernel_rfl) ⟨HKW.out.drew, HRY.out⟩ (fun hS => ?_)
        have HB : Hid (Below w1.heap.size w1 wr.drew) := hBB.drew
        replace hbl : b < wr.drew.heap.size := hbl
        generalize wr.drew = wn at *
        refine wpAnyH_take (i := 0) (oi := { dst := some 35, op := _, type := _, pos := _, after := _, guard := none }) (v := .pointer (some ⟨w.heap.size, 1, none⟩)) rfl (by kernel_rfl) (by kernel_rfl) (by kernel_rfl) (fun _ _ _ h => h) (Or.inl ⟨by rfl, ?_⟩) hS ?_
        · intro wy hy
          clear hy
          go_simp
        simp only [Act.put, List.setIfInBounds_toArray, List.set_cons_zero, List.set_cons_succ]
        refine wpAnyH_take (i := 1) (oi := { dst := some 36, op := _, type := _, pos := _, after := _, guard := none }) (v := .slice (some ⟨b, o, none⟩) x.services.length c1) rfl (by kernel_rfl) (by kernel_rfl) (by kernel_rfl) (fun _ _ _ h => h) (Or.inl ⟨by rfl, ?_⟩) hS ?_
        · intro wy hy
          have h := id hy
          have h0 := h.1.cell (o := 1) rfl
          clear hy
          go_simp
        simp only [Act.put, List.setIfInBounds_toArray, List.set_cons_zero, List.set_cons_succ]
        refine wpAnyH_take (i := 2) (oi := { dst := some 37, op := _, type := _, pos := _, after := _, guard := none }) (v := .int .i64 (k : Int)) rfl (by kernel_rfl) (by kernel_rfl) (by kernel_rfl) (fun _ _ _ h => h) (Or.inl ⟨by rfl, ?_⟩) hS ?_
        · intro wy hy
          clear hy
          go_simp
        simp only [Act.put, List.setIfInBounds_toArray, List.set_cons_zero, List.set_cons_succ]
        refine wpAnyH_take (i := 3) (oi := { dst := some 38, op := _, type := _, pos := _, after := _, guard := none }) (v := .pointer (some ⟨b, o + k * 13, none⟩)) rfl (by kernel_rfl) (by kernel_rfl) (by kernel_rfl) (fun _ _ _ h => h) (Or.inl ⟨by rfl, ?_⟩) hS ?_
        · intro wy hy
          clear hy
          first | (go_simp; done) | (go_simp; omega) | (go_simp; intro hh; omega)
        simp only [Act.put, List.setIfInBounds_toArray, List.set_cons_zero, List.set_cons_succ]
        refine wpAnyH_take (i := 4) (oi := { dst := some 39, op := _, type := _, pos := _, after := _, guard := none }) (v := .agg #[.string y.name, .int .i64 y.version, .bool y.gone, .int .i64 y.image, .int .i64 y.want, .int .i64 y.down, .int .i64 y.over, .int .i64 y.next, .int .i64 y.per, .int .i64 y.least, .int .i64 y.most, .int .i64 y.load, .int .i64 y.cool]) rfl (by kernel_rfl) (by kernel_rfl) (by kernel_rfl) (fun _ _ _ h => h) (yieldsIf_load_mid (by rfl) _ _ rfl b (o + k * 13) rfl [.string y.name, .int .i64 y.version, .bool y.gone, .int .i64 y.image, .int .i64 y.want, .int .i64 y.down, .int .i64 y.over, .int .i64 y.next, .int .i64 y.per, .int .i64 y.least, .int .i64 y.most, .int .i64 y.load, .int .i64 y.cool] _ (fun _ h => h.2) Try.underlying59 rfl isz_Ssv) hS ?_
        simp only [Act.put, List.setIfInBounds_toArray, List.set_cons_zero, List.set_cons_succ]
        refine wpAnyH_take (i := 5) (oi := { dst := some 40, op := _, type := _, pos := _, after := _, guard := none }) (v := .pointer (some ⟨w.heap.size, 0, none⟩)) rfl (by kernel_rfl) (by kernel_rfl) (by kernel_rfl) (fun _ _ _ h => h) (Or.inl ⟨by rfl, ?_⟩) hS ?_
        · intro wy hy
          clear hy
          go_simp
        simp only [Act.put, List.setIfInBounds_toArray, List.set_cons_zero, List.set_cons_succ]
        refine wpAnyH_take (i := 6) (oi := { dst := some 41, op := _, type := _, pos := _, after := _, guard := none }) (v := .int .i64 x.now) rfl (by kernel_rfl) (by kernel_rfl) (by kernel_rfl) (fun _ _ _ h => h) (Or.inl ⟨by rfl, ?_⟩) hS ?_
        · intro wy hy
          have h := id hy
          have h0 := h.1.cell (o := 0) rfl
          clear hy
          go_simp
        simp only [Act.put, List.setIfInBounds_toArray, List.set_cons_zero, List.set_cons_succ]
        refine wpAnyH_ready (rs := [7]) (by kernel_rfl) (by simp) (AllReadyH.cons (o := { dst := some 42, op := _, type := _, pos := _, after := _, guard := none }) rfl (fun KK hKK => ?_) AllReadyH.nil)
        go_simp
        refine (service18_any y x.now _ Z0.out).mono ?_
        rintro e w5 ⟨rfl, hb⟩
        rw [HRO.out]
        replace HB : Hid (Below w1.heap.size w1 w5) := HB.out.trans (hb.mono HB.out.size)
        refine hKK.out _ _ ⟨hS.1.below hb hS.1.lt, rngB hS.2 hb hbl⟩ (fun hS => ?_)
        clear hKK KK
        replace hbl : b < w5.heap.size := Nat.lt_of_lt_of_le hbl hb.size
        clear hb
        generalize w5 = wn at *
        refine wpAnyH_take (i := 8) (oi := { dst := some 43, op := _, type := _, pos := _, after := _, guard := none }) (v := .bool true) rfl (by kernel_rfl) (by kernel_rfl) (by kernel_rfl) (fun _ _ _ h => h) (Or.inl ⟨by rfl, ?_⟩) hS ?_
        · intro wy hy
          clear hy
          go_simp
        simp only [Act.put, List.setIfInBounds_toArray, List.set_cons_zero, List.set_cons_succ]
        refine wpAnyH_take (i := 9) (oi := { dst := some 44, op := _, type := _, pos := _, after := _, guard := none }) (v := .bool true) rfl (by kernel_rfl) (by kernel_rfl) (by kernel_rfl) (fun _ _ _ h => h) (Or.inl ⟨by rfl, ?_⟩) hS ?_
        · intro wy hy
          clear hy
          go_simp
        simp only [Act.put, List.setIfInBounds_toArray, List.set_cons_zero, List.set_cons_succ]
        refine wpAnyH_take (i := 10) (oi := { dst := some 45, op := _, type := _, pos := _, after := _, guard := some (9, false) }) (v := undef) rfl (by kernel_rfl) (by kernel_rfl) (by kernel_rfl) (fun _ _ _ h => h) (Or.inr ⟨by rfl, rfl⟩) hS ?_
        simp only [Act.put, List.setIfInBounds_toArray, List.set_cons_zero, List.set_cons_succ]
        refine wpAnyH_take (i := 11) (oi := { dst := some 46, op := _, type := _, pos := _, after := _, guard := some (9, false) }) (v := undef) rfl (by kernel_rfl) (by kernel_rfl) (by kernel_rfl) (fun _ _ _ h => h) (Or.inr ⟨by rfl, rfl⟩) hS ?_
        simp only [Act.put, List.setIfInBounds_toArray, List.set_cons_zero, List.set_cons_succ]
        refine wpAnyH_take (i := 12) (oi := { dst := some 47, op := _, type := _, pos := _, after := _, guard := some (9, false) }) (v := undef) rfl (by kernel_rfl) (by kernel_rfl) (by kernel_rfl) (fun _ _ _ h => h) (Or.inr ⟨by rfl, rfl⟩) hS ?_
        simp only [Act.put, List.setIfInBounds_toArray, List.set_cons_zero, List.set_cons_succ]
        refine wpAnyH_take (i := 13) (oi := { dst := some 48, op := _, type := _, pos := _, after := _, guard := some (12, true) }) (v := undef) rfl (by kernel_rfl) (by kernel_rfl) (by kernel_rfl) (fun _ _ _ h => h) (Or.inr ⟨by rfl, rfl⟩) hS ?_
        simp only [Act.put, List.setIfInBounds_toArray, List.set_cons_zero, List.set_cons_succ]
        refine wpAnyH_take (i := 14) (oi := { dst := some 49, op := _, type := _, pos := _, after := _, guard := some (12, true) }) (v := undef) rfl (by kernel_rfl) (by kernel_rfl) (by kernel_rfl) (fun _ _ _ h => h) (Or.inr ⟨by rfl, rfl⟩) hS ?_
        simp only [Act.put, List.setIfInBounds_toArray, List.set_cons_zero, List.set_cons_succ]
        refine wpAnyH_take (i := 15) (oi := { dst := some 50, op := _, type := _, pos := _, after := _, guard := some (12, true) }) (v := undef) rfl (by kernel_rfl) (by kernel_rfl) (by kernel_rfl) (fun _ _ _ h => h) (Or.inr ⟨by rfl, rfl⟩) hS ?_
        simp only [Act.put, List.setIfInBounds_toArray, List.set_cons_zero, List.set_cons_succ]
        refine wpAnyH_take (i := 16) (oi := { dst := some 51, op := _, type := _, pos := _, after := _, guard := some (12, true) }) (v := undef) rfl (by kernel_rfl) (by kernel_rfl) (by kernel_rfl) (fun _ _ _ h => h) (Or.inr ⟨by rfl, rfl⟩) hS ?_
        simp only [Act.put, List.setIfInBounds_toArray, List.set_cons_zero, List.set_cons_succ]
        refine wpAnyH_take (i := 17) (oi := { dst := some 52, op := _, type := _, pos := _, after := _, guard := some (12, true) }) (v := undef) rfl (by kernel_rfl) (by kernel_rfl) (by kernel_rfl) (fun _ _ _ h => h) (Or.inr ⟨by rfl, rfl⟩) hS ?_
        simp only [Act.put, List.setIfInBounds_toArray, List.set_cons_zero, List.set_cons_succ]
        refine wpAnyH_take (i := 18) (oi := { dst := some 53, op := _, type := _, pos := _, after := _, guard := some (12, true) }) (v := undef) rfl (by kernel_rfl) (by kernel_rfl) (by kernel_rfl) (fun _ _ _ h => h) (Or.inr ⟨by rfl, rfl⟩) hS ?_
        simp only [Act.put, List.setIfInBounds_toArray, List.set_cons_zero, List.set_cons_succ]
        refine wpAnyH_take (i := 19) (oi := { dst := some 54, op := _, type := _, pos := _, after := _, guard := some (12, true) }) (v := undef) rfl (by kernel_rfl) (by kernel_rfl) (by kernel_rfl) (fun _ _ _ h => h) (Or.inr ⟨by rfl, rfl⟩) hS ?_
        simp only [Act.put, List.setIfInBounds_toArray, List.set_cons_zero, List.set_cons_succ]
        refine wpAnyH_take (i := 20) (oi := { dst := some 55, op := _, type := _, pos := _, after := _, guard := some (12, true) }) (v := undef) rfl (by kernel_rfl) (by kernel_rfl) (by kernel_rfl) (fun _ _ _ h => h) (Or.inr ⟨by rfl, rfl⟩) hS ?_
        simp only [Act.put, List.setIfInBounds_toArray, List.set_cons_zero, List.set_cons_succ]
        refine wpAnyH_take (i := 21) (oi := { dst := some 56, op := _, type := _, pos := _, after := _, guard := some (12, true) }) (v := undef) rfl (by kernel_rfl) (by kernel_rfl) (by kernel_rfl) (fun _ _ _ h => h) (Or.inr ⟨by rfl, rfl⟩) hS ?_
        simp only [Act.put, List.setIfInBounds_toArray, List.set_cons_zero, List.set_cons_succ]
        refine wpAnyH_take (i := 22) (oi := { dst := some 57, op := _, type := _, pos := _, after := _, guard := some (12, true) }) (v := undef) rfl (by kernel_rfl) (by kernel_rfl) (by kernel_rfl) (fun _ _ _ h => h) (Or.inr ⟨by rfl, rfl⟩) hS ?_
        simp only [Act.put, List.setIfInBounds_toArray, List.set_cons_zero, List.set_cons_succ]
        refine wpAnyH_take (i := 23) (oi := { dst := some 58, op := _, type := _, pos := _, after := _, guard := some (12, true) }) (v := undef) rfl (by kernel_rfl) (by kernel_rfl) (by kernel_rfl) (fun _ _ _ h => h) (Or.inr ⟨by rfl, rfl⟩) hS ?_
        simp only [Act.put, List.setIfInBounds_toArray, List.set_cons_zero, List.set_cons_succ]
        refine wpAnyH_take (i := 24) (oi := { dst := some 59, op := _, type := _, pos := _, after := _, guard := some (12, true) }) (v := undef) rfl (by kernel_rfl) (by kernel_rfl) (by kernel_rfl) (fun _ _ _ h => h) (Or.inr ⟨by rfl, rfl⟩) hS ?_
        simp only [Act.put, List.setIfInBounds_toArray, List.set_cons_zero, List.set_cons_succ]
        refine wpAnyH_take (i := 25) (oi := { dst := some 60, op := _, type := _, pos := _, after := _, guard := some (12, true) }) (v := undef) rfl (by kernel_rfl) (by kernel_rfl) (by kernel_rfl) (fun _ _ _ h => h) (Or.inr ⟨by rfl, rfl⟩) hS ?_
        simp only [Act.put, List.setIfInBounds_toArray, List.set_cons_zero, List.set_cons_succ]
        refine wpAnyH_take (i := 26) (oi := { dst := some 61, op := _, type := _, pos := _, after := _, guard := some (12, true) }) (v := undef) rfl (by kernel_rfl) (by kernel_rfl) (by kernel_rfl) (fun _ _ _ h => h) (Or.inr ⟨by rfl, rfl⟩) hS ?_
        simp only [Act.put, List.setIfInBounds_toArray, List.set_cons_zero, List.set_cons_succ]
        refine wpAnyH_take (i := 27) (oi := { dst := some 62, op := _, type := _, pos := _, after := _, guard := some (9, false) }) (v := undef) rfl (by kernel_rfl) (by kernel_rfl) (by kernel_rfl) (fun _ _ _ h => h) (Or.inr ⟨by rfl, rfl⟩) hS ?_
        simp only [Act.put, List.setIfInBounds_toArray, List.set_cons_zero, List.set_cons_succ]
        refine wpAnyH_take (i := 28) (oi := { dst := some 63, op := _, type := _, pos := _, after := _, guard := none }) (v := .bool true) rfl (by kernel_rfl) (by kernel_rfl) (by kernel_rfl) (fun _ _ _ h => h) (Or.inl ⟨by rfl, ?_⟩) hS ?_
        · intro wy hy
          clear hy
          go_simp
        simp only [Act.put, List.setIfInBounds_toArray, List.set_cons_zero, List.set_cons_succ]
        refine wpAnyH_done (by kernel_rfl) ?_ _
        clear hS
        go_wp2_with fail
        go_ret
        exact ⟨false, rfl, ⟨fun h => (by cases h), fun h => (by have h9 := h.s1 k y HYY.out; rw [HRO.out] at h9; cases h9)⟩, hB1.trans (HB.out.mono hB1.size)⟩
      | true =>
        have HRO := Hid.intro hro
        have HN2s : Hid (∀ (j : Nat) y, j < k + 1 → x.services[j]? = some y → svB y x.now = true) := by
          intro j q hj hq
          by_cases e : j = k
          · subst e; rw [HYY.out] at hq; cases hq; exact hro
          · exact hN.out j q (by omega) hq
        clear hro
        cases k with
        | zero =>
          refine wp_region_held_drew (S := fun wy => Blk w.heap.size #[.int .i64 x.now, .slice (some ⟨b, o, none⟩) x.services.length c1, .slice a2 x.copies.length c2, .slice a3 x.berths.length c3] 37 wy ∧ wy.rangeAt b (o + 0 * 13) [.string y.name, .int .i64 y.version, .bool y.gone, .int .i64 y.image, .int .i64 y.want, .int .i64 y.down, .int .i64 y.over, .int .i64 y.next, .int .i64 y.per, .int .i64 y.least, .int .i64 y.most, .int .i64 y.load, .int .i64 y.cool]) (by kernel_rfl) ⟨HKW.out.drew, HRY.out⟩ (fun hS => ?_)
          have HB : Hid (Below w1.heap.size w1 wr.drew) := hBB.drew
          replace hbl : b < wr.drew.heap.size := hbl
          generalize wr.drew = wn at *
          refine wpAnyH_take (i := 0) (oi := { dst := some 35, op := _, type := _, pos := _, after := _, guard := none }) (v := .pointer (some ⟨w.heap.size, 1, none⟩)) rfl (by kernel_rfl) (by kernel_rfl) (by kernel_rfl) (fun _ _ _ h => h) (Or.inl ⟨by rfl, ?_⟩) hS ?_
          · intro wy hy
            clear hy
            go_simp
          simp only [Act.put, List.setIfInBounds_toArray, List.set_cons_zero, List.set_cons_succ]
          refine wpAnyH_take (i := 1) (oi := { dst := some 36, op := _, type := _, pos := _, after := _, guard := none }) (v := .slice (some ⟨b, o, none⟩) x.services.length c1) rfl (by kernel_rfl) (by kernel_rfl) (by kernel_rfl) (fun _ _ _ h => h) (Or.inl ⟨by rfl, ?_⟩) hS ?_
          · intro wy hy
            have h := id hy
            have h0 := h.1.cell (o := 1) rfl
            clear hy
            go_simp
          simp only [Act.put, List.setIfInBounds_toArray, List.set_cons_zero, List.set_cons_succ]
          refine wpAnyH_take (i := 2) (oi := { dst := some 37, op := _, type := _, pos := _, after := _, guard := none }) (v := .int .i64 ((0 : Nat) : Int)) rfl (by kernel_rfl) (by kernel_rfl) (by kernel_rfl) (fun _ _ _ h => h) (Or.inl ⟨by rfl, ?_⟩) hS ?_
          · intro wy hy
            clear hy
            go_simp
          simp only [Act.put, List.setIfInBounds_toArray, List.set_cons_zero, List.set_cons_succ]
          refine wpAnyH_take (i := 3) (oi := { dst := some 38, op := _, type := _, pos := _, after := _, guard := none }) (v := .pointer (some ⟨b, o + 0 * 13, none⟩)) rfl (by kernel_rfl) (by kernel_rfl) (by kernel_rfl) (fun _ _ _ h => h) (Or.inl ⟨by rfl, ?_⟩) hS ?_
          · intro wy hy
            clear hy
            first | (go_simp; done) | (go_simp; omega) | (go_simp; intro hh; omega)
          simp only [Act.put, List.setIfInBounds_toArray, List.set_cons_zero, List.set_cons_succ]
          refine wpAnyH_take (i := 4) (oi := { dst := some 39, op := _, type := _, pos := _, after := _, guard := none }) (v := .agg #[.string y.name, .int .i64 y.version, .bool y.gone, .int .i64 y.image, .int .i64 y.want, .int .i64 y.down, .int .i64 y.over, .int .i64 y.next, .int .i64 y.per, .int .i64 y.least, .int .i64 y.most, .int .i64 y.load, .int .i64 y.cool]) rfl (by kernel_rfl) (by kernel_rfl) (by kernel_rfl) (fun _ _ _ h => h) (yieldsIf_load_mid (by rfl) _ _ rfl b (o + 0 * 13) rfl [.string y.name, .int .i64 y.version, .bool y.gone, .int .i64 y.image, .int .i64 y.want, .int .i64 y.down, .int .i64 y.over, .int .i64 y.next, .int .i64 y.per, .int .i64 y.least, .int .i64 y.most, .int .i64 y.load, .int .i64 y.cool] _ (fun _ h => h.2) Try.underlying59 rfl isz_Ssv) hS ?_
          simp only [Act.put, List.setIfInBounds_toArray, List.set_cons_zero, List.set_cons_succ]
          refine wpAnyH_take (i := 5) (oi := { dst := some 40, op := _, type := _, pos := _, after := _, guard := none }) (v := .pointer (some ⟨w.heap.size, 0, none⟩)) rfl (by kernel_rfl) (by kernel_rfl) (by kernel_rfl) (fun _ _ _ h => h) (Or.inl ⟨by rfl, ?_⟩) hS ?_
          · intro wy hy
            clear hy
            go_simp
          simp only [Act.put, List.setIfInBounds_toArray, List.set_cons_zero, List.set_cons_succ]
          refine wpAnyH_take (i := 6) (oi := { dst := some 41, op := _, type := _, pos := _, after := _, guard := none }) (v := .int .i64 x.now) rfl (by kernel_rfl) (by kernel_rfl) (by kernel_rfl) (fun _ _ _ h => h) (Or.inl ⟨by rfl, ?_⟩) hS ?_
          · intro wy hy
            have h := id hy
            have h0 := h.1.cell (o := 0) rfl
            clear hy
            go_simp
          simp only [Act.put, List.setIfInBounds_toArray, List.set_cons_zero, List.set_cons_succ]
          refine wpAnyH_ready (rs := [7]) (by kernel_rfl) (by simp) (AllReadyH.cons (o := { dst := some 42, op := _, type := _, pos := _, after := _, guard := none }) rfl (fun KK hKK => ?_) AllReadyH.nil)
          go_simp
          refine (service18_any y x.now _ Z0.out).mono ?_
          rintro e w5 ⟨rfl, hb⟩
          rw [HRO.out]
          replace HB : Hid (Below w1.heap.size w1 w5) := HB.out.trans (hb.mono HB.out.size)
          refine hKK.out _ _ ⟨hS.1.below hb hS.1.lt, rngB hS.2 hb hbl⟩ (fun hS => ?_)
          clear hKK KK
          replace hbl : b < w5.heap.size := Nat.lt_of_lt_of_le hbl hb.size
          clear hb
          generalize w5 = wn at *
          refine wpAnyH_take (i := 8) (oi := { dst := some 43, op := _, type := _, pos := _, after := _, guard := none }) (v := .bool false) rfl (by kernel_rfl) (by kernel_rfl) (by kernel_rfl) (fun _ _ _ h => h) (Or.inl ⟨by rfl, ?_⟩) hS ?_
          · intro wy hy
            clear hy
            go_simp
          simp only [Act.put, List.setIfInBounds_toArray, List.set_cons_zero, List.set_cons_succ]
          refine wpAnyH_take (i := 9) (oi := { dst := some 44, op := _, type := _, pos := _, after := _, guard := none }) (v := .bool false) rfl (by kernel_rfl) (by kernel_rfl) (by kernel_rfl) (fun _ _ _ h => h) (Or.inl ⟨by rfl, ?_⟩) hS ?_
          · intro wy hy
            clear hy
            go_simp
          simp only [Act.put, List.setIfInBounds_toArray, List.set_cons_zero, List.set_cons_succ]
          refine wpAnyH_take (i := 10) (oi := { dst := some 45, op := _, type := _, pos := _, after := _, guard := some (9, false) }) (v := .int .i64 ((0 : Nat) : Int)) rfl (by kernel_rfl) (by kernel_rfl) (by kernel_rfl) (fun _ _ _ h => h) (Or.inl ⟨by rfl, ?_⟩) hS ?_
          · intro wy hy
            clear hy
            go_simp
          simp only [Act.put, List.setIfInBounds_toArray, List.set_cons_zero, List.set_cons_succ]
          refine wpAnyH_take (i := 11) (oi := { dst := some 46, op := _, type := _, pos := _, after := _, guard := some (9, false) }) (v := .bool false) rfl (by kernel_rfl) (by kernel_rfl) (by kernel_rfl) (fun _ _ _ h => h) (Or.inl ⟨by rfl, ?_⟩) hS ?_
          · intro wy hy
            clear hy
            first | (go_simp; done) | (go_simp; omega) | (go_simp; intro hh; omega)
          simp only [Act.put, List.setIfInBounds_toArray, List.set_cons_zero, List.set_cons_succ]
          refine wpAnyH_take (i := 12) (oi := { dst := some 47, op := _, type := _, pos := _, after := _, guard := some (9, false) }) (v := .bool false) rfl (by kernel_rfl) (by kernel_rfl) (by kernel_rfl) (fun _ _ _ h => h) (Or.inl ⟨by rfl, ?_⟩) hS ?_
          · intro wy hy
            clear hy
            go_simp
          simp only [Act.put, List.setIfInBounds_toArray, List.set_cons_zero, List.set_cons_succ]
          refine wpAnyH_take (i := 13) (oi := { dst := some 48, op := _, type := _, pos := _, after := _, guard := some (12, true) }) (v := undef) rfl (by kernel_rfl) (by kernel_rfl) (by kernel_rfl) (fun _ _ _ h => h) (Or.inr ⟨by rfl, rfl⟩) hS ?_
          simp only [Act.put, List.setIfInBounds_toArray, List.set_cons_zero, List.set_cons_succ]
          refine wpAnyH_take (i := 14) (oi := { dst := some 49, op := _, type := _, pos := _, after := _, guard := some (12, true) }) (v := undef) rfl (by kernel_rfl) (by kernel_rfl) (by kernel_rfl) (fun _ _ _ h => h) (Or.inr ⟨by rfl, rfl⟩) hS ?_
          simp only [Act.put, List.setIfInBounds_toArray, List.set_cons_zero, List.set_cons_succ]
          refine wpAnyH_take (i := 15) (oi := { dst := some 50, op := _, type := _, pos := _, after := _, guard := some (12, true) }) (v := undef) rfl (by kernel_rfl) (by kernel_rfl) (by kernel_rfl) (fun _ _ _ h => h) (Or.inr ⟨by rfl, rfl⟩) hS ?_
          simp only [Act.put, List.setIfInBounds_toArray, List.set_cons_zero, List.set_cons_succ]
          refine wpAnyH_take (i := 16) (oi := { dst := some 51, op := _, type := _, pos := _, after := _, guard := some (12, true) }) (v := undef) rfl (by kernel_rfl) (by kernel_rfl) (by kernel_rfl) (fun _ _ _ h => h) (Or.inr ⟨by rfl, rfl⟩) hS ?_
          simp only [Act.put, List.setIfInBounds_toArray, List.set_cons_zero, List.set_cons_succ]
          refine wpAnyH_take (i := 17) (oi := { dst := some 52, op := _, type := _, pos := _, after := _, guard := some (12, true) }) (v := undef) rfl (by kernel_rfl) (by kernel_rfl) (by kernel_rfl) (fun _ _ _ h => h) (Or.inr ⟨by rfl, rfl⟩) hS ?_
          simp only [Act.put, List.setIfInBounds_toArray, List.set_cons_zero, List.set_cons_succ]
          refine wpAnyH_take (i := 18) (oi := { dst := some 53, op := _, type := _, pos := _, after := _, guard := some (12, true) }) (v := undef) rfl (by kernel_rfl) (by kernel_rfl) (by kernel_rfl) (fun _ _ _ h => h) (Or.inr ⟨by rfl, rfl⟩) hS ?_
          simp only [Act.put, List.setIfInBounds_toArray, List.set_cons_zero, List.set_cons_succ]
          refine wpAnyH_take (i := 19) (oi := { dst := some 54, op := _, type := _, pos := _, after := _, guard := some (12, true) }) (v := undef) rfl (by kernel_rfl) (by kernel_rfl) (by kernel_rfl) (fun _ _ _ h => h) (Or.inr ⟨by rfl, rfl⟩) hS ?_
          simp only [Act.put, List.setIfInBounds_toArray, List.set_cons_zero, List.set_cons_succ]
          refine wpAnyH_take (i := 20) (oi := { dst := some 55, op := _, type := _, pos := _, after := _, guard := some (12, true) }) (v := undef) rfl (by kernel_rfl) (by kernel_rfl) (by kernel_rfl) (fun _ _ _ h => h) (Or.inr ⟨by rfl, rfl⟩) hS ?_
          simp only [Act.put, List.setIfInBounds_toArray, List.set_cons_zero, List.set_cons_succ]
          refine wpAnyH_take (i := 21) (oi := { dst := some 56, op := _, type := _, pos := _, after := _, guard := some (12, true) }) (v := undef) rfl (by kernel_rfl) (by kernel_rfl) (by kernel_rfl) (fun _ _ _ h => h) (Or.inr ⟨by rfl, rfl⟩) hS ?_
          simp only [Act.put, List.setIfInBounds_toArray, List.set_cons_zero, List.set_cons_succ]
          refine wpAnyH_take (i := 22) (oi := { dst := some 57, op := _, type := _, pos := _, after := _, guard := some (12, true) }) (v := undef) rfl (by kernel_rfl) (by kernel_rfl) (by kernel_rfl) (fun _ _ _ h => h) (Or.inr ⟨by rfl, rfl⟩) hS ?_
          simp only [Act.put, List.setIfInBounds_toArray, List.set_cons_zero, List.set_cons_succ]
          refine wpAnyH_take (i := 23) (oi := { dst := some 58, op := _, type := _, pos := _, after := _, guard := some (12, true) }) (v := undef) rfl (by kernel_rfl) (by kernel_rfl) (by kernel_rfl) (fun _ _ _ h => h) (Or.inr ⟨by rfl, rfl⟩) hS ?_
          simp only [Act.put, List.setIfInBounds_toArray, List.set_cons_zero, List.set_cons_succ]
          refine wpAnyH_take (i := 24) (oi := { dst := some 59, op := _, type := _, pos := _, after := _, guard := some (12, true) }) (v := undef) rfl (by kernel_rfl) (by kernel_rfl) (by kernel_rfl) (fun _ _ _ h => h) (Or.inr ⟨by rfl, rfl⟩) hS ?_
          simp only [Act.put, List.setIfInBounds_toArray, List.set_cons_zero, List.set_cons_succ]
          refine wpAnyH_take (i := 25) (oi := { dst := some 60, op := _, type := _, pos := _, after := _, guard := some (12, true) }) (v := undef) rfl (by kernel_rfl) (by kernel_rfl) (by kernel_rfl) (fun _ _ _ h => h) (Or.inr ⟨by rfl, rfl⟩) hS ?_
          simp only [Act.put, List.setIfInBounds_toArray, List.set_cons_zero, List.set_cons_succ]
          refine wpAnyH_take (i := 26) (oi := { dst := some 61, op := _, type := _, pos := _, after := _, guard := some (12, true) }) (v := undef) rfl (by kernel_rfl) (by kernel_rfl) (by kernel_rfl) (fun _ _ _ h => h) (Or.inr ⟨by rfl, rfl⟩) hS ?_
          simp only [Act.put, List.setIfInBounds_toArray, List.set_cons_zero, List.set_cons_succ]
          refine wpAnyH_take (i := 27) (oi := { dst := some 62, op := _, type := _, pos := _, after := _, guard := some (9, false) }) (v := .bool false) rfl (by kernel_rfl) (by kernel_rfl) (by kernel_rfl) (fun _ _ _ h => h) (Or.inl ⟨by rfl, ?_⟩) hS ?_
          · intro wy hy
            clear hy
            go_simp
          simp only [Act.put, List.setIfInBounds_toArray, List.set_cons_zero, List.set_cons_succ]
          refine wpAnyH_take (i := 28) (oi := { dst := some 63, op := _, type := _, pos := _, after := _, guard := none }) (v := .bool false) rfl (by kernel_rfl) (by kernel_rfl) (by kernel_rfl) (fun _ _ _ h => h) (Or.inl ⟨by rfl, ?_⟩) hS ?_
          · intro wy hy
            clear hy
            go_simp
          simp only [Act.put, List.setIfInBounds_toArray, List.set_cons_zero, List.set_cons_succ]
          refine wpAnyH_done (by kernel_rfl) ?_ _
          clear hS
          go_wp2_with fail
          go_roundw
          case rel => first | exact ⟨0 + 1, by omega, by go_num, HN2s, (Hid.intro (fun j u v h => by omega)), HB.out⟩ | ((repeat apply Exists.intro); exact ⟨⟨0 + 1, by omega, by go_num, HN2s, (Hid.intro (fun j u v h => by omega)), HB.out⟩, rfl⟩)
          case measure => simp [intOf]; omega
        | succ m =>
          obtain ⟨u, hu⟩ : ∃ u, x.services[m]? = some u := ⟨x.services[m], List.getElem?_eq_getElem (by omega)⟩
          obtain ⟨b', o', e', _, _, hcx⟩ := HIR.out.at hu
          cases e'
          have HRX := Hid.intro (rngSsv hcx)
          have HUU := Hid.intro hu
          generalize hq : Op.bytesLess u.name.toList y.name.toList = Q
          have HQ := Hid.intro hq
          clear hq hu hcx HIR
          refine wp_region_held_drew (S := fun wy => Blk w.heap.size #[.int .i64 x.now, .slice (some ⟨b, o, none⟩) x.services.length c1, .slice a2 x.copies.length c2, .slice a3 x.berths.length c3] 37 wy ∧ wy.rangeAt b (o + (m + 1) * 13) [.string y.name, .int .i64 y.version, .bool y.gone, .int .i64 y.image, .int .i64 y.want, .int .i64 y.down, .int .i64 y.over, .int .i64 y.next, .int .i64 y.per, .int .i64 y.least, .int .i64 y.most, .int .i64 y.load, .int .i64 y.cool] ∧ wy.rangeAt b (o + m * 13) [.string u.name, .int .i64 u.version, .bool u.gone, .int .i64 u.image, .int .i64 u.want, .int .i64 u.down, .int .i64 u.over, .int .i64 u.next, .int .i64 u.per, .int .i64 u.least, .int .i64 u.most, .int .i64 u.load, .int .i64 u.cool]) (by kernel_rfl) ⟨HKW.out.drew, HRY.out, HRX.out⟩ (fun hS => ?_)
          have HB : Hid (Below w1.heap.size w1 wr.drew) := hBB.drew
          replace hbl : b < wr.drew.heap.size := hbl
          generalize wr.drew = wn at *
          refine wpAnyH_take (i := 0) (oi := { dst := some 35, op := _, type := _, pos := _, after := _, guard := none }) (v := .pointer (some ⟨w.heap.size, 1, none⟩)) rfl (by kernel_rfl) (by kernel_rfl) (by kernel_rfl) (fun _ _ _ h => h) (Or.inl ⟨by rfl, ?_⟩) hS ?_
          · intro wy hy
            clear hy
            go_simp
          simp only [Act.put, List.setIfInBounds_toArray, List.set_cons_zero, List.set_cons_succ]
          refine wpAnyH_take (i := 1) (oi := { dst := some 36, op := _, type := _, pos := _, after := _, guard := none }) (v := .slice (some ⟨b, o, none⟩) x.services.length c1) rfl (by kernel_rfl) (by kernel_rfl) (by kernel_rfl) (fun _ _ _ h => h) (Or.inl ⟨by rfl, ?_⟩) hS ?_
          · intro wy hy
            have h := id hy
            have h0 := h.1.cell (o := 1) rfl
            clear hy
            go_simp
          simp only [Act.put, List.setIfInBounds_toArray, List.set_cons_zero, List.set_cons_succ]
          refine wpAnyH_take (i := 2) (oi := { dst := some 37, op := _, type := _, pos := _, after := _, guard := none }) (v := .int .i64 ((m : Int) + 1)) rfl (by kernel_rfl) (by kernel_rfl) (by kernel_rfl) (fun _ _ _ h => h) (Or.inl ⟨by rfl, ?_⟩) hS ?_
          · intro wy hy
            clear hy
            go_simp
          simp only [Act.put, List.setIfInBounds_toArray, List.set_cons_zero, List.set_cons_succ]
          refine wpAnyH_take (i := 3) (oi := { dst := some 38, op := _, type := _, pos := _, after := _, guard := none }) (v := .pointer (some ⟨b, o + (m + 1) * 13, none⟩)) rfl (by kernel_rfl) (by kernel_rfl) (by kernel_rfl) (fun _ _ _ h => h) (Or.inl ⟨by rfl, ?_⟩) hS ?_
          · intro wy hy
            clear hy
            first | (go_simp; done) | (go_simp; omega) | (go_simp; intro hh; omega)
          simp only [Act.put, List.setIfInBounds_toArray, List.set_cons_zero, List.set_cons_succ]
          refine wpAnyH_take (i := 4) (oi := { dst := some 39, op := _, type := _, pos := _, after := _, guard := none }) (v := .agg #[.string y.name, .int .i64 y.version, .bool y.gone, .int .i64 y.image, .int .i64 y.want, .int .i64 y.down, .int .i64 y.over, .int .i64 y.next, .int .i64 y.per, .int .i64 y.least, .int .i64 y.most, .int .i64 y.load, .int .i64 y.cool]) rfl (by kernel_rfl) (by kernel_rfl) (by kernel_rfl) (fun _ _ _ h => h) (yieldsIf_load_mid (by rfl) _ _ rfl b (o + (m + 1) * 13) rfl [.string y.name, .int .i64 y.version, .bool y.gone, .int .i64 y.image, .int .i64 y.want, .int .i64 y.down, .int .i64 y.over, .int .i64 y.next, .int .i64 y.per, .int .i64 y.least, .int .i64 y.most, .int .i64 y.load, .int .i64 y.cool] _ (fun _ h => h.2.1) Try.underlying59 rfl isz_Ssv) hS ?_
          simp only [Act.put, List.setIfInBounds_toArray, List.set_cons_zero, List.set_cons_succ]
          refine wpAnyH_take (i := 5) (oi := { dst := some 40, op := _, type := _, pos := _, after := _, guard := none }) (v := .pointer (some ⟨w.heap.size, 0, none⟩)) rfl (by kernel_rfl) (by kernel_rfl) (by kernel_rfl) (fun _ _ _ h => h) (Or.inl ⟨by rfl, ?_⟩) hS ?_
          · intro wy hy
            clear hy
            go_simp
          simp only [Act.put, List.setIfInBounds_toArray, List.set_cons_zero, List.set_cons_succ]
          refine wpAnyH_take (i := 6) (oi := { dst := some 41, op := _, type := _, pos := _, after := _, guard := none }) (v := .int .i64 x.now) rfl (by kernel_rfl) (by kernel_rfl) (by kernel_rfl) (fun _ _ _ h => h) (Or.inl ⟨by rfl, ?_⟩) hS ?_
          · intro wy hy
            have h := id hy
            have h0 := h.1.cell (o := 0) rfl
            clear hy
            go_simp
          simp only [Act.put, List.setIfInBounds_toArray, List.set_cons_zero, List.set_cons_succ]
          refine wpAnyH_ready (rs := [7]) (by kernel_rfl) (by simp) (AllReadyH.cons (o := { dst := some 42, op := _, type := _, pos := _, after := _, guard := none }) rfl (fun KK hKK => ?_) AllReadyH.nil)
          go_simp
          refine (service18_any y x.now _ Z0.out).mono ?_
          rintro e w5 ⟨rfl, hb⟩
          rw [HRO.out]
          replace HB : Hid (Below w1.heap.size w1 w5) := HB.out.trans (hb.mono HB.out.size)
          refine hKK.out _ _ ⟨hS.1.below hb hS.1.lt, rngB hS.2.1 hb hbl, rngB hS.2.2 hb hbl⟩ (fun hS => ?_)
          clear hKK KK
          replace hbl : b < w5.heap.size := Nat.lt_of_lt_of_le hbl hb.size
          clear hb
          generalize w5 = wn at *
          refine wpAnyH_take (i := 8) (oi := { dst := some 43, op := _, type := _, pos := _, after := _, guard := none }) (v := .bool false) rfl (by kernel_rfl) (by kernel_rfl) (by kernel_rfl) (fun _ _ _ h => h) (Or.inl ⟨by rfl, ?_⟩) hS ?_
          · intro wy hy
            clear hy
            go_simp
          simp only [Act.put, List.setIfInBounds_toArray, List.set_cons_zero, List.set_cons_succ]
          refine wpAnyH_take (i := 9) (oi := { dst := some 44, op := _, type := _, pos := _, after := _, guard := none }) (v := .bool false) rfl (by kernel_rfl) (by kernel_rfl) (by kernel_rfl) (fun _ _ _ h => h) (Or.inl ⟨by rfl, ?_⟩) hS ?_
          · intro wy hy
            clear hy
            go_simp
          simp only [Act.put, List.setIfInBounds_toArray, List.set_cons_zero, List.set_cons_succ]
          refine wpAnyH_take (i := 10) (oi := { dst := some 45, op := _, type := _, pos := _, after := _, guard := some (9, false) }) (v := .int .i64 ((m : Int) + 1)) rfl (by kernel_rfl) (by kernel_rfl) (by kernel_rfl) (fun _ _ _ h => h) (Or.inl ⟨by rfl, ?_⟩) hS ?_
          · intro wy hy
            clear hy
            go_simp
          simp only [Act.put, List.setIfInBounds_toArray, List.set_cons_zero, List.set_cons_succ]
          refine wpAnyH_take (i := 11) (oi := { dst := some 46, op := _, type := _, pos := _, after := _, guard := some (9, false) }) (v := .bool true) rfl (by kernel_rfl) (by kernel_rfl) (by kernel_rfl) (fun _ _ _ h => h) (Or.inl ⟨by rfl, ?_⟩) hS ?_
          · intro wy hy
            clear hy
            first | (go_simp; done) | (go_simp; omega) | (go_simp; intro hh; omega)
          simp only [Act.put, List.setIfInBounds_toArray, List.set_cons_zero, List.set_cons_succ]
          refine wpAnyH_take (i := 12) (oi := { dst := some 47, op := _, type := _, pos := _, after := _, guard := some (9, false) }) (v := .bool true) rfl (by kernel_rfl) (by kernel_rfl) (by kernel_rfl) (fun _ _ _ h => h) (Or.inl ⟨by rfl, ?_⟩) hS ?_
          · intro wy hy
            clear hy
            go_simp
          simp only [Act.put, List.setIfInBounds_toArray, List.set_cons_zero, List.set_cons_succ]
          refine wpAnyH_take (i := 13) (oi := { dst := some 48, op := _, type := _, pos := _, after := _, guard := some (12, true) }) (v := .pointer (some ⟨w.heap.size, 1, none⟩)) rfl (by kernel_rfl) (by kernel_rfl) (by kernel_rfl) (fun _ _ _ h => h) (Or.inl ⟨by rfl, ?_⟩) hS ?_
          · intro wy hy
            clear hy
            go_simp
          simp only [Act.put, List.setIfInBounds_toArray, List.set_cons_zero, List.set_cons_succ]
          refine wpAnyH_take (i := 14) (oi := { dst := some 49, op := _, type := _, pos := _, after := _, guard := some (12, true) }) (v := .slice (some ⟨b, o, none⟩) x.services.length c1) rfl (by kernel_rfl) (by kernel_rfl) (by kernel_rfl) (fun _ _ _ h => h) (Or.inl ⟨by rfl, ?_⟩) hS ?_
          · intro wy hy
            have h := id hy
            have h0 := h.1.cell (o := 1) rfl
            clear hy
            go_simp
          simp only [Act.put, List.setIfInBounds_toArray, List.set_cons_zero, List.set_cons_succ]
          refine wpAnyH_take (i := 15) (oi := { dst := some 50, op := _, type := _, pos := _, after := _, guard := some (12, true) }) (v := .int .i64 ((m : Int) + 1)) rfl (by kernel_rfl) (by kernel_rfl) (by kernel_rfl) (fun _ _ _ h => h) (Or.inl ⟨by rfl, ?_⟩) hS ?_
          · intro wy hy
            clear hy
            go_simp
          simp only [Act.put, List.setIfInBounds_toArray, List.set_cons_zero, List.set_cons_succ]
          refine wpAnyH_take (i := 16) (oi := { dst := some 51, op := _, type := _, pos := _, after := _, guard := some (12, true) }) (v := .int .i64 (m : Int)) rfl (by kernel_rfl) (by kernel_rfl) (by kernel_rfl) (fun _ _ _ h => h) (Or.inl ⟨by rfl, ?_⟩) hS ?_
          · intro wy hy
            clear hy
            first | (go_simp; done) | (go_simp; rw [IntKind.wrap_i64]; omega) | (go_simp; omega)
          simp only [Act.put, List.setIfInBounds_toArray, List.set_cons_zero, List.set_cons_succ]
          refine wpAnyH_take (i := 17) (oi := { dst := some 52, op := _, type := _, pos := _, after := _, guard := some (12, true) }) (v := .pointer (some ⟨b, o + m * 13, none⟩)) rfl (by kernel_rfl) (by kernel_rfl) (by kernel_rfl) (fun _ _ _ h => h) (Or.inl ⟨by rfl, ?_⟩) hS ?_
          · intro wy hy
            clear hy
            first | (go_simp; done) | (go_simp; omega) | (go_simp; intro hh; omega)
          simp only [Act.put, List.setIfInBounds_toArray, List.set_cons_zero, List.set_cons_succ]
          refine wpAnyH_take (i := 18) (oi := { dst := some 53, op := _, type := _, pos := _, after := _, guard := some (12, true) }) (v := .pointer (some ⟨b, o + m * 13, none⟩)) rfl (by kernel_rfl) (by kernel_rfl) (by kernel_rfl) (fun _ _ _ h => h) (Or.inl ⟨by rfl, ?_⟩) hS ?_
          · intro wy hy
            clear hy
            go_simp
          simp only [Act.put, List.setIfInBounds_toArray, List.set_cons_zero, List.set_cons_succ]
          refine wpAnyH_take (i := 19) (oi := { dst := some 54, op := _, type := _, pos := _, after := _, guard := some (12, true) }) (v := .string u.name) rfl (by kernel_rfl) (by kernel_rfl) (by kernel_rfl) (fun _ _ _ h => h) (Or.inl ⟨by rfl, ?_⟩) hS ?_
          · intro wy hy
            have h := id hy
            have h0 := h.2.2 0 _ rfl
            simp only [Nat.add_zero] at h0
            clear hy
            go_simp
          simp only [Act.put, List.setIfInBounds_toArray, List.set_cons_zero, List.set_cons_succ]
          refine wpAnyH_take (i := 20) (oi := { dst := some 55, op := _, type := _, pos := _, after := _, guard := some (12, true) }) (v := .pointer (some ⟨w.heap.size, 1, none⟩)) rfl (by kernel_rfl) (by kernel_rfl) (by kernel_rfl) (fun _ _ _ h => h) (Or.inl ⟨by rfl, ?_⟩) hS ?_
          · intro wy hy
            clear hy
            go_simp
          simp only [Act.put, List.setIfInBounds_toArray, List.set_cons_zero, List.set_cons_succ]
          refine wpAnyH_take (i := 21) (oi := { dst := some 56, op := _, type := _, pos := _, after := _, guard := some (12, true) }) (v := .slice (some ⟨b, o, none⟩) x.services.length c1) rfl (by kernel_rfl) (by kernel_rfl) (by kernel_rfl) (fun _ _ _ h => h) (Or.inl ⟨by rfl, ?_⟩) hS ?_
          · intro wy hy
            have h := id hy
            have h0 := h.1.cell (o := 1) rfl
            clear hy
            go_simp
          simp only [Act.put, List.setIfInBounds_toArray, List.set_cons_zero, List.set_cons_succ]
          refine wpAnyH_take (i := 22) (oi := { dst := some 57, op := _, type := _, pos := _, after := _, guard := some (12, true) }) (v := .int .i64 ((m : Int) + 1)) rfl (by kernel_rfl) (by kernel_rfl) (by kernel_rfl) (fun _ _ _ h => h) (Or.inl ⟨by rfl, ?_⟩) hS ?_
          · intro wy hy
            clear hy
            go_simp
          simp only [Act.put, List.setIfInBounds_toArray, List.set_cons_zero, List.set_cons_succ]
          refine wpAnyH_take (i := 23) (oi := { dst := some 58, op := _, type := _, pos := _, after := _, guard := some (12, true) }) (v := .pointer (some ⟨b, o + (m + 1) * 13, none⟩)) rfl (by kernel_rfl) (by kernel_rfl) (by kernel_rfl) (fun _ _ _ h => h) (Or.inl ⟨by rfl, ?_⟩) hS ?_
          · intro wy hy
            clear hy
            first | (go_simp; done) | (go_simp; omega) | (go_simp; intro hh; omega)
          simp only [Act.put, List.setIfInBounds_toArray, List.set_cons_zero, List.set_cons_succ]
          refine wpAnyH_take (i := 24) (oi := { dst := some 59, op := _, type := _, pos := _, after := _, guard := some (12, true) }) (v := .pointer (some ⟨b, o + (m + 1) * 13, none⟩)) rfl (by kernel_rfl) (by kernel_rfl) (by kernel_rfl) (fun _ _ _ h => h) (Or.inl ⟨by rfl, ?_⟩) hS ?_
          · intro wy hy
            clear hy
            go_simp
          simp only [Act.put, List.setIfInBounds_toArray, List.set_cons_zero, List.set_cons_succ]
          refine wpAnyH_take (i := 25) (oi := { dst := some 60, op := _, type := _, pos := _, after := _, guard := some (12, true) }) (v := .string y.name) rfl (by kernel_rfl) (by kernel_rfl) (by kernel_rfl) (fun _ _ _ h => h) (Or.inl ⟨by rfl, ?_⟩) hS ?_
          · intro wy hy
            have h := id hy
            have h0 := h.2.1 0 _ rfl
            simp only [Nat.add_zero] at h0
            clear hy
            go_simp
          simp only [Act.put, List.setIfInBounds_toArray, List.set_cons_zero, List.set_cons_succ]
          refine wpAnyH_take (i := 26) (oi := { dst := some 61, op := _, type := _, pos := _, after := _, guard := some (12, true) }) (v := .bool (!Q)) rfl (by kernel_rfl) (by kernel_rfl) (by kernel_rfl) (fun _ _ _ h => h) (Or.inl ⟨by rfl, ?_⟩) hS ?_
          · intro wy hy
            clear hy
            go_simp; rw [HQ.out]
          simp only [Act.put, List.setIfInBounds_toArray, List.set_cons_zero, List.set_cons_succ]
          refine wpAnyH_take (i := 27) (oi := { dst := some 62, op := _, type := _, pos := _, after := _, guard := some (9, false) }) (v := .bool (!Q)) rfl (by kernel_rfl) (by kernel_rfl) (by kernel_rfl) (fun _ _ _ h => h) (Or.inl ⟨by rfl, ?_⟩) hS ?_
          · intro wy hy
            clear hy
            go_simp
          simp only [Act.put, List.setIfInBounds_toArray, List.set_cons_zero, List.set_cons_succ]
          refine wpAnyH_take (i := 28) (oi := { dst := some 63, op := _, type := _, pos := _, after := _, guard := none }) (v := .bool (!Q)) rfl (by kernel_rfl) (by kernel_rfl) (by kernel_rfl) (fun _ _ _ h => h) (Or.inl ⟨by rfl, ?_⟩) hS ?_
          · intro wy hy
            clear hy
            go_simp
          simp only [Act.put, List.setIfInBounds_toArray, List.set_cons_zero, List.set_cons_succ]
          refine wpAnyH_done (by kernel_rfl) ?_ _
          clear hS
          cases Q with
          | false =>
            go_wp2_with fail
            go_ret
            exact ⟨false, rfl, ⟨fun h => (by cases h), fun h => (by have h9 := h.s2 m u y HUU.out HYY.out; rw [HQ.out] at h9; cases h9)⟩, hB1.trans (HB.out.mono hB1.size)⟩
          | true =>
            have HA2 : Hid (∀ (j : Nat) u v, j + 1 < m + 1 + 1 → x.services[j]? = some u → x.services[j + 1]? = some v → Op.bytesLess u.name.toList v.name.toList = true) := by
              intro j p q hj hp hq
              by_cases e : j = m
              · subst e; rw [HUU.out] at hp; rw [HYY.out] at hq; cases hp; cases hq; exact HQ.out
              · exact hA.out j p q (by omega) hp hq
            go_wp2_with fail
            go_roundw
            case rel => first | exact ⟨m + 1 + 1, by omega, by go_num, HN2s, HA2, HB.out⟩ | ((repeat apply Exists.intro); exact ⟨⟨m + 1 + 1, by omega, by go_num, HN2s, HA2, HB.out⟩, rfl⟩)
            case measure => simp [intOf]; omega

end Go.Proofs.Ytnkggfnblcadoaa
