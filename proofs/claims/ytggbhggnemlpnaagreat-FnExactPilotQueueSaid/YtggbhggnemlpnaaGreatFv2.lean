/-
  Walks: pilotFindValid and PilotValid (made by mkfv.py).
-/
import Derived.Test.YtggbhggnemlpnaaGreatJ26
namespace Go.Proofs.YtggbhggnemlpnaaGreat
open Go.RowKit Go.WideMaps Go.Maps

/-- a fleet that is found lies at p -/
def Found (p m1 m2 m3 m4 : Nat) (x : Flt) (a1 : Option Addr) (c1 : Nat) (a2 : Option Addr) (c2 : Nat) (a3 : Option Addr) (c3 : Nat) (w : World) : Prop :=
  w.rangeAt p 0 [.bool x.pack, .slice a1 x.berths.length c1, .slice a2 x.services.length c2, .slice a3 x.copies.length c3, .map (some m1), .map (some m2), .map (some m3), .map (some m4)] ∧ p < w.heap.size ∧ w.ownsMap Tryz.prog 9 (plainElem Tryz.prog 3) m1 x.berths.length (placesTo (x.berths.map (·.name)) x.berths.length) ∧ w.ownsMap Tryz.prog 9 (plainElem Tryz.prog 3) m2 x.services.length (placesTo (x.services.map (·.name)) x.services.length) ∧ w.ownsMap Tryz.prog 9 (plainElem Tryz.prog 3) m3 x.copies.length (placesTo (x.copies.map (·.name)) x.copies.length) ∧ w.heap[m4]? = some (Obj.map #[] 0)

theorem Found.below {p m1 m2 m3 m4 : Nat} {x : Flt} {a1 : Option Addr} {c1 : Nat} {a2 : Option Addr} {c2 : Nat} {a3 : Option Addr} {c3 : Nat} {w w' : World} (h : Found p m1 m2 m3 m4 x a1 c1 a2 c2 a3 c3 w) (hb : Below w.heap.size w w') : Found p m1 m2 m3 m4 x a1 c1 a2 c2 a3 c3 w' :=
  ⟨range_belowV h.1 hb h.2.1, Nat.lt_of_lt_of_le h.2.1 hb.size, ownsMap_below h.2.2.1 hb h.2.2.1.lt, ownsMap_below h.2.2.2.1 hb h.2.2.2.1.lt, ownsMap_below h.2.2.2.2.1 hb h.2.2.2.2.1.lt, (hb.block m4 (Array.getElem?_eq_some_iff.1 h.2.2.2.2.2).1).trans h.2.2.2.2.2⟩

theorem Found.ins {p m1 m2 m3 m4 : Nat} {x : Flt} {a1 : Option Addr} {c1 : Nat} {a2 : Option Addr} {c2 : Nat} {a3 : Option Addr} {c3 : Nat} {w : World} (h : Found p m1 m2 m3 m4 x a1 c1 a2 c2 a3 c3 w) : FndIn p x a1 c1 a2 c2 a3 c3 w :=
  ⟨h.1 1 _ rfl, h.1 2 _ rfl, h.1 3 _ rfl⟩

set_option maxHeartbeats 2000000 in
set_option maxRecDepth 100000 in
theorem findValid_any (x : Flt) (a1 : Option Addr) (c1 : Nat) (a2 : Option Addr) (c2 : Nat) (a3 : Option Addr) (c3 : Nat) (lo : Nat) (w : World) (n1 : SliceC BrtC 6 lo w a1 x.berths) (n2 : SliceC SvcC 2 lo w a2 x.services) (n3 : SliceC CpyC 12 lo w a3 x.copies)
    (l1 : x.berths.length ≤ 1048576) (l2 : x.services.length ≤ 1048576) (l3 : x.copies.length ≤ 1048576) :
    Calls Tryz.prog 29 #[.agg #[.bool x.pack, .slice a1 x.berths.length c1, .slice a2 x.services.length c2, .slice a3 x.copies.length c3]] w fun e w' => ∃ v, e = .returned (.tuple #[v, .bool (validI x)]) ∧ Below w.heap.size w w' ∧
      (validI x = true → ∃ p m1 m2 m3 m4, v = .pointer (some ⟨p, 0, none⟩) ∧ w.heap.size ≤ p ∧ w.heap.size ≤ m4 ∧ Found p m1 m2 m3 m4 x a1 c1 a2 c2 a3 c3 w') := by
  have N1 : Hid (SliceC BrtC 6 lo w a1 x.berths) := n1
  have N2 : Hid (SliceC SvcC 2 lo w a2 x.services) := n2
  have N3 : Hid (SliceC CpyC 12 lo w a3 x.copies) := n3
  have HV : Hid (validI x = (fewOk x && (ordOk x && (berthsOk x.berths && (svcsOk x.services && (copiesOk x && standOk x.berths x.copies)))))) := rfl
  clear n1 n2 n3
  generalize validI x = V at *
  go_enter Tryz.func29, Tryz.ntmps29
  go_wp2_with fail
  refine (find_any x a1 c1 a2 c2 a3 c3 lo _ (N1.out.below BrtC.holds (B := w.heap.size) (by go_grown) (Nat.le_refl _)) (N2.out.below SvcC.holds (B := w.heap.size) (by go_grown) (Nat.le_refl _)) (N3.out.below CpyC.holds (B := w.heap.size) (by go_grown) (Nat.le_refl _)) l1 l2 l3).mono ?_
  rintro e w1 ⟨p, m1, m2, m3, m4, rfl, hp, hrg, ho1, ho2, ho3, hg4, hm4, hb1⟩
  have HB1 : Hid (Below w.heap.size w w1) := (show Below w.heap.size w _ by go_grown).trans (hb1.mono (by simp))
  have HP : Hid (w.heap.size ≤ p) := Nat.le_trans (show w.heap.size ≤ _ by simp) hp
  have HG4 : Hid (w.heap.size ≤ m4) := Nat.le_trans (show w.heap.size ≤ _ by simp) hg4
  have HF1 : Hid (Found p m1 m2 m3 m4 x a1 c1 a2 c2 a3 c3 w1) := ⟨hrg, block_lt_of_cell (hrg 1 _ rfl), ho1, ho2, ho3, hm4⟩
  clear hrg ho1 ho2 ho3 hb1 hp hg4 hm4
  go_wp2_with fail
  refine (checks_any _).mono ?_
  rintro e w2 ⟨g, rfl, hg, hgl, hb2⟩
  have HB2 : Hid (Below w.heap.size w w2) := HB1.out.trans (hb2.mono HB1.out.size)
  have HF2 : Hid (Found p m1 m2 m3 m4 x a1 c1 a2 c2 a3 c3 w2) := HF1.out.below hb2
  have HG2 : Hid (w2.rangeAt g 0 [.func (.func 85) #[] #[], .func (.func 86) #[] #[], .func (.func 87) #[] #[], .func (.func 88) #[] #[], .func (.func 89) #[] #[], .func (.func 90) #[] #[]]) := hg
  have HGL : Hid (g < w2.heap.size) := hgl
  clear hg hgl hb2 HB1 HF1
  go_wp2_with fail
  go_loopw [11] (fun i wr => ∃ k : Nat, k ≤ 6 ∧ i = .int .i64 k ∧ Hid ((0 < k → (fewOk x) = true) ∧ (1 < k → (ordOk x) = true) ∧ (2 < k → (berthsOk x.berths) = true) ∧ (3 < k → (svcsOk x.services) = true) ∧ (4 < k → (copiesOk x) = true) ∧ (5 < k → (standOk x.berths x.copies) = true)) ∧ Hid (Found p m1 m2 m3 m4 x a1 c1 a2 c2 a3 c3 wr) ∧ Hid (wr.rangeAt g 0 [.func (.func 85) #[] #[], .func (.func 86) #[] #[], .func (.func 87) #[] #[], .func (.func 88) #[] #[], .func (.func 89) #[] #[], .func (.func 90) #[] #[]]) ∧ Hid (g < wr.heap.size) ∧ Hid (Below w.heap.size w wr)) (fun i _ => 6 - (intOf i).toNat)
  case atStart => exact ⟨0, by omega, rfl, ⟨fun h => absurd h (by omega), fun h => absurd h (by omega), fun h => absurd h (by omega), fun h => absurd h (by omega), fun h => absurd h (by omega), fun h => absurd h (by omega)⟩, HF2, HG2, HGL, HB2⟩
  case round =>
    clear HF2 HG2 HGL HB2
    obtain ⟨k, hk, rfl, he, hF, hG, hgl, hb⟩ := hrel
    have hk' : k = 0 ∨ k = 1 ∨ k = 2 ∨ k = 3 ∨ k = 4 ∨ k = 5 ∨ k = 6 := by omega
    rcases hk' with rfl | rfl | rfl | rfl | rfl | rfl | rfl
    · have c0 : wr.cell? ⟨g, 0, none⟩ = some (.func (.func 85) #[] #[]) := hG.out 0 _ rfl
      go_wp2_with fail
      refine (few_any p x a1 c1 a2 c2 a3 c3 _ hF.out.ins).mono ?_
      rintro e w3 ⟨rfl, hb3⟩
      have HF3 : Hid (Found p m1 m2 m3 m4 x a1 c1 a2 c2 a3 c3 w3) := hF.out.below hb3
      have HG3 : Hid (w3.rangeAt g 0 [.func (.func 85) #[] #[], .func (.func 86) #[] #[], .func (.func 87) #[] #[], .func (.func 88) #[] #[], .func (.func 89) #[] #[], .func (.func 90) #[] #[]]) := range_belowV hG.out hb3 hgl.out
      have HL3 : Hid (g < w3.heap.size) := Nat.lt_of_lt_of_le hgl.out hb3.size
      have HB3 : Hid (Below w.heap.size w w3) := hb.out.trans (hb3.mono hb.out.size)
      clear hb3 hF hG hgl hb c0
      cases hh : fewOk x with
      | false =>
        have HC : Hid (V = false) := by show _ = _; rw [HV.out, hh]; rfl
        clear hh he HV
        go_wp2_with fail
        go_ret2
        exact ⟨.pointer none, by rw [HC.out]; rfl, HB3.out, fun h => absurd (HC.out.symm.trans h) (by decide)⟩
      | true =>
        have HE : Hid ((0 < 0 + 1 → (fewOk x) = true) ∧ (1 < 0 + 1 → (ordOk x) = true) ∧ (2 < 0 + 1 → (berthsOk x.berths) = true) ∧ (3 < 0 + 1 → (svcsOk x.services) = true) ∧ (4 < 0 + 1 → (copiesOk x) = true) ∧ (5 < 0 + 1 → (standOk x.berths x.copies) = true)) := ⟨fun _ => hh, fun h => absurd h (by omega), fun h => absurd h (by omega), fun h => absurd h (by omega), fun h => absurd h (by omega), fun h => absurd h (by omega)⟩
        clear hh he
        go_wp2_with fail
        go_roundw
        case rel => exact ⟨0 + 1, by omega, by go_num, HE, HF3, HG3, HL3, HB3⟩
        case measure => simp [intOf]
    · have c0 : wr.cell? ⟨g, 1, none⟩ = some (.func (.func 86) #[] #[]) := hG.out 1 _ rfl
      go_wp2_with fail
      refine (ord_any p x a1 c1 a2 c2 a3 c3 lo _ hF.out.ins (N1.out.below BrtC.holds hb.out (Nat.le_refl _)) (N2.out.below SvcC.holds hb.out (Nat.le_refl _)) (N3.out.below CpyC.holds hb.out (Nat.le_refl _)) l1 l2 l3).mono ?_
      rintro e w3 ⟨rfl, hb3⟩
      have HF3 : Hid (Found p m1 m2 m3 m4 x a1 c1 a2 c2 a3 c3 w3) := hF.out.below hb3
      have HG3 : Hid (w3.rangeAt g 0 [.func (.func 85) #[] #[], .func (.func 86) #[] #[], .func (.func 87) #[] #[], .func (.func 88) #[] #[], .func (.func 89) #[] #[], .func (.func 90) #[] #[]]) := range_belowV hG.out hb3 hgl.out
      have HL3 : Hid (g < w3.heap.size) := Nat.lt_of_lt_of_le hgl.out hb3.size
      have HB3 : Hid (Below w.heap.size w w3) := hb.out.trans (hb3.mono hb.out.size)
      clear hb3 hF hG hgl hb c0
      cases hh : ordOk x with
      | false =>
        have HC : Hid (V = false) := by show _ = _; rw [HV.out, he.out.1 (by omega), Bool.true_and, hh]; rfl
        clear hh he HV
        go_wp2_with fail
        go_ret2
        exact ⟨.pointer none, by rw [HC.out]; rfl, HB3.out, fun h => absurd (HC.out.symm.trans h) (by decide)⟩
      | true =>
        have HE : Hid ((0 < 1 + 1 → (fewOk x) = true) ∧ (1 < 1 + 1 → (ordOk x) = true) ∧ (2 < 1 + 1 → (berthsOk x.berths) = true) ∧ (3 < 1 + 1 → (svcsOk x.services) = true) ∧ (4 < 1 + 1 → (copiesOk x) = true) ∧ (5 < 1 + 1 → (standOk x.berths x.copies) = true)) := ⟨fun _ => he.out.1 (by omega), fun _ => hh, fun h => absurd h (by omega), fun h => absurd h (by omega), fun h => absurd h (by omega), fun h => absurd h (by omega)⟩
        clear hh he
        go_wp2_with fail
        go_roundw
        case rel => exact ⟨1 + 1, by omega, by go_num, HE, HF3, HG3, HL3, HB3⟩
        case measure => simp [intOf]
    · have c0 : wr.cell? ⟨g, 2, none⟩ = some (.func (.func 87) #[] #[]) := hG.out 2 _ rfl
      go_wp2_with fail
      refine (berths_any p x.berths a1 c1 lo _ hF.out.ins.1 (N1.out.below BrtC.holds hb.out (Nat.le_refl _))).mono ?_
      rintro e w3 ⟨rfl, hb3⟩
      have HF3 : Hid (Found p m1 m2 m3 m4 x a1 c1 a2 c2 a3 c3 w3) := hF.out.below hb3
      have HG3 : Hid (w3.rangeAt g 0 [.func (.func 85) #[] #[], .func (.func 86) #[] #[], .func (.func 87) #[] #[], .func (.func 88) #[] #[], .func (.func 89) #[] #[], .func (.func 90) #[] #[]]) := range_belowV hG.out hb3 hgl.out
      have HL3 : Hid (g < w3.heap.size) := Nat.lt_of_lt_of_le hgl.out hb3.size
      have HB3 : Hid (Below w.heap.size w w3) := hb.out.trans (hb3.mono hb.out.size)
      clear hb3 hF hG hgl hb c0
      cases hh : berthsOk x.berths with
      | false =>
        have HC : Hid (V = false) := by show _ = _; rw [HV.out, he.out.1 (by omega), Bool.true_and, he.out.2.1 (by omega), Bool.true_and, hh]; rfl
        clear hh he HV
        go_wp2_with fail
        go_ret2
        exact ⟨.pointer none, by rw [HC.out]; rfl, HB3.out, fun h => absurd (HC.out.symm.trans h) (by decide)⟩
      | true =>
        have HE : Hid ((0 < 2 + 1 → (fewOk x) = true) ∧ (1 < 2 + 1 → (ordOk x) = true) ∧ (2 < 2 + 1 → (berthsOk x.berths) = true) ∧ (3 < 2 + 1 → (svcsOk x.services) = true) ∧ (4 < 2 + 1 → (copiesOk x) = true) ∧ (5 < 2 + 1 → (standOk x.berths x.copies) = true)) := ⟨fun _ => he.out.1 (by omega), fun _ => he.out.2.1 (by omega), fun _ => hh, fun h => absurd h (by omega), fun h => absurd h (by omega), fun h => absurd h (by omega)⟩
        clear hh he
        go_wp2_with fail
        go_roundw
        case rel => exact ⟨2 + 1, by omega, by go_num, HE, HF3, HG3, HL3, HB3⟩
        case measure => simp [intOf]
    · have c0 : wr.cell? ⟨g, 3, none⟩ = some (.func (.func 88) #[] #[]) := hG.out 3 _ rfl
      go_wp2_with fail
      refine (svcs_any p x.services a2 c2 lo _ hF.out.ins.2.1 (N2.out.below SvcC.holds hb.out (Nat.le_refl _))).mono ?_
      rintro e w3 ⟨rfl, hb3⟩
      have HF3 : Hid (Found p m1 m2 m3 m4 x a1 c1 a2 c2 a3 c3 w3) := hF.out.below hb3
      have HG3 : Hid (w3.rangeAt g 0 [.func (.func 85) #[] #[], .func (.func 86) #[] #[], .func (.func 87) #[] #[], .func (.func 88) #[] #[], .func (.func 89) #[] #[], .func (.func 90) #[] #[]]) := range_belowV hG.out hb3 hgl.out
      have HL3 : Hid (g < w3.heap.size) := Nat.lt_of_lt_of_le hgl.out hb3.size
      have HB3 : Hid (Below w.heap.size w w3) := hb.out.trans (hb3.mono hb.out.size)
      clear hb3 hF hG hgl hb c0
      cases hh : svcsOk x.services with
      | false =>
        have HC : Hid (V = false) := by show _ = _; rw [HV.out, he.out.1 (by omega), Bool.true_and, he.out.2.1 (by omega), Bool.true_and, he.out.2.2.1 (by omega), Bool.true_and, hh]; rfl
        clear hh he HV
        go_wp2_with fail
        go_ret2
        exact ⟨.pointer none, by rw [HC.out]; rfl, HB3.out, fun h => absurd (HC.out.symm.trans h) (by decide)⟩
      | true =>
        have HE : Hid ((0 < 3 + 1 → (fewOk x) = true) ∧ (1 < 3 + 1 → (ordOk x) = true) ∧ (2 < 3 + 1 → (berthsOk x.berths) = true) ∧ (3 < 3 + 1 → (svcsOk x.services) = true) ∧ (4 < 3 + 1 → (copiesOk x) = true) ∧ (5 < 3 + 1 → (standOk x.berths x.copies) = true)) := ⟨fun _ => he.out.1 (by omega), fun _ => he.out.2.1 (by omega), fun _ => he.out.2.2.1 (by omega), fun _ => hh, fun h => absurd h (by omega), fun h => absurd h (by omega)⟩
        clear hh he
        go_wp2_with fail
        go_roundw
        case rel => exact ⟨3 + 1, by omega, by go_num, HE, HF3, HG3, HL3, HB3⟩
        case measure => simp [intOf]
    · have c0 : wr.cell? ⟨g, 4, none⟩ = some (.func (.func 89) #[] #[]) := hG.out 4 _ rfl
      go_wp2_with fail
      refine (copies_any p x a3 c3 m1 m2 lo _ hF.out.ins.2.2 (hF.out.1 4 _ rfl) (hF.out.1 5 _ rfl) hF.out.2.2.1 hF.out.2.2.2.1 (N3.out.below CpyC.holds hb.out (Nat.le_refl _)) l3).mono ?_
      rintro e w3 ⟨rfl, hb3⟩
      have HF3 : Hid (Found p m1 m2 m3 m4 x a1 c1 a2 c2 a3 c3 w3) := hF.out.below hb3
      have HG3 : Hid (w3.rangeAt g 0 [.func (.func 85) #[] #[], .func (.func 86) #[] #[], .func (.func 87) #[] #[], .func (.func 88) #[] #[], .func (.func 89) #[] #[], .func (.func 90) #[] #[]]) := range_belowV hG.out hb3 hgl.out
      have HL3 : Hid (g < w3.heap.size) := Nat.lt_of_lt_of_le hgl.out hb3.size
      have HB3 : Hid (Below w.heap.size w w3) := hb.out.trans (hb3.mono hb.out.size)
      clear hb3 hF hG hgl hb c0
      cases hh : copiesOk x with
      | false =>
        have HC : Hid (V = false) := by show _ = _; rw [HV.out, he.out.1 (by omega), Bool.true_and, he.out.2.1 (by omega), Bool.true_and, he.out.2.2.1 (by omega), Bool.true_and, he.out.2.2.2.1 (by omega), Bool.true_and, hh]; rfl
        clear hh he HV
        go_wp2_with fail
        go_ret2
        exact ⟨.pointer none, by rw [HC.out]; rfl, HB3.out, fun h => absurd (HC.out.symm.trans h) (by decide)⟩
      | true =>
        have HE : Hid ((0 < 4 + 1 → (fewOk x) = true) ∧ (1 < 4 + 1 → (ordOk x) = true) ∧ (2 < 4 + 1 → (berthsOk x.berths) = true) ∧ (3 < 4 + 1 → (svcsOk x.services) = true) ∧ (4 < 4 + 1 → (copiesOk x) = true) ∧ (5 < 4 + 1 → (standOk x.berths x.copies) = true)) := ⟨fun _ => he.out.1 (by omega), fun _ => he.out.2.1 (by omega), fun _ => he.out.2.2.1 (by omega), fun _ => he.out.2.2.2.1 (by omega), fun _ => hh, fun h => absurd h (by omega)⟩
        clear hh he
        go_wp2_with fail
        go_roundw
        case rel => exact ⟨4 + 1, by omega, by go_num, HE, HF3, HG3, HL3, HB3⟩
        case measure => simp [intOf]
    · have c0 : wr.cell? ⟨g, 5, none⟩ = some (.func (.func 90) #[] #[]) := hG.out 5 _ rfl
      go_wp2_with fail
      refine (stand_any p x a1 c1 a2 c2 a3 c3 lo _ hF.out.ins (N1.out.below BrtC.holds hb.out (Nat.le_refl _)) (N3.out.below CpyC.holds hb.out (Nat.le_refl _)) l1 l3).mono ?_
      rintro e w3 ⟨rfl, hb3⟩
      have HF3 : Hid (Found p m1 m2 m3 m4 x a1 c1 a2 c2 a3 c3 w3) := hF.out.below hb3
      have HG3 : Hid (w3.rangeAt g 0 [.func (.func 85) #[] #[], .func (.func 86) #[] #[], .func (.func 87) #[] #[], .func (.func 88) #[] #[], .func (.func 89) #[] #[], .func (.func 90) #[] #[]]) := range_belowV hG.out hb3 hgl.out
      have HL3 : Hid (g < w3.heap.size) := Nat.lt_of_lt_of_le hgl.out hb3.size
      have HB3 : Hid (Below w.heap.size w w3) := hb.out.trans (hb3.mono hb.out.size)
      clear hb3 hF hG hgl hb c0
      cases hh : standOk x.berths x.copies with
      | false =>
        have HC : Hid (V = false) := by show _ = _; rw [HV.out, he.out.1 (by omega), Bool.true_and, he.out.2.1 (by omega), Bool.true_and, he.out.2.2.1 (by omega), Bool.true_and, he.out.2.2.2.1 (by omega), Bool.true_and, he.out.2.2.2.2.1 (by omega), Bool.true_and, hh]; skip
        clear hh he HV
        go_wp2_with fail
        go_ret2
        exact ⟨.pointer none, by rw [HC.out]; rfl, HB3.out, fun h => absurd (HC.out.symm.trans h) (by decide)⟩
      | true =>
        have HE : Hid ((0 < 5 + 1 → (fewOk x) = true) ∧ (1 < 5 + 1 → (ordOk x) = true) ∧ (2 < 5 + 1 → (berthsOk x.berths) = true) ∧ (3 < 5 + 1 → (svcsOk x.services) = true) ∧ (4 < 5 + 1 → (copiesOk x) = true) ∧ (5 < 5 + 1 → (standOk x.berths x.copies) = true)) := ⟨fun _ => he.out.1 (by omega), fun _ => he.out.2.1 (by omega), fun _ => he.out.2.2.1 (by omega), fun _ => he.out.2.2.2.1 (by omega), fun _ => he.out.2.2.2.2.1 (by omega), fun _ => hh⟩
        clear hh he
        go_wp2_with fail
        go_roundw
        case rel => exact ⟨5 + 1, by omega, by go_num, HE, HF3, HG3, HL3, HB3⟩
        case measure => simp [intOf]
    · have HC : Hid (V = true) := by show _ = _; rw [HV.out, he.out.1 (by omega), he.out.2.1 (by omega), he.out.2.2.1 (by omega), he.out.2.2.2.1 (by omega), he.out.2.2.2.2.1 (by omega), he.out.2.2.2.2.2 (by omega)]; rfl
      clear he HV
      go_wp2_with fail
      go_ret2
      exact ⟨.pointer (some ⟨p, 0, none⟩), by rw [HC.out]; rfl, hb.out, fun _ => ⟨p, m1, m2, m3, m4, rfl, HP.out, HG4.out, hF.out⟩⟩

end Go.Proofs.YtggbhggnemlpnaaGreat
