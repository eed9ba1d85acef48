import Derived.Test.YtebfdgfhadpieaaGreatL4s
import Derived.Test.YtebfdgfhadpieaaGreatSp3
namespace Go.Proofs.YtebfdgfhadpieaaGreat
open Go.RowKit Go.WideMaps Go.Maps
def Found (p m1 m2 m3 m4 : Nat) (x : Flt) (a1 : Option Addr) (c1 : Nat) (a2 : Option Addr) (c2 : Nat) (a3 : Option Addr) (c3 : Nat) (w : World) : Prop :=
 w.rangeAt p 0 [.bool x.pack, .slice a1 x.berths.length c1, .slice a2 x.services.length c2, .slice a3 x.copies.length c3, .map (some m1), .map (some m2), .map (some m3), .map (some m4)] ∧ p < w.heap.size ∧ w.ownsMap Tryz.prog 9 (plainElem Tryz.prog 3) m1 x.berths.length (placesTo (x.berths.map (·.name)) x.berths.length) ∧ w.ownsMap Tryz.prog 9 (plainElem Tryz.prog 3) m2 x.services.length (placesTo (x.services.map (·.name)) x.services.length) ∧ w.ownsMap Tryz.prog 9 (plainElem Tryz.prog 3) m3 x.copies.length (placesTo (x.copies.map (·.name)) x.copies.length) ∧ w.heap[m4]? = some (Obj.map #[] 0)
theorem Found.below {p m1 m2 m3 m4 : Nat} {x : Flt} {a1 : Option Addr} {c1 : Nat} {a2 : Option Addr} {c2 : Nat} {a3 : Option Addr} {c3 : Nat} {w w' : World} (h : Found p m1 m2 m3 m4 x a1 c1 a2 c2 a3 c3 w) (hb : Below w.heap.size w w') : Found p m1 m2 m3 m4 x a1 c1 a2 c2 a3 c3 w' :=
 ⟨range_belowV h.1 hb h.2.1, Nat.lt_of_lt_of_le h.2.1 hb.size, ownsMap_below h.2.2.1 hb h.2.2.1.lt, ownsMap_below h.2.2.2.1 hb h.2.2.2.1.lt, ownsMap_below h.2.2.2.2.1 hb h.2.2.2.2.1.lt, (hb.block m4 (Array.getElem?_eq_some_iff.1 h.2.2.2.2.2).1).trans h.2.2.2.2.2⟩
theorem Found.ins {p m1 m2 m3 m4 : Nat} {x : Flt} {a1 : Option Addr} {c1 : Nat} {a2 : Option Addr} {c2 : Nat} {a3 : Option Addr} {c3 : Nat} {w : World} (h : Found p m1 m2 m3 m4 x a1 c1 a2 c2 a3 c3 w) : FndIn p x a1 c1 a2 c2 a3 c3 w :=
 ⟨h.1 1 _ rfl, h.1 2 _ rfl, h.1 3 _ rfl⟩
set_option maxHeartbeats 2000000 in
set_option maxRecDepth 100000 in
theorem findValid_any (x : Flt) (a1 : Option Addr) (c1 : Nat) (a2 : Option Addr) (c2 : Nat) (a3 : Option Addr) (c3 : Nat) (lo : Nat) (w : World) (n1 : SliceC BrtC 6 lo w a1 x.berths) (n2 : SliceC SvcC 2 lo w a2 x.services) (n3 : SliceC CpyC 12 lo w a3 x.copies)
  (l1 : x.berths.length ≤ 1048576) (l2 : x.services.length ≤ 1048576) (l3 : x.copies.length ≤ 1048576) :
  Calls Tryz.prog 18 #[.agg #[.bool x.pack, .slice a1 x.berths.length c1, .slice a2 x.services.length c2, .slice a3 x.copies.length c3]] w fun e w' => ∃ v, e = .returned (.tuple #[v, .bool (validI x)]) ∧ Below w.heap.size w w' ∧
   (validI x = true → ∃ p m1 m2 m3 m4, v = .pointer (some ⟨p, 0, none⟩) ∧ w.heap.size ≤ p ∧ w.heap.size ≤ m4 ∧ Found p m1 m2 m3 m4 x a1 c1 a2 c2 a3 c3 w') := by
 have N1 : Hid (SliceC BrtC 6 lo w a1 x.berths) := n1
 have N2 : Hid (SliceC SvcC 2 lo w a2 x.services) := n2
 have N3 : Hid (SliceC CpyC 12 lo w a3 x.copies) := n3
 have HV : Hid (validI x = (fewOk x && (ordOk x && (berthsOk x.berths && (svcsOk x.services && (copiesOk x && standOk x.berths x.copies)))))) := rfl
 clear n1 n2 n3
 generalize validI x = V at *
 go_enter Tryz.func18, Tryz.ntmps18
 go_wp2_with fail
 refine (find_any x a1 c1 a2 c2 a3 c3 lo _ (N1.out.below BrtC.holds (B := w.heap.size) (by go_grown) nL) (N2.out.below SvcC.holds (B := w.heap.size) (by go_grown) nL) (N3.out.below CpyC.holds (B := w.heap.size) (by go_grown) nL) l1 l2 l3).mono ?_
 rintro e w1 ⟨p, m1, m2, m3, m4, rfl, hp, hrg, ho1, ho2, ho3, hg4, hm4, hb1⟩
 have HB1 : Hid (Below w.heap.size w w1) := (show Below w.heap.size w _ by go_grown).trans (hb1.mono (by simp))
 have HP : Hid (w.heap.size ≤ p) := Nat.le_trans (show w.heap.size ≤ _ by simp) hp
 have HG4 : Hid (w.heap.size ≤ m4) := Nat.le_trans (show w.heap.size ≤ _ by simp) hg4
 have HF1 : Hid (Found p m1 m2 m3 m4 x a1 c1 a2 c2 a3 c3 w1) := ⟨hrg, block_lt_of_cell (hrg 1 _ rfl), ho1, ho2, ho3, hm4⟩
 clear hrg ho1 ho2 ho3 hb1 hp hg4 hm4
 go_wp2_with fail
 refine (checks_any _).mono ?_
 rintro e w2 ⟨g, rfl, hg, hgl, hb2⟩
 have HB2 : Hid (Below w.heap.size w w2) := HB1.out.trans (hb2.mono HB1.out.size)
 have HF2 : Hid (Found p m1 m2 m3 m4 x a1 c1 a2 c2 a3 c3 w2) := HF1.out.below hb2
 have HG2 : Hid (w2.rangeAt g 0 [.func (.func 68) #[] #[], .func (.func 69) #[] #[], .func (.func 70) #[] #[], .func (.func 71) #[] #[], .func (.func 72) #[] #[], .func (.func 73) #[] #[]]) := hg
 have HGL : Hid (g < w2.heap.size) := hgl
 clear hg hgl hb2 HB1 HF1
 go_wp2_with fail
 go_loopw [11] (fun i wr => ∃ k : Nat, k ≤ 6 ∧ i = .int .i64 k ∧ Hid ((0 < k → (fewOk x) = true) ∧ (1 < k → (ordOk x) = true) ∧ (2 < k → (berthsOk x.berths) = true) ∧ (3 < k → (svcsOk x.services) = true) ∧ (4 < k → (copiesOk x) = true) ∧ (5 < k → (standOk x.berths x.copies) = true)) ∧ Hid (Found p m1 m2 m3 m4 x a1 c1 a2 c2 a3 c3 wr) ∧ Hid (wr.rangeAt g 0 [.func (.func 68) #[] #[], .func (.func 69) #[] #[], .func (.func 70) #[] #[], .func (.func 71) #[] #[], .func (.func 72) #[] #[], .func (.func 73) #[] #[]]) ∧ Hid (g < wr.heap.size) ∧ Hid (Below w.heap.size w wr)) (fun i _ => 6 - (intOf i).toNat)
 case atStart => exact ⟨0, by omega, rfl, ⟨fun h => absurd h (by omega), fun h => absurd h (by omega), fun h => absurd h (by omega), fun h => absurd h (by omega), fun h => absurd h (by omega), fun h => absurd h (by omega)⟩, HF2, HG2, HGL, HB2⟩
 case round =>
  clear HF2 HG2 HGL HB2
  obtain ⟨k, hk, rfl, he, hF, hG, hgl, hb⟩ := hrel
  have hk' : k = 0 ∨ k = 1 ∨ k = 2 ∨ k = 3 ∨ k = 4 ∨ k = 5 ∨ k = 6 := by omega
  rcases hk' with rfl | rfl | rfl | rfl | rfl | rfl | rfl
  ·have c0 : wr.cell? ⟨g, 0, none⟩ = some (.func (.func 68) #[] #[]) := hG.out 0 _ rfl
   go_wp2_with fail
   refine (few_any p x a1 c1 a2 c2 a3 c3 _ hF.out.ins).mono ?_
   rintro e w3 ⟨rfl, hb3⟩
   have HF3 : Hid (Found p m1 m2 m3 m4 x a1 c1 a2 c2 a3 c3 w3) := hF.out.below hb3
   have HG3 : Hid (w3.rangeAt g 0 [.func (.func 68) #[] #[], .func (.func 69) #[] #[], .func (.func 70) #[] #[], .func (.func 71) #[] #[], .func (.func 72) #[] #[], .func (.func 73) #[] #[]]) := range_belowV hG.out hb3 hgl.out
   have HL3 : Hid (g < w3.heap.size) := Nat.lt_of_lt_of_le hgl.out hb3.size
   have HB3 : Hid (Below w.heap.size w w3) := hb.out.trans (hb3.mono hb.out.size)
   clear hb3 hF hG hgl hb c0
   cases hh : fewOk x with
   | false =>
    have HC : Hid (V = false) := by show _ = _; rw [HV.out, hh]; rfl
    clear hh he HV
    go_wp2_with fail
    go_ret2
    exact ⟨.pointer none, by rw [HC.out]; rfl, HB3.out, fun h => absurd (HC.out.symm.trans h) (by decide)⟩
   | true =>
    have HE : Hid ((0 < 0 + 1 → (fewOk x) = true) ∧ (1 < 0 + 1 → (ordOk x) = true) ∧ (2 < 0 + 1 → (berthsOk x.berths) = true) ∧ (3 < 0 + 1 → (svcsOk x.services) = true) ∧ (4 < 0 + 1 → (copiesOk x) = true) ∧ (5 < 0 + 1 → (standOk x.berths x.copies) = true)) := ⟨fun _ => hh, fun h => absurd h (by omega), fun h => absurd h (by omega), fun h => absurd h (by omega), fun h => absurd h (by omega), fun h => absurd h (by omega)⟩
    clear hh he
    go_wp2_with fail
    go_roundw
    case rel => exact ⟨0 + 1, by omega, by go_num, HE, HF3, HG3, HL3, HB3⟩
    case measure => simp [intOf]
  ·have c0 : wr.cell? ⟨g, 1, none⟩ = some (.func (.func 69) #[] #[]) := hG.out 1 _ rfl
   go_wp2_with fail
   refine (ord_any p x a1 c1 a2 c2 a3 c3 lo _ hF.out.ins (N1.out.below BrtC.holds hb.out nL) (N2.out.below SvcC.holds hb.out nL) (N3.out.below CpyC.holds hb.out nL) l1 l2 l3).mono ?_
   rintro e w3 ⟨rfl, hb3⟩
   have HF3 : Hid (Found p m1 m2 m3 m4 x a1 c1 a2 c2 a3 c3 w3) := hF.out.below hb3
   have HG3 : Hid (w3.rangeAt g 0 [.func (.func 68) #[] #[], .func (.func 69) #[] #[], .func (.func 70) #[] #[], .func (.func 71) #[] #[], .func (.func 72) #[] #[], .func (.func 73) #[] #[]]) := range_belowV hG.out hb3 hgl.out
   have HL3 : Hid (g < w3.heap.size) := Nat.lt_of_lt_of_le hgl.out hb3.size
   have HB3 : Hid (Below w.heap.size w w3) := hb.out.trans (hb3.mono hb.out.size)
   clear hb3 hF hG hgl hb c0
   cases hh : ordOk x with
   | false =>
    have HC : Hid (V = false) := by show _ = _; rw [HV.out, he.out.1 (by omega), Bool.true_and, hh]; rfl
    clear hh he HV
    go_wp2_with fail
    go_ret2
    exact ⟨.pointer none, by rw [HC.out]; rfl, HB3.out, fun h => absurd (HC.out.symm.trans h) (by decide)⟩
   | true =>
    have HE : Hid ((0 < 1 + 1 → (fewOk x) = true) ∧ (1 < 1 + 1 → (ordOk x) = true) ∧ (2 < 1 + 1 → (berthsOk x.berths) = true) ∧ (3 < 1 + 1 → (svcsOk x.services) = true) ∧ (4 < 1 + 1 → (copiesOk x) = true) ∧ (5 < 1 + 1 → (standOk x.berths x.copies) = true)) := ⟨fun _ => he.out.1 (by omega), fun _ => hh, fun h => absurd h (by omega), fun h => absurd h (by omega), fun h => absurd h (by omega), fun h => absurd h (by omega)⟩
    clear hh he
    go_wp2_with fail
    go_roundw
    case rel => exact ⟨1 + 1, by omega, by go_num, HE, HF3, HG3, HL3, HB3⟩
    case measure => simp [intOf]
  ·have c0 : wr.cell? ⟨g, 2, none⟩ = some (.func (.func 70) #[] #[]) := hG.out 2 _ rfl
   go_wp2_with fail
   refine (berths_any p x.berths a1 c1 lo _ hF.out.ins.1 (N1.out.below BrtC.holds hb.out nL)).mono ?_
   rintro e w3 ⟨rfl, hb3⟩
   have HF3 : Hid (Found p m1 m2 m3 m4 x a1 c1 a2 c2 a3 c3 w3) := hF.out.below hb3
   have HG3 : Hid (w3.rangeAt g 0 [.func (.func 68) #[] #[], .func (.func 69) #[] #[], .func (.func 70) #[] #[], .func (.func 71) #[] #[], .func (.func 72) #[] #[], .func (.func 73) #[] #[]]) := range_belowV hG.out hb3 hgl.out
   have HL3 : Hid (g < w3.heap.size) := Nat.lt_of_lt_of_le hgl.out hb3.size
   have HB3 : Hid (Below w.heap.size w w3) := hb.out.trans (hb3.mono hb.out.size)
   clear hb3 hF hG hgl hb c0
   cases hh : berthsOk x.berths with
   | false =>
    have HC : Hid (V = false) := by show _ = _; rw [HV.out, he.out.1 (by omega), Bool.true_and, he.out.2.1 (by omega), Bool.true_and, hh]; rfl
    clear hh he HV
    go_wp2_with fail
    go_ret2
    exact ⟨.pointer none, by rw [HC.out]; rfl, HB3.out, fun h => absurd (HC.out.symm.trans h) (by decide)⟩
   | true =>
    have HE : Hid ((0 < 2 + 1 → (fewOk x) = true) ∧ (1 < 2 + 1 → (ordOk x) = true) ∧ (2 < 2 + 1 → (berthsOk x.berths) = true) ∧ (3 < 2 + 1 → (svcsOk x.services) = true) ∧ (4 < 2 + 1 → (copiesOk x) = true) ∧ (5 < 2 + 1 → (standOk x.berths x.copies) = true)) := ⟨fun _ => he.out.1 (by omega), fun _ => he.out.2.1 (by omega), fun _ => hh, fun h => absurd h (by omega), fun h => absurd h (by omega), fun h => absurd h (by omega)⟩
    clear hh he
    go_wp2_with fail
    go_roundw
    case rel => exact ⟨2 + 1, by omega, by go_num, HE, HF3, HG3, HL3, HB3⟩
    case measure => simp [intOf]
  ·have c0 : wr.cell? ⟨g, 3, none⟩ = some (.func (.func 71) #[] #[]) := hG.out 3 _ rfl
   go_wp2_with fail
   refine (svcs_any p x.services a2 c2 lo _ hF.out.ins.2.1 (N2.out.below SvcC.holds hb.out nL)).mono ?_
   rintro e w3 ⟨rfl, hb3⟩
   have HF3 : Hid (Found p m1 m2 m3 m4 x a1 c1 a2 c2 a3 c3 w3) := hF.out.below hb3
   have HG3 : Hid (w3.rangeAt g 0 [.func (.func 68) #[] #[], .func (.func 69) #[] #[], .func (.func 70) #[] #[], .func (.func 71) #[] #[], .func (.func 72) #[] #[], .func (.func 73) #[] #[]]) := range_belowV hG.out hb3 hgl.out
   have HL3 : Hid (g < w3.heap.size) := Nat.lt_of_lt_of_le hgl.out hb3.size
   have HB3 : Hid (Below w.heap.size w w3) := hb.out.trans (hb3.mono hb.out.size)
   clear hb3 hF hG hgl hb c0
   cases hh : svcsOk x.services with
   | false =>
    have HC : Hid (V = false) := by show _ = _; rw [HV.out, he.out.1 (by omega), Bool.true_and, he.out.2.1 (by omega), Bool.true_and, he.out.2.2.1 (by omega), Bool.true_and, hh]; rfl
    clear hh he HV
    go_wp2_with fail
    go_ret2
    exact ⟨.pointer none, by rw [HC.out]; rfl, HB3.out, fun h => absurd (HC.out.symm.trans h) (by decide)⟩
   | true =>
    have HE : Hid ((0 < 3 + 1 → (fewOk x) = true) ∧ (1 < 3 + 1 → (ordOk x) = true) ∧ (2 < 3 + 1 → (berthsOk x.berths) = true) ∧ (3 < 3 + 1 → (svcsOk x.services) = true) ∧ (4 < 3 + 1 → (copiesOk x) = true) ∧ (5 < 3 + 1 → (standOk x.berths x.copies) = true)) := ⟨fun _ => he.out.1 (by omega), fun _ => he.out.2.1 (by omega), fun _ => he.out.2.2.1 (by omega), fun _ => hh, fun h => absurd h (by omega), fun h => absurd h (by omega)⟩
    clear hh he
    go_wp2_with fail
    go_roundw
    case rel => exact ⟨3 + 1, by omega, by go_num, HE, HF3, HG3, HL3, HB3⟩
    case measure => simp [intOf]
  ·have c0 : wr.cell? ⟨g, 4, none⟩ = some (.func (.func 72) #[] #[]) := hG.out 4 _ rfl
   go_wp2_with fail
   refine (copies_any p x a3 c3 m1 m2 lo _ hF.out.ins.2.2 (hF.out.1 4 _ rfl) (hF.out.1 5 _ rfl) hF.out.2.2.1 hF.out.2.2.2.1 (N3.out.below CpyC.holds hb.out nL) l3).mono ?_
   rintro e w3 ⟨rfl, hb3⟩
   have HF3 : Hid (Found p m1 m2 m3 m4 x a1 c1 a2 c2 a3 c3 w3) := hF.out.below hb3
   have HG3 : Hid (w3.rangeAt g 0 [.func (.func 68) #[] #[], .func (.func 69) #[] #[], .func (.func 70) #[] #[], .func (.func 71) #[] #[], .func (.func 72) #[] #[], .func (.func 73) #[] #[]]) := range_belowV hG.out hb3 hgl.out
   have HL3 : Hid (g < w3.heap.size) := Nat.lt_of_lt_of_le hgl.out hb3.size
   have HB3 : Hid (Below w.heap.size w w3) := hb.out.trans (hb3.mono hb.out.size)
   clear hb3 hF hG hgl hb c0
   cases hh : copiesOk x with
   | false =>
    have HC : Hid (V = false) := by show _ = _; rw [HV.out, he.out.1 (by omega), Bool.true_and, he.out.2.1 (by omega), Bool.true_and, he.out.2.2.1 (by omega), Bool.true_and, he.out.2.2.2.1 (by omega), Bool.true_and, hh]; rfl
    clear hh he HV
    go_wp2_with fail
    go_ret2
    exact ⟨.pointer none, by rw [HC.out]; rfl, HB3.out, fun h => absurd (HC.out.symm.trans h) (by decide)⟩
   | true =>
    have HE : Hid ((0 < 4 + 1 → (fewOk x) = true) ∧ (1 < 4 + 1 → (ordOk x) = true) ∧ (2 < 4 + 1 → (berthsOk x.berths) = true) ∧ (3 < 4 + 1 → (svcsOk x.services) = true) ∧ (4 < 4 + 1 → (copiesOk x) = true) ∧ (5 < 4 + 1 → (standOk x.berths x.copies) = true)) := ⟨fun _ => he.out.1 (by omega), fun _ => he.out.2.1 (by omega), fun _ => he.out.2.2.1 (by omega), fun _ => he.out.2.2.2.1 (by omega), fun _ => hh, fun h => absurd h (by omega)⟩
    clear hh he
    go_wp2_with fail
    go_roundw
    case rel => exact ⟨4 + 1, by omega, by go_num, HE, HF3, HG3, HL3, HB3⟩
    case measure => simp [intOf]
  ·have c0 : wr.cell? ⟨g, 5, none⟩ = some (.func (.func 73) #[] #[]) := hG.out 5 _ rfl
   go_wp2_with fail
   refine (stand_any p x a1 c1 a2 c2 a3 c3 lo _ hF.out.ins (N1.out.below BrtC.holds hb.out nL) (N3.out.below CpyC.holds hb.out nL) l1 l3).mono ?_
   rintro e w3 ⟨rfl, hb3⟩
   have HF3 : Hid (Found p m1 m2 m3 m4 x a1 c1 a2 c2 a3 c3 w3) := hF.out.below hb3
   have HG3 : Hid (w3.rangeAt g 0 [.func (.func 68) #[] #[], .func (.func 69) #[] #[], .func (.func 70) #[] #[], .func (.func 71) #[] #[], .func (.func 72) #[] #[], .func (.func 73) #[] #[]]) := range_belowV hG.out hb3 hgl.out
   have HL3 : Hid (g < w3.heap.size) := Nat.lt_of_lt_of_le hgl.out hb3.size
   have HB3 : Hid (Below w.heap.size w w3) := hb.out.trans (hb3.mono hb.out.size)
   clear hb3 hF hG hgl hb c0
   cases hh : standOk x.berths x.copies with
   | false =>
    have HC : Hid (V = false) := by show _ = _; rw [HV.out, he.out.1 (by omega), Bool.true_and, he.out.2.1 (by omega), Bool.true_and, he.out.2.2.1 (by omega), Bool.true_and, he.out.2.2.2.1 (by omega), Bool.true_and, he.out.2.2.2.2.1 (by omega), Bool.true_and, hh]; skip
    clear hh he HV
    go_wp2_with fail
    go_ret2
    exact ⟨.pointer none, by rw [HC.out]; rfl, HB3.out, fun h => absurd (HC.out.symm.trans h) (by decide)⟩
   | true =>
    have HE : Hid ((0 < 5 + 1 → (fewOk x) = true) ∧ (1 < 5 + 1 → (ordOk x) = true) ∧ (2 < 5 + 1 → (berthsOk x.berths) = true) ∧ (3 < 5 + 1 → (svcsOk x.services) = true) ∧ (4 < 5 + 1 → (copiesOk x) = true) ∧ (5 < 5 + 1 → (standOk x.berths x.copies) = true)) := ⟨fun _ => he.out.1 (by omega), fun _ => he.out.2.1 (by omega), fun _ => he.out.2.2.1 (by omega), fun _ => he.out.2.2.2.1 (by omega), fun _ => he.out.2.2.2.2.1 (by omega), fun _ => hh⟩
    clear hh he
    go_wp2_with fail
    go_roundw
    case rel => exact ⟨5 + 1, by omega, by go_num, HE, HF3, HG3, HL3, HB3⟩
    case measure => simp [intOf]
  ·have HC : Hid (V = true) := by show _ = _; rw [HV.out, he.out.1 (by omega), he.out.2.1 (by omega), he.out.2.2.1 (by omega), he.out.2.2.2.1 (by omega), he.out.2.2.2.2.1 (by omega), he.out.2.2.2.2.2 (by omega)]; rfl
   clear he HV
   go_wp2_with fail
   go_ret2
   exact ⟨.pointer (some ⟨p, 0, none⟩), by rw [HC.out]; rfl, hb.out, fun _ => ⟨p, m1, m2, m3, m4, rfl, HP.out, HG4.out, hF.out⟩⟩
end Go.Proofs.YtebfdgfhadpieaaGreat
namespace Go.Proofs.YtebfdgfhadpieaaGreat
open Go.RowKit
theorem isz_spot : (Tryz.prog.info? 131).map (·.size) = some 24 := by kernel_rfl
def SptS (p q r o : Nat) (v : Value) (cs bs : List Value) (w : World) : Prop := w.cell? ⟨p, 3, none⟩ = some v ∧ w.rangeAt r o cs ∧ w.rangeAt q 0 bs
theorem SptS.below {p q r o : Nat} {v : Value} {cs bs : List Value} {w w' : World} (h : SptS p q r o v cs bs w) (hb : Below w.heap.size w w') (hr : r < w.heap.size) (hq : q < w.heap.size) : SptS p q r o v cs bs w' :=
 ⟨(hb.cell (p := ⟨p, 3, none⟩) (block_lt_of_cell h.1)).trans h.1, range_belowV h.2.1 hb hr, range_belowV h.2.2 hb hq⟩
theorem there_belowV {w w' : World} {g o n B : Nat} (h : w.there g o n) (hb : Below B w w') (hB : g < B) : w'.there g o n := by
 intro j hj
 rw [hb.cell (p := ⟨g, _, none⟩) hB, hb.frozen (p := ⟨g, _, none⟩) hB]
 exact h j hj
set_option maxHeartbeats 4000000 in
set_option maxRecDepth 100000 in
theorem spotOf_any (p : Nat) (x : Flt) (a1 : Option Addr) (c1 : Nat) (a2 : Option Addr) (c2 : Nat) (a3 : Option Addr) (c3 : Nat) (lo ci bi : Nat) (y : Cpy) (b : Brt) (w : World) (hp : FndIn p x a1 c1 a2 c2 a3 c3 w)
  (n1 : SliceC BrtC 6 lo w a1 x.berths) (n3 : SliceC CpyC 12 lo w a3 x.copies) (l3 : x.copies.length ≤ 1048576) (hy : x.copies[ci]? = some y) (hb : x.berths[bi]? = some b) :
  Calls Tryz.prog 78 #[.pointer (some ⟨p, 0, none⟩), .int .i64 ci, .int .i64 bi] w fun e w' => ∃ a7 c7 am cm, e = .returned (.agg #[.pointer (some ⟨p, 0, none⟩), .int .i64 ci, .string y.name, .string y.service, .int .i64 y.rank, .int .i64 y.born, .int .i64 y.room, .int .i64 y.hold, .string y.select, .slice a7 y.likes.length c7, .int .i64 y.apart, .string y.near, .string y.fixed, .string y.at_, .int .i64 bi, .string b.name, .string b.zone, .slice am b.marks.length cm, .int .i64 b.room, .int .i64 b.hold, .bool b.closed, .int .i64 (useTo x.copies b.name ci x.copies.length).1, .int .i64 (useTo x.copies b.name ci x.copies.length).2.1, .int .i64 (useTo x.copies b.name ci x.copies.length).2.2]) ∧ SliceC LikC 2 lo w a7 y.likes ∧ SliceC StrC 1 lo w am b.marks ∧ (∃ cb co bb bo, a3 = some ⟨cb, co, none⟩ ∧ a1 = some ⟨bb, bo, none⟩ ∧ w.cell? ⟨cb, co + ci * 12 + 7, none⟩ = some (.slice a7 y.likes.length c7) ∧ w.cell? ⟨bb, bo + bi * 6 + 2, none⟩ = some (.slice am b.marks.length cm)) ∧ Below w.heap.size w w' := by
 obtain ⟨p1, p2, p3⟩ := hp
 have hci := lt_of_some hy
 have hbi := lt_of_some hb
 obtain ⟨by_, oy, rfl, _, hyl, hcy⟩ := n3.at hy
 obtain ⟨bb, ob, rfl, _, hbl, hcb⟩ := n1.at hb
 obtain ⟨a7, c7, q0, q1, q2, q3, q4, q5, q6, q7, q8, q9, q10, q11, _, _, _, _, _, _, n7⟩ := hcy
 obtain ⟨am, cm, r0, r1, r2, r3, r4, r5, _, _, nm⟩ := hcb
 simp only [Nat.add_zero] at q0 r0
 have N3 : Hid (SliceC CpyC 12 lo w (some ⟨by_, oy, none⟩) x.copies) := n3
 have N7 : Hid (SliceC LikC 2 lo w a7 y.likes) := n7
 have HAT : Hid (∃ cb co bb' bo, (some ⟨by_, oy, none⟩ : Option Addr) = some ⟨cb, co, none⟩ ∧ (some ⟨bb, ob, none⟩ : Option Addr) = some ⟨bb', bo, none⟩ ∧ w.cell? ⟨cb, co + ci * 12 + 7, none⟩ = some (.slice a7 y.likes.length c7) ∧ w.cell? ⟨bb', bo + bi * 6 + 2, none⟩ = some (.slice am b.marks.length cm)) := ⟨by_, oy, bb, ob, rfl, rfl, q7, r2⟩
 have NM : Hid (SliceC StrC 1 lo w am b.marks) := nm
 have HRB : Hid (w.rangeAt bb (ob + bi * 6) [.string b.name, .string b.zone, .slice am b.marks.length cm, .int .i64 b.room, .int .i64 b.hold, .bool b.closed]) := range_cons r0 (range_cons r1 (range_cons r2 (range_cons r3 (range_cons r4 (range_cons r5 (range_nil _ _ _))))))
 have HRC : Hid (w.rangeAt by_ (oy + ci * 12) [.string y.name, .string y.service, .int .i64 y.rank, .int .i64 y.born, .int .i64 y.room, .int .i64 y.hold, .string y.select, .slice a7 y.likes.length c7, .int .i64 y.apart, .string y.near, .string y.fixed, .string y.at_]) := range_cons q0 (range_cons q1 (range_cons q2 (range_cons q3 (range_cons q4 (range_cons q5 (range_cons q6 (range_cons q7 (range_cons q8 (range_cons q9 (range_cons q10 (range_cons q11 (range_nil _ _ _))))))))))))
 clear n1 n3 n7 nm hy hb q0 q1 q2 q3 q4 q5 q6 q7 q8 q9 q10 q11 r0 r1 r2 r3 r4 r5
 go_enter Tryz.func78, Tryz.ntmps78
 go_upto_region 1 with fail
 have hal : Below w.heap.size w (w.alloc (Obj.cells #[.pointer none, .int .i64 0, .string ⟨#[]⟩, .string ⟨#[]⟩, .int .i64 0, .int .i64 0, .int .i64 0, .int .i64 0, .string ⟨#[]⟩, .slice none 0 0, .int .i64 0, .string ⟨#[]⟩, .string ⟨#[]⟩, .string ⟨#[]⟩, .int .i64 0, .string ⟨#[]⟩, .string ⟨#[]⟩, .slice none 0 0, .int .i64 0, .int .i64 0, .bool false, .int .i64 0, .int .i64 0, .int .i64 0] 131)) := (Below.refl _ _).alloc nL _
 have HT1 : Hid ((w.alloc (Obj.cells #[.pointer none, .int .i64 0, .string ⟨#[]⟩, .string ⟨#[]⟩, .int .i64 0, .int .i64 0, .int .i64 0, .int .i64 0, .string ⟨#[]⟩, .slice none 0 0, .int .i64 0, .string ⟨#[]⟩, .string ⟨#[]⟩, .string ⟨#[]⟩, .int .i64 0, .string ⟨#[]⟩, .string ⟨#[]⟩, .slice none 0 0, .int .i64 0, .int .i64 0, .bool false, .int .i64 0, .int .i64 0, .int .i64 0] 131)).there w.heap.size 0 24) := there_cons (by simp; rfl) (by simp) (there_cons (by simp; rfl) (by simp) (there_cons (by simp; rfl) (by simp) (there_cons (by simp; rfl) (by simp) (there_cons (by simp; rfl) (by simp) (there_cons (by simp; rfl) (by simp) (there_cons (by simp; rfl) (by simp) (there_cons (by simp; rfl) (by simp) (there_cons (by simp; rfl) (by simp) (there_cons (by simp; rfl) (by simp) (there_cons (by simp; rfl) (by simp) (there_cons (by simp; rfl) (by simp) (there_cons (by simp; rfl) (by simp) (there_cons (by simp; rfl) (by simp) (there_cons (by simp; rfl) (by simp) (there_cons (by simp; rfl) (by simp) (there_cons (by simp; rfl) (by simp) (there_cons (by simp; rfl) (by simp) (there_cons (by simp; rfl) (by simp) (there_cons (by simp; rfl) (by simp) (there_cons (by simp; rfl) (by simp) (there_cons (by simp; rfl) (by simp) (there_cons (by simp; rfl) (by simp) (there_cons (by simp; rfl) (by simp) (there_nil _ _ _))))))))))))))))))))))))
 have HB1 : Hid (Below w.heap.size w (w.alloc (Obj.cells #[.pointer none, .int .i64 0, .string ⟨#[]⟩, .string ⟨#[]⟩, .int .i64 0, .int .i64 0, .int .i64 0, .int .i64 0, .string ⟨#[]⟩, .slice none 0 0, .int .i64 0, .string ⟨#[]⟩, .string ⟨#[]⟩, .string ⟨#[]⟩, .int .i64 0, .string ⟨#[]⟩, .string ⟨#[]⟩, .slice none 0 0, .int .i64 0, .int .i64 0, .bool false, .int .i64 0, .int .i64 0, .int .i64 0] 131))) := hal
 have HRB1 : Hid ((w.alloc (Obj.cells #[.pointer none, .int .i64 0, .string ⟨#[]⟩, .string ⟨#[]⟩, .int .i64 0, .int .i64 0, .int .i64 0, .int .i64 0, .string ⟨#[]⟩, .slice none 0 0, .int .i64 0, .string ⟨#[]⟩, .string ⟨#[]⟩, .string ⟨#[]⟩, .int .i64 0, .string ⟨#[]⟩, .string ⟨#[]⟩, .slice none 0 0, .int .i64 0, .int .i64 0, .bool false, .int .i64 0, .int .i64 0, .int .i64 0] 131)).rangeAt bb (ob + bi * 6) [.string b.name, .string b.zone, .slice am b.marks.length cm, .int .i64 b.room, .int .i64 b.hold, .bool b.closed]) := range_belowV HRB.out hal hbl
 have hs1 : (w.alloc (Obj.cells #[.pointer none, .int .i64 0, .string ⟨#[]⟩, .string ⟨#[]⟩, .int .i64 0, .int .i64 0, .int .i64 0, .int .i64 0, .string ⟨#[]⟩, .slice none 0 0, .int .i64 0, .string ⟨#[]⟩, .string ⟨#[]⟩, .string ⟨#[]⟩, .int .i64 0, .string ⟨#[]⟩, .string ⟨#[]⟩, .slice none 0 0, .int .i64 0, .int .i64 0, .bool false, .int .i64 0, .int .i64 0, .int .i64 0] 131)).heap.size = w.heap.size + 1 := by simp
 have p1' : (w.alloc (Obj.cells #[.pointer none, .int .i64 0, .string ⟨#[]⟩, .string ⟨#[]⟩, .int .i64 0, .int .i64 0, .int .i64 0, .int .i64 0, .string ⟨#[]⟩, .slice none 0 0, .int .i64 0, .string ⟨#[]⟩, .string ⟨#[]⟩, .string ⟨#[]⟩, .int .i64 0, .string ⟨#[]⟩, .string ⟨#[]⟩, .slice none 0 0, .int .i64 0, .int .i64 0, .bool false, .int .i64 0, .int .i64 0, .int .i64 0] 131)).cell? ⟨p, 1, none⟩ = some (.slice (some ⟨bb, ob, none⟩) x.berths.length c1) := (hal.cell (p := ⟨p, 1, none⟩) (block_lt_of_cell p1)).trans p1
 have P3 : Hid (w.cell? ⟨p, 3, none⟩ = some (.slice (some ⟨by_, oy, none⟩) x.copies.length c3)) := p3
 clear hal HRB p2 p1 p3
 generalize (w.alloc (Obj.cells #[.pointer none, .int .i64 0, .string ⟨#[]⟩, .string ⟨#[]⟩, .int .i64 0, .int .i64 0, .int .i64 0, .int .i64 0, .string ⟨#[]⟩, .slice none 0 0, .int .i64 0, .string ⟨#[]⟩, .string ⟨#[]⟩, .string ⟨#[]⟩, .int .i64 0, .string ⟨#[]⟩, .string ⟨#[]⟩, .slice none 0 0, .int .i64 0, .int .i64 0, .bool false, .int .i64 0, .int .i64 0, .int .i64 0] 131)) = w1 at *
 go_upto_region 2 with (first | (refine wpList_load_mid rfl 61 _ rfl bb (ob + bi * 6) (by first | rfl | (simp [go_sem]; done)) [.string b.name, .string b.zone, .slice am b.marks.length cm, .int .i64 b.room, .int .i64 b.hold, .bool b.closed] _ HRB1.out Tryz.underlying61 rfl isz_Brt ?_))
 have hal : Below w1.heap.size w1 (w1.alloc (Obj.cells #[.string b.name, .string b.zone, .slice am b.marks.length cm, .int .i64 b.room, .int .i64 b.hold, .bool b.closed] 61)) := (Below.refl _ _).alloc nL _
 have HB2 : Hid (Below w.heap.size w (w1.alloc (Obj.cells #[.string b.name, .string b.zone, .slice am b.marks.length cm, .int .i64 b.room, .int .i64 b.hold, .bool b.closed] 61))) := HB1.out.trans (hal.mono HB1.out.size)
 have HT2 : Hid ((w1.alloc (Obj.cells #[.string b.name, .string b.zone, .slice am b.marks.length cm, .int .i64 b.room, .int .i64 b.hold, .bool b.closed] 61)).there w.heap.size 0 24) := there_belowV HT1.out hal (by omega)
 have HRX : Hid ((w1.alloc (Obj.cells #[.string b.name, .string b.zone, .slice am b.marks.length cm, .int .i64 b.room, .int .i64 b.hold, .bool b.closed] 61)).rangeAt (w.heap.size + 1) 0 [.string b.name, .string b.zone, .slice am b.marks.length cm, .int .i64 b.room, .int .i64 b.hold, .bool b.closed]) := by
  rw [← hs1]
  exact range_cons (by simp) (range_cons (by simp) (range_cons (by simp) (range_cons (by simp) (range_cons (by simp) (range_cons (by simp) (range_nil _ _ _))))))
 have hs2 : (w1.alloc (Obj.cells #[.string b.name, .string b.zone, .slice am b.marks.length cm, .int .i64 b.room, .int .i64 b.hold, .bool b.closed] 61)).heap.size = w.heap.size + 2 := by simp; omega
 have HSS : Hid (SptS p (w.heap.size + 1) by_ (oy + ci * 12) (.slice (some ⟨by_, oy, none⟩) x.copies.length c3) [.string y.name, .string y.service, .int .i64 y.rank, .int .i64 y.born, .int .i64 y.room, .int .i64 y.hold, .string y.select, .slice a7 y.likes.length c7, .int .i64 y.apart, .string y.near, .string y.fixed, .string y.at_] [.string b.name, .string b.zone, .slice am b.marks.length cm, .int .i64 b.room, .int .i64 b.hold, .bool b.closed] (w1.alloc (Obj.cells #[.string b.name, .string b.zone, .slice am b.marks.length cm, .int .i64 b.room, .int .i64 b.hold, .bool b.closed] 61))) := ⟨(HB2.out.cell (p := ⟨p, 3, none⟩) (block_lt_of_cell P3.out)).trans P3.out, range_belowV HRC.out HB2.out hyl, HRX.out⟩
 have N3' : Hid (SliceC CpyC 12 lo (w1.alloc (Obj.cells #[.string b.name, .string b.zone, .slice am b.marks.length cm, .int .i64 b.room, .int .i64 b.hold, .bool b.closed] 61)).drew (some ⟨by_, oy, none⟩) x.copies) := (N3.out.below CpyC.holds HB2.out nL).below CpyC.holds ((Below.refl _ (w1.alloc (Obj.cells #[.string b.name, .string b.zone, .slice am b.marks.length cm, .int .i64 b.room, .int .i64 b.hold, .bool b.closed] 61))).drew) nL
 have HT3 : Hid ((w1.alloc (Obj.cells #[.string b.name, .string b.zone, .slice am b.marks.length cm, .int .i64 b.room, .int .i64 b.hold, .bool b.closed] 61)).drew.there w.heap.size 0 24) := there_belowV HT2.out ((Below.refl (w1.alloc (Obj.cells #[.string b.name, .string b.zone, .slice am b.marks.length cm, .int .i64 b.room, .int .i64 b.hold, .bool b.closed] 61)).heap.size (w1.alloc (Obj.cells #[.string b.name, .string b.zone, .slice am b.marks.length cm, .int .i64 b.room, .int .i64 b.hold, .bool b.closed] 61))).drew) (by omega)
 have HB3 : Hid (Below w.heap.size w (w1.alloc (Obj.cells #[.string b.name, .string b.zone, .slice am b.marks.length cm, .int .i64 b.room, .int .i64 b.hold, .bool b.closed] 61)).drew) := HB2.out.drew
 have HSD : Hid (SptS p (w.heap.size + 1) by_ (oy + ci * 12) (.slice (some ⟨by_, oy, none⟩) x.copies.length c3) [.string y.name, .string y.service, .int .i64 y.rank, .int .i64 y.born, .int .i64 y.room, .int .i64 y.hold, .string y.select, .slice a7 y.likes.length c7, .int .i64 y.apart, .string y.near, .string y.fixed, .string y.at_] [.string b.name, .string b.zone, .slice am b.marks.length cm, .int .i64 b.room, .int .i64 b.hold, .bool b.closed] (w1.alloc (Obj.cells #[.string b.name, .string b.zone, .slice am b.marks.length cm, .int .i64 b.room, .int .i64 b.hold, .bool b.closed] 61)).drew) := HSS.out.below ((Below.refl _ (w1.alloc (Obj.cells #[.string b.name, .string b.zone, .slice am b.marks.length cm, .int .i64 b.room, .int .i64 b.hold, .bool b.closed] 61))).drew) (by omega) (by omega)
 have hs3 : (w1.alloc (Obj.cells #[.string b.name, .string b.zone, .slice am b.marks.length cm, .int .i64 b.room, .int .i64 b.hold, .bool b.closed] 61)).drew.heap.size = w.heap.size + 2 := by rw [← hs2]; simp
 clear hal HB1 HB2 HT1 HT2 HRX HRB1 p1' hs1 hs2 HSS
 refine wp_region_held_drew (S := SptS p (w.heap.size + 1) by_ (oy + ci * 12) (.slice (some ⟨by_, oy, none⟩) x.copies.length c3) [.string y.name, .string y.service, .int .i64 y.rank, .int .i64 y.born, .int .i64 y.room, .int .i64 y.hold, .string y.select, .slice a7 y.likes.length c7, .int .i64 y.apart, .string y.near, .string y.fixed, .string y.at_] [.string b.name, .string b.zone, .slice am b.marks.length cm, .int .i64 b.room, .int .i64 b.hold, .bool b.closed]) (by kernel_rfl) HSD.out (fun hS => ?_)
 clear HSD
 generalize (w1.alloc (Obj.cells #[.string b.name, .string b.zone, .slice am b.marks.length cm, .int .i64 b.room, .int .i64 b.hold, .bool b.closed] 61)).drew = w3 at *
 refine x4 0 16 (.pointer (some ⟨p, 0, none⟩)) rfl hS ?_
 simp only [pA,pB,pC,pD]
 refine x4 1 17 (.int .i64 ci) rfl hS ?_
 simp only [pA,pB,pC,pD]
 refine x4 2 18 (.pointer (some ⟨p, 0, none⟩)) rfl hS ?_
 simp only [pA,pB,pC,pD]
 refine x4 3 19 (.pointer (some ⟨p, 0, none⟩)) rfl hS ?_
 simp only [pA,pB,pC,pD]
 refine x4 4 20 (.pointer (some ⟨p, 0, none⟩)) rfl hS ?_
 simp only [pA,pB,pC,pD]
 refine x4 5 21 (.pointer (some ⟨p, 3, none⟩)) rfl hS ?_
 simp only [pA,pB,pC,pD]
 refine x4 6 22 (.slice (some ⟨by_, oy, none⟩) x.copies.length c3) rfl hS ?_
 simp only [pA,pB,pC,pD]
 refine x4 7 23 (.int .i64 ci) rfl hS ?_
 simp only [pA,pB,pC,pD]
 refine x4 8 24 (.pointer (some ⟨by_, oy + ci * 12, none⟩)) rfl hS ?_
 simp only [pA,pB,pC,pD]
 refine tk 9 ⟨some 25, _, _, _, _, none⟩ (.agg #[.string y.name, .string y.service, .int .i64 y.rank, .int .i64 y.born, .int .i64 y.room, .int .i64 y.hold, .string y.select, .slice a7 y.likes.length c7, .int .i64 y.apart, .string y.near, .string y.fixed, .string y.at_]) rfl (yieldsIf_load_mid rfl 45 (.tmp 24) rfl by_ (oy + ci * 12) rfl [.string y.name, .string y.service, .int .i64 y.rank, .int .i64 y.born, .int .i64 y.room, .int .i64 y.hold, .string y.select, .slice a7 y.likes.length c7, .int .i64 y.apart, .string y.near, .string y.fixed, .string y.at_] _ (fun _ h => h.2.1) Tryz.underlying45 rfl isz_Cpy) hS ?_
 simp only [pA,pB,pC,pD]
 refine x4 10 26 (.int .i64 bi) rfl hS ?_
 simp only [pA,pB,pC,pD]
 refine tk 11 ⟨some 27, _, _, _, _, none⟩ (.agg #[.string b.name, .string b.zone, .slice am b.marks.length cm, .int .i64 b.room, .int .i64 b.hold, .bool b.closed]) rfl (yieldsIf_load_mid rfl 61 (.tmp 7) rfl (w.heap.size + 1) (0) rfl [.string b.name, .string b.zone, .slice am b.marks.length cm, .int .i64 b.room, .int .i64 b.hold, .bool b.closed] _ (fun _ h => h.2.2) Tryz.underlying61 rfl isz_Brt) hS ?_
 simp only [pA,pB,pC,pD]
 refine x4 12 28 (.pointer (some ⟨p, 0, none⟩)) rfl hS ?_
 simp only [pA,pB,pC,pD]
 refine x4 13 29 (.pointer (some ⟨w.heap.size + 1, 0, none⟩)) rfl hS ?_
 simp only [pA,pB,pC,pD]
 refine x4 14 30 (.string b.name) rfl hS ?_
 simp only [pA,pB,pC,pD]
 refine x4 15 31 (.int .i64 ci) rfl hS ?_
 simp only [pA,pB,pC,pD]
 refine rd1 16 ⟨some 32, _, _, _, _, none⟩ rfl (fun K hK => ?_)
 go_simp
 refine (used_any p x.copies (some ⟨by_, oy, none⟩) c3 lo b.name ci _ hS.1 N3'.out l3).mono ?_
 rintro e w4 ⟨rfl, hb4⟩
 have HT4 : Hid (w4.there w.heap.size 0 24) := there_belowV HT3.out hb4 (by omega)
 have HB4 : Hid (Below w.heap.size w w4) := HB3.out.trans (hb4.mono HB3.out.size)
 have hs4 : w.heap.size + 2 ≤ w4.heap.size := by have := hb4.size; omega
 refine hK.out _ _ (hS.below hb4 (by omega) (by omega)) (fun hS => ?_)
 clear hb4 HT3 HB3 N3' hK K hs3
 obtain ⟨V, hV⟩ : ∃ V, V = (useTo x.copies b.name ci x.copies.length) := ⟨_, rfl⟩
 have HV : Hid (V = (useTo x.copies b.name ci x.copies.length)) := hV
 rw [← hV]
 clear hV
 refine tz 17 33 (.agg #[.pointer (some ⟨p, 0, none⟩), .int .i64 ci, .string y.name, .string y.service, .int .i64 y.rank, .int .i64 y.born, .int .i64 y.room, .int .i64 y.hold, .string y.select, .slice a7 y.likes.length c7, .int .i64 y.apart, .string y.near, .string y.fixed, .string y.at_, .int .i64 bi, .string b.name, .string b.zone, .slice am b.marks.length cm, .int .i64 b.room, .int .i64 b.hold, .bool b.closed, .int .i64 V.1, .int .i64 V.2.1, .int .i64 V.2.2]) rfl hS ?_
 simp only [pA,pB,pC,pD]
 refine rd1 18 ⟨none, _, _, _, _, none⟩ rfl (fun K hK => ?_)
 rw [if_pos (by rfl)]
 refine wp_store_mid 131 (.tmp 6) (.tmp 33) (by rfl) w.heap.size 0 #[.pointer (some ⟨p, 0, none⟩), .int .i64 ci, .string y.name, .string y.service, .int .i64 y.rank, .int .i64 y.born, .int .i64 y.room, .int .i64 y.hold, .string y.select, .slice a7 y.likes.length c7, .int .i64 y.apart, .string y.near, .string y.fixed, .string y.at_, .int .i64 bi, .string b.name, .string b.zone, .slice am b.marks.length cm, .int .i64 b.room, .int .i64 b.hold, .bool b.closed, .int .i64 V.1, .int .i64 V.2.1, .int .i64 V.2.2] (by rfl) (by rfl) HT4.out isz_spot (by simp [Value.oneCell']) ?_
 have HB5 : Hid (Below w.heap.size w (w4.setCells w.heap.size 0 [.pointer (some ⟨p, 0, none⟩), .int .i64 ci, .string y.name, .string y.service, .int .i64 y.rank, .int .i64 y.born, .int .i64 y.room, .int .i64 y.hold, .string y.select, .slice a7 y.likes.length c7, .int .i64 y.apart, .string y.near, .string y.fixed, .string y.at_, .int .i64 bi, .string b.name, .string b.zone, .slice am b.marks.length cm, .int .i64 b.room, .int .i64 b.hold, .bool b.closed, .int .i64 V.1, .int .i64 V.2.1, .int .i64 V.2.2])) := below_setCells nL _ _ _ HB4.out
 have HR5 : Hid ((w4.setCells w.heap.size 0 [.pointer (some ⟨p, 0, none⟩), .int .i64 ci, .string y.name, .string y.service, .int .i64 y.rank, .int .i64 y.born, .int .i64 y.room, .int .i64 y.hold, .string y.select, .slice a7 y.likes.length c7, .int .i64 y.apart, .string y.near, .string y.fixed, .string y.at_, .int .i64 bi, .string b.name, .string b.zone, .slice am b.marks.length cm, .int .i64 b.room, .int .i64 b.hold, .bool b.closed, .int .i64 V.1, .int .i64 V.2.1, .int .i64 V.2.2]).rangeAt w.heap.size 0 [.pointer (some ⟨p, 0, none⟩), .int .i64 ci, .string y.name, .string y.service, .int .i64 y.rank, .int .i64 y.born, .int .i64 y.room, .int .i64 y.hold, .string y.select, .slice a7 y.likes.length c7, .int .i64 y.apart, .string y.near, .string y.fixed, .string y.at_, .int .i64 bi, .string b.name, .string b.zone, .slice am b.marks.length cm, .int .i64 b.room, .int .i64 b.hold, .bool b.closed, .int .i64 V.1, .int .i64 V.2.1, .int .i64 V.2.2]) := World.rangeAt_setCells_same _ _ _ _ HT4.out
 have hSn : SptS p (w.heap.size + 1) by_ (oy + ci * 12) (.slice (some ⟨by_, oy, none⟩) x.copies.length c3) [.string y.name, .string y.service, .int .i64 y.rank, .int .i64 y.born, .int .i64 y.room, .int .i64 y.hold, .string y.select, .slice a7 y.likes.length c7, .int .i64 y.apart, .string y.near, .string y.fixed, .string y.at_] [.string b.name, .string b.zone, .slice am b.marks.length cm, .int .i64 b.room, .int .i64 b.hold, .bool b.closed] (w4.setCells w.heap.size 0 [.pointer (some ⟨p, 0, none⟩), .int .i64 ci, .string y.name, .string y.service, .int .i64 y.rank, .int .i64 y.born, .int .i64 y.room, .int .i64 y.hold, .string y.select, .slice a7 y.likes.length c7, .int .i64 y.apart, .string y.near, .string y.fixed, .string y.at_, .int .i64 bi, .string b.name, .string b.zone, .slice am b.marks.length cm, .int .i64 b.room, .int .i64 b.hold, .bool b.closed, .int .i64 V.1, .int .i64 V.2.1, .int .i64 V.2.2]) := ⟨(HB5.out.cell (p := ⟨p, 3, none⟩) (block_lt_of_cell P3.out)).trans P3.out, range_belowV HRC.out HB5.out hyl, World.rangeAt_setCells_apart hS.2.2 w.heap.size 0 _ (.inl (by omega))⟩
 refine hK.out _ _ hSn (fun hS => ?_)
 clear hSn hK K HT4 HB4
 generalize w4.setCells w.heap.size 0 [.pointer (some ⟨p, 0, none⟩), .int .i64 ci, .string y.name, .string y.service, .int .i64 y.rank, .int .i64 y.born, .int .i64 y.room, .int .i64 y.hold, .string y.select, .slice a7 y.likes.length c7, .int .i64 y.apart, .string y.near, .string y.fixed, .string y.at_, .int .i64 bi, .string b.name, .string b.zone, .slice am b.marks.length cm, .int .i64 b.room, .int .i64 b.hold, .bool b.closed, .int .i64 V.1, .int .i64 V.2.1, .int .i64 V.2.2] = w5 at *
 refine td ?_
 go_wp2_with fail
 exact bodyPost_ret (results_cell_mid rfl _ _ w.heap.size [.pointer (some ⟨p, 0, none⟩), .int .i64 ci, .string y.name, .string y.service, .int .i64 y.rank, .int .i64 y.born, .int .i64 y.room, .int .i64 y.hold, .string y.select, .slice a7 y.likes.length c7, .int .i64 y.apart, .string y.near, .string y.fixed, .string y.at_, .int .i64 bi, .string b.name, .string b.zone, .slice am b.marks.length cm, .int .i64 b.room, .int .i64 b.hold, .bool b.closed, .int .i64 V.1, .int .i64 V.2.1, .int .i64 V.2.2] _ rfl HR5.out Tryz.underlying131 rfl isz_spot) rfl ⟨a7, c7, am, cm, by rw [← HV.out], N7.out, NM.out, HAT.out, HB5.out⟩
end Go.Proofs.YtebfdgfhadpieaaGreat
namespace Go.Proofs.YtebfdgfhadpieaaGreat
open Go.RowKit Go.WideMaps Go.Maps
def scoreA (x : Flt) (ci : Nat) (y : Cpy) (b : Brt) : Array Value := #[.int .i64 (likeTo (fun t => asksI t b.marks b.zone) y.likes y.likes.length), .int .i64 ((cntTo (znF x ci y.service b.zone) x.copies.length : Nat) : Int), .int .i64 ((cntTo (bthF x ci y.service b.name) x.copies.length : Nat) : Int), .int .i64 (b.room - y.room - roomTo x ci b.name x.copies.length)]
end Go.Proofs.YtebfdgfhadpieaaGreat
