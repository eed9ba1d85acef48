import Derived.Test.YtebfdgfhadpieaaGreatJ17
namespace Go.Proofs.YtebfdgfhadpieaaGreat
set_option maxRecDepth 100000
open Go.RowKit
def standAt (cs : List Cpy) (b : Brt) : Bool :=
 decide ((useTo cs b.name (-1) cs.length).1 ≤ 10) && decide ((useTo cs b.name (-1) cs.length).2.1 ≤ b.room) && decide ((useTo cs b.name (-1) cs.length).2.2 ≤ b.hold)
def standOk (bs : List Brt) (cs : List Cpy) : Bool := bs.all (standAt cs)
set_option maxHeartbeats 1000000 in
theorem stand_any (p : Nat) (x : Flt) (a1 : Option Addr) (c1 : Nat) (a2 : Option Addr) (c2 : Nat) (a3 : Option Addr) (c3 : Nat) (lo : Nat) (w : World) (hp : FndIn p x a1 c1 a2 c2 a3 c3 w) (n1 : SliceC BrtC 6 lo w a1 x.berths) (n3 : SliceC CpyC 12 lo w a3 x.copies)
  (l1 : x.berths.length ≤ 1048576) (l3 : x.copies.length ≤ 1048576) :
  Calls Tryz.prog 73 #[.pointer (some ⟨p, 0, none⟩)] w fun e w' => e = .returned (.bool (standOk x.berths x.copies)) ∧ Below w.heap.size w w' := by
 have N1 : Hid (SliceC BrtC 6 lo w a1 x.berths) := n1
 have N3 : Hid (SliceC CpyC 12 lo w a3 x.copies) := n3
 have HP : Hid (FndIn p x a1 c1 a2 c2 a3 c3 w) := hp
 have hpl : p < w.heap.size := block_lt_of_cell hp.1
 obtain ⟨p1, _, _⟩ := hp
 clear n1 n3
 go_enter Tryz.func73, Tryz.ntmps73
 go_wp2_with fail
 clear p1
 go_loopw [12] (fun i wr => ∃ k : Nat, k ≤ x.berths.length ∧ i = .int .i64 k ∧ Hid (∀ j y, j < k → x.berths[j]? = some y → standAt x.copies y = true) ∧ Below w.heap.size w wr) (fun i _ => x.berths.length - (intOf i).toNat)
 case atStart => exact ⟨0, Nat.zero_le _, rfl, fun j y h => absurd h (Nat.not_lt_zero _), by go_grown⟩
 case round =>
  obtain ⟨k, hk, rfl, ho, hbel⟩ := hrel
  by_cases hlt : k < x.berths.length
  ·obtain ⟨y, hy⟩ : ∃ y, x.berths[k]? = some y := ⟨x.berths[k], List.getElem?_eq_getElem hlt⟩
   obtain ⟨b, o, rfl, _, _, hc⟩ := (N1.out.below BrtC.holds hbel nL).at hy
   obtain ⟨m2, d2, q0, q1, q2, q3, q4, q5, _, _, _⟩ := hc
   simp only [Nat.add_zero] at q0 q1 q2 q3 q4 q5
   have HRA : Hid (wr.rangeAt b (o + k * 6) [.string y.name, .string y.zone, .slice m2 y.marks.length d2, .int .i64 y.room, .int .i64 y.hold, .bool y.closed]) := range_cons q0 (range_cons q1 (range_cons q2 (range_cons q3 (range_cons q4 (range_cons q5 (range_nil _ _ _))))))
   have HX : Hid (x.berths[k]? = some y) := hy
   have HB : Hid (Below w.heap.size w wr) := hbel
   clear hy hbel q0 q1 q2 q3 q4 q5
   go_upto_region 4 with (first | (refine wpList_load_mid rfl 61 _ rfl b (o + k * 6) (by first | rfl | (simp [go_sem]; done)) [.string y.name, .string y.zone, .slice m2 y.marks.length d2, .int .i64 y.room, .int .i64 y.hold, .bool y.closed] _ HRA.out Tryz.underlying61 rfl isz_Brt ?_))
   have HG : Hid ((wr.alloc (Obj.cells #[.string y.name, .string y.zone, .slice m2 y.marks.length d2, .int .i64 y.room, .int .i64 y.hold, .bool y.closed] 61)).rangeAt wr.heap.size 0 [.string y.name, .string y.zone, .slice m2 y.marks.length d2, .int .i64 y.room, .int .i64 y.hold, .bool y.closed]) := range_cons (by simp) (range_cons (by simp) (range_cons (by simp) (range_cons (by simp) (range_cons (by simp) (range_cons (by simp) (range_nil _ _ _))))))
   have HB4 : Hid (Below w.heap.size w (wr.alloc (Obj.cells #[.string y.name, .string y.zone, .slice m2 y.marks.length d2, .int .i64 y.room, .int .i64 y.hold, .bool y.closed] 61))) := HB.out.alloc HB.out.size _
   have HS4 : Hid (wr.heap.size < (wr.alloc (Obj.cells #[.string y.name, .string y.zone, .slice m2 y.marks.length d2, .int .i64 y.room, .int .i64 y.hold, .bool y.closed] 61)).heap.size) := by show _ < _; simp
   clear HB HRA
   generalize wr.alloc (Obj.cells #[.string y.name, .string y.zone, .slice m2 y.marks.length d2, .int .i64 y.room, .int .i64 y.hold, .bool y.closed] 61) = w4 at *
   have e0 : w4.cell? ⟨wr.heap.size, 0, none⟩ = some (.string y.name) := HG.out 0 _ rfl
   have HP4 : Hid (FndIn p x (some ⟨b, o, none⟩) c1 a2 c2 a3 c3 w4) := HP.out.below HB4.out hpl
   go_wp2_with fail
   refine (used_any p x.copies a3 c3 lo _ _ _ HP4.out.2.2 (N3.out.below CpyC.holds HB4.out nL) l3).mono ?_
   rintro e w5 ⟨rfl, hb5⟩
   have HB5 : Hid (Below w.heap.size w w5) := HB4.out.trans (hb5.mono HB4.out.size)
   have HG5 : Hid (w5.rangeAt wr.heap.size 0 [.string y.name, .string y.zone, .slice m2 y.marks.length d2, .int .i64 y.room, .int .i64 y.hold, .bool y.closed]) := range_belowV HG.out hb5 HS4.out
   have HS5 : Hid (wr.heap.size < w5.heap.size) := Nat.lt_of_lt_of_le HS4.out hb5.size
   clear hb5 e0 HB4 HG HS4 HP4
   have HSA : Hid (standAt x.copies y = (decide ((useTo x.copies y.name (-1) x.copies.length).1 ≤ 10) && decide ((useTo x.copies y.name (-1) x.copies.length).2.1 ≤ y.room) && decide ((useTo x.copies y.name (-1) x.copies.length).2.2 ≤ y.hold))) := rfl
   generalize useTo x.copies y.name (-1) x.copies.length = U at *
   go_upto_region 5 with fail
   have f0 : (w5.alloc (Obj.cells #[.int .i64 U.1, .int .i64 U.2.1, .int .i64 U.2.2] 129)).cell? ⟨w5.heap.size, 0, none⟩ = some (.int .i64 U.1) := by simp
   have f1 : (w5.alloc (Obj.cells #[.int .i64 U.1, .int .i64 U.2.1, .int .i64 U.2.2] 129)).cell? ⟨w5.heap.size, 1, none⟩ = some (.int .i64 U.2.1) := by simp
   have f2 : (w5.alloc (Obj.cells #[.int .i64 U.1, .int .i64 U.2.1, .int .i64 U.2.2] 129)).cell? ⟨w5.heap.size, 2, none⟩ = some (.int .i64 U.2.2) := by simp
   have hal : Below w5.heap.size w5 (w5.alloc (Obj.cells #[.int .i64 U.1, .int .i64 U.2.1, .int .i64 U.2.2] 129)) := (Below.refl _ _).alloc nL _
   have e3 : (w5.alloc (Obj.cells #[.int .i64 U.1, .int .i64 U.2.1, .int .i64 U.2.2] 129)).cell? ⟨wr.heap.size, 3, none⟩ = some (.int .i64 y.room) := range_belowV HG5.out hal HS5.out 3 _ rfl
   have e4 : (w5.alloc (Obj.cells #[.int .i64 U.1, .int .i64 U.2.1, .int .i64 U.2.2] 129)).cell? ⟨wr.heap.size, 4, none⟩ = some (.int .i64 y.hold) := range_belowV HG5.out hal HS5.out 4 _ rfl
   have HB6 : Hid (Below w.heap.size w (w5.alloc (Obj.cells #[.int .i64 U.1, .int .i64 U.2.1, .int .i64 U.2.2] 129))) := HB5.out.trans (hal.mono HB5.out.size)
   clear hal HB5 HG5 HS5
   generalize w5.alloc (Obj.cells #[.int .i64 U.1, .int .i64 U.2.1, .int .i64 U.2.2] 129) = w6 at *
   have bad : Hid (standAt x.copies y = false → standOk x.berths x.copies = false) := fun h => List.all_eq_false.mpr ⟨y, List.mem_of_getElem? HX.out, by simp [h]⟩
   by_cases h1 : U.1 ≤ 10
   ·by_cases h2 : U.2.1 ≤ y.room
    ·by_cases h3 : U.2.2 ≤ y.hold
     ·have HO : Hid (∀ j z, j < k + 1 → x.berths[j]? = some z → standAt x.copies z = true) := by
       intro j z hj hz
       by_cases e : j = k
       ·subst e
        rw [HX.out] at hz
        cases hz
        rw [HSA.out]
        simp [h1, h2, h3]
       ·exact ho.out j z (by omega) hz
      clear ho bad HSA
      go_wp2_with fail
      go_roundw
      case rel => exact ⟨k + 1, by omega, by go_num, HO, HB6.out⟩
      case measure => simp [intOf]; omega
     ·have HC : Hid (standOk x.berths x.copies = false) := bad.out (by rw [HSA.out]; simp [h3])
      clear ho bad HSA
      go_wp2_with fail
      go_ret
      exact ⟨ret_bool HC.out.symm, HB6.out⟩
    ·have HC : Hid (standOk x.berths x.copies = false) := bad.out (by rw [HSA.out]; simp [h2])
     clear ho bad HSA
     go_wp2_with fail
     go_ret
     exact ⟨ret_bool HC.out.symm, HB6.out⟩
   ·have HC : Hid (standOk x.berths x.copies = false) := bad.out (by rw [HSA.out]; simp [h1])
    clear ho bad HSA
    go_wp2_with fail
    go_ret
    exact ⟨ret_bool HC.out.symm, HB6.out⟩
  ·have hke : k = x.berths.length := by omega
   subst hke
   have HC : Hid (standOk x.berths x.copies = true) := by
    show _ = _
    simp only [standOk, List.all_eq_true]
    intro y hy
    obtain ⟨j, hj, e⟩ := List.mem_iff_getElem.mp hy
    exact ho.out j y hj (by rw [List.getElem?_eq_getElem hj, e])
   clear ho
   go_wp2_with fail
   go_ret
   exact ⟨ret_bool HC.out.symm, hbel⟩
def berthAt (b : Brt) : Bool := P.nameOk b.zone && inR b.room 0 1000 && inR b.hold 0 1000 && mkOk b.marks
def berthsOk (bs : List Brt) : Bool := bs.all berthAt
set_option maxHeartbeats 1000000 in
theorem berths_any (p : Nat) (xs : List Brt) (a : Option Addr) (cap lo : Nat) (w : World) (hp : w.cell? ⟨p, 1, none⟩ = some (.slice a xs.length cap)) (n1 : SliceC BrtC 6 lo w a xs) :
  Calls Tryz.prog 70 #[.pointer (some ⟨p, 0, none⟩)] w fun e w' => e = .returned (.bool (berthsOk xs)) ∧ Below w.heap.size w w' := by
 have hlen := n1.1
 unfold maxLen at hlen
 have N1 : Hid (SliceC BrtC 6 lo w a xs) := n1
 clear n1
 go_enter Tryz.func70, Tryz.ntmps70
 go_wp2_with fail
 clear hp
 go_loopw [11] (fun i wr => ∃ k : Nat, k ≤ xs.length ∧ i = .int .i64 k ∧ Hid (∀ j y, j < k → xs[j]? = some y → berthAt y = true) ∧ Below w.heap.size w wr) (fun i _ => xs.length - (intOf i).toNat)
 case atStart => exact ⟨0, Nat.zero_le _, rfl, fun j y h => absurd h (Nat.not_lt_zero _), by go_grown⟩
 case round =>
  obtain ⟨k, hk, rfl, ho, hbel⟩ := hrel
  by_cases hlt : k < xs.length
  ·obtain ⟨y, hy⟩ : ∃ y, xs[k]? = some y := ⟨xs[k], List.getElem?_eq_getElem hlt⟩
   obtain ⟨b, o, rfl, _, _, hc⟩ := (N1.out.below BrtC.holds hbel nL).at hy
   obtain ⟨m2, d2, q0, q1, q2, q3, q4, q5, _, z1, nm⟩ := hc
   simp only [Nat.add_zero] at q0 q1 q2 q3 q4 q5
   have HRA : Hid (wr.rangeAt b (o + k * 6) [.string y.name, .string y.zone, .slice m2 y.marks.length d2, .int .i64 y.room, .int .i64 y.hold, .bool y.closed]) := range_cons q0 (range_cons q1 (range_cons q2 (range_cons q3 (range_cons q4 (range_cons q5 (range_nil _ _ _))))))
   have HX : Hid (xs[k]? = some y) := hy
   have HB : Hid (Below w.heap.size w wr) := hbel
   have HZ : Hid (y.zone.size ≤ maxLen) := z1
   have HM : Hid (SliceC StrC 1 lo wr m2 y.marks) := nm
   clear hy hbel q0 q1 q2 q3 q4 q5 z1 nm
   go_upto_region 4 with (first | (refine wpList_load_mid rfl 61 _ rfl b (o + k * 6) (by first | rfl | (simp [go_sem]; done)) [.string y.name, .string y.zone, .slice m2 y.marks.length d2, .int .i64 y.room, .int .i64 y.hold, .bool y.closed] _ HRA.out Tryz.underlying61 rfl isz_Brt ?_))
   have HG : Hid ((wr.alloc (Obj.cells #[.string y.name, .string y.zone, .slice m2 y.marks.length d2, .int .i64 y.room, .int .i64 y.hold, .bool y.closed] 61)).rangeAt wr.heap.size 0 [.string y.name, .string y.zone, .slice m2 y.marks.length d2, .int .i64 y.room, .int .i64 y.hold, .bool y.closed]) := range_cons (by simp) (range_cons (by simp) (range_cons (by simp) (range_cons (by simp) (range_cons (by simp) (range_cons (by simp) (range_nil _ _ _))))))
   have hal : Below wr.heap.size wr (wr.alloc (Obj.cells #[.string y.name, .string y.zone, .slice m2 y.marks.length d2, .int .i64 y.room, .int .i64 y.hold, .bool y.closed] 61)) := (Below.refl _ _).alloc nL _
   have HB4 : Hid (Below w.heap.size w (wr.alloc (Obj.cells #[.string y.name, .string y.zone, .slice m2 y.marks.length d2, .int .i64 y.room, .int .i64 y.hold, .bool y.closed] 61))) := HB.out.alloc HB.out.size _
   have HM4 : Hid (SliceC StrC 1 lo (wr.alloc (Obj.cells #[.string y.name, .string y.zone, .slice m2 y.marks.length d2, .int .i64 y.room, .int .i64 y.hold, .bool y.closed] 61)) m2 y.marks) := HM.out.below StrC.holds hal nL
   have HS4 : Hid (wr.heap.size < (wr.alloc (Obj.cells #[.string y.name, .string y.zone, .slice m2 y.marks.length d2, .int .i64 y.room, .int .i64 y.hold, .bool y.closed] 61)).heap.size) := by show _ < _; simp
   clear HB HRA hal HM
   generalize wr.alloc (Obj.cells #[.string y.name, .string y.zone, .slice m2 y.marks.length d2, .int .i64 y.room, .int .i64 y.hold, .bool y.closed] 61) = w4 at *
   have e1 : w4.cell? ⟨wr.heap.size, 1, none⟩ = some (.string y.zone) := HG.out 1 _ rfl
   have HBA : Hid (berthAt y = (P.nameOk y.zone && inR y.room 0 1000 && inR y.hold 0 1000 && mkOk y.marks)) := rfl
   have bad : Hid (berthAt y = false → berthsOk xs = false) := fun h => List.all_eq_false.mpr ⟨y, List.mem_of_getElem? HX.out, by simp [h]⟩
   go_wp2_with fail
   refine (isName_any y.zone _ HZ.out).mono ?_
   rintro e w' ⟨rfl, rfl⟩
   clear e1
   cases hz : P.nameOk y.zone with
   | false =>
    have HC : Hid (berthsOk xs = false) := bad.out (by rw [HBA.out, hz]; rfl)
    clear ho bad HBA hz
    go_wp2_with fail
    go_ret
    exact ⟨ret_bool HC.out.symm, HB4.out⟩
   | true =>
   rw [hz, Bool.true_and] at HBA
   clear hz
   have e3 : w'.cell? ⟨wr.heap.size, 3, none⟩ = some (.int .i64 y.room) := HG.out 3 _ rfl
   go_wp2_with fail
   refine (isSize_any y.room _).mono ?_
   rintro e w5 ⟨rfl, hb5⟩
   have HB5 : Hid (Below w.heap.size w w5) := HB4.out.trans (hb5.mono HB4.out.size)
   have HG5 : Hid (w5.rangeAt wr.heap.size 0 [.string y.name, .string y.zone, .slice m2 y.marks.length d2, .int .i64 y.room, .int .i64 y.hold, .bool y.closed]) := range_belowV HG.out hb5 HS4.out
   have HS5 : Hid (wr.heap.size < w5.heap.size) := Nat.lt_of_lt_of_le HS4.out hb5.size
   have HM5 : Hid (SliceC StrC 1 lo w5 m2 y.marks) := HM4.out.below StrC.holds hb5 nL
   clear hb5 e3 HB4 HG HS4 HM4
   cases hr : inR y.room 0 1000 with
   | false =>
    have HC : Hid (berthsOk xs = false) := bad.out (by rw [HBA.out, hr]; rfl)
    clear ho bad HBA hr
    go_wp2_with fail
    go_ret
    exact ⟨ret_bool HC.out.symm, HB5.out⟩
   | true =>
   rw [hr, Bool.true_and] at HBA
   clear hr
   have e4 : w5.cell? ⟨wr.heap.size, 4, none⟩ = some (.int .i64 y.hold) := HG5.out 4 _ rfl
   go_wp2_with fail
   refine (isSize_any y.hold _).mono ?_
   rintro e w6 ⟨rfl, hb6⟩
   have HB6 : Hid (Below w.heap.size w w6) := HB5.out.trans (hb6.mono HB5.out.size)
   have HG6 : Hid (w6.rangeAt wr.heap.size 0 [.string y.name, .string y.zone, .slice m2 y.marks.length d2, .int .i64 y.room, .int .i64 y.hold, .bool y.closed]) := range_belowV HG5.out hb6 HS5.out
   have HM6 : Hid (SliceC StrC 1 lo w6 m2 y.marks) := HM5.out.below StrC.holds hb6 nL
   clear hb6 e4 HB5 HG5 HS5 HM5
   cases hh : inR y.hold 0 1000 with
   | false =>
    have HC : Hid (berthsOk xs = false) := bad.out (by rw [HBA.out, hh]; rfl)
    clear ho bad HBA hh
    go_wp2_with fail
    go_ret
    exact ⟨ret_bool HC.out.symm, HB6.out⟩
   | true =>
   rw [hh, Bool.true_and] at HBA
   clear hh
   have e2 : w6.cell? ⟨wr.heap.size, 2, none⟩ = some (.slice m2 y.marks.length d2) := HG6.out 2 _ rfl
   go_wp2_with fail
   refine (marksOk_any y.marks m2 d2 lo _ HM6.out).mono ?_
   rintro e w7 ⟨rfl, hb7⟩
   have HB7 : Hid (Below w.heap.size w w7) := HB6.out.trans (hb7.mono HB6.out.size)
   clear hb7 e2 HB6 HG6 HM6
   cases hm : mkOk y.marks with
   | false =>
    have HC : Hid (berthsOk xs = false) := bad.out (by rw [HBA.out, hm])
    clear ho bad HBA hm
    go_wp2_with fail
    go_ret
    exact ⟨ret_bool HC.out.symm, HB7.out⟩
   | true =>
    have HO : Hid (∀ j z, j < k + 1 → xs[j]? = some z → berthAt z = true) := by
     intro j z hj hz
     by_cases e : j = k
     ·subst e
      rw [HX.out] at hz
      cases hz
      rw [HBA.out, hm]
     ·exact ho.out j z (by omega) hz
    clear ho bad HBA hm
    go_wp2_with fail
    go_roundw
    case rel => exact ⟨k + 1, by omega, by go_num, HO, HB7.out⟩
    case measure => simp [intOf]; omega
  ·have hke : k = xs.length := by omega
   subst hke
   have HC : Hid (berthsOk xs = true) := by
    show _ = _
    simp only [berthsOk, List.all_eq_true]
    intro y hy
    obtain ⟨j, hj, e⟩ := List.mem_iff_getElem.mp hy
    exact ho.out j y hj (by rw [List.getElem?_eq_getElem hj, e])
   clear ho
   go_wp2_with fail
   go_ret
   exact ⟨ret_bool HC.out.symm, hbel⟩
end Go.Proofs.YtebfdgfhadpieaaGreat
