import Derived.Test.YtihnjndnkgnmaaaGreatTk0
import Derived.Test.YtihnjndnkgnmaaaGreatJ20
import Derived.Test.YtihnjndnkgnmaaaGreatJ4
import Derived.Maps.OwnOps
import Derived.Deep.RegionHeld3
namespace Go.Proofs.YtihnjndnkgnmaaaGreat
open Go.RowKit

def standAt (cs : List Cpy) (b : Brt) : Bool :=
 decide ((useTo cs b.name (-1) cs.length).1 ≤ 10) && decide ((useTo cs b.name (-1) cs.length).2.1 ≤ b.room) && decide ((useTo cs b.name (-1) cs.length).2.2 ≤ b.hold)

def standOk (bs : List Brt) (cs : List Cpy) : Bool := bs.all (standAt cs)

set_option maxHeartbeats 1000000 in
set_option maxRecDepth 100000 in
theorem stand_any (p : Nat) (x : Flt) (a1 : Option Addr) (c1 : Nat) (a2 : Option Addr) (c2 : Nat) (a3 : Option Addr) (c3 : Nat) (lo : Nat) (w : World) (hp : FndIn p x a1 c1 a2 c2 a3 c3 w) (n1 : SliceC BrtC 6 lo w a1 x.berths) (n3 : SliceC CpyC 12 lo w a3 x.copies)
  (l1 : x.berths.length ≤ 1048576) (l3 : x.copies.length ≤ 1048576) :
  Calls Tryz.prog 96 #[.pointer (some ⟨p, 0, none⟩)] w fun e w' => e = .returned (.bool (standOk x.berths x.copies)) ∧ Below w.heap.size w w' := by
 have N1 : Hid (SliceC BrtC 6 lo w a1 x.berths) := n1
 have N3 : Hid (SliceC CpyC 12 lo w a3 x.copies) := n3
 have HP : Hid (FndIn p x a1 c1 a2 c2 a3 c3 w) := hp
 have hpl : p < w.heap.size := block_lt_of_cell hp.1
 obtain ⟨p1, _, _⟩ := hp
 clear n1 n3
 go_enter Tryz.func96, Tryz.ntmps96
 go_wp2_with fail
 clear p1
 go_loopw [12] (fun i wr => ∃ k : Nat, k ≤ x.berths.length ∧ i = .int .i64 k ∧ Hid (∀ j y, j < k → x.berths[j]? = some y → standAt x.copies y = true) ∧ Below w.heap.size w wr) (fun i _ => x.berths.length - (intOf i).toNat)
 case atStart => exact ⟨0, Nat.zero_le _, rfl, fun j y h => absurd h (Nat.not_lt_zero _), by go_grown⟩
 case round =>
  obtain ⟨k, hk, rfl, ho, hbel⟩ := hrel
  by_cases hlt : k < x.berths.length
  ·obtain ⟨y, hy⟩ : ∃ y, x.berths[k]? = some y := ⟨x.berths[k], List.getElem?_eq_getElem hlt⟩
   obtain ⟨b, o, rfl, _, _, hc⟩ := (N1.out.below BrtC.holds hbel nL).at hy
   obtain ⟨m2, d2, q0, q1, q2, q3, q4, q5, _, _, _⟩ := hc
   simp only [Nat.add_zero] at q0 q1 q2 q3 q4 q5
   have HRA : Hid (wr.rangeAt b (o + k * 6) [.string y.name, .string y.zone, .slice m2 y.marks.length d2, .int .i64 y.room, .int .i64 y.hold, .bool y.closed]) := range_cons q0 (range_cons q1 (range_cons q2 (range_cons q3 (range_cons q4 (range_cons q5 (range_nil _ _ _))))))
   have HX : Hid (x.berths[k]? = some y) := hy
   have HB : Hid (Below w.heap.size w wr) := hbel
   clear hy hbel q0 q1 q2 q3 q4 q5
   go_upto_region 4 with (first | (refine wpList_load_mid rfl 45 _ rfl b (o + k * 6) (by first | rfl | (simp [go_sem]; done)) [.string y.name, .string y.zone, .slice m2 y.marks.length d2, .int .i64 y.room, .int .i64 y.hold, .bool y.closed] _ HRA.out Tryz.underlying45 rfl isz_Brt ?_))
   have HG : Hid ((wr.alloc (Obj.cells #[.string y.name, .string y.zone, .slice m2 y.marks.length d2, .int .i64 y.room, .int .i64 y.hold, .bool y.closed] 45)).rangeAt wr.heap.size 0 [.string y.name, .string y.zone, .slice m2 y.marks.length d2, .int .i64 y.room, .int .i64 y.hold, .bool y.closed]) := range_cons (by simp) (range_cons (by simp) (range_cons (by simp) (range_cons (by simp) (range_cons (by simp) (range_cons (by simp) (range_nil _ _ _))))))
   have HB4 : Hid (Below w.heap.size w (wr.alloc (Obj.cells #[.string y.name, .string y.zone, .slice m2 y.marks.length d2, .int .i64 y.room, .int .i64 y.hold, .bool y.closed] 45))) := HB.out.alloc HB.out.size _
   have HS4 : Hid (wr.heap.size < (wr.alloc (Obj.cells #[.string y.name, .string y.zone, .slice m2 y.marks.length d2, .int .i64 y.room, .int .i64 y.hold, .bool y.closed] 45)).heap.size) := by show _ < _; simp
   clear HB HRA
   generalize wr.alloc (Obj.cells #[.string y.name, .string y.zone, .slice m2 y.marks.length d2, .int .i64 y.room, .int .i64 y.hold, .bool y.closed] 45) = w4 at *
   have e0 : w4.cell? ⟨wr.heap.size, 0, none⟩ = some (.string y.name) := HG.out 0 _ rfl
   have HP4 : Hid (FndIn p x (some ⟨b, o, none⟩) c1 a2 c2 a3 c3 w4) := HP.out.below HB4.out hpl
   go_wp2_with fail
   refine (used_any p x.copies a3 c3 lo _ _ _ HP4.out.2.2 (N3.out.below CpyC.holds HB4.out nL) l3).mono ?_
   rintro e w5 ⟨rfl, hb5⟩
   have HB5 : Hid (Below w.heap.size w w5) := HB4.out.trans (hb5.mono HB4.out.size)
   have HG5 : Hid (w5.rangeAt wr.heap.size 0 [.string y.name, .string y.zone, .slice m2 y.marks.length d2, .int .i64 y.room, .int .i64 y.hold, .bool y.closed]) := range_belowV HG.out hb5 HS4.out
   have HS5 : Hid (wr.heap.size < w5.heap.size) := Nat.lt_of_lt_of_le HS4.out hb5.size
   clear hb5 e0 HB4 HG HS4 HP4
   have HSA : Hid (standAt x.copies y = (decide ((useTo x.copies y.name (-1) x.copies.length).1 ≤ 10) && decide ((useTo x.copies y.name (-1) x.copies.length).2.1 ≤ y.room) && decide ((useTo x.copies y.name (-1) x.copies.length).2.2 ≤ y.hold))) := rfl
   generalize useTo x.copies y.name (-1) x.copies.length = U at *
   go_upto_region 5 with fail
   have f0 : (w5.alloc (Obj.cells #[.int .i64 U.1, .int .i64 U.2.1, .int .i64 U.2.2] 163)).cell? ⟨w5.heap.size, 0, none⟩ = some (.int .i64 U.1) := by simp
   have f1 : (w5.alloc (Obj.cells #[.int .i64 U.1, .int .i64 U.2.1, .int .i64 U.2.2] 163)).cell? ⟨w5.heap.size, 1, none⟩ = some (.int .i64 U.2.1) := by simp
   have f2 : (w5.alloc (Obj.cells #[.int .i64 U.1, .int .i64 U.2.1, .int .i64 U.2.2] 163)).cell? ⟨w5.heap.size, 2, none⟩ = some (.int .i64 U.2.2) := by simp
   have hal : Below w5.heap.size w5 (w5.alloc (Obj.cells #[.int .i64 U.1, .int .i64 U.2.1, .int .i64 U.2.2] 163)) := (Below.refl _ _).alloc nL _
   have e3 : (w5.alloc (Obj.cells #[.int .i64 U.1, .int .i64 U.2.1, .int .i64 U.2.2] 163)).cell? ⟨wr.heap.size, 3, none⟩ = some (.int .i64 y.room) := range_belowV HG5.out hal HS5.out 3 _ rfl
   have e4 : (w5.alloc (Obj.cells #[.int .i64 U.1, .int .i64 U.2.1, .int .i64 U.2.2] 163)).cell? ⟨wr.heap.size, 4, none⟩ = some (.int .i64 y.hold) := range_belowV HG5.out hal HS5.out 4 _ rfl
   have HB6 : Hid (Below w.heap.size w (w5.alloc (Obj.cells #[.int .i64 U.1, .int .i64 U.2.1, .int .i64 U.2.2] 163))) := HB5.out.trans (hal.mono HB5.out.size)
   clear hal HB5 HG5 HS5
   generalize w5.alloc (Obj.cells #[.int .i64 U.1, .int .i64 U.2.1, .int .i64 U.2.2] 163) = w6 at *
   have bad : Hid (standAt x.copies y = false → standOk x.berths x.copies = false) := fun h => List.all_eq_false.mpr ⟨y, List.mem_of_getElem? HX.out, by simp [h]⟩
   by_cases h1 : U.1 ≤ 10
   ·by_cases h2 : U.2.1 ≤ y.room
    ·by_cases h3 : U.2.2 ≤ y.hold
     ·have HO : Hid (∀ j z, j < k + 1 → x.berths[j]? = some z → standAt x.copies z = true) := by
       intro j z hj hz
       by_cases e : j = k
       ·subst e
        rw [HX.out] at hz
        cases hz
        rw [HSA.out]
        simp [h1, h2, h3]
       ·exact ho.out j z (by omega) hz
      clear ho bad HSA
      go_wp2_with fail
      go_roundw
      case rel => exact ⟨k + 1, by omega, by go_num, HO, HB6.out⟩
      case measure => simp [intOf]; omega
     ·have HC : Hid (standOk x.berths x.copies = false) := bad.out (by rw [HSA.out]; simp [h3])
      clear ho bad HSA
      go_wp2_with fail
      go_ret
      exact ⟨ret_bool HC.out.symm, HB6.out⟩
    ·have HC : Hid (standOk x.berths x.copies = false) := bad.out (by rw [HSA.out]; simp [h2])
     clear ho bad HSA
     go_wp2_with fail
     go_ret
     exact ⟨ret_bool HC.out.symm, HB6.out⟩
   ·have HC : Hid (standOk x.berths x.copies = false) := bad.out (by rw [HSA.out]; simp [h1])
    clear ho bad HSA
    go_wp2_with fail
    go_ret
    exact ⟨ret_bool HC.out.symm, HB6.out⟩
  ·have hke : k = x.berths.length := by omega
   subst hke
   have HC : Hid (standOk x.berths x.copies = true) := by
    show _ = _
    simp only [standOk, List.all_eq_true]
    intro y hy
    obtain ⟨j, hj, e⟩ := List.mem_iff_getElem.mp hy
    exact ho.out j y hj (by rw [List.getElem?_eq_getElem hj, e])
   clear ho
   go_wp2_with fail
   go_ret
   exact ⟨ret_bool HC.out.symm, hbel⟩

end Go.Proofs.YtihnjndnkgnmaaaGreat

namespace Go.Proofs.YtihnjndnkgnmaaaGreat
open Go.RowKit

def berthAt (b : Brt) : Bool := P.nameOk b.zone && inR b.room 0 1000 && inR b.hold 0 1000 && mkOk b.marks
def berthsOk (bs : List Brt) : Bool := bs.all berthAt

set_option maxHeartbeats 1000000 in
set_option maxRecDepth 100000 in
theorem berths_any (p : Nat) (xs : List Brt) (a : Option Addr) (cap lo : Nat) (w : World) (hp : w.cell? ⟨p, 1, none⟩ = some (.slice a xs.length cap)) (n1 : SliceC BrtC 6 lo w a xs) :
  Calls Tryz.prog 93 #[.pointer (some ⟨p, 0, none⟩)] w fun e w' => e = .returned (.bool (berthsOk xs)) ∧ Below w.heap.size w w' := by
 have hlen := n1.1
 unfold maxLen at hlen
 have N1 : Hid (SliceC BrtC 6 lo w a xs) := n1
 clear n1
 go_enter Tryz.func93, Tryz.ntmps93
 go_wp2_with fail
 clear hp
 go_loopw [11] (fun i wr => ∃ k : Nat, k ≤ xs.length ∧ i = .int .i64 k ∧ Hid (∀ j y, j < k → xs[j]? = some y → berthAt y = true) ∧ Below w.heap.size w wr) (fun i _ => xs.length - (intOf i).toNat)
 case atStart => exact ⟨0, Nat.zero_le _, rfl, fun j y h => absurd h (Nat.not_lt_zero _), by go_grown⟩
 case round =>
  obtain ⟨k, hk, rfl, ho, hbel⟩ := hrel
  by_cases hlt : k < xs.length
  ·obtain ⟨y, hy⟩ : ∃ y, xs[k]? = some y := ⟨xs[k], List.getElem?_eq_getElem hlt⟩
   obtain ⟨b, o, rfl, _, _, hc⟩ := (N1.out.below BrtC.holds hbel nL).at hy
   obtain ⟨m2, d2, q0, q1, q2, q3, q4, q5, _, z1, nm⟩ := hc
   simp only [Nat.add_zero] at q0 q1 q2 q3 q4 q5
   have HRA : Hid (wr.rangeAt b (o + k * 6) [.string y.name, .string y.zone, .slice m2 y.marks.length d2, .int .i64 y.room, .int .i64 y.hold, .bool y.closed]) := range_cons q0 (range_cons q1 (range_cons q2 (range_cons q3 (range_cons q4 (range_cons q5 (range_nil _ _ _))))))
   have HX : Hid (xs[k]? = some y) := hy
   have HB : Hid (Below w.heap.size w wr) := hbel
   have HZ : Hid (y.zone.size ≤ maxLen) := z1
   have HM : Hid (SliceC StrC 1 lo wr m2 y.marks) := nm
   clear hy hbel q0 q1 q2 q3 q4 q5 z1 nm
   go_upto_region 4 with (first | (refine wpList_load_mid rfl 45 _ rfl b (o + k * 6) (by first | rfl | (simp [go_sem]; done)) [.string y.name, .string y.zone, .slice m2 y.marks.length d2, .int .i64 y.room, .int .i64 y.hold, .bool y.closed] _ HRA.out Tryz.underlying45 rfl isz_Brt ?_))
   have HG : Hid ((wr.alloc (Obj.cells #[.string y.name, .string y.zone, .slice m2 y.marks.length d2, .int .i64 y.room, .int .i64 y.hold, .bool y.closed] 45)).rangeAt wr.heap.size 0 [.string y.name, .string y.zone, .slice m2 y.marks.length d2, .int .i64 y.room, .int .i64 y.hold, .bool y.closed]) := range_cons (by simp) (range_cons (by simp) (range_cons (by simp) (range_cons (by simp) (range_cons (by simp) (range_cons (by simp) (range_nil _ _ _))))))
   have hal : Below wr.heap.size wr (wr.alloc (Obj.cells #[.string y.name, .string y.zone, .slice m2 y.marks.length d2, .int .i64 y.room, .int .i64 y.hold, .bool y.closed] 45)) := (Below.refl _ _).alloc nL _
   have HB4 : Hid (Below w.heap.size w (wr.alloc (Obj.cells #[.string y.name, .string y.zone, .slice m2 y.marks.length d2, .int .i64 y.room, .int .i64 y.hold, .bool y.closed] 45))) := HB.out.alloc HB.out.size _
   have HM4 : Hid (SliceC StrC 1 lo (wr.alloc (Obj.cells #[.string y.name, .string y.zone, .slice m2 y.marks.length d2, .int .i64 y.room, .int .i64 y.hold, .bool y.closed] 45)) m2 y.marks) := HM.out.below StrC.holds hal nL
   have HS4 : Hid (wr.heap.size < (wr.alloc (Obj.cells #[.string y.name, .string y.zone, .slice m2 y.marks.length d2, .int .i64 y.room, .int .i64 y.hold, .bool y.closed] 45)).heap.size) := by show _ < _; simp
   clear HB HRA hal HM
   generalize wr.alloc (Obj.cells #[.string y.name, .string y.zone, .slice m2 y.marks.length d2, .int .i64 y.room, .int .i64 y.hold, .bool y.closed] 45) = w4 at *
   have e1 : w4.cell? ⟨wr.heap.size, 1, none⟩ = some (.string y.zone) := HG.out 1 _ rfl
   have HBA : Hid (berthAt y = (P.nameOk y.zone && inR y.room 0 1000 && inR y.hold 0 1000 && mkOk y.marks)) := rfl
   have bad : Hid (berthAt y = false → berthsOk xs = false) := fun h => List.all_eq_false.mpr ⟨y, List.mem_of_getElem? HX.out, by simp [h]⟩
   go_wp2_with fail
   refine (isName_any y.zone _ HZ.out).mono ?_
   rintro e w' ⟨rfl, rfl⟩
   clear e1
   cases hz : P.nameOk y.zone with
   | false =>
    have HC : Hid (berthsOk xs = false) := bad.out (by rw [HBA.out, hz]; rfl)
    clear ho bad HBA hz
    go_wp2_with fail
    go_ret
    exact ⟨ret_bool HC.out.symm, HB4.out⟩
   | true =>
   rw [hz, Bool.true_and] at HBA
   clear hz
   have e3 : w'.cell? ⟨wr.heap.size, 3, none⟩ = some (.int .i64 y.room) := HG.out 3 _ rfl
   go_wp2_with fail
   refine (isSize_any y.room _).mono ?_
   rintro e w5 ⟨rfl, hb5⟩
   have HB5 : Hid (Below w.heap.size w w5) := HB4.out.trans (hb5.mono HB4.out.size)
   have HG5 : Hid (w5.rangeAt wr.heap.size 0 [.string y.name, .string y.zone, .slice m2 y.marks.length d2, .int .i64 y.room, .int .i64 y.hold, .bool y.closed]) := range_belowV HG.out hb5 HS4.out
   have HS5 : Hid (wr.heap.size < w5.heap.size) := Nat.lt_of_lt_of_le HS4.out hb5.size
   have HM5 : Hid (SliceC StrC 1 lo w5 m2 y.marks) := HM4.out.below StrC.holds hb5 nL
   clear hb5 e3 HB4 HG HS4 HM4
   cases hr : inR y.room 0 1000 with
   | false =>
    have HC : Hid (berthsOk xs = false) := bad.out (by rw [HBA.out, hr]; rfl)
    clear ho bad HBA hr
    go_wp2_with fail
    go_ret
    exact ⟨ret_bool HC.out.symm, HB5.out⟩
   | true =>
   rw [hr, Bool.true_and] at HBA
   clear hr
   have e4 : w5.cell? ⟨wr.heap.size, 4, none⟩ = some (.int .i64 y.hold) := HG5.out 4 _ rfl
   go_wp2_with fail
   refine (isSize_any y.hold _).mono ?_
   rintro e w6 ⟨rfl, hb6⟩
   have HB6 : Hid (Below w.heap.size w w6) := HB5.out.trans (hb6.mono HB5.out.size)
   have HG6 : Hid (w6.rangeAt wr.heap.size 0 [.string y.name, .string y.zone, .slice m2 y.marks.length d2, .int .i64 y.room, .int .i64 y.hold, .bool y.closed]) := range_belowV HG5.out hb6 HS5.out
   have HM6 : Hid (SliceC StrC 1 lo w6 m2 y.marks) := HM5.out.below StrC.holds hb6 nL
   clear hb6 e4 HB5 HG5 HS5 HM5
   cases hh : inR y.hold 0 1000 with
   | false =>
    have HC : Hid (berthsOk xs = false) := bad.out (by rw [HBA.out, hh]; rfl)
    clear ho bad HBA hh
    go_wp2_with fail
    go_ret
    exact ⟨ret_bool HC.out.symm, HB6.out⟩
   | true =>
   rw [hh, Bool.true_and] at HBA
   clear hh
   have e2 : w6.cell? ⟨wr.heap.size, 2, none⟩ = some (.slice m2 y.marks.length d2) := HG6.out 2 _ rfl
   go_wp2_with fail
   refine (marksOk_any y.marks m2 d2 lo _ HM6.out).mono ?_
   rintro e w7 ⟨rfl, hb7⟩
   have HB7 : Hid (Below w.heap.size w w7) := HB6.out.trans (hb7.mono HB6.out.size)
   clear hb7 e2 HB6 HG6 HM6
   cases hm : mkOk y.marks with
   | false =>
    have HC : Hid (berthsOk xs = false) := bad.out (by rw [HBA.out, hm])
    clear ho bad HBA hm
    go_wp2_with fail
    go_ret
    exact ⟨ret_bool HC.out.symm, HB7.out⟩
   | true =>
    have HO : Hid (∀ j z, j < k + 1 → xs[j]? = some z → berthAt z = true) := by
     intro j z hj hz
     by_cases e : j = k
     ·subst e
      rw [HX.out] at hz
      cases hz
      rw [HBA.out, hm]
     ·exact ho.out j z (by omega) hz
    clear ho bad HBA hm
    go_wp2_with fail
    go_roundw
    case rel => exact ⟨k + 1, by omega, by go_num, HO, HB7.out⟩
    case measure => simp [intOf]; omega
  ·have hke : k = xs.length := by omega
   subst hke
   have HC : Hid (berthsOk xs = true) := by
    show _ = _
    simp only [berthsOk, List.all_eq_true]
    intro y hy
    obtain ⟨j, hj, e⟩ := List.mem_iff_getElem.mp hy
    exact ho.out j y hj (by rw [List.getElem?_eq_getElem hj, e])
   clear ho
   go_wp2_with fail
   go_ret
   exact ⟨ret_bool HC.out.symm, hbel⟩

end Go.Proofs.YtihnjndnkgnmaaaGreat

namespace Go.Proofs.YtihnjndnkgnmaaaGreat
open Go.RowKit Go.WideMaps Go.Maps

theorem look_places {ns : List ByteArray} {m n l : Nat} {w : World} {s : ByteArray} (h : w.ownsMap Tryz.prog 9 (plainElem Tryz.prog 3) m n (placesTo ns l)) (hs : s.size ≤ maxLen) :
  (Instr.lookup 128 (.map (some m)) (.string s) true).run Tryz.prog w = .ok (.tuple #[.int .i64 (((lastOf ns s l).getD 0 : Nat) : Int), .bool (lastOf ns s l).isSome]) w := by
 have hkey : keyOf Tryz.prog 9 (.string s) = some (kOf s) := keyOf_string_mk Tryz.underlying9 hs
 obtain ⟨v, ps, hrun, hv⟩ := h.look_ok law_str Tryz.underlying128 (zero_int w) (plainElem_int Tryz.underlying3 (a := 0) (by decide)) hkey
 obtain ⟨c, rfl, hc, _⟩ := plainElem_int_inv Tryz.underlying3 hv
 have h1 := congrArg Prod.fst hc
 simp only at h1
 have h3 := h1.symm.trans (at_places ns s l)
 have h5 : c = (((lastOf ns s l).getD 0 : Nat) : Int) := by simpa using h3
 rw [hrun, h5, has_places ns s l]

def copyAt (x : Flt) (c : Cpy) : Bool :=
 (lastOf (x.services.map (·.name)) c.service x.services.length).isSome && ((lastOf (x.berths.map (·.name)) c.at_ x.berths.length).isSome || decide (c.at_.size = 0)) && copyOk c

def copiesOk (x : Flt) : Bool := x.copies.all (copyAt x)

set_option maxHeartbeats 1000000 in
set_option maxRecDepth 100000 in
theorem copies_any (p : Nat) (x : Flt) (a3 : Option Addr) (c3 : Nat) (m1 m2 : Nat) (lo : Nat) (w : World) (p3 : w.cell? ⟨p, 3, none⟩ = some (.slice a3 x.copies.length c3)) (p4 : w.cell? ⟨p, 4, none⟩ = some (.map (some m1))) (p5 : w.cell? ⟨p, 5, none⟩ = some (.map (some m2)))
  (o1 : w.ownsMap Tryz.prog 9 (plainElem Tryz.prog 3) m1 x.berths.length (placesTo (x.berths.map (·.name)) x.berths.length)) (o2 : w.ownsMap Tryz.prog 9 (plainElem Tryz.prog 3) m2 x.services.length (placesTo (x.services.map (·.name)) x.services.length)) (n3 : SliceC CpyC 12 lo w a3 x.copies) (l3 : x.copies.length ≤ 1048576) :
  Calls Tryz.prog 95 #[.pointer (some ⟨p, 0, none⟩)] w fun e w' => e = .returned (.bool (copiesOk x)) ∧ Below w.heap.size w w' := by
 have N3 : Hid (SliceC CpyC 12 lo w a3 x.copies) := n3
 have O1 := iH o1
 have O2 := iH o2
 have hpl : p < w.heap.size := block_lt_of_cell p3
 have hm1 : m1 < w.heap.size := o1.lt
 have hm2 : m2 < w.heap.size := o2.lt
 have P4 := iH p4
 have P5 := iH p5
 clear n3 o1 o2 p4 p5
 go_enter Tryz.func95, Tryz.ntmps95
 go_wp2_with fail
 go_loopw [15] (fun i wr => ∃ k : Nat, k ≤ x.copies.length ∧ i = .int .i64 k ∧ Hid (∀ j y, j < k → x.copies[j]? = some y → copyAt x y = true) ∧ Below w.heap.size w wr) (fun i _ => x.copies.length - (intOf i).toNat)
 case atStart => exact ⟨0, Nat.zero_le _, rfl, fun j y h => absurd h (Nat.not_lt_zero _), by go_grown⟩
 case round =>
  obtain ⟨k, hk, rfl, ho, hbel⟩ := hrel
  by_cases hlt : k < x.copies.length
  ·obtain ⟨y, hy⟩ : ∃ y, x.copies[k]? = some y := ⟨x.copies[k], List.getElem?_eq_getElem hlt⟩
   obtain ⟨b, o, rfl, _, _, hc⟩ := (N3.out.below CpyC.holds hbel nL).at hy
   obtain ⟨a7, c7, q0, q1, q2, q3, q4, q5, q6, q7, q8, q9, q10, q11, z0, z1, z6, z9, z10, z11, z7⟩ := hc
   simp only [Nat.add_zero] at q0 q1 q2 q3 q4 q5 q6 q7 q8 q9 q10 q11
   have Z1 : Hid (y.service.size ≤ maxLen) := z1
   have Z6 : Hid (y.select.size ≤ maxLen) := z6
   have Z9 : Hid (y.near.size ≤ maxLen) := z9
   have Z10 : Hid (y.fixed.size ≤ maxLen) := z10
   have Z11 : Hid (y.at_.size ≤ maxLen) := z11
   have Z7 := iH z7
   have HRA : Hid (wr.rangeAt b (o + k * 12) [.string y.name, .string y.service, .int .i64 y.rank, .int .i64 y.born, .int .i64 y.room, .int .i64 y.hold, .string y.select, .slice a7 y.likes.length c7, .int .i64 y.apart, .string y.near, .string y.fixed, .string y.at_]) := range_cons q0 (range_cons q1 (range_cons q2 (range_cons q3 (range_cons q4 (range_cons q5 (range_cons q6 (range_cons q7 (range_cons q8 (range_cons q9 (range_cons q10 (range_cons q11 (range_nil _ _ _))))))))))))
   have HX : Hid (x.copies[k]? = some y) := hy
   have HB : Hid (Below w.heap.size w wr) := hbel
   clear hy hbel q0 q1 q2 q3 q4 q5 q6 q7 q8 q9 q10 q11 z0 z1 z6 z7 z9 z10 z11
   go_upto_region 4 with (first | (refine wpList_load_mid rfl 48 _ rfl b (o + k * 12) (by first | rfl | (simp [go_sem]; done)) [.string y.name, .string y.service, .int .i64 y.rank, .int .i64 y.born, .int .i64 y.room, .int .i64 y.hold, .string y.select, .slice a7 y.likes.length c7, .int .i64 y.apart, .string y.near, .string y.fixed, .string y.at_] _ HRA.out Tryz.underlying48 rfl isz_Cpy ?_))
   have HG : Hid ((wr.alloc (Obj.cells #[.string y.name, .string y.service, .int .i64 y.rank, .int .i64 y.born, .int .i64 y.room, .int .i64 y.hold, .string y.select, .slice a7 y.likes.length c7, .int .i64 y.apart, .string y.near, .string y.fixed, .string y.at_] 48)).rangeAt wr.heap.size 0 [.string y.name, .string y.service, .int .i64 y.rank, .int .i64 y.born, .int .i64 y.room, .int .i64 y.hold, .string y.select, .slice a7 y.likes.length c7, .int .i64 y.apart, .string y.near, .string y.fixed, .string y.at_]) := range_cons (by simp) (range_cons (by simp) (range_cons (by simp) (range_cons (by simp) (range_cons (by simp) (range_cons (by simp) (range_cons (by simp) (range_cons (by simp) (range_cons (by simp) (range_cons (by simp) (range_cons (by simp) (range_cons (by simp) (range_nil _ _ _))))))))))))
   have HB4 : Hid (Below w.heap.size w (wr.alloc (Obj.cells #[.string y.name, .string y.service, .int .i64 y.rank, .int .i64 y.born, .int .i64 y.room, .int .i64 y.hold, .string y.select, .slice a7 y.likes.length c7, .int .i64 y.apart, .string y.near, .string y.fixed, .string y.at_] 48))) := HB.out.alloc HB.out.size _
   have HS4 : Hid (wr.heap.size < (wr.alloc (Obj.cells #[.string y.name, .string y.service, .int .i64 y.rank, .int .i64 y.born, .int .i64 y.room, .int .i64 y.hold, .string y.select, .slice a7 y.likes.length c7, .int .i64 y.apart, .string y.near, .string y.fixed, .string y.at_] 48)).heap.size) := by show _ < _; simp
   have Z74 : Hid (SliceC LikC 2 lo (wr.alloc (Obj.cells #[.string y.name, .string y.service, .int .i64 y.rank, .int .i64 y.born, .int .i64 y.room, .int .i64 y.hold, .string y.select, .slice a7 y.likes.length c7, .int .i64 y.apart, .string y.near, .string y.fixed, .string y.at_] 48)) a7 y.likes) := Z7.out.below LikC.holds ((Below.refl _ _).alloc nL _) nL
   clear HB HRA Z7
   generalize wr.alloc (Obj.cells #[.string y.name, .string y.service, .int .i64 y.rank, .int .i64 y.born, .int .i64 y.room, .int .i64 y.hold, .string y.select, .slice a7 y.likes.length c7, .int .i64 y.apart, .string y.near, .string y.fixed, .string y.at_] 48) = w4 at *
   have OA := iH (ownsMap_below O1.out HB4.out hm1)
   have OB := iH (ownsMap_below O2.out HB4.out hm2)
   have PA : Hid (w4.cell? ⟨p, 4, none⟩ = some (.map (some m1))) := (HB4.out.cell (p := ⟨p, 4, none⟩) hpl).trans P4.out
   have PB : Hid (w4.cell? ⟨p, 5, none⟩ = some (.map (some m2))) := (HB4.out.cell (p := ⟨p, 5, none⟩) hpl).trans P5.out
   refine wp_region_held_drew (S := fun wy => wy.rangeAt wr.heap.size 0 [.string y.name, .string y.service, .int .i64 y.rank, .int .i64 y.born, .int .i64 y.room, .int .i64 y.hold, .string y.select, .slice a7 y.likes.length c7, .int .i64 y.apart, .string y.near, .string y.fixed, .string y.at_] ∧ wy.cell? ⟨p, 5, none⟩ = some (.map (some m2)) ∧ wy.ownsMap Tryz.prog 9 (plainElem Tryz.prog 3) m2 x.services.length (placesTo (x.services.map (·.name)) x.services.length)) (by kernel_rfl) ⟨range_drew HG.out, by simpa using PB.out, OB.out.drew⟩ (fun hS => ?_)
   refine ty 0 ⟨some 20, _, _, _, _, none⟩ (.pointer (some ⟨p, 0, none⟩)) rfl (by rfl) ?_ hS ?_
   ·intro wy hy
    obtain ⟨yr, yc, yo⟩ := hy
    have y1 : wy.cell? ⟨wr.heap.size, 1, none⟩ = some (.string y.service) := yr 1 _ rfl
    have yl := look_places (s := y.service) yo Z1.out
    clear yr yo
    go_simp
   simp only [pA,pB,pC,pD]
   refine ty 1 ⟨some 21, _, _, _, _, none⟩ (.pointer (some ⟨p, 0, none⟩)) rfl (by rfl) ?_ hS ?_
   ·intro wy hy
    obtain ⟨yr, yc, yo⟩ := hy
    have y1 : wy.cell? ⟨wr.heap.size, 1, none⟩ = some (.string y.service) := yr 1 _ rfl
    have yl := look_places (s := y.service) yo Z1.out
    clear yr yo
    go_simp
   simp only [pA,pB,pC,pD]
   refine ty 2 ⟨some 22, _, _, _, _, none⟩ (.pointer (some ⟨p, 5, none⟩)) rfl (by rfl) ?_ hS ?_
   ·intro wy hy
    obtain ⟨yr, yc, yo⟩ := hy
    have y1 : wy.cell? ⟨wr.heap.size, 1, none⟩ = some (.string y.service) := yr 1 _ rfl
    have yl := look_places (s := y.service) yo Z1.out
    clear yr yo
    go_simp
   simp only [pA,pB,pC,pD]
   refine ty 3 ⟨some 23, _, _, _, _, none⟩ (.map (some m2)) rfl (by rfl) ?_ hS ?_
   ·intro wy hy
    obtain ⟨yr, yc, yo⟩ := hy
    have y1 : wy.cell? ⟨wr.heap.size, 1, none⟩ = some (.string y.service) := yr 1 _ rfl
    have yl := look_places (s := y.service) yo Z1.out
    clear yr yo
    go_simp
   simp only [pA,pB,pC,pD]
   refine ty 4 ⟨some 24, _, _, _, _, none⟩ (.pointer (some ⟨wr.heap.size, 1, none⟩)) rfl (by rfl) ?_ hS ?_
   ·intro wy hy
    obtain ⟨yr, yc, yo⟩ := hy
    have y1 : wy.cell? ⟨wr.heap.size, 1, none⟩ = some (.string y.service) := yr 1 _ rfl
    have yl := look_places (s := y.service) yo Z1.out
    clear yr yo
    go_simp
   simp only [pA,pB,pC,pD]
   refine ty 5 ⟨some 25, _, _, _, _, none⟩ (.string y.service) rfl (by rfl) ?_ hS ?_
   ·intro wy hy
    obtain ⟨yr, yc, yo⟩ := hy
    have y1 : wy.cell? ⟨wr.heap.size, 1, none⟩ = some (.string y.service) := yr 1 _ rfl
    have yl := look_places (s := y.service) yo Z1.out
    clear yr yo
    go_simp
   simp only [pA,pB,pC,pD]
   refine ty 6 ⟨some 26, _, _, _, _, none⟩ (.tuple #[.int .i64 (((lastOf (x.services.map (·.name)) y.service x.services.length).getD 0 : Nat) : Int), .bool (lastOf (x.services.map (·.name)) y.service x.services.length).isSome]) rfl (by rfl) ?_ hS ?_
   ·intro wy hy
    obtain ⟨yr, yc, yo⟩ := hy
    have y1 : wy.cell? ⟨wr.heap.size, 1, none⟩ = some (.string y.service) := yr 1 _ rfl
    have yl := look_places (s := y.service) yo Z1.out
    clear yr yo
    go_simp
   simp only [pA,pB,pC,pD]
   refine ty 7 ⟨some 19, _, _, _, _, none⟩ (.tuple #[.int .i64 (((lastOf (x.services.map (·.name)) y.service x.services.length).getD 0 : Nat) : Int), .bool (lastOf (x.services.map (·.name)) y.service x.services.length).isSome]) rfl (by rfl) ?_ hS ?_
   ·intro wy hy
    obtain ⟨yr, yc, yo⟩ := hy
    have y1 : wy.cell? ⟨wr.heap.size, 1, none⟩ = some (.string y.service) := yr 1 _ rfl
    have yl := look_places (s := y.service) yo Z1.out
    clear yr yo
    go_simp
   simp only [pA,pB,pC,pD]
   refine ty 8 ⟨some 27, _, _, _, _, none⟩ (.int .i64 (((lastOf (x.services.map (·.name)) y.service x.services.length).getD 0 : Nat) : Int)) rfl (by rfl) ?_ hS ?_
   ·intro wy hy
    obtain ⟨yr, yc, yo⟩ := hy
    have y1 : wy.cell? ⟨wr.heap.size, 1, none⟩ = some (.string y.service) := yr 1 _ rfl
    have yl := look_places (s := y.service) yo Z1.out
    clear yr yo
    go_simp
   simp only [pA,pB,pC,pD]
   refine ty 9 ⟨some 28, _, _, _, _, none⟩ (.bool (lastOf (x.services.map (·.name)) y.service x.services.length).isSome) rfl (by rfl) ?_ hS ?_
   ·intro wy hy
    obtain ⟨yr, yc, yo⟩ := hy
    have y1 : wy.cell? ⟨wr.heap.size, 1, none⟩ = some (.string y.service) := yr 1 _ rfl
    have yl := look_places (s := y.service) yo Z1.out
    clear yr yo
    go_simp
   simp only [pA,pB,pC,pD]
   refine ty 10 ⟨some 5, _, _, _, _, none⟩ (.int .i64 (((lastOf (x.services.map (·.name)) y.service x.services.length).getD 0 : Nat) : Int)) rfl (by rfl) ?_ hS ?_
   ·intro wy hy
    obtain ⟨yr, yc, yo⟩ := hy
    have y1 : wy.cell? ⟨wr.heap.size, 1, none⟩ = some (.string y.service) := yr 1 _ rfl
    have yl := look_places (s := y.service) yo Z1.out
    clear yr yo
    go_simp
   simp only [pA,pB,pC,pD]
   refine ty 11 ⟨some 6, _, _, _, _, none⟩ (.bool (lastOf (x.services.map (·.name)) y.service x.services.length).isSome) rfl (by rfl) ?_ hS ?_
   ·intro wy hy
    obtain ⟨yr, yc, yo⟩ := hy
    have y1 : wy.cell? ⟨wr.heap.size, 1, none⟩ = some (.string y.service) := yr 1 _ rfl
    have yl := look_places (s := y.service) yo Z1.out
    clear yr yo
    go_simp
   simp only [pA,pB,pC,pD]
   refine td ?_
   have HG5 : Hid (w4.drew.rangeAt wr.heap.size 0 [.string y.name, .string y.service, .int .i64 y.rank, .int .i64 y.born, .int .i64 y.room, .int .i64 y.hold, .string y.select, .slice a7 y.likes.length c7, .int .i64 y.apart, .string y.near, .string y.fixed, .string y.at_]) := range_drew HG.out
   have HB5 : Hid (Below w.heap.size w w4.drew) := HB4.out.drew
   have HS5 : Hid (wr.heap.size < w4.drew.heap.size) := HS4.out
   have Z75 : Hid (SliceC LikC 2 lo w4.drew a7 y.likes) := Z74.out.below LikC.holds (B := w4.heap.size) (Below.refl _ _).drew nL
   have OA5 := iH OA.out.drew
   have PA5 : Hid (w4.drew.cell? ⟨p, 4, none⟩ = some (.map (some m1))) := by show _ = _; simpa using PA.out
   clear HG HB4 HS4 Z74 OA OB PA PB
   generalize w4.drew = w5 at *
   have HG := HG5
   clear HG5
   go_upto_region 5 with fail
   refine wp_region_held_drew (S := fun wy => wy.rangeAt wr.heap.size 0 [.string y.name, .string y.service, .int .i64 y.rank, .int .i64 y.born, .int .i64 y.room, .int .i64 y.hold, .string y.select, .slice a7 y.likes.length c7, .int .i64 y.apart, .string y.near, .string y.fixed, .string y.at_] ∧ wy.cell? ⟨p, 4, none⟩ = some (.map (some m1)) ∧ wy.ownsMap Tryz.prog 9 (plainElem Tryz.prog 3) m1 x.berths.length (placesTo (x.berths.map (·.name)) x.berths.length)) (by kernel_rfl) ⟨range_drew HG.out, by simpa using PA5.out, OA5.out.drew⟩ (fun hS => ?_)
   refine ty 0 ⟨some 30, _, _, _, _, none⟩ (.pointer (some ⟨p, 0, none⟩)) rfl (by rfl) ?_ hS ?_
   ·intro wy hy
    obtain ⟨yr, yc, yo⟩ := hy
    have y11 : wy.cell? ⟨wr.heap.size, 11, none⟩ = some (.string y.at_) := yr 11 _ rfl
    have yl := look_places (s := y.at_) yo Z11.out
    clear yr yo
    go_simp
   simp only [pA,pB,pC,pD]
   refine ty 1 ⟨some 31, _, _, _, _, none⟩ (.pointer (some ⟨p, 0, none⟩)) rfl (by rfl) ?_ hS ?_
   ·intro wy hy
    obtain ⟨yr, yc, yo⟩ := hy
    have y11 : wy.cell? ⟨wr.heap.size, 11, none⟩ = some (.string y.at_) := yr 11 _ rfl
    have yl := look_places (s := y.at_) yo Z11.out
    clear yr yo
    go_simp
   simp only [pA,pB,pC,pD]
   refine ty 2 ⟨some 32, _, _, _, _, none⟩ (.pointer (some ⟨p, 4, none⟩)) rfl (by rfl) ?_ hS ?_
   ·intro wy hy
    obtain ⟨yr, yc, yo⟩ := hy
    have y11 : wy.cell? ⟨wr.heap.size, 11, none⟩ = some (.string y.at_) := yr 11 _ rfl
    have yl := look_places (s := y.at_) yo Z11.out
    clear yr yo
    go_simp
   simp only [pA,pB,pC,pD]
   refine ty 3 ⟨some 33, _, _, _, _, none⟩ (.map (some m1)) rfl (by rfl) ?_ hS ?_
   ·intro wy hy
    obtain ⟨yr, yc, yo⟩ := hy
    have y11 : wy.cell? ⟨wr.heap.size, 11, none⟩ = some (.string y.at_) := yr 11 _ rfl
    have yl := look_places (s := y.at_) yo Z11.out
    clear yr yo
    go_simp
   simp only [pA,pB,pC,pD]
   refine ty 4 ⟨some 34, _, _, _, _, none⟩ (.pointer (some ⟨wr.heap.size, 11, none⟩)) rfl (by rfl) ?_ hS ?_
   ·intro wy hy
    obtain ⟨yr, yc, yo⟩ := hy
    have y11 : wy.cell? ⟨wr.heap.size, 11, none⟩ = some (.string y.at_) := yr 11 _ rfl
    have yl := look_places (s := y.at_) yo Z11.out
    clear yr yo
    go_simp
   simp only [pA,pB,pC,pD]
   refine ty 5 ⟨some 35, _, _, _, _, none⟩ (.string y.at_) rfl (by rfl) ?_ hS ?_
   ·intro wy hy
    obtain ⟨yr, yc, yo⟩ := hy
    have y11 : wy.cell? ⟨wr.heap.size, 11, none⟩ = some (.string y.at_) := yr 11 _ rfl
    have yl := look_places (s := y.at_) yo Z11.out
    clear yr yo
    go_simp
   simp only [pA,pB,pC,pD]
   refine ty 6 ⟨some 36, _, _, _, _, none⟩ (.tuple #[.int .i64 (((lastOf (x.berths.map (·.name)) y.at_ x.berths.length).getD 0 : Nat) : Int), .bool (lastOf (x.berths.map (·.name)) y.at_ x.berths.length).isSome]) rfl (by rfl) ?_ hS ?_
   ·intro wy hy
    obtain ⟨yr, yc, yo⟩ := hy
    have y11 : wy.cell? ⟨wr.heap.size, 11, none⟩ = some (.string y.at_) := yr 11 _ rfl
    have yl := look_places (s := y.at_) yo Z11.out
    clear yr yo
    go_simp
   simp only [pA,pB,pC,pD]
   refine ty 7 ⟨some 29, _, _, _, _, none⟩ (.tuple #[.int .i64 (((lastOf (x.berths.map (·.name)) y.at_ x.berths.length).getD 0 : Nat) : Int), .bool (lastOf (x.berths.map (·.name)) y.at_ x.berths.length).isSome]) rfl (by rfl) ?_ hS ?_
   ·intro wy hy
    obtain ⟨yr, yc, yo⟩ := hy
    have y11 : wy.cell? ⟨wr.heap.size, 11, none⟩ = some (.string y.at_) := yr 11 _ rfl
    have yl := look_places (s := y.at_) yo Z11.out
    clear yr yo
    go_simp
   simp only [pA,pB,pC,pD]
   refine ty 8 ⟨some 37, _, _, _, _, none⟩ (.int .i64 (((lastOf (x.berths.map (·.name)) y.at_ x.berths.length).getD 0 : Nat) : Int)) rfl (by rfl) ?_ hS ?_
   ·intro wy hy
    obtain ⟨yr, yc, yo⟩ := hy
    have y11 : wy.cell? ⟨wr.heap.size, 11, none⟩ = some (.string y.at_) := yr 11 _ rfl
    have yl := look_places (s := y.at_) yo Z11.out
    clear yr yo
    go_simp
   simp only [pA,pB,pC,pD]
   refine ty 9 ⟨some 38, _, _, _, _, none⟩ (.bool (lastOf (x.berths.map (·.name)) y.at_ x.berths.length).isSome) rfl (by rfl) ?_ hS ?_
   ·intro wy hy
    obtain ⟨yr, yc, yo⟩ := hy
    have y11 : wy.cell? ⟨wr.heap.size, 11, none⟩ = some (.string y.at_) := yr 11 _ rfl
    have yl := look_places (s := y.at_) yo Z11.out
    clear yr yo
    go_simp
   simp only [pA,pB,pC,pD]
   refine ty 10 ⟨some 7, _, _, _, _, none⟩ (.int .i64 (((lastOf (x.berths.map (·.name)) y.at_ x.berths.length).getD 0 : Nat) : Int)) rfl (by rfl) ?_ hS ?_
   ·intro wy hy
    obtain ⟨yr, yc, yo⟩ := hy
    have y11 : wy.cell? ⟨wr.heap.size, 11, none⟩ = some (.string y.at_) := yr 11 _ rfl
    have yl := look_places (s := y.at_) yo Z11.out
    clear yr yo
    go_simp
   simp only [pA,pB,pC,pD]
   refine ty 11 ⟨some 8, _, _, _, _, none⟩ (.bool (lastOf (x.berths.map (·.name)) y.at_ x.berths.length).isSome) rfl (by rfl) ?_ hS ?_
   ·intro wy hy
    obtain ⟨yr, yc, yo⟩ := hy
    have y11 : wy.cell? ⟨wr.heap.size, 11, none⟩ = some (.string y.at_) := yr 11 _ rfl
    have yl := look_places (s := y.at_) yo Z11.out
    clear yr yo
    go_simp
   simp only [pA,pB,pC,pD]
   refine td ?_
   have HG5 : Hid (w5.drew.rangeAt wr.heap.size 0 [.string y.name, .string y.service, .int .i64 y.rank, .int .i64 y.born, .int .i64 y.room, .int .i64 y.hold, .string y.select, .slice a7 y.likes.length c7, .int .i64 y.apart, .string y.near, .string y.fixed, .string y.at_]) := range_drew HG.out
   have HB6 : Hid (Below w.heap.size w w5.drew) := HB5.out.drew
   have Z76 : Hid (SliceC LikC 2 lo w5.drew a7 y.likes) := Z75.out.below LikC.holds (B := w5.heap.size) (Below.refl _ _).drew nL
   clear HG HB5 HS5 Z75 OA5 PA5
   generalize w5.drew = w6 at *
   have HSA : Hid (copyAt x y = ((lastOf (x.services.map (·.name)) y.service x.services.length).isSome && ((lastOf (x.berths.map (·.name)) y.at_ x.berths.length).isSome || decide (y.at_.size = 0)) && copyOk y)) := rfl
   have bad : Hid (copyAt x y = false → copiesOk x = false) := fun h => List.all_eq_false.mpr ⟨y, List.mem_of_getElem? HX.out, by simp [h]⟩
   generalize (lastOf (x.services.map (·.name)) y.service x.services.length).isSome = B1 at *
   generalize (lastOf (x.berths.map (·.name)) y.at_ x.berths.length).isSome = B2 at *
   generalize (((lastOf (x.services.map (·.name)) y.service x.services.length).getD 0 : Nat) : Int) = I1 at *
   generalize (((lastOf (x.berths.map (·.name)) y.at_ x.berths.length).getD 0 : Nat) : Int) = I2 at *
   have e0 : w6.cell? ⟨wr.heap.size, 0, none⟩ = some (.string y.name) := HG5.out 0 _ rfl
   have e1 : w6.cell? ⟨wr.heap.size, 1, none⟩ = some (.string y.service) := HG5.out 1 _ rfl
   have e2 : w6.cell? ⟨wr.heap.size, 2, none⟩ = some (.int .i64 y.rank) := HG5.out 2 _ rfl
   have e3 : w6.cell? ⟨wr.heap.size, 3, none⟩ = some (.int .i64 y.born) := HG5.out 3 _ rfl
   have e4 : w6.cell? ⟨wr.heap.size, 4, none⟩ = some (.int .i64 y.room) := HG5.out 4 _ rfl
   have e5 : w6.cell? ⟨wr.heap.size, 5, none⟩ = some (.int .i64 y.hold) := HG5.out 5 _ rfl
   have e6 : w6.cell? ⟨wr.heap.size, 6, none⟩ = some (.string y.select) := HG5.out 6 _ rfl
   have e7 : w6.cell? ⟨wr.heap.size, 7, none⟩ = some (.slice a7 y.likes.length c7) := HG5.out 7 _ rfl
   have e8 : w6.cell? ⟨wr.heap.size, 8, none⟩ = some (.int .i64 y.apart) := HG5.out 8 _ rfl
   have e9 : w6.cell? ⟨wr.heap.size, 9, none⟩ = some (.string y.near) := HG5.out 9 _ rfl
   have e10 : w6.cell? ⟨wr.heap.size, 10, none⟩ = some (.string y.fixed) := HG5.out 10 _ rfl
   have e11 : w6.cell? ⟨wr.heap.size, 11, none⟩ = some (.string y.at_) := HG5.out 11 _ rfl
   cases B1
   ·have HC : Hid (copiesOk x = false) := bad.out (by rw [HSA.out]; rfl)
    clear ho bad HSA
    go_wp2_with fail
    go_ret
    exact ⟨ret_bool HC.out.symm, HB6.out⟩
   ·cases B2
    ·by_cases he : y.at_ = ⟨#[]⟩
     ·have hsz : Hid (y.at_.size = 0) := by show _ = _; rw [he]; rfl
      have hte : y.at_.toList = [] := by rw [he]; simp
      clear he
      go_wp2_with fail
      refine (copyOk_any y a7 c7 lo _ Z6.out Z76.out Z9.out Z10.out).mono ?_
      rintro e w7 ⟨rfl, hb7⟩
      have HB7 : Hid (Below w.heap.size w w7) := HB6.out.trans (hb7.mono HB6.out.size)
      clear hb7 HB6 e0 e1 e2 e3 e4 e5 e6 e7 e8 e9 e10 e11
      cases hcp : copyOk y
      ·have HC : Hid (copiesOk x = false) := bad.out (by rw [HSA.out]; simp [hcp])
       clear ho bad HSA hcp
       go_wp2_with fail
       go_ret
       exact ⟨ret_bool HC.out.symm, HB7.out⟩
      ·have HO : Hid (∀ j z, j < k + 1 → x.copies[j]? = some z → copyAt x z = true) := by
        intro j z hj hz
        by_cases e : j = k
        ·subst e
         rw [HX.out] at hz
         cases hz
         rw [HSA.out]
         simp [hcp, hsz.out]
        ·exact ho.out j z (by omega) hz
       clear ho bad HSA hcp
       go_wp2_with fail
       go_roundw
       case rel => exact ⟨k + 1, by omega, by go_num, HO, HB7.out⟩
       case measure => simp [intOf]; omega
     ·have hsz : ¬ y.at_.size = 0 := fun e => he (ByteArray.ext (Array.eq_empty_of_size_eq_zero e))
      have hte : ¬ y.at_.toList = [] := by
       rw [ByteArray.toList_eq]
       exact fun e => hsz (by have := congrArg List.length e; simpa using this)
      have HC : Hid (copiesOk x = false) := bad.out (by rw [HSA.out]; simp [hsz])
      clear ho bad HSA he hsz
      go_wp2_with fail
      go_ret
      exact ⟨ret_bool HC.out.symm, HB6.out⟩
    ·go_wp2_with fail
     refine (copyOk_any y a7 c7 lo _ Z6.out Z76.out Z9.out Z10.out).mono ?_
     rintro e w7 ⟨rfl, hb7⟩
     have HB7 : Hid (Below w.heap.size w w7) := HB6.out.trans (hb7.mono HB6.out.size)
     clear hb7 HB6 e0 e1 e2 e3 e4 e5 e6 e7 e8 e9 e10 e11
     cases hcp : copyOk y
     ·have HC : Hid (copiesOk x = false) := bad.out (by rw [HSA.out]; simp [hcp])
      clear ho bad HSA hcp
      go_wp2_with fail
      go_ret
      exact ⟨ret_bool HC.out.symm, HB7.out⟩
     ·have HO : Hid (∀ j z, j < k + 1 → x.copies[j]? = some z → copyAt x z = true) := by
       intro j z hj hz
       by_cases e : j = k
       ·subst e
        rw [HX.out] at hz
        cases hz
        rw [HSA.out]
        simp [hcp]
       ·exact ho.out j z (by omega) hz
      clear ho bad HSA hcp
      go_wp2_with fail
      go_roundw
      case rel => exact ⟨k + 1, by omega, by go_num, HO, HB7.out⟩
      case measure => simp [intOf]; omega
  ·have hke : k = x.copies.length := by omega
   subst hke
   have HC : Hid (copiesOk x = true) := by
    show _ = _
    simp only [copiesOk, List.all_eq_true]
    intro y hy
    obtain ⟨j, hj, e⟩ := List.mem_iff_getElem.mp hy
    exact ho.out j y hj (by rw [List.getElem?_eq_getElem hj, e])
   clear ho
   go_wp2_with fail
   go_ret
   exact ⟨ret_bool HC.out.symm, hbel⟩

end Go.Proofs.YtihnjndnkgnmaaaGreat
