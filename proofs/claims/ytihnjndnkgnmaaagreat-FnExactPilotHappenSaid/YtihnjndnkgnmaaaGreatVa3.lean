import Derived.Test.YtihnjndnkgnmaaaGreatJ4
import Derived.Test.YtihnjndnkgnmaaaGreatJ18
import Derived.Test.YtihnjndnkgnmaaaGreatPlc
import Derived.Deep.RegionHeld3
import Derived.Laws.Cover1
namespace Go.Proofs.YtihnjndnkgnmaaaGreat
open Go.RowKit

def ascAt (ns : List ByteArray) : Nat → Bool
 | 0 => match ns[0]? with
  | none => true
  | some s => P.nameOk s
 | m + 1 => match ns[m + 1]?, ns[m]? with
  | some s, some t => P.nameOk s && Op.bytesLess t.toList s.toList
  | _, _ => true

def ascTo (ns : List ByteArray) : Nat → Bool
 | 0 => true
 | k + 1 => ascTo ns k && ascAt ns k

theorem ascTo_false {ns : List ByteArray} {k : Nat} (h : ascAt ns k = false) : ∀ n, k < n → ascTo ns n = false
 | 0, hn => absurd hn (Nat.not_lt_zero _)
 | n + 1, hn => by
  by_cases e : k = n
  ·subst e; simp only [ascTo, h, Bool.and_false]
  ·simp only [ascTo, ascTo_false h n (by omega), Bool.false_and]

theorem ascAt_bad {ns : List ByteArray} {k : Nat} {s : ByteArray} (h : ns[k]? = some s) (hn : P.nameOk s = false) : ascAt ns k = false := by
 cases k with
 | zero => simp only [ascAt, h, hn]
 | succ m =>
  have hl : m + 1 < ns.length := (List.getElem?_eq_some_iff.mp h).1
  have : ns[m]? = some ns[m] := List.getElem?_eq_getElem (by omega)
  simp only [ascAt, h, this, hn, Bool.false_and]

theorem range_drew {w : World} {g o : Nat} {l : List Value} (h : w.rangeAt g o l) : w.drew.rangeAt g o l := by
 intro j v hj
 have := h j v hj
 simpa using this

set_option maxHeartbeats 4000000 in
set_option maxRecDepth 100000 in
theorem ascBrt_any (xs : List Brt) (a : Option Addr) (cap lo : Nat) (w : World) (hin : SliceC BrtC 6 lo w a xs) (hsm : xs.length ≤ 1048576) :
  Calls Tryz.prog 112 #[.slice a xs.length cap, .func (.func 86) #[] #[]] w fun e w' => e = .returned (.bool (ascTo (xs.map (·.name)) xs.length)) ∧ Below w.heap.size w w' := by
 have HI : Hid (SliceC BrtC 6 lo w a xs) := hin
 clear hin
 go_enter Tryz.func112, Tryz.ntmps112
 go_wp2_with fail
 go_loopw [9] (fun i wr => ∃ k : Nat, k ≤ xs.length ∧ i = .int .i64 k ∧ Hid (ascTo (xs.map (·.name)) k = true) ∧ Below w.heap.size w wr) (fun i _ => xs.length - (intOf i).toNat)
 case atStart => exact ⟨0, Nat.zero_le _, rfl, rfl, by go_grown⟩
 case round =>
  obtain ⟨k, hk, rfl, ho, hbel⟩ := hrel
  by_cases hlt : k < xs.length
  ·obtain ⟨x, hx⟩ : ∃ x, xs[k]? = some x := ⟨xs[k], List.getElem?_eq_getElem hlt⟩
   have HIR : Hid (SliceC BrtC 6 lo wr a xs) := HI.out.below BrtC.holds hbel nL
   obtain ⟨b, o, rfl, _, hbl, hc⟩ := HIR.out.at hx
   obtain ⟨a2, c2, q0, q1, q2, q3, q4, q5, z0, _, _⟩ := hc
   simp only [Nat.add_zero] at q0 q1 q2 q3 q4 q5
   have HRA : Hid (wr.rangeAt b (o + k * 6) [.string x.name, .string x.zone, .slice a2 x.marks.length c2, .int .i64 x.room, .int .i64 x.hold, .bool x.closed]) := range_cons q0 (range_cons q1 (range_cons q2 (range_cons q3 (range_cons q4 (range_cons q5 (range_nil _ _ _))))))
   have HZ : Hid (x.name.size ≤ maxLen) := z0
   have HN : Hid ((xs.map (·.name))[k]? = some x.name) := by show _ = _; rw [List.getElem?_map, hx]; rfl
   have HB : Hid (Below w.heap.size w wr) := hbel
   clear z0 hx hbel q0 q1 q2 q3 q4 q5
   go_upto_region 4 with (first | (refine wpList_load_mid rfl 45 _ rfl b (o + k * 6) (by first | rfl | (simp [go_sem]; done)) [.string x.name, .string x.zone, .slice a2 x.marks.length c2, .int .i64 x.room, .int .i64 x.hold, .bool x.closed] _ HRA.out Tryz.underlying45 rfl isz_Brt ?_))
   have HG : Hid ((wr.alloc (Obj.cells #[.string x.name, .string x.zone, .slice a2 x.marks.length c2, .int .i64 x.room, .int .i64 x.hold, .bool x.closed] 45)).rangeAt wr.heap.size 0 [.string x.name, .string x.zone, .slice a2 x.marks.length c2, .int .i64 x.room, .int .i64 x.hold, .bool x.closed]) := range_cons (by simp) (range_cons (by simp) (range_cons (by simp) (range_cons (by simp) (range_cons (by simp) (range_cons (by simp) (range_nil _ _ _))))))
   have hal : Below wr.heap.size wr (wr.alloc (Obj.cells #[.string x.name, .string x.zone, .slice a2 x.marks.length c2, .int .i64 x.room, .int .i64 x.hold, .bool x.closed] 45)) := (Below.refl _ _).alloc nL _
   have HBD : Below w.heap.size w (wr.alloc (Obj.cells #[.string x.name, .string x.zone, .slice a2 x.marks.length c2, .int .i64 x.room, .int .i64 x.hold, .bool x.closed] 45)).drew := HB.out.trans (show Below w.heap.size wr _ from (show Below wr.heap.size wr (wr.alloc (Obj.cells #[.string x.name, .string x.zone, .slice a2 x.marks.length c2, .int .i64 x.room, .int .i64 x.hold, .bool x.closed] 45)).drew by go_grown).mono HB.out.size)
   cases hnm : P.nameOk x.name
   ·have HNM : Hid (P.nameOk x.name = false) := hnm
    have HC : Hid (ascTo (xs.map (·.name)) xs.length = false) := ascTo_false (ascAt_bad HN.out hnm) _ hlt
    clear hnm hal ho
    refine wp_region_held_drew (S := fun wy => wy.rangeAt wr.heap.size 0 [.string x.name, .string x.zone, .slice a2 x.marks.length c2, .int .i64 x.room, .int .i64 x.hold, .bool x.closed] ∧ wy.rangeAt b 0 []) (by kernel_rfl) ⟨range_drew HG.out, range_nil _ _ _⟩ (fun hS => ?_)
    have HB4 : Hid (Below w.heap.size w (wr.alloc (Obj.cells #[.string x.name, .string x.zone, .slice a2 x.marks.length c2, .int .i64 x.room, .int .i64 x.hold, .bool x.closed] 45)).drew) := HBD
    have HS4 : Hid (wr.heap.size < (wr.alloc (Obj.cells #[.string x.name, .string x.zone, .slice a2 x.marks.length c2, .int .i64 x.room, .int .i64 x.hold, .bool x.closed] 45)).drew.heap.size) := by show _ < _; simp
    clear HG HBD
    refine tz 0 14 (.func (.func 86) #[] #[]) rfl hS ?_
    simp only [pA,pB,pC,pD]
    refine tm 1 15 wr.heap.size 0 [.string x.name, .string x.zone, .slice a2 x.marks.length c2, .int .i64 x.room, .int .i64 x.hold, .bool x.closed] rfl (fun _ h => h.1) Tryz.underlying45 isz_Brt hS ?_
    simp only [pA,pB,pC,pD]
    refine rd1 2 ⟨some 16, _, _, _, _, none⟩ rfl (fun K hK => ?_)
    go_simp
    refine (nameBrt_any x a2 c2 _).mono ?_
    rintro e w5 ⟨rfl, hb⟩
    have HB5 : Hid (Below w.heap.size w w5) := HB4.out.trans (hb.mono HB4.out.size)
    have HS5 : Hid (wr.heap.size < w5.heap.size) := Nat.lt_of_lt_of_le HS4.out hb.size
    refine hK.out _ _ ⟨range_belowV hS.1 hb HS4.out, range_belowV hS.2 hb (Nat.lt_trans hbl HS4.out)⟩ (fun hS => ?_)
    clear hb HB4 HS4
    clear hK K
    refine rd1 3 ⟨some 17, _, _, _, _, none⟩ rfl (fun K hK => ?_)
    go_simp
    refine (isName_any _ _ HZ.out).mono ?_
    rintro e w' ⟨rfl, rfl⟩
    refine hK.out _ _ hS (fun hS => ?_)
    clear hK K
    rw [HNM.out]
    refine tz 4 18 (.bool true) rfl hS ?_
    simp only [pA,pB,pC,pD]
    refine tz 5 19 (.bool true) rfl hS ?_
    simp only [pA,pB,pC,pD]
    refine ts 6 20 rfl hS ?_
    simp only [pA,pB,pC,pD]
    refine ts 7 21 rfl hS ?_
    simp only [pA,pB,pC,pD]
    refine ts 8 22 rfl hS ?_
    simp only [pA,pB,pC,pD]
    refine ts 9 23 rfl hS ?_
    simp only [pA,pB,pC,pD]
    refine ts 10 24 rfl hS ?_
    simp only [pA,pB,pC,pD]
    refine ts 11 25 rfl hS ?_
    simp only [pA,pB,pC,pD]
    refine ts 12 26 rfl hS ?_
    simp only [pA,pB,pC,pD]
    refine ts 13 27 rfl hS ?_
    simp only [pA,pB,pC,pD]
    refine ts 14 28 rfl hS ?_
    simp only [pA,pB,pC,pD]
    refine ts 15 29 rfl hS ?_
    simp only [pA,pB,pC,pD]
    refine ts 16 30 rfl hS ?_
    simp only [pA,pB,pC,pD]
    refine ts 17 31 rfl hS ?_
    simp only [pA,pB,pC,pD]
    refine ts 18 32 rfl hS ?_
    simp only [pA,pB,pC,pD]
    refine ts 19 33 rfl hS ?_
    simp only [pA,pB,pC,pD]
    refine ts 20 34 rfl hS ?_
    simp only [pA,pB,pC,pD]
    refine tz 21 35 (.bool true) rfl hS ?_
    simp only [pA,pB,pC,pD]
    refine td ?_
    go_wp2_with fail
    go_ret
    exact ⟨ret_bool HC.out.symm, HB5.out⟩
   ·have HNM : Hid (P.nameOk x.name = true) := hnm
    cases k with
    | zero =>
     have HC : Hid (ascTo (xs.map (·.name)) (0 + 1) = true) := by show _ = _; simp only [ascTo, ascAt, HN.out, hnm, Bool.and_self]
     clear hnm hal ho
     refine wp_region_held_drew (S := fun wy => wy.rangeAt wr.heap.size 0 [.string x.name, .string x.zone, .slice a2 x.marks.length c2, .int .i64 x.room, .int .i64 x.hold, .bool x.closed] ∧ wy.rangeAt b 0 []) (by kernel_rfl) ⟨range_drew HG.out, range_nil _ _ _⟩ (fun hS => ?_)
     have HB4 : Hid (Below w.heap.size w (wr.alloc (Obj.cells #[.string x.name, .string x.zone, .slice a2 x.marks.length c2, .int .i64 x.room, .int .i64 x.hold, .bool x.closed] 45)).drew) := HBD
     have HS4 : Hid (wr.heap.size < (wr.alloc (Obj.cells #[.string x.name, .string x.zone, .slice a2 x.marks.length c2, .int .i64 x.room, .int .i64 x.hold, .bool x.closed] 45)).drew.heap.size) := by show _ < _; simp
     clear HG HBD
     refine tz 0 14 (.func (.func 86) #[] #[]) rfl hS ?_
     simp only [pA,pB,pC,pD]
     refine tm 1 15 wr.heap.size 0 [.string x.name, .string x.zone, .slice a2 x.marks.length c2, .int .i64 x.room, .int .i64 x.hold, .bool x.closed] rfl (fun _ h => h.1) Tryz.underlying45 isz_Brt hS ?_
     simp only [pA,pB,pC,pD]
     refine rd1 2 ⟨some 16, _, _, _, _, none⟩ rfl (fun K hK => ?_)
     go_simp
     refine (nameBrt_any x a2 c2 _).mono ?_
     rintro e w5 ⟨rfl, hb⟩
     have HB5 : Hid (Below w.heap.size w w5) := HB4.out.trans (hb.mono HB4.out.size)
     have HS5 : Hid (wr.heap.size < w5.heap.size) := Nat.lt_of_lt_of_le HS4.out hb.size
     refine hK.out _ _ ⟨range_belowV hS.1 hb HS4.out, range_belowV hS.2 hb (Nat.lt_trans hbl HS4.out)⟩ (fun hS => ?_)
     clear hb HB4 HS4
     clear hK K
     refine rd1 3 ⟨some 17, _, _, _, _, none⟩ rfl (fun K hK => ?_)
     go_simp
     refine (isName_any _ _ HZ.out).mono ?_
     rintro e w' ⟨rfl, rfl⟩
     refine hK.out _ _ hS (fun hS => ?_)
     clear hK K
     rw [HNM.out]
     refine tz 4 18 (.bool false) rfl hS ?_
     simp only [pA,pB,pC,pD]
     refine tz 5 19 (.bool false) rfl hS ?_
     simp only [pA,pB,pC,pD]
     refine tz 6 20 (.int .i64 ((0 : Nat) : Int)) rfl hS ?_
     simp only [pA,pB,pC,pD]
     refine tz 7 21 (.bool false) rfl hS ?_
     simp only [pA,pB,pC,pD]
     refine tz 8 22 (.bool false) rfl hS ?_
     simp only [pA,pB,pC,pD]
     refine ts 9 23 rfl hS ?_
     simp only [pA,pB,pC,pD]
     refine ts 10 24 rfl hS ?_
     simp only [pA,pB,pC,pD]
     refine ts 11 25 rfl hS ?_
     simp only [pA,pB,pC,pD]
     refine ts 12 26 rfl hS ?_
     simp only [pA,pB,pC,pD]
     refine ts 13 27 rfl hS ?_
     simp only [pA,pB,pC,pD]
     refine ts 14 28 rfl hS ?_
     simp only [pA,pB,pC,pD]
     refine ts 15 29 rfl hS ?_
     simp only [pA,pB,pC,pD]
     refine ts 16 30 rfl hS ?_
     simp only [pA,pB,pC,pD]
     refine ts 17 31 rfl hS ?_
     simp only [pA,pB,pC,pD]
     refine ts 18 32 rfl hS ?_
     simp only [pA,pB,pC,pD]
     refine ts 19 33 rfl hS ?_
     simp only [pA,pB,pC,pD]
     refine tz 20 34 (.bool false) rfl hS ?_
     simp only [pA,pB,pC,pD]
     refine tz 21 35 (.bool false) rfl hS ?_
     simp only [pA,pB,pC,pD]
     refine td ?_
     go_wp2_with fail
     go_roundw
     case rel => exact ⟨0 + 1, by omega, by go_num, HC, HB5.out⟩
     case measure => simp [intOf]; omega
    | succ m =>
     obtain ⟨y, hy⟩ : ∃ y, xs[m]? = some y := ⟨xs[m], List.getElem?_eq_getElem (by omega)⟩
     obtain ⟨b', o', e', _, _, hc⟩ := HIR.out.at hy
     cases e'
     obtain ⟨b2, d2, q0, q1, q2, q3, q4, q5, z0, _, _⟩ := hc
     simp only [Nat.add_zero] at q0 q1 q2 q3 q4 q5
     have HGY : Hid ((wr.alloc (Obj.cells #[.string x.name, .string x.zone, .slice a2 x.marks.length c2, .int .i64 x.room, .int .i64 x.hold, .bool x.closed] 45)).rangeAt b (o + m * 6) [.string y.name, .string y.zone, .slice b2 y.marks.length d2, .int .i64 y.room, .int .i64 y.hold, .bool y.closed]) := range_belowV (range_cons q0 (range_cons q1 (range_cons q2 (range_cons q3 (range_cons q4 (range_cons q5 (range_nil _ _ _))))))) hal hbl
     have HNY : Hid ((xs.map (·.name))[m]? = some y.name) := by show _ = _; rw [List.getElem?_map, hy]; rfl
     clear hnm hal hy z0 q0 q1 q2 q3 q4 q5
     refine wp_region_held_drew (S := fun wy => wy.rangeAt wr.heap.size 0 [.string x.name, .string x.zone, .slice a2 x.marks.length c2, .int .i64 x.room, .int .i64 x.hold, .bool x.closed] ∧ wy.rangeAt b (o + m * 6) [.string y.name, .string y.zone, .slice b2 y.marks.length d2, .int .i64 y.room, .int .i64 y.hold, .bool y.closed]) (by kernel_rfl) ⟨range_drew HG.out, range_drew HGY.out⟩ (fun hS => ?_)
     have HB4 : Hid (Below w.heap.size w (wr.alloc (Obj.cells #[.string x.name, .string x.zone, .slice a2 x.marks.length c2, .int .i64 x.room, .int .i64 x.hold, .bool x.closed] 45)).drew) := HBD
     have HS4 : Hid (wr.heap.size < (wr.alloc (Obj.cells #[.string x.name, .string x.zone, .slice a2 x.marks.length c2, .int .i64 x.room, .int .i64 x.hold, .bool x.closed] 45)).drew.heap.size) := by show _ < _; simp
     clear HG HBD
     refine tz 0 14 (.func (.func 86) #[] #[]) rfl hS ?_
     simp only [pA,pB,pC,pD]
     refine tm 1 15 wr.heap.size 0 [.string x.name, .string x.zone, .slice a2 x.marks.length c2, .int .i64 x.room, .int .i64 x.hold, .bool x.closed] rfl (fun _ h => h.1) Tryz.underlying45 isz_Brt hS ?_
     simp only [pA,pB,pC,pD]
     refine rd1 2 ⟨some 16, _, _, _, _, none⟩ rfl (fun K hK => ?_)
     go_simp
     refine (nameBrt_any x a2 c2 _).mono ?_
     rintro e w5 ⟨rfl, hb⟩
     have HB5 : Hid (Below w.heap.size w w5) := HB4.out.trans (hb.mono HB4.out.size)
     have HS5 : Hid (wr.heap.size < w5.heap.size) := Nat.lt_of_lt_of_le HS4.out hb.size
     refine hK.out _ _ ⟨range_belowV hS.1 hb HS4.out, range_belowV hS.2 hb (Nat.lt_trans hbl HS4.out)⟩ (fun hS => ?_)
     clear hb HB4 HS4
     clear hK K
     refine rd1 3 ⟨some 17, _, _, _, _, none⟩ rfl (fun K hK => ?_)
     go_simp
     refine (isName_any _ _ HZ.out).mono ?_
     rintro e w' ⟨rfl, rfl⟩
     refine hK.out _ _ hS (fun hS => ?_)
     clear hK K
     rw [HNM.out]
     refine tz 4 18 (.bool false) rfl hS ?_
     simp only [pA,pB,pC,pD]
     refine tz 5 19 (.bool false) rfl hS ?_
     simp only [pA,pB,pC,pD]
     refine tz 6 20 (.int .i64 ((m + 1 : Nat) : Int)) rfl hS ?_
     simp only [pA,pB,pC,pD]
     refine tz 7 21 (.bool true) rfl hS ?_
     simp only [pA,pB,pC,pD]
     refine tz 8 22 (.bool true) rfl hS ?_
     simp only [pA,pB,pC,pD]
     refine tz 9 23 (.func (.func 86) #[] #[]) rfl hS ?_
     simp only [pA,pB,pC,pD]
     refine tz 10 24 (.slice (some ⟨b, o, none⟩) xs.length cap) rfl hS ?_
     simp only [pA,pB,pC,pD]
     refine tz 11 25 (.int .i64 ((m + 1 : Nat) : Int)) rfl hS ?_
     simp only [pA,pB,pC,pD]
     refine ty 12 ⟨some 26, _, _, _, _, some (8, true)⟩ (.int .i64 (m : Int)) rfl (by rfl) ?_ hS ?_
     ·intro wy hy
      clear hy
      go_simp; rw [IntKind.wrap_i64]; omega
     simp only [pA,pB,pC,pD]
     refine ty 13 ⟨some 27, _, _, _, _, some (8, true)⟩ (.pointer (some ⟨b, o + m * 6, none⟩)) rfl (by rfl) ?_ hS ?_
     ·intro wy hy
      clear hy
      go_simp; intro hh; omega
     simp only [pA,pB,pC,pD]
     refine tm 14 28 b (o + m * 6) [.string y.name, .string y.zone, .slice b2 y.marks.length d2, .int .i64 y.room, .int .i64 y.hold, .bool y.closed] rfl (fun _ h => h.2) Tryz.underlying45 isz_Brt hS ?_
     simp only [pA,pB,pC,pD]
     refine tz 16 30 (.func (.func 86) #[] #[]) rfl hS ?_
     simp only [pA,pB,pC,pD]
     refine tm 17 31 wr.heap.size 0 [.string x.name, .string x.zone, .slice a2 x.marks.length c2, .int .i64 x.room, .int .i64 x.hold, .bool x.closed] rfl (fun _ h => h.1) Tryz.underlying45 isz_Brt hS ?_
     simp only [pA,pB,pC,pD]
     refine rd1 15 ⟨some 29, _, _, _, _, some (8, true)⟩ rfl (fun K hK => ?_)
     go_simp
     refine (nameBrt_any y b2 d2 _).mono ?_
     rintro e w6 ⟨rfl, hb⟩
     have HB6 : Hid (Below w.heap.size w w6) := HB5.out.trans (hb.mono HB5.out.size)
     have HS6 : Hid (wr.heap.size < w6.heap.size) := Nat.lt_of_lt_of_le HS5.out hb.size
     refine hK.out _ _ ⟨range_belowV hS.1 hb HS5.out, range_belowV hS.2 hb (Nat.lt_trans hbl HS5.out)⟩ (fun hS => ?_)
     clear hb HB5 HS5
     clear hK K
     refine rd1 18 ⟨some 32, _, _, _, _, some (8, true)⟩ rfl (fun K hK => ?_)
     go_simp
     refine (nameBrt_any x a2 c2 _).mono ?_
     rintro e w7 ⟨rfl, hb⟩
     have HB7 : Hid (Below w.heap.size w w7) := HB6.out.trans (hb.mono HB6.out.size)
     have HS7 : Hid (wr.heap.size < w7.heap.size) := Nat.lt_of_lt_of_le HS6.out hb.size
     refine hK.out _ _ ⟨range_belowV hS.1 hb HS6.out, range_belowV hS.2 hb (Nat.lt_trans hbl HS6.out)⟩ (fun hS => ?_)
     clear hb HB6 HS6
     clear hK K
     cases hbl2 : Op.bytesLess y.name.toList x.name.toList
     ·have HC : Hid (ascTo (xs.map (·.name)) xs.length = false) := ascTo_false (k := m + 1) (by simp only [ascAt, HN.out, HNY.out, hbl2, Bool.and_false]) _ hlt
      refine tz 19 33 (.bool true) rfl hS ?_
      simp only [pA,pB,pC,pD]
      refine tz 20 34 (.bool true) rfl hS ?_
      simp only [pA,pB,pC,pD]
      refine tz 21 35 (.bool true) rfl hS ?_
      simp only [pA,pB,pC,pD]
      refine td ?_
      go_wp2_with fail
      go_ret
      exact ⟨ret_bool HC.out.symm, HB7.out⟩
     ·have HC : Hid (ascTo (xs.map (·.name)) (m + 1 + 1) = true) := by show _ = _; rw [ascTo, ho.out]; simp only [ascAt, HN.out, HNY.out, hbl2, HNM.out, Bool.and_self]
      refine tz 19 33 (.bool false) rfl hS ?_
      simp only [pA,pB,pC,pD]
      refine tz 20 34 (.bool false) rfl hS ?_
      simp only [pA,pB,pC,pD]
      refine tz 21 35 (.bool false) rfl hS ?_
      simp only [pA,pB,pC,pD]
      refine td ?_
      go_wp2_with fail
      go_roundw
      case rel => exact ⟨m + 1 + 1, by omega, by go_num, HC, HB7.out⟩
      case measure => simp [intOf]; omega
  ·have hke : k = xs.length := by omega
   subst hke
   go_wp2_with fail
   go_ret
   exact ⟨ret_bool ho.out.symm, hbel⟩

set_option maxHeartbeats 4000000 in
set_option maxRecDepth 100000 in
theorem ascSvc_any (xs : List Svc) (a : Option Addr) (cap lo : Nat) (w : World) (hin : SliceC SvcC 2 lo w a xs) (hsm : xs.length ≤ 1048576) :
  Calls Tryz.prog 113 #[.slice a xs.length cap, .func (.func 88) #[] #[]] w fun e w' => e = .returned (.bool (ascTo (xs.map (·.name)) xs.length)) ∧ Below w.heap.size w w' := by
 have HI : Hid (SliceC SvcC 2 lo w a xs) := hin
 clear hin
 go_enter Tryz.func113, Tryz.ntmps113
 go_wp2_with fail
 go_loopw [9] (fun i wr => ∃ k : Nat, k ≤ xs.length ∧ i = .int .i64 k ∧ Hid (ascTo (xs.map (·.name)) k = true) ∧ Below w.heap.size w wr) (fun i _ => xs.length - (intOf i).toNat)
 case atStart => exact ⟨0, Nat.zero_le _, rfl, rfl, by go_grown⟩
 case round =>
  obtain ⟨k, hk, rfl, ho, hbel⟩ := hrel
  by_cases hlt : k < xs.length
  ·obtain ⟨x, hx⟩ : ∃ x, xs[k]? = some x := ⟨xs[k], List.getElem?_eq_getElem hlt⟩
   have HIR : Hid (SliceC SvcC 2 lo wr a xs) := HI.out.below SvcC.holds hbel nL
   obtain ⟨b, o, rfl, _, hbl, hc⟩ := HIR.out.at hx
   obtain ⟨q0, q1, z0⟩ := hc
   simp only [Nat.add_zero] at q0 q1
   have HRA : Hid (wr.rangeAt b (o + k * 2) [.string x.name, .int .i64 x.spare]) := range_cons q0 (range_cons q1 (range_nil _ _ _))
   have HZ : Hid (x.name.size ≤ maxLen) := z0
   have HN : Hid ((xs.map (·.name))[k]? = some x.name) := by show _ = _; rw [List.getElem?_map, hx]; rfl
   have HB : Hid (Below w.heap.size w wr) := hbel
   clear z0 hx hbel q0 q1
   go_upto_region 4 with (first | (refine wpList_load_mid rfl 94 _ rfl b (o + k * 2) (by first | rfl | (simp [go_sem]; done)) [.string x.name, .int .i64 x.spare] _ HRA.out Tryz.underlying94 rfl isz_Svc ?_))
   have HG : Hid ((wr.alloc (Obj.cells #[.string x.name, .int .i64 x.spare] 94)).rangeAt wr.heap.size 0 [.string x.name, .int .i64 x.spare]) := range_cons (by simp) (range_cons (by simp) (range_nil _ _ _))
   have hal : Below wr.heap.size wr (wr.alloc (Obj.cells #[.string x.name, .int .i64 x.spare] 94)) := (Below.refl _ _).alloc nL _
   have HBD : Below w.heap.size w (wr.alloc (Obj.cells #[.string x.name, .int .i64 x.spare] 94)).drew := HB.out.trans (show Below w.heap.size wr _ from (show Below wr.heap.size wr (wr.alloc (Obj.cells #[.string x.name, .int .i64 x.spare] 94)).drew by go_grown).mono HB.out.size)
   cases hnm : P.nameOk x.name
   ·have HNM : Hid (P.nameOk x.name = false) := hnm
    have HC : Hid (ascTo (xs.map (·.name)) xs.length = false) := ascTo_false (ascAt_bad HN.out hnm) _ hlt
    clear hnm hal ho
    refine wp_region_held_drew (S := fun wy => wy.rangeAt wr.heap.size 0 [.string x.name, .int .i64 x.spare] ∧ wy.rangeAt b 0 []) (by kernel_rfl) ⟨range_drew HG.out, range_nil _ _ _⟩ (fun hS => ?_)
    have HB4 : Hid (Below w.heap.size w (wr.alloc (Obj.cells #[.string x.name, .int .i64 x.spare] 94)).drew) := HBD
    have HS4 : Hid (wr.heap.size < (wr.alloc (Obj.cells #[.string x.name, .int .i64 x.spare] 94)).drew.heap.size) := by show _ < _; simp
    clear HG HBD
    refine tz 0 14 (.func (.func 88) #[] #[]) rfl hS ?_
    simp only [pA,pB,pC,pD]
    refine tm 1 15 wr.heap.size 0 [.string x.name, .int .i64 x.spare] rfl (fun _ h => h.1) Tryz.underlying94 isz_Svc hS ?_
    simp only [pA,pB,pC,pD]
    refine rd1 2 ⟨some 16, _, _, _, _, none⟩ rfl (fun K hK => ?_)
    go_simp
    refine (nameSvc_any x _).mono ?_
    rintro e w5 ⟨rfl, hb⟩
    have HB5 : Hid (Below w.heap.size w w5) := HB4.out.trans (hb.mono HB4.out.size)
    have HS5 : Hid (wr.heap.size < w5.heap.size) := Nat.lt_of_lt_of_le HS4.out hb.size
    refine hK.out _ _ ⟨range_belowV hS.1 hb HS4.out, range_belowV hS.2 hb (Nat.lt_trans hbl HS4.out)⟩ (fun hS => ?_)
    clear hb HB4 HS4
    clear hK K
    refine rd1 3 ⟨some 17, _, _, _, _, none⟩ rfl (fun K hK => ?_)
    go_simp
    refine (isName_any _ _ HZ.out).mono ?_
    rintro e w' ⟨rfl, rfl⟩
    refine hK.out _ _ hS (fun hS => ?_)
    clear hK K
    rw [HNM.out]
    refine tz 4 18 (.bool true) rfl hS ?_
    simp only [pA,pB,pC,pD]
    refine tz 5 19 (.bool true) rfl hS ?_
    simp only [pA,pB,pC,pD]
    refine ts 6 20 rfl hS ?_
    simp only [pA,pB,pC,pD]
    refine ts 7 21 rfl hS ?_
    simp only [pA,pB,pC,pD]
    refine ts 8 22 rfl hS ?_
    simp only [pA,pB,pC,pD]
    refine ts 9 23 rfl hS ?_
    simp only [pA,pB,pC,pD]
    refine ts 10 24 rfl hS ?_
    simp only [pA,pB,pC,pD]
    refine ts 11 25 rfl hS ?_
    simp only [pA,pB,pC,pD]
    refine ts 12 26 rfl hS ?_
    simp only [pA,pB,pC,pD]
    refine ts 13 27 rfl hS ?_
    simp only [pA,pB,pC,pD]
    refine ts 14 28 rfl hS ?_
    simp only [pA,pB,pC,pD]
    refine ts 15 29 rfl hS ?_
    simp only [pA,pB,pC,pD]
    refine ts 16 30 rfl hS ?_
    simp only [pA,pB,pC,pD]
    refine ts 17 31 rfl hS ?_
    simp only [pA,pB,pC,pD]
    refine ts 18 32 rfl hS ?_
    simp only [pA,pB,pC,pD]
    refine ts 19 33 rfl hS ?_
    simp only [pA,pB,pC,pD]
    refine ts 20 34 rfl hS ?_
    simp only [pA,pB,pC,pD]
    refine tz 21 35 (.bool true) rfl hS ?_
    simp only [pA,pB,pC,pD]
    refine td ?_
    go_wp2_with fail
    go_ret
    exact ⟨ret_bool HC.out.symm, HB5.out⟩
   ·have HNM : Hid (P.nameOk x.name = true) := hnm
    cases k with
    | zero =>
     have HC : Hid (ascTo (xs.map (·.name)) (0 + 1) = true) := by show _ = _; simp only [ascTo, ascAt, HN.out, hnm, Bool.and_self]
     clear hnm hal ho
     refine wp_region_held_drew (S := fun wy => wy.rangeAt wr.heap.size 0 [.string x.name, .int .i64 x.spare] ∧ wy.rangeAt b 0 []) (by kernel_rfl) ⟨range_drew HG.out, range_nil _ _ _⟩ (fun hS => ?_)
     have HB4 : Hid (Below w.heap.size w (wr.alloc (Obj.cells #[.string x.name, .int .i64 x.spare] 94)).drew) := HBD
     have HS4 : Hid (wr.heap.size < (wr.alloc (Obj.cells #[.string x.name, .int .i64 x.spare] 94)).drew.heap.size) := by show _ < _; simp
     clear HG HBD
     refine tz 0 14 (.func (.func 88) #[] #[]) rfl hS ?_
     simp only [pA,pB,pC,pD]
     refine tm 1 15 wr.heap.size 0 [.string x.name, .int .i64 x.spare] rfl (fun _ h => h.1) Tryz.underlying94 isz_Svc hS ?_
     simp only [pA,pB,pC,pD]
     refine rd1 2 ⟨some 16, _, _, _, _, none⟩ rfl (fun K hK => ?_)
     go_simp
     refine (nameSvc_any x _).mono ?_
     rintro e w5 ⟨rfl, hb⟩
     have HB5 : Hid (Below w.heap.size w w5) := HB4.out.trans (hb.mono HB4.out.size)
     have HS5 : Hid (wr.heap.size < w5.heap.size) := Nat.lt_of_lt_of_le HS4.out hb.size
     refine hK.out _ _ ⟨range_belowV hS.1 hb HS4.out, range_belowV hS.2 hb (Nat.lt_trans hbl HS4.out)⟩ (fun hS => ?_)
     clear hb HB4 HS4
     clear hK K
     refine rd1 3 ⟨some 17, _, _, _, _, none⟩ rfl (fun K hK => ?_)
     go_simp
     refine (isName_any _ _ HZ.out).mono ?_
     rintro e w' ⟨rfl, rfl⟩
     refine hK.out _ _ hS (fun hS => ?_)
     clear hK K
     rw [HNM.out]
     refine tz 4 18 (.bool false) rfl hS ?_
     simp only [pA,pB,pC,pD]
     refine tz 5 19 (.bool false) rfl hS ?_
     simp only [pA,pB,pC,pD]
     refine tz 6 20 (.int .i64 ((0 : Nat) : Int)) rfl hS ?_
     simp only [pA,pB,pC,pD]
     refine tz 7 21 (.bool false) rfl hS ?_
     simp only [pA,pB,pC,pD]
     refine tz 8 22 (.bool false) rfl hS ?_
     simp only [pA,pB,pC,pD]
     refine ts 9 23 rfl hS ?_
     simp only [pA,pB,pC,pD]
     refine ts 10 24 rfl hS ?_
     simp only [pA,pB,pC,pD]
     refine ts 11 25 rfl hS ?_
     simp only [pA,pB,pC,pD]
     refine ts 12 26 rfl hS ?_
     simp only [pA,pB,pC,pD]
     refine ts 13 27 rfl hS ?_
     simp only [pA,pB,pC,pD]
     refine ts 14 28 rfl hS ?_
     simp only [pA,pB,pC,pD]
     refine ts 15 29 rfl hS ?_
     simp only [pA,pB,pC,pD]
     refine ts 16 30 rfl hS ?_
     simp only [pA,pB,pC,pD]
     refine ts 17 31 rfl hS ?_
     simp only [pA,pB,pC,pD]
     refine ts 18 32 rfl hS ?_
     simp only [pA,pB,pC,pD]
     refine ts 19 33 rfl hS ?_
     simp only [pA,pB,pC,pD]
     refine tz 20 34 (.bool false) rfl hS ?_
     simp only [pA,pB,pC,pD]
     refine tz 21 35 (.bool false) rfl hS ?_
     simp only [pA,pB,pC,pD]
     refine td ?_
     go_wp2_with fail
     go_roundw
     case rel => exact ⟨0 + 1, by omega, by go_num, HC, HB5.out⟩
     case measure => simp [intOf]; omega
    | succ m =>
     obtain ⟨y, hy⟩ : ∃ y, xs[m]? = some y := ⟨xs[m], List.getElem?_eq_getElem (by omega)⟩
     obtain ⟨b', o', e', _, _, hc⟩ := HIR.out.at hy
     cases e'
     obtain ⟨q0, q1, z0⟩ := hc
     simp only [Nat.add_zero] at q0 q1
     have HGY : Hid ((wr.alloc (Obj.cells #[.string x.name, .int .i64 x.spare] 94)).rangeAt b (o + m * 2) [.string y.name, .int .i64 y.spare]) := range_belowV (range_cons q0 (range_cons q1 (range_nil _ _ _))) hal hbl
     have HNY : Hid ((xs.map (·.name))[m]? = some y.name) := by show _ = _; rw [List.getElem?_map, hy]; rfl
     clear hnm hal hy z0 q0 q1
     refine wp_region_held_drew (S := fun wy => wy.rangeAt wr.heap.size 0 [.string x.name, .int .i64 x.spare] ∧ wy.rangeAt b (o + m * 2) [.string y.name, .int .i64 y.spare]) (by kernel_rfl) ⟨range_drew HG.out, range_drew HGY.out⟩ (fun hS => ?_)
     have HB4 : Hid (Below w.heap.size w (wr.alloc (Obj.cells #[.string x.name, .int .i64 x.spare] 94)).drew) := HBD
     have HS4 : Hid (wr.heap.size < (wr.alloc (Obj.cells #[.string x.name, .int .i64 x.spare] 94)).drew.heap.size) := by show _ < _; simp
     clear HG HBD
     refine tz 0 14 (.func (.func 88) #[] #[]) rfl hS ?_
     simp only [pA,pB,pC,pD]
     refine tm 1 15 wr.heap.size 0 [.string x.name, .int .i64 x.spare] rfl (fun _ h => h.1) Tryz.underlying94 isz_Svc hS ?_
     simp only [pA,pB,pC,pD]
     refine rd1 2 ⟨some 16, _, _, _, _, none⟩ rfl (fun K hK => ?_)
     go_simp
     refine (nameSvc_any x _).mono ?_
     rintro e w5 ⟨rfl, hb⟩
     have HB5 : Hid (Below w.heap.size w w5) := HB4.out.trans (hb.mono HB4.out.size)
     have HS5 : Hid (wr.heap.size < w5.heap.size) := Nat.lt_of_lt_of_le HS4.out hb.size
     refine hK.out _ _ ⟨range_belowV hS.1 hb HS4.out, range_belowV hS.2 hb (Nat.lt_trans hbl HS4.out)⟩ (fun hS => ?_)
     clear hb HB4 HS4
     clear hK K
     refine rd1 3 ⟨some 17, _, _, _, _, none⟩ rfl (fun K hK => ?_)
     go_simp
     refine (isName_any _ _ HZ.out).mono ?_
     rintro e w' ⟨rfl, rfl⟩
     refine hK.out _ _ hS (fun hS => ?_)
     clear hK K
     rw [HNM.out]
     refine tz 4 18 (.bool false) rfl hS ?_
     simp only [pA,pB,pC,pD]
     refine tz 5 19 (.bool false) rfl hS ?_
     simp only [pA,pB,pC,pD]
     refine tz 6 20 (.int .i64 ((m + 1 : Nat) : Int)) rfl hS ?_
     simp only [pA,pB,pC,pD]
     refine tz 7 21 (.bool true) rfl hS ?_
     simp only [pA,pB,pC,pD]
     refine tz 8 22 (.bool true) rfl hS ?_
     simp only [pA,pB,pC,pD]
     refine tz 9 23 (.func (.func 88) #[] #[]) rfl hS ?_
     simp only [pA,pB,pC,pD]
     refine tz 10 24 (.slice (some ⟨b, o, none⟩) xs.length cap) rfl hS ?_
     simp only [pA,pB,pC,pD]
     refine tz 11 25 (.int .i64 ((m + 1 : Nat) : Int)) rfl hS ?_
     simp only [pA,pB,pC,pD]
     refine ty 12 ⟨some 26, _, _, _, _, some (8, true)⟩ (.int .i64 (m : Int)) rfl (by rfl) ?_ hS ?_
     ·intro wy hy
      clear hy
      go_simp; rw [IntKind.wrap_i64]; omega
     simp only [pA,pB,pC,pD]
     refine ty 13 ⟨some 27, _, _, _, _, some (8, true)⟩ (.pointer (some ⟨b, o + m * 2, none⟩)) rfl (by rfl) ?_ hS ?_
     ·intro wy hy
      clear hy
      go_simp; intro hh; omega
     simp only [pA,pB,pC,pD]
     refine tm 14 28 b (o + m * 2) [.string y.name, .int .i64 y.spare] rfl (fun _ h => h.2) Tryz.underlying94 isz_Svc hS ?_
     simp only [pA,pB,pC,pD]
     refine tz 16 30 (.func (.func 88) #[] #[]) rfl hS ?_
     simp only [pA,pB,pC,pD]
     refine tm 17 31 wr.heap.size 0 [.string x.name, .int .i64 x.spare] rfl (fun _ h => h.1) Tryz.underlying94 isz_Svc hS ?_
     simp only [pA,pB,pC,pD]
     refine rd1 15 ⟨some 29, _, _, _, _, some (8, true)⟩ rfl (fun K hK => ?_)
     go_simp
     refine (nameSvc_any y _).mono ?_
     rintro e w6 ⟨rfl, hb⟩
     have HB6 : Hid (Below w.heap.size w w6) := HB5.out.trans (hb.mono HB5.out.size)
     have HS6 : Hid (wr.heap.size < w6.heap.size) := Nat.lt_of_lt_of_le HS5.out hb.size
     refine hK.out _ _ ⟨range_belowV hS.1 hb HS5.out, range_belowV hS.2 hb (Nat.lt_trans hbl HS5.out)⟩ (fun hS => ?_)
     clear hb HB5 HS5
     clear hK K
     refine rd1 18 ⟨some 32, _, _, _, _, some (8, true)⟩ rfl (fun K hK => ?_)
     go_simp
     refine (nameSvc_any x _).mono ?_
     rintro e w7 ⟨rfl, hb⟩
     have HB7 : Hid (Below w.heap.size w w7) := HB6.out.trans (hb.mono HB6.out.size)
     have HS7 : Hid (wr.heap.size < w7.heap.size) := Nat.lt_of_lt_of_le HS6.out hb.size
     refine hK.out _ _ ⟨range_belowV hS.1 hb HS6.out, range_belowV hS.2 hb (Nat.lt_trans hbl HS6.out)⟩ (fun hS => ?_)
     clear hb HB6 HS6
     clear hK K
     cases hbl2 : Op.bytesLess y.name.toList x.name.toList
     ·have HC : Hid (ascTo (xs.map (·.name)) xs.length = false) := ascTo_false (k := m + 1) (by simp only [ascAt, HN.out, HNY.out, hbl2, Bool.and_false]) _ hlt
      refine tz 19 33 (.bool true) rfl hS ?_
      simp only [pA,pB,pC,pD]
      refine tz 20 34 (.bool true) rfl hS ?_
      simp only [pA,pB,pC,pD]
      refine tz 21 35 (.bool true) rfl hS ?_
      simp only [pA,pB,pC,pD]
      refine td ?_
      go_wp2_with fail
      go_ret
      exact ⟨ret_bool HC.out.symm, HB7.out⟩
     ·have HC : Hid (ascTo (xs.map (·.name)) (m + 1 + 1) = true) := by show _ = _; rw [ascTo, ho.out]; simp only [ascAt, HN.out, HNY.out, hbl2, HNM.out, Bool.and_self]
      refine tz 19 33 (.bool false) rfl hS ?_
      simp only [pA,pB,pC,pD]
      refine tz 20 34 (.bool false) rfl hS ?_
      simp only [pA,pB,pC,pD]
      refine tz 21 35 (.bool false) rfl hS ?_
      simp only [pA,pB,pC,pD]
      refine td ?_
      go_wp2_with fail
      go_roundw
      case rel => exact ⟨m + 1 + 1, by omega, by go_num, HC, HB7.out⟩
      case measure => simp [intOf]; omega
  ·have hke : k = xs.length := by omega
   subst hke
   go_wp2_with fail
   go_ret
   exact ⟨ret_bool ho.out.symm, hbel⟩

set_option maxHeartbeats 4000000 in
set_option maxRecDepth 100000 in
theorem ascCpy_any (xs : List Cpy) (a : Option Addr) (cap lo : Nat) (w : World) (hin : SliceC CpyC 12 lo w a xs) (hsm : xs.length ≤ 1048576) :
  Calls Tryz.prog 114 #[.slice a xs.length cap, .func (.func 90) #[] #[]] w fun e w' => e = .returned (.bool (ascTo (xs.map (·.name)) xs.length)) ∧ Below w.heap.size w w' := by
 have HI : Hid (SliceC CpyC 12 lo w a xs) := hin
 clear hin
 go_enter Tryz.func114, Tryz.ntmps114
 go_wp2_with fail
 go_loopw [9] (fun i wr => ∃ k : Nat, k ≤ xs.length ∧ i = .int .i64 k ∧ Hid (ascTo (xs.map (·.name)) k = true) ∧ Below w.heap.size w wr) (fun i _ => xs.length - (intOf i).toNat)
 case atStart => exact ⟨0, Nat.zero_le _, rfl, rfl, by go_grown⟩
 case round =>
  obtain ⟨k, hk, rfl, ho, hbel⟩ := hrel
  by_cases hlt : k < xs.length
  ·obtain ⟨x, hx⟩ : ∃ x, xs[k]? = some x := ⟨xs[k], List.getElem?_eq_getElem hlt⟩
   have HIR : Hid (SliceC CpyC 12 lo wr a xs) := HI.out.below CpyC.holds hbel nL
   obtain ⟨b, o, rfl, _, hbl, hc⟩ := HIR.out.at hx
   obtain ⟨a2, c2, q0, q1, q2, q3, q4, q5, q6, q7, q8, q9, q10, q11, z0, _, _, _, _, _, _⟩ := hc
   simp only [Nat.add_zero] at q0 q1 q2 q3 q4 q5 q6 q7 q8 q9 q10 q11
   have HRA : Hid (wr.rangeAt b (o + k * 12) [.string x.name, .string x.service, .int .i64 x.rank, .int .i64 x.born, .int .i64 x.room, .int .i64 x.hold, .string x.select, .slice a2 x.likes.length c2, .int .i64 x.apart, .string x.near, .string x.fixed, .string x.at_]) := range_cons q0 (range_cons q1 (range_cons q2 (range_cons q3 (range_cons q4 (range_cons q5 (range_cons q6 (range_cons q7 (range_cons q8 (range_cons q9 (range_cons q10 (range_cons q11 (range_nil _ _ _))))))))))))
   have HZ : Hid (x.name.size ≤ maxLen) := z0
   have HN : Hid ((xs.map (·.name))[k]? = some x.name) := by show _ = _; rw [List.getElem?_map, hx]; rfl
   have HB : Hid (Below w.heap.size w wr) := hbel
   clear z0 hx hbel q0 q1 q2 q3 q4 q5 q6 q7 q8 q9 q10 q11
   go_upto_region 4 with (first | (refine wpList_load_mid rfl 48 _ rfl b (o + k * 12) (by first | rfl | (simp [go_sem]; done)) [.string x.name, .string x.service, .int .i64 x.rank, .int .i64 x.born, .int .i64 x.room, .int .i64 x.hold, .string x.select, .slice a2 x.likes.length c2, .int .i64 x.apart, .string x.near, .string x.fixed, .string x.at_] _ HRA.out Tryz.underlying48 rfl isz_Cpy ?_))
   have HG : Hid ((wr.alloc (Obj.cells #[.string x.name, .string x.service, .int .i64 x.rank, .int .i64 x.born, .int .i64 x.room, .int .i64 x.hold, .string x.select, .slice a2 x.likes.length c2, .int .i64 x.apart, .string x.near, .string x.fixed, .string x.at_] 48)).rangeAt wr.heap.size 0 [.string x.name, .string x.service, .int .i64 x.rank, .int .i64 x.born, .int .i64 x.room, .int .i64 x.hold, .string x.select, .slice a2 x.likes.length c2, .int .i64 x.apart, .string x.near, .string x.fixed, .string x.at_]) := range_cons (by simp) (range_cons (by simp) (range_cons (by simp) (range_cons (by simp) (range_cons (by simp) (range_cons (by simp) (range_cons (by simp) (range_cons (by simp) (range_cons (by simp) (range_cons (by simp) (range_cons (by simp) (range_cons (by simp) (range_nil _ _ _))))))))))))
   have hal : Below wr.heap.size wr (wr.alloc (Obj.cells #[.string x.name, .string x.service, .int .i64 x.rank, .int .i64 x.born, .int .i64 x.room, .int .i64 x.hold, .string x.select, .slice a2 x.likes.length c2, .int .i64 x.apart, .string x.near, .string x.fixed, .string x.at_] 48)) := (Below.refl _ _).alloc nL _
   have HBD : Below w.heap.size w (wr.alloc (Obj.cells #[.string x.name, .string x.service, .int .i64 x.rank, .int .i64 x.born, .int .i64 x.room, .int .i64 x.hold, .string x.select, .slice a2 x.likes.length c2, .int .i64 x.apart, .string x.near, .string x.fixed, .string x.at_] 48)).drew := HB.out.trans (show Below w.heap.size wr _ from (show Below wr.heap.size wr (wr.alloc (Obj.cells #[.string x.name, .string x.service, .int .i64 x.rank, .int .i64 x.born, .int .i64 x.room, .int .i64 x.hold, .string x.select, .slice a2 x.likes.length c2, .int .i64 x.apart, .string x.near, .string x.fixed, .string x.at_] 48)).drew by go_grown).mono HB.out.size)
   cases hnm : P.nameOk x.name
   ·have HNM : Hid (P.nameOk x.name = false) := hnm
    have HC : Hid (ascTo (xs.map (·.name)) xs.length = false) := ascTo_false (ascAt_bad HN.out hnm) _ hlt
    clear hnm hal ho
    refine wp_region_held_drew (S := fun wy => wy.rangeAt wr.heap.size 0 [.string x.name, .string x.service, .int .i64 x.rank, .int .i64 x.born, .int .i64 x.room, .int .i64 x.hold, .string x.select, .slice a2 x.likes.length c2, .int .i64 x.apart, .string x.near, .string x.fixed, .string x.at_] ∧ wy.rangeAt b 0 []) (by kernel_rfl) ⟨range_drew HG.out, range_nil _ _ _⟩ (fun hS => ?_)
    have HB4 : Hid (Below w.heap.size w (wr.alloc (Obj.cells #[.string x.name, .string x.service, .int .i64 x.rank, .int .i64 x.born, .int .i64 x.room, .int .i64 x.hold, .string x.select, .slice a2 x.likes.length c2, .int .i64 x.apart, .string x.near, .string x.fixed, .string x.at_] 48)).drew) := HBD
    have HS4 : Hid (wr.heap.size < (wr.alloc (Obj.cells #[.string x.name, .string x.service, .int .i64 x.rank, .int .i64 x.born, .int .i64 x.room, .int .i64 x.hold, .string x.select, .slice a2 x.likes.length c2, .int .i64 x.apart, .string x.near, .string x.fixed, .string x.at_] 48)).drew.heap.size) := by show _ < _; simp
    clear HG HBD
    refine tz 0 14 (.func (.func 90) #[] #[]) rfl hS ?_
    simp only [pA,pB,pC,pD]
    refine tm 1 15 wr.heap.size 0 [.string x.name, .string x.service, .int .i64 x.rank, .int .i64 x.born, .int .i64 x.room, .int .i64 x.hold, .string x.select, .slice a2 x.likes.length c2, .int .i64 x.apart, .string x.near, .string x.fixed, .string x.at_] rfl (fun _ h => h.1) Tryz.underlying48 isz_Cpy hS ?_
    simp only [pA,pB,pC,pD]
    refine rd1 2 ⟨some 16, _, _, _, _, none⟩ rfl (fun K hK => ?_)
    go_simp
    refine (nameCpy_any x a2 c2 _).mono ?_
    rintro e w5 ⟨rfl, hb⟩
    have HB5 : Hid (Below w.heap.size w w5) := HB4.out.trans (hb.mono HB4.out.size)
    have HS5 : Hid (wr.heap.size < w5.heap.size) := Nat.lt_of_lt_of_le HS4.out hb.size
    refine hK.out _ _ ⟨range_belowV hS.1 hb HS4.out, range_belowV hS.2 hb (Nat.lt_trans hbl HS4.out)⟩ (fun hS => ?_)
    clear hb HB4 HS4
    clear hK K
    refine rd1 3 ⟨some 17, _, _, _, _, none⟩ rfl (fun K hK => ?_)
    go_simp
    refine (isName_any _ _ HZ.out).mono ?_
    rintro e w' ⟨rfl, rfl⟩
    refine hK.out _ _ hS (fun hS => ?_)
    clear hK K
    rw [HNM.out]
    refine tz 4 18 (.bool true) rfl hS ?_
    simp only [pA,pB,pC,pD]
    refine tz 5 19 (.bool true) rfl hS ?_
    simp only [pA,pB,pC,pD]
    refine ts 6 20 rfl hS ?_
    simp only [pA,pB,pC,pD]
    refine ts 7 21 rfl hS ?_
    simp only [pA,pB,pC,pD]
    refine ts 8 22 rfl hS ?_
    simp only [pA,pB,pC,pD]
    refine ts 9 23 rfl hS ?_
    simp only [pA,pB,pC,pD]
    refine ts 10 24 rfl hS ?_
    simp only [pA,pB,pC,pD]
    refine ts 11 25 rfl hS ?_
    simp only [pA,pB,pC,pD]
    refine ts 12 26 rfl hS ?_
    simp only [pA,pB,pC,pD]
    refine ts 13 27 rfl hS ?_
    simp only [pA,pB,pC,pD]
    refine ts 14 28 rfl hS ?_
    simp only [pA,pB,pC,pD]
    refine ts 15 29 rfl hS ?_
    simp only [pA,pB,pC,pD]
    refine ts 16 30 rfl hS ?_
    simp only [pA,pB,pC,pD]
    refine ts 17 31 rfl hS ?_
    simp only [pA,pB,pC,pD]
    refine ts 18 32 rfl hS ?_
    simp only [pA,pB,pC,pD]
    refine ts 19 33 rfl hS ?_
    simp only [pA,pB,pC,pD]
    refine ts 20 34 rfl hS ?_
    simp only [pA,pB,pC,pD]
    refine tz 21 35 (.bool true) rfl hS ?_
    simp only [pA,pB,pC,pD]
    refine td ?_
    go_wp2_with fail
    go_ret
    exact ⟨ret_bool HC.out.symm, HB5.out⟩
   ·have HNM : Hid (P.nameOk x.name = true) := hnm
    cases k with
    | zero =>
     have HC : Hid (ascTo (xs.map (·.name)) (0 + 1) = true) := by show _ = _; simp only [ascTo, ascAt, HN.out, hnm, Bool.and_self]
     clear hnm hal ho
     refine wp_region_held_drew (S := fun wy => wy.rangeAt wr.heap.size 0 [.string x.name, .string x.service, .int .i64 x.rank, .int .i64 x.born, .int .i64 x.room, .int .i64 x.hold, .string x.select, .slice a2 x.likes.length c2, .int .i64 x.apart, .string x.near, .string x.fixed, .string x.at_] ∧ wy.rangeAt b 0 []) (by kernel_rfl) ⟨range_drew HG.out, range_nil _ _ _⟩ (fun hS => ?_)
     have HB4 : Hid (Below w.heap.size w (wr.alloc (Obj.cells #[.string x.name, .string x.service, .int .i64 x.rank, .int .i64 x.born, .int .i64 x.room, .int .i64 x.hold, .string x.select, .slice a2 x.likes.length c2, .int .i64 x.apart, .string x.near, .string x.fixed, .string x.at_] 48)).drew) := HBD
     have HS4 : Hid (wr.heap.size < (wr.alloc (Obj.cells #[.string x.name, .string x.service, .int .i64 x.rank, .int .i64 x.born, .int .i64 x.room, .int .i64 x.hold, .string x.select, .slice a2 x.likes.length c2, .int .i64 x.apart, .string x.near, .string x.fixed, .string x.at_] 48)).drew.heap.size) := by show _ < _; simp
     clear HG HBD
     refine tz 0 14 (.func (.func 90) #[] #[]) rfl hS ?_
     simp only [pA,pB,pC,pD]
     refine tm 1 15 wr.heap.size 0 [.string x.name, .string x.service, .int .i64 x.rank, .int .i64 x.born, .int .i64 x.room, .int .i64 x.hold, .string x.select, .slice a2 x.likes.length c2, .int .i64 x.apart, .string x.near, .string x.fixed, .string x.at_] rfl (fun _ h => h.1) Tryz.underlying48 isz_Cpy hS ?_
     simp only [pA,pB,pC,pD]
     refine rd1 2 ⟨some 16, _, _, _, _, none⟩ rfl (fun K hK => ?_)
     go_simp
     refine (nameCpy_any x a2 c2 _).mono ?_
     rintro e w5 ⟨rfl, hb⟩
     have HB5 : Hid (Below w.heap.size w w5) := HB4.out.trans (hb.mono HB4.out.size)
     have HS5 : Hid (wr.heap.size < w5.heap.size) := Nat.lt_of_lt_of_le HS4.out hb.size
     refine hK.out _ _ ⟨range_belowV hS.1 hb HS4.out, range_belowV hS.2 hb (Nat.lt_trans hbl HS4.out)⟩ (fun hS => ?_)
     clear hb HB4 HS4
     clear hK K
     refine rd1 3 ⟨some 17, _, _, _, _, none⟩ rfl (fun K hK => ?_)
     go_simp
     refine (isName_any _ _ HZ.out).mono ?_
     rintro e w' ⟨rfl, rfl⟩
     refine hK.out _ _ hS (fun hS => ?_)
     clear hK K
     rw [HNM.out]
     refine tz 4 18 (.bool false) rfl hS ?_
     simp only [pA,pB,pC,pD]
     refine tz 5 19 (.bool false) rfl hS ?_
     simp only [pA,pB,pC,pD]
     refine tz 6 20 (.int .i64 ((0 : Nat) : Int)) rfl hS ?_
     simp only [pA,pB,pC,pD]
     refine tz 7 21 (.bool false) rfl hS ?_
     simp only [pA,pB,pC,pD]
     refine tz 8 22 (.bool false) rfl hS ?_
     simp only [pA,pB,pC,pD]
     refine ts 9 23 rfl hS ?_
     simp only [pA,pB,pC,pD]
     refine ts 10 24 rfl hS ?_
     simp only [pA,pB,pC,pD]
     refine ts 11 25 rfl hS ?_
     simp only [pA,pB,pC,pD]
     refine ts 12 26 rfl hS ?_
     simp only [pA,pB,pC,pD]
     refine ts 13 27 rfl hS ?_
     simp only [pA,pB,pC,pD]
     refine ts 14 28 rfl hS ?_
     simp only [pA,pB,pC,pD]
     refine ts 15 29 rfl hS ?_
     simp only [pA,pB,pC,pD]
     refine ts 16 30 rfl hS ?_
     simp only [pA,pB,pC,pD]
     refine ts 17 31 rfl hS ?_
     simp only [pA,pB,pC,pD]
     refine ts 18 32 rfl hS ?_
     simp only [pA,pB,pC,pD]
     refine ts 19 33 rfl hS ?_
     simp only [pA,pB,pC,pD]
     refine tz 20 34 (.bool false) rfl hS ?_
     simp only [pA,pB,pC,pD]
     refine tz 21 35 (.bool false) rfl hS ?_
     simp only [pA,pB,pC,pD]
     refine td ?_
     go_wp2_with fail
     go_roundw
     case rel => exact ⟨0 + 1, by omega, by go_num, HC, HB5.out⟩
     case measure => simp [intOf]; omega
    | succ m =>
     obtain ⟨y, hy⟩ : ∃ y, xs[m]? = some y := ⟨xs[m], List.getElem?_eq_getElem (by omega)⟩
     obtain ⟨b', o', e', _, _, hc⟩ := HIR.out.at hy
     cases e'
     obtain ⟨b2, d2, q0, q1, q2, q3, q4, q5, q6, q7, q8, q9, q10, q11, z0, _, _, _, _, _, _⟩ := hc
     simp only [Nat.add_zero] at q0 q1 q2 q3 q4 q5 q6 q7 q8 q9 q10 q11
     have HGY : Hid ((wr.alloc (Obj.cells #[.string x.name, .string x.service, .int .i64 x.rank, .int .i64 x.born, .int .i64 x.room, .int .i64 x.hold, .string x.select, .slice a2 x.likes.length c2, .int .i64 x.apart, .string x.near, .string x.fixed, .string x.at_] 48)).rangeAt b (o + m * 12) [.string y.name, .string y.service, .int .i64 y.rank, .int .i64 y.born, .int .i64 y.room, .int .i64 y.hold, .string y.select, .slice b2 y.likes.length d2, .int .i64 y.apart, .string y.near, .string y.fixed, .string y.at_]) := range_belowV (range_cons q0 (range_cons q1 (range_cons q2 (range_cons q3 (range_cons q4 (range_cons q5 (range_cons q6 (range_cons q7 (range_cons q8 (range_cons q9 (range_cons q10 (range_cons q11 (range_nil _ _ _))))))))))))) hal hbl
     have HNY : Hid ((xs.map (·.name))[m]? = some y.name) := by show _ = _; rw [List.getElem?_map, hy]; rfl
     clear hnm hal hy z0 q0 q1 q2 q3 q4 q5 q6 q7 q8 q9 q10 q11
     refine wp_region_held_drew (S := fun wy => wy.rangeAt wr.heap.size 0 [.string x.name, .string x.service, .int .i64 x.rank, .int .i64 x.born, .int .i64 x.room, .int .i64 x.hold, .string x.select, .slice a2 x.likes.length c2, .int .i64 x.apart, .string x.near, .string x.fixed, .string x.at_] ∧ wy.rangeAt b (o + m * 12) [.string y.name, .string y.service, .int .i64 y.rank, .int .i64 y.born, .int .i64 y.room, .int .i64 y.hold, .string y.select, .slice b2 y.likes.length d2, .int .i64 y.apart, .string y.near, .string y.fixed, .string y.at_]) (by kernel_rfl) ⟨range_drew HG.out, range_drew HGY.out⟩ (fun hS => ?_)
     have HB4 : Hid (Below w.heap.size w (wr.alloc (Obj.cells #[.string x.name, .string x.service, .int .i64 x.rank, .int .i64 x.born, .int .i64 x.room, .int .i64 x.hold, .string x.select, .slice a2 x.likes.length c2, .int .i64 x.apart, .string x.near, .string x.fixed, .string x.at_] 48)).drew) := HBD
     have HS4 : Hid (wr.heap.size < (wr.alloc (Obj.cells #[.string x.name, .string x.service, .int .i64 x.rank, .int .i64 x.born, .int .i64 x.room, .int .i64 x.hold, .string x.select, .slice a2 x.likes.length c2, .int .i64 x.apart, .string x.near, .string x.fixed, .string x.at_] 48)).drew.heap.size) := by show _ < _; simp
     clear HG HBD
     refine tz 0 14 (.func (.func 90) #[] #[]) rfl hS ?_
     simp only [pA,pB,pC,pD]
     refine tm 1 15 wr.heap.size 0 [.string x.name, .string x.service, .int .i64 x.rank, .int .i64 x.born, .int .i64 x.room, .int .i64 x.hold, .string x.select, .slice a2 x.likes.length c2, .int .i64 x.apart, .string x.near, .string x.fixed, .string x.at_] rfl (fun _ h => h.1) Tryz.underlying48 isz_Cpy hS ?_
     simp only [pA,pB,pC,pD]
     refine rd1 2 ⟨some 16, _, _, _, _, none⟩ rfl (fun K hK => ?_)
     go_simp
     refine (nameCpy_any x a2 c2 _).mono ?_
     rintro e w5 ⟨rfl, hb⟩
     have HB5 : Hid (Below w.heap.size w w5) := HB4.out.trans (hb.mono HB4.out.size)
     have HS5 : Hid (wr.heap.size < w5.heap.size) := Nat.lt_of_lt_of_le HS4.out hb.size
     refine hK.out _ _ ⟨range_belowV hS.1 hb HS4.out, range_belowV hS.2 hb (Nat.lt_trans hbl HS4.out)⟩ (fun hS => ?_)
     clear hb HB4 HS4
     clear hK K
     refine rd1 3 ⟨some 17, _, _, _, _, none⟩ rfl (fun K hK => ?_)
     go_simp
     refine (isName_any _ _ HZ.out).mono ?_
     rintro e w' ⟨rfl, rfl⟩
     refine hK.out _ _ hS (fun hS => ?_)
     clear hK K
     rw [HNM.out]
     refine tz 4 18 (.bool false) rfl hS ?_
     simp only [pA,pB,pC,pD]
     refine tz 5 19 (.bool false) rfl hS ?_
     simp only [pA,pB,pC,pD]
     refine tz 6 20 (.int .i64 ((m + 1 : Nat) : Int)) rfl hS ?_
     simp only [pA,pB,pC,pD]
     refine tz 7 21 (.bool true) rfl hS ?_
     simp only [pA,pB,pC,pD]
     refine tz 8 22 (.bool true) rfl hS ?_
     simp only [pA,pB,pC,pD]
     refine tz 9 23 (.func (.func 90) #[] #[]) rfl hS ?_
     simp only [pA,pB,pC,pD]
     refine tz 10 24 (.slice (some ⟨b, o, none⟩) xs.length cap) rfl hS ?_
     simp only [pA,pB,pC,pD]
     refine tz 11 25 (.int .i64 ((m + 1 : Nat) : Int)) rfl hS ?_
     simp only [pA,pB,pC,pD]
     refine ty 12 ⟨some 26, _, _, _, _, some (8, true)⟩ (.int .i64 (m : Int)) rfl (by rfl) ?_ hS ?_
     ·intro wy hy
      clear hy
      go_simp; rw [IntKind.wrap_i64]; omega
     simp only [pA,pB,pC,pD]
     refine ty 13 ⟨some 27, _, _, _, _, some (8, true)⟩ (.pointer (some ⟨b, o + m * 12, none⟩)) rfl (by rfl) ?_ hS ?_
     ·intro wy hy
      clear hy
      go_simp; intro hh; omega
     simp only [pA,pB,pC,pD]
     refine tm 14 28 b (o + m * 12) [.string y.name, .string y.service, .int .i64 y.rank, .int .i64 y.born, .int .i64 y.room, .int .i64 y.hold, .string y.select, .slice b2 y.likes.length d2, .int .i64 y.apart, .string y.near, .string y.fixed, .string y.at_] rfl (fun _ h => h.2) Tryz.underlying48 isz_Cpy hS ?_
     simp only [pA,pB,pC,pD]
     refine tz 16 30 (.func (.func 90) #[] #[]) rfl hS ?_
     simp only [pA,pB,pC,pD]
     refine tm 17 31 wr.heap.size 0 [.string x.name, .string x.service, .int .i64 x.rank, .int .i64 x.born, .int .i64 x.room, .int .i64 x.hold, .string x.select, .slice a2 x.likes.length c2, .int .i64 x.apart, .string x.near, .string x.fixed, .string x.at_] rfl (fun _ h => h.1) Tryz.underlying48 isz_Cpy hS ?_
     simp only [pA,pB,pC,pD]
     refine rd1 15 ⟨some 29, _, _, _, _, some (8, true)⟩ rfl (fun K hK => ?_)
     go_simp
     refine (nameCpy_any y b2 d2 _).mono ?_
     rintro e w6 ⟨rfl, hb⟩
     have HB6 : Hid (Below w.heap.size w w6) := HB5.out.trans (hb.mono HB5.out.size)
     have HS6 : Hid (wr.heap.size < w6.heap.size) := Nat.lt_of_lt_of_le HS5.out hb.size
     refine hK.out _ _ ⟨range_belowV hS.1 hb HS5.out, range_belowV hS.2 hb (Nat.lt_trans hbl HS5.out)⟩ (fun hS => ?_)
     clear hb HB5 HS5
     clear hK K
     refine rd1 18 ⟨some 32, _, _, _, _, some (8, true)⟩ rfl (fun K hK => ?_)
     go_simp
     refine (nameCpy_any x a2 c2 _).mono ?_
     rintro e w7 ⟨rfl, hb⟩
     have HB7 : Hid (Below w.heap.size w w7) := HB6.out.trans (hb.mono HB6.out.size)
     have HS7 : Hid (wr.heap.size < w7.heap.size) := Nat.lt_of_lt_of_le HS6.out hb.size
     refine hK.out _ _ ⟨range_belowV hS.1 hb HS6.out, range_belowV hS.2 hb (Nat.lt_trans hbl HS6.out)⟩ (fun hS => ?_)
     clear hb HB6 HS6
     clear hK K
     cases hbl2 : Op.bytesLess y.name.toList x.name.toList
     ·have HC : Hid (ascTo (xs.map (·.name)) xs.length = false) := ascTo_false (k := m + 1) (by simp only [ascAt, HN.out, HNY.out, hbl2, Bool.and_false]) _ hlt
      refine tz 19 33 (.bool true) rfl hS ?_
      simp only [pA,pB,pC,pD]
      refine tz 20 34 (.bool true) rfl hS ?_
      simp only [pA,pB,pC,pD]
      refine tz 21 35 (.bool true) rfl hS ?_
      simp only [pA,pB,pC,pD]
      refine td ?_
      go_wp2_with fail
      go_ret
      exact ⟨ret_bool HC.out.symm, HB7.out⟩
     ·have HC : Hid (ascTo (xs.map (·.name)) (m + 1 + 1) = true) := by show _ = _; rw [ascTo, ho.out]; simp only [ascAt, HN.out, HNY.out, hbl2, HNM.out, Bool.and_self]
      refine tz 19 33 (.bool false) rfl hS ?_
      simp only [pA,pB,pC,pD]
      refine tz 20 34 (.bool false) rfl hS ?_
      simp only [pA,pB,pC,pD]
      refine tz 21 35 (.bool false) rfl hS ?_
      simp only [pA,pB,pC,pD]
      refine td ?_
      go_wp2_with fail
      go_roundw
      case rel => exact ⟨m + 1 + 1, by omega, by go_num, HC, HB7.out⟩
      case measure => simp [intOf]; omega
  ·have hke : k = xs.length := by omega
   subst hke
   go_wp2_with fail
   go_ret
   exact ⟨ret_bool ho.out.symm, hbel⟩

end Go.Proofs.YtihnjndnkgnmaaaGreat
