import Derived.Test.YtihnjndnkgnmaaaGreatTk0
import Derived.Test.YtihnjndnkgnmaaaGreatFlt
import Derived.Maps.Own
import Derived.Maps.OwnSet
import Derived.Maps.Views
namespace Go.Proofs.YtihnjndnkgnmaaaGreat
open Go.RowKit Go.WideMaps Go.Maps

theorem law_str : Keyed Tryz.prog 9 := string_keyed Tryz.underlying9
theorem zero_int (w : World) : (zeroValue 3).run Tryz.prog w = .ok (.int .i64 0) w := by kernel_rfl

theorem run_makeMapHint {P : Program} {t k e : TypeId} (hu : P.underlying t = some (.map k e)) (q : IntKind) (n : Int) (w : World) : (Instr.makeMap t (some (.int q n))).run P w = .ok (.map (some w.heap.size)) (w.alloc (.map #[] 0)) := by
 simp [Instr.makeMap, run_underlying hu, asInt, asIntOf, Result.andThen]

theorem ownsMap_below {H : Type} {P : Program} {k : TypeId} {R : Value → Option (DataW H × List MemPlace)} {b n : Nat} {D : DataW H} {w w' : World} {B : Nat} (h : w.ownsMap P k R b n D) (hb : Below B w w') (hB : b < B) : w'.ownsMap P k R b n D := by
 obtain ⟨es, clock, h1, h2, h3, h4⟩ := h
 exact ⟨es, clock, (hb.block b hB).trans h1, h2, h3, h4⟩

def kOf (s : ByteArray) : Lit := .string s.data.toList

def placesTo (ns : List ByteArray) : Nat → DataW Unit
 | 0 => .map []
 | k + 1 => match ns[k]? with
  | some s => (placesTo ns k).put (kOf s) (.lit (.int .i64 k))
  | none => placesTo ns k

theorem placesTo_isMap (ns : List ByteArray) : ∀ k, IsMap (placesTo ns k)
 | 0 => ⟨_, rfl⟩
 | k + 1 => by
  unfold placesTo
  split
  ·exact IsMap.put (placesTo_isMap ns k) _ _
  ·exact placesTo_isMap ns k

theorem kOf_inj {s t : ByteArray} (h : kOf s = kOf t) : s = t := by
 unfold kOf at h
 injection h with h
 cases s with | mk a => cases t with | mk b => simp at h; simp [h]

def lastOf (ns : List ByteArray) (s : ByteArray) : Nat → Option Nat
 | 0 => none
 | k + 1 => if ns[k]? = some s then some k else lastOf ns s k

theorem has_places (ns : List ByteArray) (s : ByteArray) : ∀ k, has (placesTo ns k) (kOf s) = (lastOf ns s k).isSome
 | 0 => rfl
 | k + 1 => by
  unfold placesTo lastOf
  cases hk : ns[k]? with
  | none => simp; exact has_places ns s k
  | some t =>
   by_cases e : t = s
   ·subst e
    simp
    exact has_put_same (placesTo_isMap ns k) (show WideAt.IsKeyLit (kOf _) from trivial) _
   ·simp [e]
    rw [has_put_other (fun h => e (kOf_inj h).symm)]
    exact has_places ns s k

theorem at_places (ns : List ByteArray) (s : ByteArray) : ∀ k, (placesTo ns k).atKey (kOf s) (.lit (.int .i64 0)) = .lit (.int .i64 (((lastOf ns s k).getD 0 : Nat) : Int))
 | 0 => rfl
 | k + 1 => by
  unfold placesTo lastOf
  cases hk : ns[k]? with
  | none => simp; exact at_places ns s k
  | some t =>
   by_cases e : t = s
   ·subst e
    simp
    exact atKey_put_same (placesTo_isMap ns k) (show WideAt.IsKeyLit (kOf _) from trivial) _ _
   ·simp [e]
    rw [atKey_put_other (fun h => e (kOf_inj h).symm)]
    exact at_places ns s k

set_option maxHeartbeats 400000 in
theorem nameBrt_any (x : Brt) (a2 : Option Addr) (c2 : Nat) (w : World) :
  Calls Tryz.prog 86 #[.agg #[.string x.name, .string x.zone, .slice a2 x.marks.length c2, .int .i64 x.room, .int .i64 x.hold, .bool x.closed]] w fun e w' => e = .returned (.string x.name) ∧ Below w.heap.size w w' := by
 go_enter Tryz.func86, Tryz.ntmps86
 go_wp2
 go_ret
 exact ⟨rfl, by go_grown⟩

set_option maxHeartbeats 1000000 in
set_option maxRecDepth 100000 in
theorem placesBrt_any (xs : List Brt) (a : Option Addr) (cap lo : Nat) (w : World) (hin : SliceC BrtC 6 lo w a xs) (hsm : xs.length ≤ 1048576) :
  Calls Tryz.prog 85 #[.slice a xs.length cap, .func (.func 86) #[] #[]] w fun e w' => e = .returned (.map (some w.heap.size)) ∧ w'.ownsMap Tryz.prog 9 (plainElem Tryz.prog 3) w.heap.size xs.length (placesTo (xs.map (·.name)) xs.length) ∧ Below w.heap.size w w' := by
 have hmm : ∀ q n w, (Instr.makeMap 128 (some (.int q n))).run Tryz.prog w = .ok (.map (some w.heap.size)) (w.alloc (.map #[] 0)) := fun q n w => run_makeMapHint Tryz.underlying128 q n w
 have HI : Hid (SliceC BrtC 6 lo w a xs) := hin
 clear hin
 go_enter Tryz.func85, Tryz.ntmps85
 go_wp2_with fail
 go_loopw [13] (fun i wr => ∃ k : Nat, k ≤ xs.length ∧ i = .int .i64 k ∧ wr.ownsMap Tryz.prog 9 (plainElem Tryz.prog 3) w.heap.size k (placesTo (xs.map (·.name)) k) ∧ Below w.heap.size w wr)
  (fun i _ => xs.length - (intOf i).toNat)
 case atStart => exact ⟨0, Nat.zero_le _, rfl, World.ownsMap_made _ _ _ _, (Below.refl _ _).alloc nL _⟩
 case round =>
  obtain ⟨k, hk, rfl, hown, hbel⟩ := hrel
  by_cases hlt : k < xs.length
  ·obtain ⟨x, hx⟩ : ∃ x, xs[k]? = some x := ⟨xs[k], List.getElem?_eq_getElem hlt⟩
   obtain ⟨b, o, rfl, _, _, hc⟩ := (HI.out.below BrtC.holds hbel nL).at hx
   obtain ⟨a2, c2, q0, q1, q2, q3, q4, q5, z0, _, _⟩ := hc
   simp only [Nat.add_zero] at q0 q1 q2 q3 q4 q5
   have HP : Hid (placesTo (xs.map (·.name)) (k + 1) = (placesTo (xs.map (·.name)) k).put (kOf x.name) (.lit (.int .i64 k))) := by
    show _ = _
    simp [placesTo, hx]
   have hkey : keyOf Tryz.prog 9 (.string x.name) = some (kOf x.name) := keyOf_string_mk Tryz.underlying9 z0
   have HO : Hid (wr.ownsMap Tryz.prog 9 (plainElem Tryz.prog 3) w.heap.size k (placesTo (xs.map (·.name)) k)) := hown
   have HB : Hid (Below w.heap.size w wr) := hbel
   have hws : w.heap.size < wr.heap.size := hown.lt
   have HRA : Hid (wr.rangeAt b (o + k * 6) [.string x.name, .string x.zone, .slice a2 x.marks.length c2, .int .i64 x.room, .int .i64 x.hold, .bool x.closed]) := range_cons q0 (range_cons q1 (range_cons q2 (range_cons q3 (range_cons q4 (range_cons q5 (range_nil _ _ _))))))
   clear hx hown hbel q0 q1 q2 q3 q4 q5
   generalize placesTo (xs.map (·.name)) k = D at *
   go_upto_region 5 with (first | (refine wpList_load_mid rfl 45 _ rfl b (o + k * 6) (by first | rfl | (simp [go_sem]; done)) [.string x.name, .string x.zone, .slice a2 x.marks.length c2, .int .i64 x.room, .int .i64 x.hold, .bool x.closed] _ HRA.out Tryz.underlying45 rfl isz_Brt ?_))
   have HR4 : Hid ((wr.alloc (Obj.cells #[.string x.name, .string x.zone, .slice a2 x.marks.length c2, .int .i64 x.room, .int .i64 x.hold, .bool x.closed] 45)).rangeAt wr.heap.size 0 [.string x.name, .string x.zone, .slice a2 x.marks.length c2, .int .i64 x.room, .int .i64 x.hold, .bool x.closed]) := range_cons (by simp) (range_cons (by simp) (range_cons (by simp) (range_cons (by simp) (range_cons (by simp) (range_cons (by simp) (range_nil _ _ _))))))
   have HO4 : Hid ((wr.alloc (Obj.cells #[.string x.name, .string x.zone, .slice a2 x.marks.length c2, .int .i64 x.room, .int .i64 x.hold, .bool x.closed] 45)).ownsMap Tryz.prog 9 (plainElem Tryz.prog 3) w.heap.size k D) := HO.out.alloc _
   have HB4 : Hid (Below w.heap.size w (wr.alloc (Obj.cells #[.string x.name, .string x.zone, .slice a2 x.marks.length c2, .int .i64 x.room, .int .i64 x.hold, .bool x.closed] 45))) := HB.out.alloc (by omega) _
   generalize wr.alloc (Obj.cells #[.string x.name, .string x.zone, .slice a2 x.marks.length c2, .int .i64 x.room, .int .i64 x.hold, .bool x.closed] 45) = w4 at *
   go_wp2_with (first | (refine wpList_load_mid rfl 45 _ rfl wr.heap.size 0 rfl [.string x.name, .string x.zone, .slice a2 x.marks.length c2, .int .i64 x.room, .int .i64 x.hold, .bool x.closed] _ HR4.out Tryz.underlying45 rfl isz_Brt ?_))
   refine (nameBrt_any x a2 c2 _).mono ?_
   rintro e w5 ⟨rfl, hb5⟩
   have HO5 : Hid (w5.ownsMap Tryz.prog 9 (plainElem Tryz.prog 3) w.heap.size k D) := ownsMap_below HO4.out hb5 HO4.out.lt
   have HB5 : Hid (Below w.heap.size w w5) := HB4.out.trans (hb5.mono HB4.out.size)
   clear hb5 HO4 HB4 HR4
   go_wp2_with (at_mapUpdate; refine wpList_mapUpdate_own _ rfl _ _ _ 128 rfl 9 3 law_str Tryz.underlying128 _ w.heap.size k _ rfl HO5.out (by unfold maxLen; omega) _ _ _ rfl rfl hkey _ [] (plainElem_int Tryz.underlying3 (WalkArith.wf_i64 (by omega))) ?_; intro w6 hown6 hgrow6)
   have R1 := HP.out.symm ▸ hown6
   have R2 := HB5.out.grown hgrow6 HB5.out.size (fun j hj => by cases hj; exact Nat.le_refl _)
   have HR1 : Hid (w6.ownsMap Tryz.prog 9 (plainElem Tryz.prog 3) w.heap.size (k + 1) (placesTo (xs.map (·.name)) (k + 1))) := R1
   clear hown6 hgrow6 R1 hkey
   go_wp2_with fail
   go_roundw
   case rel => exact ⟨k + 1, by omega, by go_num, HR1.out, R2⟩
   case measure => simp [intOf]; omega
  ·have HO : Hid (wr.ownsMap Tryz.prog 9 (plainElem Tryz.prog 3) w.heap.size k (placesTo (xs.map (·.name)) k)) := hown
   clear hown
   go_wp2_with fail
   go_ret
   have hke : k = xs.length := by omega
   subst hke
   exact ⟨rfl, HO.out, hbel⟩

set_option maxHeartbeats 400000 in
theorem nameSvc_any (x : Svc)  (w : World) :
  Calls Tryz.prog 88 #[.agg #[.string x.name, .int .i64 x.spare]] w fun e w' => e = .returned (.string x.name) ∧ Below w.heap.size w w' := by
 go_enter Tryz.func88, Tryz.ntmps88
 go_wp2
 go_ret
 exact ⟨rfl, by go_grown⟩

set_option maxHeartbeats 1000000 in
set_option maxRecDepth 100000 in
theorem placesSvc_any (xs : List Svc) (a : Option Addr) (cap lo : Nat) (w : World) (hin : SliceC SvcC 2 lo w a xs) (hsm : xs.length ≤ 1048576) :
  Calls Tryz.prog 87 #[.slice a xs.length cap, .func (.func 88) #[] #[]] w fun e w' => e = .returned (.map (some w.heap.size)) ∧ w'.ownsMap Tryz.prog 9 (plainElem Tryz.prog 3) w.heap.size xs.length (placesTo (xs.map (·.name)) xs.length) ∧ Below w.heap.size w w' := by
 have hmm : ∀ q n w, (Instr.makeMap 128 (some (.int q n))).run Tryz.prog w = .ok (.map (some w.heap.size)) (w.alloc (.map #[] 0)) := fun q n w => run_makeMapHint Tryz.underlying128 q n w
 have HI : Hid (SliceC SvcC 2 lo w a xs) := hin
 clear hin
 go_enter Tryz.func87, Tryz.ntmps87
 go_wp2_with fail
 go_loopw [13] (fun i wr => ∃ k : Nat, k ≤ xs.length ∧ i = .int .i64 k ∧ wr.ownsMap Tryz.prog 9 (plainElem Tryz.prog 3) w.heap.size k (placesTo (xs.map (·.name)) k) ∧ Below w.heap.size w wr)
  (fun i _ => xs.length - (intOf i).toNat)
 case atStart => exact ⟨0, Nat.zero_le _, rfl, World.ownsMap_made _ _ _ _, (Below.refl _ _).alloc nL _⟩
 case round =>
  obtain ⟨k, hk, rfl, hown, hbel⟩ := hrel
  by_cases hlt : k < xs.length
  ·obtain ⟨x, hx⟩ : ∃ x, xs[k]? = some x := ⟨xs[k], List.getElem?_eq_getElem hlt⟩
   obtain ⟨b, o, rfl, _, _, hc⟩ := (HI.out.below SvcC.holds hbel nL).at hx
   obtain ⟨q0, q1, z0⟩ := hc
   simp only [Nat.add_zero] at q0 q1
   have HP : Hid (placesTo (xs.map (·.name)) (k + 1) = (placesTo (xs.map (·.name)) k).put (kOf x.name) (.lit (.int .i64 k))) := by
    show _ = _
    simp [placesTo, hx]
   have hkey : keyOf Tryz.prog 9 (.string x.name) = some (kOf x.name) := keyOf_string_mk Tryz.underlying9 z0
   have HO : Hid (wr.ownsMap Tryz.prog 9 (plainElem Tryz.prog 3) w.heap.size k (placesTo (xs.map (·.name)) k)) := hown
   have HB : Hid (Below w.heap.size w wr) := hbel
   have hws : w.heap.size < wr.heap.size := hown.lt
   have HRA : Hid (wr.rangeAt b (o + k * 2) [.string x.name, .int .i64 x.spare]) := range_cons q0 (range_cons q1 (range_nil _ _ _))
   clear hx hown hbel q0 q1
   generalize placesTo (xs.map (·.name)) k = D at *
   go_upto_region 5 with (first | (refine wpList_load_mid rfl 94 _ rfl b (o + k * 2) (by first | rfl | (simp [go_sem]; done)) [.string x.name, .int .i64 x.spare] _ HRA.out Tryz.underlying94 rfl isz_Svc ?_))
   have HR4 : Hid ((wr.alloc (Obj.cells #[.string x.name, .int .i64 x.spare] 94)).rangeAt wr.heap.size 0 [.string x.name, .int .i64 x.spare]) := range_cons (by simp) (range_cons (by simp) (range_nil _ _ _))
   have HO4 : Hid ((wr.alloc (Obj.cells #[.string x.name, .int .i64 x.spare] 94)).ownsMap Tryz.prog 9 (plainElem Tryz.prog 3) w.heap.size k D) := HO.out.alloc _
   have HB4 : Hid (Below w.heap.size w (wr.alloc (Obj.cells #[.string x.name, .int .i64 x.spare] 94))) := HB.out.alloc (by omega) _
   generalize wr.alloc (Obj.cells #[.string x.name, .int .i64 x.spare] 94) = w4 at *
   go_wp2_with (first | (refine wpList_load_mid rfl 94 _ rfl wr.heap.size 0 rfl [.string x.name, .int .i64 x.spare] _ HR4.out Tryz.underlying94 rfl isz_Svc ?_))
   refine (nameSvc_any x  _).mono ?_
   rintro e w5 ⟨rfl, hb5⟩
   have HO5 : Hid (w5.ownsMap Tryz.prog 9 (plainElem Tryz.prog 3) w.heap.size k D) := ownsMap_below HO4.out hb5 HO4.out.lt
   have HB5 : Hid (Below w.heap.size w w5) := HB4.out.trans (hb5.mono HB4.out.size)
   clear hb5 HO4 HB4 HR4
   go_wp2_with (at_mapUpdate; refine wpList_mapUpdate_own _ rfl _ _ _ 128 rfl 9 3 law_str Tryz.underlying128 _ w.heap.size k _ rfl HO5.out (by unfold maxLen; omega) _ _ _ rfl rfl hkey _ [] (plainElem_int Tryz.underlying3 (WalkArith.wf_i64 (by omega))) ?_; intro w6 hown6 hgrow6)
   have R1 := HP.out.symm ▸ hown6
   have R2 := HB5.out.grown hgrow6 HB5.out.size (fun j hj => by cases hj; exact Nat.le_refl _)
   have HR1 : Hid (w6.ownsMap Tryz.prog 9 (plainElem Tryz.prog 3) w.heap.size (k + 1) (placesTo (xs.map (·.name)) (k + 1))) := R1
   clear hown6 hgrow6 R1 hkey
   go_wp2_with fail
   go_roundw
   case rel => exact ⟨k + 1, by omega, by go_num, HR1.out, R2⟩
   case measure => simp [intOf]; omega
  ·have HO : Hid (wr.ownsMap Tryz.prog 9 (plainElem Tryz.prog 3) w.heap.size k (placesTo (xs.map (·.name)) k)) := hown
   clear hown
   go_wp2_with fail
   go_ret
   have hke : k = xs.length := by omega
   subst hke
   exact ⟨rfl, HO.out, hbel⟩

set_option maxHeartbeats 400000 in
theorem nameCpy_any (x : Cpy) (a7 : Option Addr) (c7 : Nat) (w : World) :
  Calls Tryz.prog 90 #[.agg #[.string x.name, .string x.service, .int .i64 x.rank, .int .i64 x.born, .int .i64 x.room, .int .i64 x.hold, .string x.select, .slice a7 x.likes.length c7, .int .i64 x.apart, .string x.near, .string x.fixed, .string x.at_]] w fun e w' => e = .returned (.string x.name) ∧ Below w.heap.size w w' := by
 go_enter Tryz.func90, Tryz.ntmps90
 go_wp2
 go_ret
 exact ⟨rfl, by go_grown⟩

set_option maxHeartbeats 1000000 in
set_option maxRecDepth 100000 in
theorem placesCpy_any (xs : List Cpy) (a : Option Addr) (cap lo : Nat) (w : World) (hin : SliceC CpyC 12 lo w a xs) (hsm : xs.length ≤ 1048576) :
  Calls Tryz.prog 89 #[.slice a xs.length cap, .func (.func 90) #[] #[]] w fun e w' => e = .returned (.map (some w.heap.size)) ∧ w'.ownsMap Tryz.prog 9 (plainElem Tryz.prog 3) w.heap.size xs.length (placesTo (xs.map (·.name)) xs.length) ∧ Below w.heap.size w w' := by
 have hmm : ∀ q n w, (Instr.makeMap 128 (some (.int q n))).run Tryz.prog w = .ok (.map (some w.heap.size)) (w.alloc (.map #[] 0)) := fun q n w => run_makeMapHint Tryz.underlying128 q n w
 have HI : Hid (SliceC CpyC 12 lo w a xs) := hin
 clear hin
 go_enter Tryz.func89, Tryz.ntmps89
 go_wp2_with fail
 go_loopw [13] (fun i wr => ∃ k : Nat, k ≤ xs.length ∧ i = .int .i64 k ∧ wr.ownsMap Tryz.prog 9 (plainElem Tryz.prog 3) w.heap.size k (placesTo (xs.map (·.name)) k) ∧ Below w.heap.size w wr)
  (fun i _ => xs.length - (intOf i).toNat)
 case atStart => exact ⟨0, Nat.zero_le _, rfl, World.ownsMap_made _ _ _ _, (Below.refl _ _).alloc nL _⟩
 case round =>
  obtain ⟨k, hk, rfl, hown, hbel⟩ := hrel
  by_cases hlt : k < xs.length
  ·obtain ⟨x, hx⟩ : ∃ x, xs[k]? = some x := ⟨xs[k], List.getElem?_eq_getElem hlt⟩
   obtain ⟨b, o, rfl, _, _, hc⟩ := (HI.out.below CpyC.holds hbel nL).at hx
   obtain ⟨a7, c7, q0, q1, q2, q3, q4, q5, q6, q7, q8, q9, q10, q11, z0, _, _, _, _, _, _⟩ := hc
   simp only [Nat.add_zero] at q0 q1 q2 q3 q4 q5 q6 q7 q8 q9 q10 q11
   have HP : Hid (placesTo (xs.map (·.name)) (k + 1) = (placesTo (xs.map (·.name)) k).put (kOf x.name) (.lit (.int .i64 k))) := by
    show _ = _
    simp [placesTo, hx]
   have hkey : keyOf Tryz.prog 9 (.string x.name) = some (kOf x.name) := keyOf_string_mk Tryz.underlying9 z0
   have HO : Hid (wr.ownsMap Tryz.prog 9 (plainElem Tryz.prog 3) w.heap.size k (placesTo (xs.map (·.name)) k)) := hown
   have HB : Hid (Below w.heap.size w wr) := hbel
   have hws : w.heap.size < wr.heap.size := hown.lt
   have HRA : Hid (wr.rangeAt b (o + k * 12) [.string x.name, .string x.service, .int .i64 x.rank, .int .i64 x.born, .int .i64 x.room, .int .i64 x.hold, .string x.select, .slice a7 x.likes.length c7, .int .i64 x.apart, .string x.near, .string x.fixed, .string x.at_]) := range_cons q0 (range_cons q1 (range_cons q2 (range_cons q3 (range_cons q4 (range_cons q5 (range_cons q6 (range_cons q7 (range_cons q8 (range_cons q9 (range_cons q10 (range_cons q11 (range_nil _ _ _))))))))))))
   clear hx hown hbel q0 q1 q2 q3 q4 q5 q6 q7 q8 q9 q10 q11
   generalize placesTo (xs.map (·.name)) k = D at *
   go_upto_region 5 with (first | (refine wpList_load_mid rfl 48 _ rfl b (o + k * 12) (by first | rfl | (simp [go_sem]; done)) [.string x.name, .string x.service, .int .i64 x.rank, .int .i64 x.born, .int .i64 x.room, .int .i64 x.hold, .string x.select, .slice a7 x.likes.length c7, .int .i64 x.apart, .string x.near, .string x.fixed, .string x.at_] _ HRA.out Tryz.underlying48 rfl isz_Cpy ?_))
   have HR4 : Hid ((wr.alloc (Obj.cells #[.string x.name, .string x.service, .int .i64 x.rank, .int .i64 x.born, .int .i64 x.room, .int .i64 x.hold, .string x.select, .slice a7 x.likes.length c7, .int .i64 x.apart, .string x.near, .string x.fixed, .string x.at_] 48)).rangeAt wr.heap.size 0 [.string x.name, .string x.service, .int .i64 x.rank, .int .i64 x.born, .int .i64 x.room, .int .i64 x.hold, .string x.select, .slice a7 x.likes.length c7, .int .i64 x.apart, .string x.near, .string x.fixed, .string x.at_]) := range_cons (by simp) (range_cons (by simp) (range_cons (by simp) (range_cons (by simp) (range_cons (by simp) (range_cons (by simp) (range_cons (by simp) (range_cons (by simp) (range_cons (by simp) (range_cons (by simp) (range_cons (by simp) (range_cons (by simp) (range_nil _ _ _))))))))))))
   have HO4 : Hid ((wr.alloc (Obj.cells #[.string x.name, .string x.service, .int .i64 x.rank, .int .i64 x.born, .int .i64 x.room, .int .i64 x.hold, .string x.select, .slice a7 x.likes.length c7, .int .i64 x.apart, .string x.near, .string x.fixed, .string x.at_] 48)).ownsMap Tryz.prog 9 (plainElem Tryz.prog 3) w.heap.size k D) := HO.out.alloc _
   have HB4 : Hid (Below w.heap.size w (wr.alloc (Obj.cells #[.string x.name, .string x.service, .int .i64 x.rank, .int .i64 x.born, .int .i64 x.room, .int .i64 x.hold, .string x.select, .slice a7 x.likes.length c7, .int .i64 x.apart, .string x.near, .string x.fixed, .string x.at_] 48))) := HB.out.alloc (by omega) _
   generalize wr.alloc (Obj.cells #[.string x.name, .string x.service, .int .i64 x.rank, .int .i64 x.born, .int .i64 x.room, .int .i64 x.hold, .string x.select, .slice a7 x.likes.length c7, .int .i64 x.apart, .string x.near, .string x.fixed, .string x.at_] 48) = w4 at *
   go_wp2_with (first | (refine wpList_load_mid rfl 48 _ rfl wr.heap.size 0 rfl [.string x.name, .string x.service, .int .i64 x.rank, .int .i64 x.born, .int .i64 x.room, .int .i64 x.hold, .string x.select, .slice a7 x.likes.length c7, .int .i64 x.apart, .string x.near, .string x.fixed, .string x.at_] _ HR4.out Tryz.underlying48 rfl isz_Cpy ?_))
   refine (nameCpy_any x a7 c7 _).mono ?_
   rintro e w5 ⟨rfl, hb5⟩
   have HO5 : Hid (w5.ownsMap Tryz.prog 9 (plainElem Tryz.prog 3) w.heap.size k D) := ownsMap_below HO4.out hb5 HO4.out.lt
   have HB5 : Hid (Below w.heap.size w w5) := HB4.out.trans (hb5.mono HB4.out.size)
   clear hb5 HO4 HB4 HR4
   go_wp2_with (at_mapUpdate; refine wpList_mapUpdate_own _ rfl _ _ _ 128 rfl 9 3 law_str Tryz.underlying128 _ w.heap.size k _ rfl HO5.out (by unfold maxLen; omega) _ _ _ rfl rfl hkey _ [] (plainElem_int Tryz.underlying3 (WalkArith.wf_i64 (by omega))) ?_; intro w6 hown6 hgrow6)
   have R1 := HP.out.symm ▸ hown6
   have R2 := HB5.out.grown hgrow6 HB5.out.size (fun j hj => by cases hj; exact Nat.le_refl _)
   have HR1 : Hid (w6.ownsMap Tryz.prog 9 (plainElem Tryz.prog 3) w.heap.size (k + 1) (placesTo (xs.map (·.name)) (k + 1))) := R1
   clear hown6 hgrow6 R1 hkey
   go_wp2_with fail
   go_roundw
   case rel => exact ⟨k + 1, by omega, by go_num, HR1.out, R2⟩
   case measure => simp [intOf]; omega
  ·have HO : Hid (wr.ownsMap Tryz.prog 9 (plainElem Tryz.prog 3) w.heap.size k (placesTo (xs.map (·.name)) k)) := hown
   clear hown
   go_wp2_with fail
   go_ret
   have hke : k = xs.length := by omega
   subst hke
   exact ⟨rfl, HO.out, hbel⟩

end Go.Proofs.YtihnjndnkgnmaaaGreat
