import Derived.Test.YtihnjndnkgnmaaaGreatTk0
import Derived.Test.YtihnjndnkgnmaaaGreatPlc
import Derived.Test.YtihnjndnkgnmaaaGreatVa3
import Derived.Test.YtihnjndnkgnmaaaGreatJ18
namespace Go.Proofs.YtihnjndnkgnmaaaGreat
open Go.RowKit Go.WideMaps Go.Maps

def useTo (cs : List Cpy) (s : ByteArray) (but : Int) : Nat → Int × Int × Int
 | 0 => (0, 0, 0)
 | k + 1 => match cs[k]? with
  | some c => if c.at_ = s ∧ (k : Int) ≠ but then (wrap64 ((useTo cs s but k).1 + 1), wrap64 ((useTo cs s but k).2.1 + c.room), wrap64 ((useTo cs s but k).2.2 + c.hold)) else useTo cs s but k
  | none => useTo cs s but k

theorem useTo_in {cs : List Cpy} {s : ByteArray} {but : Int} {k : Nat} {c : Cpy} (hk : cs[k]? = some c) (h1 : c.at_ = s) (h2 : (k : Int) ≠ but) : useTo cs s but (k + 1) = (wrap64 ((useTo cs s but k).1 + 1), wrap64 ((useTo cs s but k).2.1 + c.room), wrap64 ((useTo cs s but k).2.2 + c.hold)) := by
 conv => lhs; unfold useTo
 rw [hk]
 simp [h1, h2]

theorem useTo_out {cs : List Cpy} {s : ByteArray} {but : Int} {k : Nat} {c : Cpy} (hk : cs[k]? = some c) (h : ¬ (c.at_ = s ∧ (k : Int) ≠ but)) : useTo cs s but (k + 1) = useTo cs s but k := by
 conv => lhs; unfold useTo
 rw [hk]
 simp only [if_neg h]

theorem bts_ne {a b : ByteArray} (h : ¬ a = b) : (a.toList == b.toList) = false := by
 rw [ByteArray.toList_eq, ByteArray.toList_eq]
 have : ¬ a.data.toList = b.data.toList := fun e => h (by
  cases a with | mk x => cases b with | mk y => cases x; cases y; simp at e; simp [e])
 simpa using this

theorem bts_eq {a b : ByteArray} (h : a = b) : (a.toList == b.toList) = true := by subst h; simp

def idxB (bs : List Brt) (s : ByteArray) : Int := match bs.findIdx? (fun b => decide (b.name = s)) with
 | some k => k
 | none => -1

theorem idxB_at {bs : List Brt} {s : ByteArray} {k : Nat} {b : Brt} (hk : bs[k]? = some b) (h : b.name = s) (ho : ∀ j b, j < k → bs[j]? = some b → b.name ≠ s) : idxB bs s = k := by
 have : bs.findIdx? (fun b => decide (b.name = s)) = some k := by
  rw [List.findIdx?_eq_some_iff_getElem]
  have hlt := lt_of_some hk
  rw [List.getElem?_eq_getElem hlt] at hk
  injection hk with hk
  refine ⟨hlt, by simp [hk, h], fun j hj => ?_⟩
  have := ho j bs[j] hj (List.getElem?_eq_getElem (by omega))
  simpa using this
 simp [idxB, this]

theorem idxB_none {bs : List Brt} {s : ByteArray} (ho : ∀ j b, j < bs.length → bs[j]? = some b → b.name ≠ s) : idxB bs s = -1 := by
 have : bs.findIdx? (fun b => decide (b.name = s)) = none := by
  rw [List.findIdx?_eq_none_iff]
  intro b hb
  obtain ⟨j, hj⟩ := List.getElem?_of_mem hb
  simpa using ho j b (lt_of_some hj) hj
 simp [idxB, this]

set_option maxHeartbeats 1000000 in
set_option maxRecDepth 100000 in
theorem l2Berth_any (x : Flt) (a1 : Option Addr) (c1 : Nat) (a2 : Option Addr) (c2 : Nat) (a3 : Option Addr) (c3 : Nat) (lo : Nat) (s : ByteArray) (w : World) (n1 : SliceC BrtC 6 lo w a1 x.berths) (hl : x.berths.length ≤ 1048576) :
  Calls Tryz.prog 50 #[.agg #[.bool x.pack, .slice a1 x.berths.length c1, .slice a2 x.services.length c2, .slice a3 x.copies.length c3], .string s] w fun e w' => e = .returned (.int .i64 (idxB x.berths s)) ∧ Below w.heap.size w w' := by
 have HI : Hid (SliceC BrtC 6 lo w a1 x.berths) := n1
 clear n1
 generalize hbs : x.berths = bs at *
 clear hbs
 go_enter Tryz.func50, Tryz.ntmps50
 go_wp2_with fail
 go_loopw [5] (fun i wr => ∃ k : Nat, k ≤ bs.length ∧ i = .int .i64 k ∧ wr.cell? ⟨w.heap.size, 1, none⟩ = some (.slice a1 bs.length c1) ∧ Hid (∀ j b, j < k → bs[j]? = some b → b.name ≠ s) ∧ Below w.heap.size w wr) (fun i _ => bs.length - (intOf i).toNat)
 case atStart => exact ⟨0, Nat.zero_le _, rfl, by simp, fun j b h => by omega, by go_grown⟩
 case round =>
  obtain ⟨k, hk, rfl, hcell, ho, hbel⟩ := hrel
  by_cases hlt : k < bs.length
  ·obtain ⟨x, hx⟩ : ∃ x, bs[k]? = some x := ⟨bs[k], List.getElem?_eq_getElem hlt⟩
   obtain ⟨b, o, rfl, _, _, hc⟩ := (HI.out.below BrtC.holds hbel nL).at hx
   obtain ⟨a9, c9, q0, q1, q2, q3, q4, q5, z0, z1, n9⟩ := hc
   simp only [Nat.add_zero] at q0
   have HX : Hid (bs[k]? = some x) := hx
   clear hx q1 q2 q3 q4 q5 z0 z1 n9
   by_cases h : x.name = s
   ·have HZ : Hid (idxB bs s = k) := idxB_at HX.out h ho.out
    have ht := bts_eq h
    clear h
    go_wp2_with fail
    go_ret
    exact ⟨ret_int HZ.out.symm, hbel⟩
   ·have ht := bts_ne h
    go_wp2_with fail
    go_roundw
    case rel =>
     refine ⟨k + 1, by omega, by go_num, hcell, ?_, hbel⟩
     intro j y hj hy
     by_cases e : j = k
     ·subst e
      rw [HX.out] at hy
      cases hy
      exact h
     ·exact ho.out j y (by omega) hy
    case measure => simp [intOf]; omega
  ·have hke : k = bs.length := by omega
   have HZ : Hid (idxB bs s = -1) := idxB_none (hke ▸ ho.out)
   go_wp2_with fail
   go_ret
   exact ⟨ret_int HZ.out.symm, hbel⟩

theorem isz_use : (Tryz.prog.info? 163).map (·.size) = some 3 := by kernel_rfl

def UseAt (w : World) (g : Nat) (u : Int × Int × Int) : Prop :=
 w.rangeAt g 0 [.int .i64 u.1, .int .i64 u.2.1, .int .i64 u.2.2] ∧ w.there g 0 3

theorem UseAt.below {w w' : World} {g B : Nat} {u : Int × Int × Int} (h : UseAt w g u) (hb : Below B w w') (hB : g < B) : UseAt w' g u := by
 refine ⟨fun j v hj => ?_, fun j hj => ?_⟩
 ·rw [hb.cell (p := ⟨g, _, none⟩) hB]; exact h.1 j v hj
 ·rw [hb.cell (p := ⟨g, _, none⟩) hB, hb.frozen (p := ⟨g, _, none⟩) hB]; exact h.2 j hj

theorem UseAt.cells {w : World} {g : Nat} {u : Int × Int × Int} (h : UseAt w g u) : w.cell? ⟨g, 0, none⟩ = some (.int .i64 u.1) ∧ w.cell? ⟨g, 1, none⟩ = some (.int .i64 u.2.1) ∧ w.cell? ⟨g, 2, none⟩ = some (.int .i64 u.2.2) :=
 ⟨h.1 0 _ rfl, h.1 1 _ rfl, h.1 2 _ rfl⟩

theorem UseAt.set {w : World} {g : Nat} {u : Int × Int × Int} (h : UseAt w g u) (v : Int × Int × Int) : UseAt (w.setCells g 0 [.int .i64 v.1, .int .i64 v.2.1, .int .i64 v.2.2]) g v :=
 ⟨World.rangeAt_setCells_same _ _ _ _ h.2, World.there_setCells h.2 _ _ _⟩

set_option maxHeartbeats 1000000 in
set_option maxRecDepth 100000 in
theorem used_any (p : Nat) (cs : List Cpy) (a3 : Option Addr) (c3 lo : Nat) (s : ByteArray) (but : Int) (w : World) (hp : w.cell? ⟨p, 3, none⟩ = some (.slice a3 cs.length c3)) (n3 : SliceC CpyC 12 lo w a3 cs) (hl : cs.length ≤ 1048576) :
  Calls Tryz.prog 119 #[.pointer (some ⟨p, 0, none⟩), .string s, .int .i64 but] w fun e w' => e = .returned (.agg #[.int .i64 (useTo cs s but cs.length).1, .int .i64 (useTo cs s but cs.length).2.1, .int .i64 (useTo cs s but cs.length).2.2]) ∧ Below w.heap.size w w' := by
 have HI : Hid (SliceC CpyC 12 lo w a3 cs) := n3
 have hpl := block_lt_of_cell hp
 clear n3
 go_enter Tryz.func119, Tryz.ntmps119
 go_wp2_with fail
 go_loopw [16] (fun i wr => ∃ k : Nat, k ≤ cs.length ∧ i = .int .i64 k ∧ w.heap.size + 1 < wr.heap.size ∧ Hid (UseAt wr (w.heap.size + 1) (useTo cs s but k)) ∧ Hid (wr.there w.heap.size 0 3) ∧ Below w.heap.size w wr) (fun i _ => cs.length - (intOf i).toNat)
 case atStart =>
  refine ⟨0, Nat.zero_le _, rfl, by simp, ⟨?_, ?_⟩, ?_, by go_grown⟩
  ·exact range_cons (by simp [useTo]) (range_cons (by simp [useTo]) (range_cons (by simp [useTo]) (range_nil _ _ _)))
  ·exact there_cons (by simp; rfl) (by simp) (there_cons (by simp; rfl) (by simp) (there_cons (by simp; rfl) (by simp) (there_nil _ _ _)))
  ·exact there_cons (by simp; rfl) (by simp) (there_cons (by simp; rfl) (by simp) (there_cons (by simp; rfl) (by simp) (there_nil _ _ _)))
 case round =>
  obtain ⟨k, hk, rfl, hsz, hu, ht, hbel⟩ := hrel
  by_cases hlt : k < cs.length
  ·obtain ⟨x, hx⟩ : ∃ x, cs[k]? = some x := ⟨cs[k], List.getElem?_eq_getElem hlt⟩
   obtain ⟨b, o, rfl, _, _, hc⟩ := (HI.out.below CpyC.holds hbel nL).at hx
   obtain ⟨a7, c7, q0, q1, q2, q3, q4, q5, q6, q7, q8, q9, q10, q11, _, _, _, _, _, _, _⟩ := hc
   simp only [Nat.add_zero] at q0 q1 q2 q3 q4 q5 q6 q7 q8 q9 q10 q11
   have HRA : Hid (wr.rangeAt b (o + k * 12) [.string x.name, .string x.service, .int .i64 x.rank, .int .i64 x.born, .int .i64 x.room, .int .i64 x.hold, .string x.select, .slice a7 x.likes.length c7, .int .i64 x.apart, .string x.near, .string x.fixed, .string x.at_]) := range_cons q0 (range_cons q1 (range_cons q2 (range_cons q3 (range_cons q4 (range_cons q5 (range_cons q6 (range_cons q7 (range_cons q8 (range_cons q9 (range_cons q10 (range_cons q11 (range_nil _ _ _))))))))))))
   have HX : Hid (cs[k]? = some x) := hx
   have HB : Hid (Below w.heap.size w wr) := hbel
   clear hx q0 q1 q2 q3 q4 q5 q6 q7 q8 q9 q10 q11 hbel
   go_upto_region 5 with (first | (refine wpList_load_mid rfl 48 _ rfl b (o + k * 12) (by first | rfl | (simp [go_sem]; done)) [.string x.name, .string x.service, .int .i64 x.rank, .int .i64 x.born, .int .i64 x.room, .int .i64 x.hold, .string x.select, .slice a7 x.likes.length c7, .int .i64 x.apart, .string x.near, .string x.fixed, .string x.at_] _ HRA.out Tryz.underlying48 rfl isz_Cpy ?_))
   have hal : Below wr.heap.size wr (wr.alloc (Obj.cells #[.string x.name, .string x.service, .int .i64 x.rank, .int .i64 x.born, .int .i64 x.room, .int .i64 x.hold, .string x.select, .slice a7 x.likes.length c7, .int .i64 x.apart, .string x.near, .string x.fixed, .string x.at_] 48)) := (Below.refl _ _).alloc nL _
   have e4 : (wr.alloc (Obj.cells #[.string x.name, .string x.service, .int .i64 x.rank, .int .i64 x.born, .int .i64 x.room, .int .i64 x.hold, .string x.select, .slice a7 x.likes.length c7, .int .i64 x.apart, .string x.near, .string x.fixed, .string x.at_] 48)).cell? ⟨wr.heap.size, 4, none⟩ = some (.int .i64 x.room) := by simp
   have e5 : (wr.alloc (Obj.cells #[.string x.name, .string x.service, .int .i64 x.rank, .int .i64 x.born, .int .i64 x.room, .int .i64 x.hold, .string x.select, .slice a7 x.likes.length c7, .int .i64 x.apart, .string x.near, .string x.fixed, .string x.at_] 48)).cell? ⟨wr.heap.size, 5, none⟩ = some (.int .i64 x.hold) := by simp
   have e11 : (wr.alloc (Obj.cells #[.string x.name, .string x.service, .int .i64 x.rank, .int .i64 x.born, .int .i64 x.room, .int .i64 x.hold, .string x.select, .slice a7 x.likes.length c7, .int .i64 x.apart, .string x.near, .string x.fixed, .string x.at_] 48)).cell? ⟨wr.heap.size, 11, none⟩ = some (.string x.at_) := by simp
   have HU4 : Hid (UseAt (wr.alloc (Obj.cells #[.string x.name, .string x.service, .int .i64 x.rank, .int .i64 x.born, .int .i64 x.room, .int .i64 x.hold, .string x.select, .slice a7 x.likes.length c7, .int .i64 x.apart, .string x.near, .string x.fixed, .string x.at_] 48)) (w.heap.size + 1) (useTo cs s but k)) := hu.out.below hal (by omega)
   have HT4 : Hid ((wr.alloc (Obj.cells #[.string x.name, .string x.service, .int .i64 x.rank, .int .i64 x.born, .int .i64 x.room, .int .i64 x.hold, .string x.select, .slice a7 x.likes.length c7, .int .i64 x.apart, .string x.near, .string x.fixed, .string x.at_] 48)).there w.heap.size 0 3) := World.there_alloc ht.out _
   have HB4 : Hid (Below w.heap.size w (wr.alloc (Obj.cells #[.string x.name, .string x.service, .int .i64 x.rank, .int .i64 x.born, .int .i64 x.room, .int .i64 x.hold, .string x.select, .slice a7 x.likes.length c7, .int .i64 x.apart, .string x.near, .string x.fixed, .string x.at_] 48))) := HB.out.alloc (by omega) _
   have hs4 : w.heap.size + 1 < (wr.alloc (Obj.cells #[.string x.name, .string x.service, .int .i64 x.rank, .int .i64 x.born, .int .i64 x.room, .int .i64 x.hold, .string x.select, .slice a7 x.likes.length c7, .int .i64 x.apart, .string x.near, .string x.fixed, .string x.at_] 48)).heap.size := by simp; omega
   clear hal hu ht HB
   generalize wr.alloc (Obj.cells #[.string x.name, .string x.service, .int .i64 x.rank, .int .i64 x.born, .int .i64 x.room, .int .i64 x.hold, .string x.select, .slice a7 x.likes.length c7, .int .i64 x.apart, .string x.near, .string x.fixed, .string x.at_] 48) = w4 at *
   obtain ⟨u0, u1, u2⟩ := HU4.out.cells
   by_cases h : x.at_ = s ∧ (k : Int) ≠ but
   ·have HV : Hid (useTo cs s but (k + 1) = _) := useTo_in HX.out h.1 h.2
    have hte := bts_eq h.1
    have hkb := h.2
    obtain ⟨w5, hw5⟩ : ∃ w', w' = w4.setCells (w.heap.size + 1) 0 [.int .i64 (wrap64 ((useTo cs s but k).1 + 1)), .int .i64 (wrap64 ((useTo cs s but k).2.1 + x.room)), .int .i64 (wrap64 ((useTo cs s but k).2.2 + x.hold))] := ⟨_, rfl⟩
    have HW5 : Hid (w5 = w4.setCells (w.heap.size + 1) 0 [.int .i64 (wrap64 ((useTo cs s but k).1 + 1)), .int .i64 (wrap64 ((useTo cs s but k).2.1 + x.room)), .int .i64 (wrap64 ((useTo cs s but k).2.2 + x.hold))]) := hw5
    have HU5 : Hid (UseAt w5 (w.heap.size + 1) (useTo cs s but (k + 1))) := by rw [hw5, HV.out]; exact HU4.out.set (wrap64 ((useTo cs s but k).1 + 1), wrap64 ((useTo cs s but k).2.1 + x.room), wrap64 ((useTo cs s but k).2.2 + x.hold))
    have HT5 : Hid (w5.there w.heap.size 0 3) := by rw [hw5]; exact World.there_setCells HT4.out _ _ _
    have HB5 : Hid (Below w.heap.size w w5) := by rw [hw5]; exact below_setCells (by omega) _ _ _ HB4.out
    have hs5 : w.heap.size + 1 < w5.heap.size := by rw [hw5, size_setCells]; exact hs4
    have HTU : Hid (w4.there (w.heap.size + 1) 0 3) := HU4.out.2
    clear h hw5 HV HU4 HT4 HB4
    generalize useTo cs s but k = U at *
    go_wp2_with (first | (refine wpList_store_to rfl 163 _ _ rfl (w.heap.size + 1) 0 #[.int .i64 (wrap64 (U.1 + 1)), .int .i64 (wrap64 (U.2.1 + x.room)), .int .i64 (wrap64 (U.2.2 + x.hold))] rfl rfl HTU.out isz_use (by simp [Value.oneCell']) w5 HW5.out ?_))
    go_roundw
    case rel => exact ⟨k + 1, by omega, by go_num, hs5, HU5, HT5, HB5.out⟩
    case measure => simp [intOf]; omega
   ·have HV : Hid (useTo cs s but (k + 1) = useTo cs s but k) := useTo_out HX.out h
    by_cases h1 : x.at_ = s
    ·have hte := bts_eq h1
     have hkb : (k : Int) = but := by
      by_cases e : (k : Int) = but
      ·exact e
      ·exact absurd ⟨h1, e⟩ h
     clear h h1
     go_wp2_with fail
     go_roundw
     case rel => exact ⟨k + 1, by omega, by go_num, hs4, by rw [HV.out]; exact HU4, HT4, HB4.out⟩
     case measure => simp [intOf]; omega
    ·have hte := bts_ne h1
     clear h
     go_wp2_with fail
     go_roundw
     case rel => exact ⟨k + 1, by omega, by go_num, hs4, by rw [HV.out]; exact HU4, HT4, HB4.out⟩
     case measure => simp [intOf]; omega
  ·have hke : k = cs.length := by omega
   subst hke
   generalize hU : useTo cs s but cs.length = U at *
   have HUU : Hid (useTo cs s but cs.length = U) := hU
   clear hU
   have HRU : Hid (wr.rangeAt (w.heap.size + 1) 0 [.int .i64 U.1, .int .i64 U.2.1, .int .i64 U.2.2]) := hu.out.1
   obtain ⟨w5, hw5⟩ : ∃ w', w' = wr.setCells w.heap.size 0 [.int .i64 U.1, .int .i64 U.2.1, .int .i64 U.2.2] := ⟨_, rfl⟩
   have HW5 : Hid (w5 = wr.setCells w.heap.size 0 [.int .i64 U.1, .int .i64 U.2.1, .int .i64 U.2.2]) := hw5
   have HR5 : Hid (w5.rangeAt w.heap.size 0 [.int .i64 U.1, .int .i64 U.2.1, .int .i64 U.2.2]) := by rw [hw5]; exact World.rangeAt_setCells_same _ _ _ _ ht.out
   have HB5 : Hid (Below w.heap.size w w5) := by rw [hw5]; exact below_setCells nL _ _ _ hbel
   clear hw5 hbel
   go_wp2_with (first | (refine wpList_load_mid rfl 163 _ rfl (w.heap.size + 1) 0 rfl [.int .i64 U.1, .int .i64 U.2.1, .int .i64 U.2.2] _ HRU.out Tryz.underlying163 rfl isz_use ?_) | (refine wpList_store_to rfl 163 _ _ rfl w.heap.size 0 #[.int .i64 U.1, .int .i64 U.2.1, .int .i64 U.2.2] rfl rfl ht.out isz_use (by simp [Value.oneCell']) w5 HW5.out ?_))
   exact bodyPost_ret (results_cell_mid rfl _ _ w.heap.size [.int .i64 U.1, .int .i64 U.2.1, .int .i64 U.2.2] _ rfl HR5.out Tryz.underlying163 rfl isz_use) rfl ⟨by rw [HUU.out], HB5.out⟩

end Go.Proofs.YtihnjndnkgnmaaaGreat

namespace Go.Proofs.YtihnjndnkgnmaaaGreat
open Go.RowKit

def FndIn (p : Nat) (x : Flt) (a1 : Option Addr) (c1 : Nat) (a2 : Option Addr) (c2 : Nat) (a3 : Option Addr) (c3 : Nat) (w : World) : Prop :=
 w.cell? ⟨p, 1, none⟩ = some (.slice a1 x.berths.length c1) ∧ w.cell? ⟨p, 2, none⟩ = some (.slice a2 x.services.length c2) ∧ w.cell? ⟨p, 3, none⟩ = some (.slice a3 x.copies.length c3)

theorem FndIn.below {p : Nat} {x : Flt} {a1 : Option Addr} {c1 : Nat} {a2 : Option Addr} {c2 : Nat} {a3 : Option Addr} {c3 : Nat} {w w' : World} {B : Nat} (h : FndIn p x a1 c1 a2 c2 a3 c3 w) (hb : Below B w w') (hB : p < B) : FndIn p x a1 c1 a2 c2 a3 c3 w' :=
 ⟨(hb.cell (p := ⟨p, 1, none⟩) hB).trans h.1, (hb.cell (p := ⟨p, 2, none⟩) hB).trans h.2.1, (hb.cell (p := ⟨p, 3, none⟩) hB).trans h.2.2⟩

def fewOk (x : Flt) : Bool := decide (x.berths.length ≤ 12) && decide (x.services.length ≤ 30) && decide (x.copies.length ≤ 60)

set_option maxHeartbeats 1000000 in
theorem few_any (p : Nat) (x : Flt) (a1 : Option Addr) (c1 : Nat) (a2 : Option Addr) (c2 : Nat) (a3 : Option Addr) (c3 : Nat) (w : World) (hp : FndIn p x a1 c1 a2 c2 a3 c3 w) :
  Calls Tryz.prog 91 #[.pointer (some ⟨p, 0, none⟩)] w fun e w' => e = .returned (.bool (fewOk x)) ∧ Below w.heap.size w w' := by
 obtain ⟨p1, p2, p3⟩ := hp
 by_cases h1 : x.berths.length ≤ 12
 ·by_cases h2 : x.services.length ≤ 30
  ·by_cases h3 : x.copies.length ≤ 60
   ·have HC : Hid (fewOk x = true) := by show _ = _; simp [fewOk, h1, h2, h3]
    go_enter Tryz.func91, Tryz.ntmps91
    go_wp2_with fail
    go_ret
    exact ⟨ret_bool (by rw [HC.out]; exact decide_eq_true (by omega)), by go_grown⟩
   ·have HC : Hid (fewOk x = false) := by show _ = _; simp [fewOk, h3]
    go_enter Tryz.func91, Tryz.ntmps91
    go_wp2_with fail
    go_ret
    exact ⟨ret_bool (by rw [HC.out]; exact decide_eq_false (by omega)), by go_grown⟩
  ·have HC : Hid (fewOk x = false) := by show _ = _; simp [fewOk, h2]
   go_enter Tryz.func91, Tryz.ntmps91
   go_wp2_with fail
   go_ret
   exact ⟨ret_bool HC.out.symm, by go_grown⟩
 ·have HC : Hid (fewOk x = false) := by show _ = _; simp [fewOk, h1]
  go_enter Tryz.func91, Tryz.ntmps91
  go_wp2_with fail
  go_ret
  exact ⟨ret_bool HC.out.symm, by go_grown⟩

def ordOk (x : Flt) : Bool := ascTo (x.berths.map (·.name)) x.berths.length && ascTo (x.services.map (·.name)) x.services.length && ascTo (x.copies.map (·.name)) x.copies.length

set_option maxHeartbeats 1000000 in
theorem ord_any (p : Nat) (x : Flt) (a1 : Option Addr) (c1 : Nat) (a2 : Option Addr) (c2 : Nat) (a3 : Option Addr) (c3 : Nat) (lo : Nat) (w : World) (hp : FndIn p x a1 c1 a2 c2 a3 c3 w) (n1 : SliceC BrtC 6 lo w a1 x.berths) (n2 : SliceC SvcC 2 lo w a2 x.services) (n3 : SliceC CpyC 12 lo w a3 x.copies)
  (l1 : x.berths.length ≤ 1048576) (l2 : x.services.length ≤ 1048576) (l3 : x.copies.length ≤ 1048576) :
  Calls Tryz.prog 92 #[.pointer (some ⟨p, 0, none⟩)] w fun e w' => e = .returned (.bool (ordOk x)) ∧ Below w.heap.size w w' := by
 have N1 : Hid (SliceC BrtC 6 lo w a1 x.berths) := n1
 have N2 : Hid (SliceC SvcC 2 lo w a2 x.services) := n2
 have N3 : Hid (SliceC CpyC 12 lo w a3 x.copies) := n3
 have HP : Hid (FndIn p x a1 c1 a2 c2 a3 c3 w) := hp
 have hpl : p < w.heap.size := block_lt_of_cell hp.1
 obtain ⟨p1, _, _⟩ := hp
 clear n1 n2 n3
 go_enter Tryz.func92, Tryz.ntmps92
 go_wp2_with fail
 refine (ascBrt_any x.berths a1 c1 lo _ N1.out l1).mono ?_
 rintro e w1 ⟨rfl, hb1⟩
 have HP1 : Hid (FndIn p x a1 c1 a2 c2 a3 c3 w1) := HP.out.below hb1 hpl
 have HB1 : Hid (Below w.heap.size w w1) := hb1
 clear hb1 p1
 cases h1 : ascTo (x.berths.map (·.name)) x.berths.length
 ·have HC : Hid (ordOk x = false) := by show _ = _; simp only [ordOk, h1, Bool.false_and]
  clear h1
  go_wp2_with fail
  go_ret
  exact ⟨ret_bool HC.out.symm, HB1.out⟩
 have H1 : Hid (ascTo (x.berths.map (·.name)) x.berths.length = true) := h1
 clear h1
 obtain ⟨_, p2, _⟩ := HP1.out
 go_wp2_with fail
 refine (ascSvc_any x.services a2 c2 lo _ (N2.out.below SvcC.holds HB1.out nL) l2).mono ?_
 rintro e w2 ⟨rfl, hb2⟩
 have HP2 : Hid (FndIn p x a1 c1 a2 c2 a3 c3 w2) := HP1.out.below hb2 (Nat.lt_of_lt_of_le hpl HB1.out.size)
 have HB2 : Hid (Below w.heap.size w w2) := HB1.out.trans (hb2.mono HB1.out.size)
 clear hb2 p2
 cases h2 : ascTo (x.services.map (·.name)) x.services.length
 ·have HC : Hid (ordOk x = false) := by show _ = _; simp only [ordOk, h2, Bool.false_and, Bool.and_false]
  clear h2
  go_wp2_with fail
  go_ret
  exact ⟨ret_bool HC.out.symm, HB2.out⟩
 have H2 : Hid (ascTo (x.services.map (·.name)) x.services.length = true) := h2
 clear h2
 obtain ⟨_, _, p3⟩ := HP2.out
 go_wp2_with fail
 refine (ascCpy_any x.copies a3 c3 lo _ (N3.out.below CpyC.holds HB2.out nL) l3).mono ?_
 rintro e w3 ⟨rfl, hb3⟩
 have HB3 : Hid (Below w.heap.size w w3) := HB2.out.trans (hb3.mono HB2.out.size)
 have HC : Hid (ordOk x = ascTo (x.copies.map (·.name)) x.copies.length) := by show _ = _; simp only [ordOk, H1.out, H2.out, Bool.true_and]
 clear hb3 p3
 go_wp2_with fail
 go_ret
 exact ⟨ret_bool HC.out.symm, HB3.out⟩

def svcsOk (xs : List Svc) : Bool := xs.all fun s => inR s.spare 0 60

set_option maxHeartbeats 1000000 in
set_option maxRecDepth 100000 in
theorem svcs_any (p : Nat) (xs : List Svc) (a : Option Addr) (cap lo : Nat) (w : World) (hp : w.cell? ⟨p, 2, none⟩ = some (.slice a xs.length cap)) (hin : SliceC SvcC 2 lo w a xs) :
  Calls Tryz.prog 94 #[.pointer (some ⟨p, 0, none⟩)] w fun e w' => e = .returned (.bool (svcsOk xs)) ∧ Below w.heap.size w w' := by
 have hlen := hin.1
 unfold maxLen at hlen
 have HI : Hid (SliceC SvcC 2 lo w a xs) := hin
 clear hin
 go_enter Tryz.func94, Tryz.ntmps94
 go_wp2_with fail
 go_loopw [11] (fun i wr => ∃ k : Nat, k ≤ xs.length ∧ i = .int .i64 k ∧ Hid (∀ j x, j < k → xs[j]? = some x → inR x.spare 0 60 = true) ∧ Below w.heap.size w wr) (fun i _ => xs.length - (intOf i).toNat)
 case atStart => exact ⟨0, Nat.zero_le _, rfl, fun j x h => absurd h (Nat.not_lt_zero _), by go_grown⟩
 case round =>
  obtain ⟨k, hk, rfl, ho, hbel⟩ := hrel
  by_cases hlt : k < xs.length
  ·obtain ⟨x, hx⟩ : ∃ x, xs[k]? = some x := ⟨xs[k], List.getElem?_eq_getElem hlt⟩
   obtain ⟨b, o, rfl, _, _, hc⟩ := (HI.out.below SvcC.holds hbel nL).at hx
   obtain ⟨q0, q1, _⟩ := hc
   simp only [Nat.add_zero] at q0 q1
   have HX : Hid (xs[k]? = some x) := hx
   have HB : Hid (Below w.heap.size w wr) := hbel
   have HSZ : Hid (w.heap.size ≤ wr.heap.size) := hbel.size
   clear hx hbel
   go_wp2_with fail
   refine (isIn_any _ _ _ _).mono ?_
   rintro e w6 ⟨rfl, hb6⟩
   have HB6 : Hid (Below w.heap.size w w6) := (HB.out.alloc HSZ.out _).trans (hb6.mono (HB.out.alloc HSZ.out _).size)
   clear hb6 HB HSZ q0 q1
   cases hi : inR x.spare 0 60
   ·have HC : Hid (svcsOk xs = false) := by
     show _ = _
     exact List.all_eq_false.mpr ⟨x, List.mem_of_getElem? HX.out, by simp [hi]⟩
    clear hi
    go_wp2_with fail
    go_ret
    exact ⟨ret_bool HC.out.symm, HB6.out⟩
   ·have HO : Hid (∀ j y, j < k + 1 → xs[j]? = some y → inR y.spare 0 60 = true) := by
     intro j y hj hy
     by_cases e : j = k
     ·subst e
      rw [HX.out] at hy
      cases hy
      exact hi
     ·exact ho.out j y (by omega) hy
    clear hi ho
    go_wp2_with fail
    go_roundw
    case rel => exact ⟨k + 1, by omega, by go_num, HO, HB6.out⟩
    case measure => simp [intOf]; omega
  ·have hke : k = xs.length := by omega
   subst hke
   have HC : Hid (svcsOk xs = true) := by
    show _ = _
    simp only [svcsOk, List.all_eq_true]
    intro x hx
    obtain ⟨j, hj, e⟩ := List.mem_iff_getElem.mp hx
    exact ho.out j x hj (by rw [List.getElem?_eq_getElem hj, e])
   clear ho
   go_wp2_with fail
   go_ret
   exact ⟨ret_bool HC.out.symm, hbel⟩

end Go.Proofs.YtihnjndnkgnmaaaGreat

namespace Go.Proofs.YtihnjndnkgnmaaaGreat
open Go.RowKit Go.WideMaps Go.Maps

def mkAt (ms : List ByteArray) : Nat → Bool
 | 0 => match ms[0]? with
  | none => true
  | some m => isMk m && decide (cntOf (mName m) (keysR ms ms.length) ≤ 1)
 | j + 1 => match ms[j + 1]?, ms[j]? with
  | some m, some t => isMk m && Op.bytesLess t.toList m.toList && decide (cntOf (mName m) (keysR ms ms.length) ≤ 1)
  | _, _ => true

def mkTo (ms : List ByteArray) : Nat → Bool
 | 0 => true
 | k + 1 => mkTo ms k && mkAt ms k

def mkOk (ms : List ByteArray) : Bool := decide (ms.length ≤ 10) && mkTo ms ms.length

theorem mkTo_false {ms : List ByteArray} {k : Nat} (h : mkAt ms k = false) : ∀ n, k < n → mkTo ms n = false
 | 0, hn => absurd hn (Nat.not_lt_zero _)
 | n + 1, hn => by
  by_cases e : k = n
  ·subst e; simp only [mkTo, h, Bool.and_false]
  ·simp only [mkTo, mkTo_false h n (by omega), Bool.false_and]

theorem mkTo_step {ms : List ByteArray} {k : Nat} (h : mkTo ms k = true) (h' : mkAt ms k = true) : mkTo ms (k + 1) = true := by
 simp only [mkTo, h, h', Bool.and_self]

theorem mkOk_false {ms : List ByteArray} {k : Nat} (h : mkAt ms k = false) (hk : k < ms.length) : mkOk ms = false := by
 simp only [mkOk, mkTo_false h _ hk, Bool.and_false]

set_option maxHeartbeats 2000000 in
set_option maxRecDepth 100000 in
theorem marksOk_any (ms : List ByteArray) (a : Option Addr) (cap lo : Nat) (w : World) (hin : SliceC StrC 1 lo w a ms) :
  Calls Tryz.prog 117 #[.slice a ms.length cap] w fun e w' => e = .returned (.bool (mkOk ms)) ∧ Below w.heap.size w w' := by
 have hlen := hin.1
 unfold maxLen at hlen
 have HI : Hid (SliceC StrC 1 lo w a ms) := hin
 clear hin
 by_cases h10 : ms.length ≤ 10
 ·have HM : Hid (mkOk ms = mkTo ms ms.length) := by show _ = _; simp [mkOk, h10]
  have HF : Hid (∀ k, mkAt ms k = false → k < ms.length → mkOk ms = false) := fun k h hk => mkOk_false h hk
  go_enter Tryz.func117, Tryz.ntmps117
  go_wp2_with fail
  refine (marksOf_any ms a cap lo _ HI.out (by omega)).mono ?_
  rintro e w1 ⟨mb, n, rfl, ho1, hb1⟩
  have HO1 : Hid (w1.ownsMap Tryz.prog 9 (plainElem Tryz.prog 3) mb n (cntR (keysR ms ms.length))) := ho1
  have HB1 : Hid (Below w.heap.size w w1) := hb1
  clear ho1 hb1
  have HCN : Hid (∀ t, (cntR (keysR ms ms.length)).atKey (kOf t) (.lit (.int .i64 0)) = .lit (.int .i64 ((cntOf t (keysR ms ms.length) : Nat) : Int))) := fun t => at_cntR t _
  have HA0 : Hid (∀ m, ms[0]? = some m → mkAt ms 0 = (isMk m && decide (cntOf (mName m) (keysR ms ms.length) ≤ 1))) := fun m h => by simp only [mkAt, h]
  have HAJ : Hid (∀ j m t, ms[j + 1]? = some m → ms[j]? = some t → mkAt ms (j + 1) = (isMk m && Op.bytesLess t.toList m.toList && decide (cntOf (mName m) (keysR ms ms.length) ≤ 1))) := fun j m t h h' => by simp only [mkAt, h, h']
  have HKL : Hid ((keysR ms ms.length).length ≤ 2 * ms.length) := keysR_len ms _
  generalize keysR ms ms.length = R at *
  go_wp2_with fail
  go_loopw [16] (fun i wr => ∃ k : Nat, k ≤ ms.length ∧ i = .int .i64 k ∧ Hid (mkTo ms k = true) ∧ Hid (wr.ownsMap Tryz.prog 9 (plainElem Tryz.prog 3) mb n (cntR R)) ∧ Hid (Below w.heap.size w wr)) (fun i _ => ms.length - (intOf i).toNat)
  case atStart => exact ⟨0, Nat.zero_le _, rfl, rfl, HO1, HB1⟩
  case round =>
   clear HO1 HB1
   obtain ⟨k, hk, rfl, ht, ho, hb⟩ := hrel
   by_cases hlt : k < ms.length
   ·obtain ⟨m, hm⟩ : ∃ m, ms[k]? = some m := ⟨ms[k], List.getElem?_eq_getElem hlt⟩
    obtain ⟨b, o, rfl, _, _, hc⟩ := (HI.out.below StrC.holds hb.out nL).at hm
    obtain ⟨q0, z0⟩ := hc
    simp only [Nat.mul_one, Nat.add_zero] at q0
    have HX : Hid (ms[k]? = some m) := hm
    have HZ : Hid (m.size ≤ maxLen) := z0
    clear hm z0
    go_wp2_with fail
    refine (isMark_any m _ HZ.out).mono ?_
    rintro e w2 ⟨rfl, hb2⟩
    have HB2 : Hid (Below w.heap.size w w2) := hb.out.trans (hb2.mono hb.out.size)
    have HO2 : Hid (w2.ownsMap Tryz.prog 9 (plainElem Tryz.prog 3) mb n (cntR R)) := ownsMap_below ho.out hb2 ho.out.lt
    have HI2 : Hid (SliceC StrC 1 lo w2 (some ⟨b, o, none⟩) ms) := HI.out.below StrC.holds HB2.out nL
    clear hb2 hb ho q0
    have hkn : keyOf Tryz.prog 9 (.string (mName m)) = some (kOf (mName m)) := keyOf_string_mk Tryz.underlying9 (mName_size HZ.out)
    cases k with
    | zero =>
     have HAT : Hid (mkAt ms 0 = (isMk m && decide (cntOf (mName m) R ≤ 1))) := HA0.out m HX.out
     cases hmk : isMk m with
     | false =>
      have HC : Hid (mkOk ms = false) := HF.out 0 (by rw [HAT.out, hmk]; rfl) hlt
      clear hmk
      go_wp2_with fail
      go_ret
      exact ⟨ret_bool HC.out.symm, HB2.out⟩
     | true =>
      rw [hmk, Bool.true_and] at HAT
      clear hmk
      go_wp2_with fail
      refine (cut_any m _ HZ.out).mono ?_
      rintro e w3 ⟨rfl, hb3⟩
      have HB3 : Hid (Below w.heap.size w w3) := HB2.out.trans (hb3.mono HB2.out.size)
      have HO3 : Hid (w3.ownsMap Tryz.prog 9 (plainElem Tryz.prog 3) mb n (cntR R)) := ownsMap_below HO2.out hb3 HO2.out.lt
      have HAC : Hid ((cntR R).atKey (kOf (mName m)) (.lit (.int .i64 0)) = .lit (.int .i64 ((cntOf (mName m) R : Nat) : Int))) := HCN.out _
      clear hb3 HB2 HO2 HI2
      generalize mName m = nm at *
      generalize mVal m = vl at *
      generalize decide (eqIdx m < 0) = bb at *
      generalize cntOf nm R = c0 at *
      by_cases hc : c0 ≤ 1
      ·have HN : Hid (mkTo ms (0 + 1) = true) := mkTo_step ht.out (by rw [HAT.out]; exact decide_eq_true hc)
       clear HAT ht
       go_wp2_with (at_lookup; refine wpList_lookup_own_int _ rfl _ _ 179 rfl 9 3 .i64 law_str Tryz.underlying179 Tryz.underlying3 (zero_int _) mb _ _ rfl HO3.out _ _ rfl hkn ?_; intro c hcc _; obtain rfl := lit_int_inj (hcc.symm.trans HAC.out))
       go_roundw
       case rel => exact ⟨0 + 1, by omega, by go_num, HN, HO3, HB3⟩
       case measure => simp [intOf]; omega
      ·have HC : Hid (mkOk ms = false) := HF.out 0 (by rw [HAT.out]; simp [hc]) hlt
       clear HAT ht
       go_wp2_with (at_lookup; refine wpList_lookup_own_int _ rfl _ _ 179 rfl 9 3 .i64 law_str Tryz.underlying179 Tryz.underlying3 (zero_int _) mb _ _ rfl HO3.out _ _ rfl hkn ?_; intro c hcc _; obtain rfl := lit_int_inj (hcc.symm.trans HAC.out))
       go_ret
       exact ⟨ret_bool HC.out.symm, HB3.out⟩
    | succ j =>
     obtain ⟨t, htt⟩ : ∃ t, ms[j]? = some t := ⟨ms[j], List.getElem?_eq_getElem (by omega)⟩
     have HAT : Hid (mkAt ms (j + 1) = (isMk m && Op.bytesLess t.toList m.toList && decide (cntOf (mName m) R ≤ 1))) := HAJ.out j m t HX.out htt
     obtain ⟨b', o', hbo, _, _, hc'⟩ := HI2.out.at htt
     cases hbo
     obtain ⟨q1, z1⟩ := hc'
     simp only [Nat.mul_one, Nat.add_zero] at q1
     have hjl : j < ms.length := by omega
     clear htt z1
     cases hmk : isMk m with
     | false =>
      have HC : Hid (mkOk ms = false) := HF.out (j + 1) (by rw [HAT.out, hmk]; rfl) hlt
      clear hmk
      go_wp2_with fail
      go_ret
      exact ⟨ret_bool HC.out.symm, HB2.out⟩
     | true =>
      rw [hmk, Bool.true_and] at HAT
      clear hmk
      cases hless : Op.bytesLess t.toList m.toList with
      | false =>
       have HC : Hid (mkOk ms = false) := HF.out (j + 1) (by rw [HAT.out, hless]; rfl) hlt
       go_wp2_with fail
       go_ret
       exact ⟨ret_bool HC.out.symm, HB2.out⟩
      | true =>
       rw [hless, Bool.true_and] at HAT
       go_wp2_with fail
       refine (cut_any m _ HZ.out).mono ?_
       rintro e w3 ⟨rfl, hb3⟩
       have HB3 : Hid (Below w.heap.size w w3) := HB2.out.trans (hb3.mono HB2.out.size)
       have HO3 : Hid (w3.ownsMap Tryz.prog 9 (plainElem Tryz.prog 3) mb n (cntR R)) := ownsMap_below HO2.out hb3 HO2.out.lt
       have HAC : Hid ((cntR R).atKey (kOf (mName m)) (.lit (.int .i64 0)) = .lit (.int .i64 ((cntOf (mName m) R : Nat) : Int))) := HCN.out _
       clear hb3 HB2 HO2 HI2
       generalize mName m = nm at *
       generalize mVal m = vl at *
       generalize decide (eqIdx m < 0) = bb at *
       generalize cntOf nm R = c0 at *
       by_cases hc : c0 ≤ 1
       ·have HN : Hid (mkTo ms ((j + 1) + 1) = true) := mkTo_step ht.out (by rw [HAT.out]; exact decide_eq_true hc)
        clear HAT ht
        go_wp2_with (at_lookup; refine wpList_lookup_own_int _ rfl _ _ 179 rfl 9 3 .i64 law_str Tryz.underlying179 Tryz.underlying3 (zero_int _) mb _ _ rfl HO3.out _ _ rfl hkn ?_; intro c hcc _; obtain rfl := lit_int_inj (hcc.symm.trans HAC.out))
        go_roundw
        case rel => exact ⟨(j + 1) + 1, by omega, by go_num, HN, HO3, HB3⟩
        case measure => simp [intOf]; omega
       ·have HC : Hid (mkOk ms = false) := HF.out (j + 1) (by rw [HAT.out]; simp [hc]) hlt
        clear HAT ht
        go_wp2_with (at_lookup; refine wpList_lookup_own_int _ rfl _ _ 179 rfl 9 3 .i64 law_str Tryz.underlying179 Tryz.underlying3 (zero_int _) mb _ _ rfl HO3.out _ _ rfl hkn ?_; intro c hcc _; obtain rfl := lit_int_inj (hcc.symm.trans HAC.out))
        go_ret
        exact ⟨ret_bool HC.out.symm, HB3.out⟩
   ·have hke : k = ms.length := by omega
    subst hke
    have HC : Hid (mkOk ms = true) := by show _ = _; rw [HM.out]; exact ht.out
    clear ht
    go_wp2_with fail
    go_ret
    exact ⟨ret_bool HC.out.symm, hb.out⟩
 ·have HM : Hid (mkOk ms = false) := by show _ = _; simp [mkOk, h10]
  go_enter Tryz.func117, Tryz.ntmps117
  go_wp2_with fail
  go_ret
  exact ⟨ret_bool HM.out.symm, by go_grown⟩

end Go.Proofs.YtihnjndnkgnmaaaGreat
