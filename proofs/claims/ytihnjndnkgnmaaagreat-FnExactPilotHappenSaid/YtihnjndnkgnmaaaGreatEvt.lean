import Derived.Test.YtihnjndnkgnmaaaGreatTk0
import Derived.Test.YtihnjndnkgnmaaaGreatFlt
import Derived.Test.YtihnjndnkgnmaaaGreatJ8
namespace Go.Proofs.YtihnjndnkgnmaaaGreat
open Go.RowKit

structure Evt where
 kind : Int
 berth : Brt
 copy : Cpy
 name : ByteArray
 at_ : ByteArray

def wEvt (x : Evt) : Nat := wBrt x.berth + wCpy x.copy + x.name.size + x.at_.size

theorem Blk.thereAt {g : Nat} {cs : Array Value} {t : TypeId} {w : World} (h : Blk g cs t w) {o n : Nat} (hn : o + n ≤ cs.size) : w.there g o n := fun j hj => by
 refine ⟨?_, h.frozen _⟩
 rw [h.cell (o := o + j) (v := cs[o + j]'(by omega)) (Array.getElem?_eq_getElem (by omega))]
 rfl
theorem Blk.rangeAtO {g : Nat} {cs : Array Value} {t : TypeId} {w : World} (h : Blk g cs t w) (o : Nat) (l : List Value) (hl : ∀ j v, l[j]? = some v → cs[o + j]? = some v) : w.rangeAt g o l := fun j v hj => h.cell (hl j v hj)

set_option maxHeartbeats 2000000 in
theorem szEvt_any (x : Evt) (am : Option Addr) (cm : Nat) (al : Option Addr) (cl : Nat) (lo : Nat) (L : Int) (w : World) (z1 : x.berth.name.size ≤ maxLen) (z2 : x.berth.zone.size ≤ maxLen) (z7 : x.copy.name.size ≤ maxLen) (z8 : x.copy.service.size ≤ maxLen) (z13 : x.copy.select.size ≤ maxLen) (z16 : x.copy.near.size ≤ maxLen) (z17 : x.copy.fixed.size ≤ maxLen) (z18 : x.copy.at_.size ≤ maxLen) (z19 : x.name.size ≤ maxLen) (z20 : x.at_.size ≤ maxLen) (nm : SliceC StrC 1 lo w am x.berth.marks) (nl : SliceC LikC 2 lo w al x.copy.likes) (h0 : 0 ≤ L) (h1 : L ≤ 1048576) :
  Calls Tryz.prog 5 #[.agg #[.int .i64 x.kind, .string x.berth.name, .string x.berth.zone, .slice am x.berth.marks.length cm, .int .i64 x.berth.room, .int .i64 x.berth.hold, .bool x.berth.closed, .string x.copy.name, .string x.copy.service, .int .i64 x.copy.rank, .int .i64 x.copy.born, .int .i64 x.copy.room, .int .i64 x.copy.hold, .string x.copy.select, .slice al x.copy.likes.length cl, .int .i64 x.copy.apart, .string x.copy.near, .string x.copy.fixed, .string x.copy.at_, .string x.name, .string x.at_], .int .i64 L] w fun e w' => e = .returned (.int .i64 (szR (wEvt x) L)) ∧ Below w.heap.size w w' := by
 unfold maxLen at z19 z20
 have NM := iH nm
 have NL := iH nl
 clear nm nl
 have HW : Hid (wEvt x = wBrt x.berth + wCpy x.copy + x.name.size + x.at_.size) := rfl
 generalize wEvt x = W at *
 go_enter Tryz.func5, Tryz.ntmps5
 go_wp2_with fail
 refine (szBrt_any x.berth am cm lo L _ z1 z2 (NM.out.below StrC.holds (B := w.heap.size) (by go_grown) nL) h0 h1).mono ?_
 rintro e w1 ⟨rfl, hb1⟩
 have hB1 : Below w.heap.size w w1 := (show Below w.heap.size w _ by go_grown).trans (hb1.mono (by simp))
 have k1_7 : w1.cell? ⟨w.heap.size, 7, none⟩ = some (.string x.copy.name) := (hb1.cell (p := ⟨w.heap.size, 7, none⟩) (by simp)).trans (by simp)
 have k1_8 : w1.cell? ⟨w.heap.size, 8, none⟩ = some (.string x.copy.service) := (hb1.cell (p := ⟨w.heap.size, 8, none⟩) (by simp)).trans (by simp)
 have k1_9 : w1.cell? ⟨w.heap.size, 9, none⟩ = some (.int .i64 x.copy.rank) := (hb1.cell (p := ⟨w.heap.size, 9, none⟩) (by simp)).trans (by simp)
 have k1_10 : w1.cell? ⟨w.heap.size, 10, none⟩ = some (.int .i64 x.copy.born) := (hb1.cell (p := ⟨w.heap.size, 10, none⟩) (by simp)).trans (by simp)
 have k1_11 : w1.cell? ⟨w.heap.size, 11, none⟩ = some (.int .i64 x.copy.room) := (hb1.cell (p := ⟨w.heap.size, 11, none⟩) (by simp)).trans (by simp)
 have k1_12 : w1.cell? ⟨w.heap.size, 12, none⟩ = some (.int .i64 x.copy.hold) := (hb1.cell (p := ⟨w.heap.size, 12, none⟩) (by simp)).trans (by simp)
 have k1_13 : w1.cell? ⟨w.heap.size, 13, none⟩ = some (.string x.copy.select) := (hb1.cell (p := ⟨w.heap.size, 13, none⟩) (by simp)).trans (by simp)
 have k1_14 : w1.cell? ⟨w.heap.size, 14, none⟩ = some (.slice al x.copy.likes.length cl) := (hb1.cell (p := ⟨w.heap.size, 14, none⟩) (by simp)).trans (by simp)
 have k1_15 : w1.cell? ⟨w.heap.size, 15, none⟩ = some (.int .i64 x.copy.apart) := (hb1.cell (p := ⟨w.heap.size, 15, none⟩) (by simp)).trans (by simp)
 have k1_16 : w1.cell? ⟨w.heap.size, 16, none⟩ = some (.string x.copy.near) := (hb1.cell (p := ⟨w.heap.size, 16, none⟩) (by simp)).trans (by simp)
 have k1_17 : w1.cell? ⟨w.heap.size, 17, none⟩ = some (.string x.copy.fixed) := (hb1.cell (p := ⟨w.heap.size, 17, none⟩) (by simp)).trans (by simp)
 have k1_18 : w1.cell? ⟨w.heap.size, 18, none⟩ = some (.string x.copy.at_) := (hb1.cell (p := ⟨w.heap.size, 18, none⟩) (by simp)).trans (by simp)
 have k1_19 : w1.cell? ⟨w.heap.size, 19, none⟩ = some (.string x.name) := (hb1.cell (p := ⟨w.heap.size, 19, none⟩) (by simp)).trans (by simp)
 have k1_20 : w1.cell? ⟨w.heap.size, 20, none⟩ = some (.string x.at_) := (hb1.cell (p := ⟨w.heap.size, 20, none⟩) (by simp)).trans (by simp)
 have hs1 : w.heap.size < w1.heap.size := by have := hb1.size; simp at this; omega
 clear hb1
 generalize wBrt x.berth = V at *
 by_cases d0 : (V : Int) ≤ L
 case neg =>
  rw [szR_neg d0]
  go_wp2_with fail
  go_ret
  exact ⟨ret_int (by have := HW.out; unfold szR; rw [if_neg (by omega)]), hB1⟩
 rw [szR_pos d0]
 go_wp2_with fail
 refine (szCpy_any x.copy al cl lo _ _ z7 z8 z13 z16 z17 z18 (NL.out.below LikC.holds (B := w.heap.size) hB1 nL) (by omega) (by omega)).mono ?_
 rintro e w2 ⟨rfl, hb2⟩
 have hB2 : Below w.heap.size w w2 := hB1.trans (hb2.mono (by omega))
 have k2_19 : w2.cell? ⟨w.heap.size, 19, none⟩ = some (.string x.name) := (hb2.cell (p := ⟨w.heap.size, 19, none⟩) hs1).trans k1_19
 have k2_20 : w2.cell? ⟨w.heap.size, 20, none⟩ = some (.string x.at_) := (hb2.cell (p := ⟨w.heap.size, 20, none⟩) hs1).trans k1_20
 clear hb2 hB1 hs1 k1_7 k1_8 k1_9 k1_10 k1_11 k1_12 k1_13 k1_14 k1_15 k1_16 k1_17 k1_18 k1_19 k1_20
 generalize wCpy x.copy = U at *
 by_cases d1 : (U : Int) ≤ L - (V : Nat)
 case neg =>
  rw [szR_neg d1]
  go_wp2_with fail
  go_ret
  exact ⟨ret_int (by have := HW.out; unfold szR; rw [if_neg (by omega)]), hB2⟩
 rw [szR_pos d1]
 by_cases d2 : L - (V : Nat) - (U : Nat) - (x.name.size : Nat) < 0
 ·go_wp2_with fail
  go_ret
  exact ⟨ret_int (by have := HW.out; unfold szR; rw [if_neg (by omega)]), hB2⟩
 by_cases d3 : L - (V : Nat) - (U : Nat) - (x.name.size : Nat) - (x.at_.size : Nat) < 0
 ·go_wp2_with fail
  go_ret
  exact ⟨ret_int (by have := HW.out; unfold szR; rw [if_neg (by omega)]), hB2⟩
 go_wp2_with fail
 go_ret
 exact ⟨ret_int (by have := HW.out; unfold szR; rw [if_pos (by omega)]; omega), hB2⟩

theorem isz_Evt : (Tryz.prog.info? 50).map (·.size) = some 21 := by kernel_rfl
theorem isz_lBrt : (Tryz.prog.info? 29).map (·.size) = some 6 := by kernel_rfl
theorem isz_lCpy : (Tryz.prog.info? 32).map (·.size) = some 12 := by kernel_rfl

set_option maxHeartbeats 4000000 in
set_option maxRecDepth 100000 in
theorem toEvt_any (x : Evt) (am : Option Addr) (cm : Nat) (al : Option Addr) (cl : Nat) (lo : Nat) (w : World) (nm : SliceC StrC 1 lo w am x.berth.marks) (nl : SliceC LikC 2 lo w al x.copy.likes) (hsm : wEvt x ≤ 1048576) :
  Calls Tryz.prog 8 #[.agg #[.int .i64 x.kind, .string x.berth.name, .string x.berth.zone, .slice am x.berth.marks.length cm, .int .i64 x.berth.room, .int .i64 x.berth.hold, .bool x.berth.closed, .string x.copy.name, .string x.copy.service, .int .i64 x.copy.rank, .int .i64 x.copy.born, .int .i64 x.copy.room, .int .i64 x.copy.hold, .string x.copy.select, .slice al x.copy.likes.length cl, .int .i64 x.copy.apart, .string x.copy.near, .string x.copy.fixed, .string x.copy.at_, .string x.name, .string x.at_]] w fun e w' => ∃ gm gl, e = .returned (.agg #[.int .i64 x.kind, .string x.berth.name, .string x.berth.zone, .slice (some ⟨gm, 0, none⟩) x.berth.marks.length x.berth.marks.length, .int .i64 x.berth.room, .int .i64 x.berth.hold, .bool x.berth.closed, .string x.copy.name, .string x.copy.service, .int .i64 x.copy.rank, .int .i64 x.copy.born, .int .i64 x.copy.room, .int .i64 x.copy.hold, .string x.copy.select, .slice (some ⟨gl, 0, none⟩) x.copy.likes.length x.copy.likes.length, .int .i64 x.copy.apart, .string x.copy.near, .string x.copy.fixed, .string x.copy.at_, .string x.name, .string x.at_]) ∧ SliceC StrC 1 w.heap.size w' (some ⟨gm, 0, none⟩) x.berth.marks ∧ SliceC LikC 2 w.heap.size w' (some ⟨gl, 0, none⟩) x.copy.likes ∧ Below w.heap.size w w' := by
 have NM := iH nm
 have NL := iH nl
 have M1 : wBrt x.berth ≤ 1048576 := by unfold wEvt at hsm; omega
 have M2 : wCpy x.copy ≤ 1048576 := by unfold wEvt at hsm; omega
 clear nm nl hsm
 obtain ⟨VA, hVA⟩ : ∃ V : Array Value, V = #[.int .i64 x.kind, .string x.berth.name, .string x.berth.zone, .slice am x.berth.marks.length cm, .int .i64 x.berth.room, .int .i64 x.berth.hold, .bool x.berth.closed, .string x.copy.name, .string x.copy.service, .int .i64 x.copy.rank, .int .i64 x.copy.born, .int .i64 x.copy.room, .int .i64 x.copy.hold, .string x.copy.select, .slice al x.copy.likes.length cl, .int .i64 x.copy.apart, .string x.copy.near, .string x.copy.fixed, .string x.copy.at_, .string x.name, .string x.at_] := ⟨_, rfl⟩
 obtain ⟨VZ, hVZ⟩ : ∃ V : Array Value, V = #[.int .i64 0, .string ⟨#[]⟩, .string ⟨#[]⟩, .slice none 0 0, .int .i64 0, .int .i64 0, .bool false, .string ⟨#[]⟩, .string ⟨#[]⟩, .int .i64 0, .int .i64 0, .int .i64 0, .int .i64 0, .string ⟨#[]⟩, .slice none 0 0, .int .i64 0, .string ⟨#[]⟩, .string ⟨#[]⟩, .string ⟨#[]⟩, .string ⟨#[]⟩, .string ⟨#[]⟩] := ⟨_, rfl⟩
 have h1 := Blk.alloc w VA 34
 have h2 : Blk (w.heap.size + 1) VZ 50 ((w.alloc (Obj.cells VA 34)).alloc (Obj.cells VZ 50)) := by
  have := Blk.alloc (w.alloc (Obj.cells VA 34)) VZ 50
  simpa using this
 have HO3 : Hid (Blk (w.heap.size + 1 + 1) VZ 50 (((w.alloc (Obj.cells VA 34)).alloc (Obj.cells VZ 50)).alloc (Obj.cells VZ 50))) := by
  have := Blk.alloc ((w.alloc (Obj.cells VA 34)).alloc (Obj.cells VZ 50)) VZ 50
  show Blk _ _ _ _
  simpa using this
 have HA3 : Hid (Blk w.heap.size VA 34 (((w.alloc (Obj.cells VA 34)).alloc (Obj.cells VZ 50)).alloc (Obj.cells VZ 50))) := (h1.below ((Below.refl _ _).alloc nL _) h1.lt).below ((Below.refl _ _).alloc nL _) (by simp; omega)
 have HR3 : Hid (Blk (w.heap.size + 1) VZ 50 (((w.alloc (Obj.cells VA 34)).alloc (Obj.cells VZ 50)).alloc (Obj.cells VZ 50))) := h2.below ((Below.refl _ _).alloc nL _) h2.lt
 have hB3 : Below w.heap.size w (((w.alloc (Obj.cells VA 34)).alloc (Obj.cells VZ 50)).alloc (Obj.cells VZ 50)) := by go_grown
 clear h1 h2
 subst hVA hVZ
 go_enter Tryz.func8, Tryz.ntmps8
 go_upto_region 2 with fail
 generalize (((w.alloc (Obj.cells #[.int .i64 x.kind, .string x.berth.name, .string x.berth.zone, .slice am x.berth.marks.length cm, .int .i64 x.berth.room, .int .i64 x.berth.hold, .bool x.berth.closed, .string x.copy.name, .string x.copy.service, .int .i64 x.copy.rank, .int .i64 x.copy.born, .int .i64 x.copy.room, .int .i64 x.copy.hold, .string x.copy.select, .slice al x.copy.likes.length cl, .int .i64 x.copy.apart, .string x.copy.near, .string x.copy.fixed, .string x.copy.at_, .string x.name, .string x.at_] 34)).alloc (Obj.cells #[.int .i64 0, .string ⟨#[]⟩, .string ⟨#[]⟩, .slice none 0 0, .int .i64 0, .int .i64 0, .bool false, .string ⟨#[]⟩, .string ⟨#[]⟩, .int .i64 0, .int .i64 0, .int .i64 0, .int .i64 0, .string ⟨#[]⟩, .slice none 0 0, .int .i64 0, .string ⟨#[]⟩, .string ⟨#[]⟩, .string ⟨#[]⟩, .string ⟨#[]⟩, .string ⟨#[]⟩] 50)).alloc (Obj.cells #[.int .i64 0, .string ⟨#[]⟩, .string ⟨#[]⟩, .slice none 0 0, .int .i64 0, .int .i64 0, .bool false, .string ⟨#[]⟩, .string ⟨#[]⟩, .int .i64 0, .int .i64 0, .int .i64 0, .int .i64 0, .string ⟨#[]⟩, .slice none 0 0, .int .i64 0, .string ⟨#[]⟩, .string ⟨#[]⟩, .string ⟨#[]⟩, .string ⟨#[]⟩, .string ⟨#[]⟩] 50)) = w3 at *
 have hz3 : w.heap.size + 1 + 1 < w3.heap.size := HO3.out.lt
 have k0 : w3.cell? ⟨w.heap.size, 0, none⟩ = some (.int .i64 x.kind) := HA3.out.cell rfl
 have ko : w3.cell? ⟨w.heap.size + 1 + 1, 0, none⟩ = some (.int .i64 0) := HO3.out.cell rfl
 have fo := HO3.out.frozen 0
 go_upto_region 3 with fail
 have HO4 : Hid (Blk (w.heap.size + 1 + 1) #[.int .i64 x.kind, .string ⟨#[]⟩, .string ⟨#[]⟩, .slice none 0 0, .int .i64 0, .int .i64 0, .bool false, .string ⟨#[]⟩, .string ⟨#[]⟩, .int .i64 0, .int .i64 0, .int .i64 0, .int .i64 0, .string ⟨#[]⟩, .slice none 0 0, .int .i64 0, .string ⟨#[]⟩, .string ⟨#[]⟩, .string ⟨#[]⟩, .string ⟨#[]⟩, .string ⟨#[]⟩] 50 (w3.setCell ⟨w.heap.size + 1 + 1, 0, none⟩ (.int .i64 x.kind))) := HO3.out.set 0 _
 have HA4 := iH (HA3.out.other (a := ⟨w.heap.size + 1 + 1, 0, none⟩) (show w.heap.size ≠ w.heap.size + 1 + 1 by omega) (.int .i64 x.kind))
 have HR4 := iH (HR3.out.other (a := ⟨w.heap.size + 1 + 1, 0, none⟩) (show w.heap.size + 1 ≠ w.heap.size + 1 + 1 by omega) (.int .i64 x.kind))
 have hB4 : Below w.heap.size w (w3.setCell ⟨w.heap.size + 1 + 1, 0, none⟩ (.int .i64 x.kind)) := hB3.setCell (p := ⟨w.heap.size + 1 + 1, 0, none⟩) (show w.heap.size ≤ w.heap.size + 1 + 1 by omega) _
 clear k0 ko fo HO3 HA3 HR3 hB3 hz3
 generalize (w3.setCell ⟨w.heap.size + 1 + 1, 0, none⟩ (.int .i64 x.kind)) = w4 at *
 have HL4 : Hid (w4.rangeAt w.heap.size 1 [.string x.berth.name, .string x.berth.zone, .slice am x.berth.marks.length cm, .int .i64 x.berth.room, .int .i64 x.berth.hold, .bool x.berth.closed]) := range_cons (HA4.out.cell rfl) (range_cons (HA4.out.cell rfl) (range_cons (HA4.out.cell rfl) (range_cons (HA4.out.cell rfl) (range_cons (HA4.out.cell rfl) (range_cons (HA4.out.cell rfl) (range_nil _ _ _))))))
 go_wp2_with (refine wpList_load_mid rfl 29 _ rfl w.heap.size 1 rfl [.string x.berth.name, .string x.berth.zone, .slice am x.berth.marks.length cm, .int .i64 x.berth.room, .int .i64 x.berth.hold, .bool x.berth.closed] _ HL4.out Tryz.underlying29 rfl isz_lBrt ?_)
 refine (toBrt_any x.berth am cm lo _ (NM.out.below StrC.holds (B := w.heap.size) hB4 nL) M1).mono ?_
 rintro e w5 ⟨gm, rfl, qm, hb5⟩
 have HA5 := iH (HA4.out.below hb5 HA4.out.lt)
 have HO5 := iH (HO4.out.below hb5 HO4.out.lt)
 have HR5 := iH (HR4.out.below hb5 HR4.out.lt)
 have hB5 : Below w.heap.size w w5 := hB4.trans (hb5.mono hB4.size)
 have hz4 : w.heap.size + 1 + 1 < w4.heap.size := HO4.out.lt
 have Pm : Hid (SliceC StrC 1 (w.heap.size + 1 + 1 + 1) w5 (some ⟨gm, 0, none⟩) x.berth.marks) := qm.keep StrC.holds (Keeps.refl _ _) (by omega)
 clear HL4 HA4 HO4 HR4 hB4 hb5 qm hz4
 obtain ⟨w6, HW6⟩ : ∃ w', Hid (w' = w5.setCells (w.heap.size + 1 + 1) 1 [.string x.berth.name, .string x.berth.zone, .slice (some ⟨gm, 0, none⟩) x.berth.marks.length x.berth.marks.length, .int .i64 x.berth.room, .int .i64 x.berth.hold, .bool x.berth.closed]) := ⟨_, rfl⟩
 have HT5 : Hid (w5.there (w.heap.size + 1 + 1) 1 6) := HO5.out.thereAt (by show 1 + 6 ≤ 21; omega)
 have HO6 : Hid (Blk (w.heap.size + 1 + 1) #[.int .i64 x.kind, .string x.berth.name, .string x.berth.zone, .slice (some ⟨gm, 0, none⟩) x.berth.marks.length x.berth.marks.length, .int .i64 x.berth.room, .int .i64 x.berth.hold, .bool x.berth.closed, .string ⟨#[]⟩, .string ⟨#[]⟩, .int .i64 0, .int .i64 0, .int .i64 0, .int .i64 0, .string ⟨#[]⟩, .slice none 0 0, .int .i64 0, .string ⟨#[]⟩, .string ⟨#[]⟩, .string ⟨#[]⟩, .string ⟨#[]⟩, .string ⟨#[]⟩] 50 w6) := by
  have := Blk.setRow [.string x.berth.name, .string x.berth.zone, .slice (some ⟨gm, 0, none⟩) x.berth.marks.length x.berth.marks.length, .int .i64 x.berth.room, .int .i64 x.berth.hold, .bool x.berth.closed] 1 _ _ HO5.out
  simp only [setRow, List.setIfInBounds_toArray, List.set_cons_succ, List.set_cons_zero] at this
  show Blk _ _ _ _
  rw [HW6.out]
  exact this
 have HA6 := blk_setCells_other (show w.heap.size ≠ w.heap.size + 1 + 1 by omega) [.string x.berth.name, .string x.berth.zone, .slice (some ⟨gm, 0, none⟩) x.berth.marks.length x.berth.marks.length, .int .i64 x.berth.room, .int .i64 x.berth.hold, .bool x.berth.closed] 1 w5 HA5.out
 rw [← HW6.out] at HA6
 replace HA6 := iH HA6
 have HR6 := blk_setCells_other (show w.heap.size + 1 ≠ w.heap.size + 1 + 1 by omega) [.string x.berth.name, .string x.berth.zone, .slice (some ⟨gm, 0, none⟩) x.berth.marks.length x.berth.marks.length, .int .i64 x.berth.room, .int .i64 x.berth.hold, .bool x.berth.closed] 1 w5 HR5.out
 rw [← HW6.out] at HR6
 replace HR6 := iH HR6
 have hB6 : Below w.heap.size w w6 := by rw [HW6.out]; exact below_setCells (by omega) _ _ _ hB5
 replace Pm : Hid (SliceC StrC 1 (w.heap.size + 1 + 1 + 1) w6 (some ⟨gm, 0, none⟩) x.berth.marks) := by
  show SliceC _ _ _ _ _ _
  rw [HW6.out]
  exact Pm.out.keep StrC.holds (Keeps.setCells (by omega) _ _ _) nL
 clear HA5 HO5 HR5 hB5
 go_wp2_with (refine wpList_store_to rfl 45 _ _ rfl (w.heap.size + 1 + 1) 1 #[.string x.berth.name, .string x.berth.zone, .slice (some ⟨gm, 0, none⟩) x.berth.marks.length x.berth.marks.length, .int .i64 x.berth.room, .int .i64 x.berth.hold, .bool x.berth.closed] rfl rfl HT5.out isz_Brt (by simp [Value.oneCell']) w6 HW6.out ?_; refine Hid.out ?_)
 refine iH ?_
 clear HT5 HW6
 have HL6 : Hid (w6.rangeAt w.heap.size 7 [.string x.copy.name, .string x.copy.service, .int .i64 x.copy.rank, .int .i64 x.copy.born, .int .i64 x.copy.room, .int .i64 x.copy.hold, .string x.copy.select, .slice al x.copy.likes.length cl, .int .i64 x.copy.apart, .string x.copy.near, .string x.copy.fixed, .string x.copy.at_]) := range_cons (HA6.out.cell rfl) (range_cons (HA6.out.cell rfl) (range_cons (HA6.out.cell rfl) (range_cons (HA6.out.cell rfl) (range_cons (HA6.out.cell rfl) (range_cons (HA6.out.cell rfl) (range_cons (HA6.out.cell rfl) (range_cons (HA6.out.cell rfl) (range_cons (HA6.out.cell rfl) (range_cons (HA6.out.cell rfl) (range_cons (HA6.out.cell rfl) (range_cons (HA6.out.cell rfl) (range_nil _ _ _))))))))))))
 go_wp2_with (refine wpList_load_mid rfl 32 _ rfl w.heap.size 7 rfl [.string x.copy.name, .string x.copy.service, .int .i64 x.copy.rank, .int .i64 x.copy.born, .int .i64 x.copy.room, .int .i64 x.copy.hold, .string x.copy.select, .slice al x.copy.likes.length cl, .int .i64 x.copy.apart, .string x.copy.near, .string x.copy.fixed, .string x.copy.at_] _ HL6.out Tryz.underlying32 rfl isz_lCpy ?_)
 refine (toCpy_any x.copy al cl lo _ (NL.out.below LikC.holds (B := w.heap.size) hB6 nL) M2).mono ?_
 rintro e w7 ⟨gl, rfl, ql, hb7⟩
 have HA7 := iH (HA6.out.below hb7 HA6.out.lt)
 have HO7 := iH (HO6.out.below hb7 HO6.out.lt)
 have HR7 := iH (HR6.out.below hb7 HR6.out.lt)
 have hB7 : Below w.heap.size w w7 := hB6.trans (hb7.mono hB6.size)
 replace Pm := iH (Pm.out.below StrC.holds hb7 nL)
 have hz6 : w.heap.size + 1 + 1 < w6.heap.size := HO6.out.lt
 have Pl : Hid (SliceC LikC 2 (w.heap.size + 1 + 1 + 1) w7 (some ⟨gl, 0, none⟩) x.copy.likes) := ql.keep LikC.holds (Keeps.refl _ _) (by omega)
 clear HL6 HA6 HO6 HR6 hB6 hb7 ql hz6
 obtain ⟨w8, HW8⟩ : ∃ w', Hid (w' = w7.setCells (w.heap.size + 1 + 1) 7 [.string x.copy.name, .string x.copy.service, .int .i64 x.copy.rank, .int .i64 x.copy.born, .int .i64 x.copy.room, .int .i64 x.copy.hold, .string x.copy.select, .slice (some ⟨gl, 0, none⟩) x.copy.likes.length x.copy.likes.length, .int .i64 x.copy.apart, .string x.copy.near, .string x.copy.fixed, .string x.copy.at_]) := ⟨_, rfl⟩
 have HT7 : Hid (w7.there (w.heap.size + 1 + 1) 7 12) := HO7.out.thereAt (by show 7 + 12 ≤ 21; omega)
 have HO8 : Hid (Blk (w.heap.size + 1 + 1) #[.int .i64 x.kind, .string x.berth.name, .string x.berth.zone, .slice (some ⟨gm, 0, none⟩) x.berth.marks.length x.berth.marks.length, .int .i64 x.berth.room, .int .i64 x.berth.hold, .bool x.berth.closed, .string x.copy.name, .string x.copy.service, .int .i64 x.copy.rank, .int .i64 x.copy.born, .int .i64 x.copy.room, .int .i64 x.copy.hold, .string x.copy.select, .slice (some ⟨gl, 0, none⟩) x.copy.likes.length x.copy.likes.length, .int .i64 x.copy.apart, .string x.copy.near, .string x.copy.fixed, .string x.copy.at_, .string ⟨#[]⟩, .string ⟨#[]⟩] 50 w8) := by
  have := Blk.setRow [.string x.copy.name, .string x.copy.service, .int .i64 x.copy.rank, .int .i64 x.copy.born, .int .i64 x.copy.room, .int .i64 x.copy.hold, .string x.copy.select, .slice (some ⟨gl, 0, none⟩) x.copy.likes.length x.copy.likes.length, .int .i64 x.copy.apart, .string x.copy.near, .string x.copy.fixed, .string x.copy.at_] 7 _ _ HO7.out
  simp only [setRow, List.setIfInBounds_toArray, List.set_cons_succ, List.set_cons_zero] at this
  show Blk _ _ _ _
  rw [HW8.out]
  exact this
 have HA8 := blk_setCells_other (show w.heap.size ≠ w.heap.size + 1 + 1 by omega) [.string x.copy.name, .string x.copy.service, .int .i64 x.copy.rank, .int .i64 x.copy.born, .int .i64 x.copy.room, .int .i64 x.copy.hold, .string x.copy.select, .slice (some ⟨gl, 0, none⟩) x.copy.likes.length x.copy.likes.length, .int .i64 x.copy.apart, .string x.copy.near, .string x.copy.fixed, .string x.copy.at_] 7 w7 HA7.out
 rw [← HW8.out] at HA8
 replace HA8 := iH HA8
 have HR8 := blk_setCells_other (show w.heap.size + 1 ≠ w.heap.size + 1 + 1 by omega) [.string x.copy.name, .string x.copy.service, .int .i64 x.copy.rank, .int .i64 x.copy.born, .int .i64 x.copy.room, .int .i64 x.copy.hold, .string x.copy.select, .slice (some ⟨gl, 0, none⟩) x.copy.likes.length x.copy.likes.length, .int .i64 x.copy.apart, .string x.copy.near, .string x.copy.fixed, .string x.copy.at_] 7 w7 HR7.out
 rw [← HW8.out] at HR8
 replace HR8 := iH HR8
 have hB8 : Below w.heap.size w w8 := by rw [HW8.out]; exact below_setCells (by omega) _ _ _ hB7
 replace Pm : Hid (SliceC StrC 1 (w.heap.size + 1 + 1 + 1) w8 (some ⟨gm, 0, none⟩) x.berth.marks) := by
  show SliceC _ _ _ _ _ _
  rw [HW8.out]
  exact Pm.out.keep StrC.holds (Keeps.setCells (by omega) _ _ _) nL
 replace Pl : Hid (SliceC LikC 2 (w.heap.size + 1 + 1 + 1) w8 (some ⟨gl, 0, none⟩) x.copy.likes) := by
  show SliceC _ _ _ _ _ _
  rw [HW8.out]
  exact Pl.out.keep LikC.holds (Keeps.setCells (by omega) _ _ _) nL
 clear HA7 HO7 HR7 hB7
 go_wp2_with (refine wpList_store_to rfl 48 _ _ rfl (w.heap.size + 1 + 1) 7 #[.string x.copy.name, .string x.copy.service, .int .i64 x.copy.rank, .int .i64 x.copy.born, .int .i64 x.copy.room, .int .i64 x.copy.hold, .string x.copy.select, .slice (some ⟨gl, 0, none⟩) x.copy.likes.length x.copy.likes.length, .int .i64 x.copy.apart, .string x.copy.near, .string x.copy.fixed, .string x.copy.at_] rfl rfl HT7.out isz_Cpy (by simp [Value.oneCell']) w8 HW8.out ?_; refine Hid.out ?_)
 refine iH ?_
 clear HT7 HW8
 have k19 : w8.cell? ⟨w.heap.size, 19, none⟩ = some (.string x.name) := HA8.out.cell rfl
 have k20 : w8.cell? ⟨w.heap.size, 20, none⟩ = some (.string x.at_) := HA8.out.cell rfl
 have ko19 : w8.cell? ⟨w.heap.size + 1 + 1, 19, none⟩ = some (.string ⟨#[]⟩) := HO8.out.cell rfl
 have fo19 := HO8.out.frozen 19
 have ko20 : w8.cell? ⟨w.heap.size + 1 + 1, 20, none⟩ = some (.string ⟨#[]⟩) := HO8.out.cell rfl
 have fo20 := HO8.out.frozen 20
 go_upto_region 7 with fail
 have HO9 : Hid (Blk (w.heap.size + 1 + 1) #[.int .i64 x.kind, .string x.berth.name, .string x.berth.zone, .slice (some ⟨gm, 0, none⟩) x.berth.marks.length x.berth.marks.length, .int .i64 x.berth.room, .int .i64 x.berth.hold, .bool x.berth.closed, .string x.copy.name, .string x.copy.service, .int .i64 x.copy.rank, .int .i64 x.copy.born, .int .i64 x.copy.room, .int .i64 x.copy.hold, .string x.copy.select, .slice (some ⟨gl, 0, none⟩) x.copy.likes.length x.copy.likes.length, .int .i64 x.copy.apart, .string x.copy.near, .string x.copy.fixed, .string x.copy.at_, .string x.name, .string x.at_] 50 ((w8.setCell ⟨w.heap.size + 1 + 1, 19, none⟩ (.string x.name)).setCell ⟨w.heap.size + 1 + 1, 20, none⟩ (.string x.at_))) := (HO8.out.set 19 _).set 20 _
 have HR9 := iH ((HR8.out.other (a := ⟨w.heap.size + 1 + 1, 19, none⟩) (show w.heap.size + 1 ≠ w.heap.size + 1 + 1 by omega) (.string x.name)).other (a := ⟨w.heap.size + 1 + 1, 20, none⟩) (show w.heap.size + 1 ≠ w.heap.size + 1 + 1 by omega) (.string x.at_))
 have hB9 : Below w.heap.size w ((w8.setCell ⟨w.heap.size + 1 + 1, 19, none⟩ (.string x.name)).setCell ⟨w.heap.size + 1 + 1, 20, none⟩ (.string x.at_)) := (hB8.setCell (p := ⟨w.heap.size + 1 + 1, 19, none⟩) (show w.heap.size ≤ w.heap.size + 1 + 1 by omega) _).setCell (p := ⟨w.heap.size + 1 + 1, 20, none⟩) (show w.heap.size ≤ w.heap.size + 1 + 1 by omega) _
 replace Pm := iH (Pm.out.keep StrC.holds ((Keeps.set (a := ⟨w.heap.size + 1 + 1, 19, none⟩) (show w.heap.size + 1 + 1 < w.heap.size + 1 + 1 + 1 by omega) (.string x.name)).trans (Keeps.set (a := ⟨w.heap.size + 1 + 1, 20, none⟩) (show w.heap.size + 1 + 1 < w.heap.size + 1 + 1 + 1 by omega) (.string x.at_))) nL)
 replace Pl := iH (Pl.out.keep LikC.holds ((Keeps.set (a := ⟨w.heap.size + 1 + 1, 19, none⟩) (show w.heap.size + 1 + 1 < w.heap.size + 1 + 1 + 1 by omega) (.string x.name)).trans (Keeps.set (a := ⟨w.heap.size + 1 + 1, 20, none⟩) (show w.heap.size + 1 + 1 < w.heap.size + 1 + 1 + 1 by omega) (.string x.at_))) nL)
 clear HO8 HR8 HA8 hB8 k19 k20 ko19 ko20 fo19 fo20
 generalize ((w8.setCell ⟨w.heap.size + 1 + 1, 19, none⟩ (.string x.name)).setCell ⟨w.heap.size + 1 + 1, 20, none⟩ (.string x.at_)) = w9 at *
 have HRG : Hid (w9.rangeAt (w.heap.size + 1 + 1) 0 [.int .i64 x.kind, .string x.berth.name, .string x.berth.zone, .slice (some ⟨gm, 0, none⟩) x.berth.marks.length x.berth.marks.length, .int .i64 x.berth.room, .int .i64 x.berth.hold, .bool x.berth.closed, .string x.copy.name, .string x.copy.service, .int .i64 x.copy.rank, .int .i64 x.copy.born, .int .i64 x.copy.room, .int .i64 x.copy.hold, .string x.copy.select, .slice (some ⟨gl, 0, none⟩) x.copy.likes.length x.copy.likes.length, .int .i64 x.copy.apart, .string x.copy.near, .string x.copy.fixed, .string x.copy.at_, .string x.name, .string x.at_]) := HO9.out.rangeA
 have HTG : Hid (w9.there (w.heap.size + 1) 0 21) := HR9.out.there
 obtain ⟨w10, HW10⟩ : ∃ w', Hid (w' = w9.setCells (w.heap.size + 1) 0 [.int .i64 x.kind, .string x.berth.name, .string x.berth.zone, .slice (some ⟨gm, 0, none⟩) x.berth.marks.length x.berth.marks.length, .int .i64 x.berth.room, .int .i64 x.berth.hold, .bool x.berth.closed, .string x.copy.name, .string x.copy.service, .int .i64 x.copy.rank, .int .i64 x.copy.born, .int .i64 x.copy.room, .int .i64 x.copy.hold, .string x.copy.select, .slice (some ⟨gl, 0, none⟩) x.copy.likes.length x.copy.likes.length, .int .i64 x.copy.apart, .string x.copy.near, .string x.copy.fixed, .string x.copy.at_, .string x.name, .string x.at_]) := ⟨_, rfl⟩
 have HR10 : Hid (w10.rangeAt (w.heap.size + 1) 0 [.int .i64 x.kind, .string x.berth.name, .string x.berth.zone, .slice (some ⟨gm, 0, none⟩) x.berth.marks.length x.berth.marks.length, .int .i64 x.berth.room, .int .i64 x.berth.hold, .bool x.berth.closed, .string x.copy.name, .string x.copy.service, .int .i64 x.copy.rank, .int .i64 x.copy.born, .int .i64 x.copy.room, .int .i64 x.copy.hold, .string x.copy.select, .slice (some ⟨gl, 0, none⟩) x.copy.likes.length x.copy.likes.length, .int .i64 x.copy.apart, .string x.copy.near, .string x.copy.fixed, .string x.copy.at_, .string x.name, .string x.at_]) := by
  show World.rangeAt _ _ _ _
  rw [HW10.out]
  exact World.rangeAt_setCells_same _ _ _ _ HTG.out
 have HB10 : Hid (Below w.heap.size w w10) := by
  show Below _ _ _
  rw [HW10.out]
  exact below_setCells (by omega) _ _ _ hB9
 replace Pm : Hid (SliceC StrC 1 w.heap.size w10 (some ⟨gm, 0, none⟩) x.berth.marks) := by
  show SliceC _ _ _ _ _ _
  rw [HW10.out]
  exact Pm.out.keep StrC.holds (Keeps.setCells (by omega) _ _ _) (by omega)
 replace Pl : Hid (SliceC LikC 2 w.heap.size w10 (some ⟨gl, 0, none⟩) x.copy.likes) := by
  show SliceC _ _ _ _ _ _
  rw [HW10.out]
  exact Pl.out.keep LikC.holds (Keeps.setCells (by omega) _ _ _) (by omega)
 clear hB9 HO9 HR9
 go_wp2_with (first | (refine wpList_load_mid rfl 50 _ rfl (w.heap.size + 1 + 1) 0 rfl [.int .i64 x.kind, .string x.berth.name, .string x.berth.zone, .slice (some ⟨gm, 0, none⟩) x.berth.marks.length x.berth.marks.length, .int .i64 x.berth.room, .int .i64 x.berth.hold, .bool x.berth.closed, .string x.copy.name, .string x.copy.service, .int .i64 x.copy.rank, .int .i64 x.copy.born, .int .i64 x.copy.room, .int .i64 x.copy.hold, .string x.copy.select, .slice (some ⟨gl, 0, none⟩) x.copy.likes.length x.copy.likes.length, .int .i64 x.copy.apart, .string x.copy.near, .string x.copy.fixed, .string x.copy.at_, .string x.name, .string x.at_] _ HRG.out Tryz.underlying50 rfl isz_Evt ?_) | (refine wpList_store_to rfl 50 _ _ rfl (w.heap.size + 1) 0 #[.int .i64 x.kind, .string x.berth.name, .string x.berth.zone, .slice (some ⟨gm, 0, none⟩) x.berth.marks.length x.berth.marks.length, .int .i64 x.berth.room, .int .i64 x.berth.hold, .bool x.berth.closed, .string x.copy.name, .string x.copy.service, .int .i64 x.copy.rank, .int .i64 x.copy.born, .int .i64 x.copy.room, .int .i64 x.copy.hold, .string x.copy.select, .slice (some ⟨gl, 0, none⟩) x.copy.likes.length x.copy.likes.length, .int .i64 x.copy.apart, .string x.copy.near, .string x.copy.fixed, .string x.copy.at_, .string x.name, .string x.at_] rfl rfl HTG.out isz_Evt (by simp [Value.oneCell']) w10 HW10.out ?_))
 exact bodyPost_ret (results_cell_mid rfl _ _ (w.heap.size + 1) [.int .i64 x.kind, .string x.berth.name, .string x.berth.zone, .slice (some ⟨gm, 0, none⟩) x.berth.marks.length x.berth.marks.length, .int .i64 x.berth.room, .int .i64 x.berth.hold, .bool x.berth.closed, .string x.copy.name, .string x.copy.service, .int .i64 x.copy.rank, .int .i64 x.copy.born, .int .i64 x.copy.room, .int .i64 x.copy.hold, .string x.copy.select, .slice (some ⟨gl, 0, none⟩) x.copy.likes.length x.copy.likes.length, .int .i64 x.copy.apart, .string x.copy.near, .string x.copy.fixed, .string x.copy.at_, .string x.name, .string x.at_] _ rfl HR10.out Tryz.underlying50 rfl isz_Evt) rfl ⟨gm, gl, rfl, Pm.out, Pl.out, HB10.out⟩

set_option maxHeartbeats 2000000 in
theorem eqEvt_any (x : Evt) (am : Option Addr) (cm : Nat) (al : Option Addr) (cl : Nat) (amp : Option Addr) (cmp : Nat) (alp : Option Addr) (clp : Nat) (lo lo' : Nat) (w : World) (nm : SliceC StrC 1 lo w am x.berth.marks) (nl : SliceC LikC 2 lo w al x.copy.likes) (pm : SliceC StrC 1 lo' w amp x.berth.marks) (pl : SliceC LikC 2 lo' w alp x.copy.likes) (hsm : wEvt x ≤ 1048576) :
  Calls Tryz.prog 11 #[.agg #[.int .i64 x.kind, .string x.berth.name, .string x.berth.zone, .slice am x.berth.marks.length cm, .int .i64 x.berth.room, .int .i64 x.berth.hold, .bool x.berth.closed, .string x.copy.name, .string x.copy.service, .int .i64 x.copy.rank, .int .i64 x.copy.born, .int .i64 x.copy.room, .int .i64 x.copy.hold, .string x.copy.select, .slice al x.copy.likes.length cl, .int .i64 x.copy.apart, .string x.copy.near, .string x.copy.fixed, .string x.copy.at_, .string x.name, .string x.at_], .agg #[.int .i64 x.kind, .string x.berth.name, .string x.berth.zone, .slice amp x.berth.marks.length cmp, .int .i64 x.berth.room, .int .i64 x.berth.hold, .bool x.berth.closed, .string x.copy.name, .string x.copy.service, .int .i64 x.copy.rank, .int .i64 x.copy.born, .int .i64 x.copy.room, .int .i64 x.copy.hold, .string x.copy.select, .slice alp x.copy.likes.length clp, .int .i64 x.copy.apart, .string x.copy.near, .string x.copy.fixed, .string x.copy.at_, .string x.name, .string x.at_]] w fun e w' => e = .returned (.bool true) ∧ Below w.heap.size w w' := by
 have NM := iH nm
 have NL := iH nl
 have PM := iH pm
 have PL := iH pl
 have M1 : wBrt x.berth ≤ 1048576 := by unfold wEvt at hsm; omega
 have M2 : wCpy x.copy ≤ 1048576 := by unfold wEvt at hsm; omega
 clear nm nl pm pl hsm
 go_enter Tryz.func11, Tryz.ntmps11
 go_wp2_with fail
 refine (eqBrt_any x.berth am cm amp cmp lo lo' _ (NM.out.below StrC.holds (B := w.heap.size) (by go_grown) nL) (PM.out.below StrC.holds (B := w.heap.size) (by go_grown) nL) M1).mono ?_
 rintro e w1 ⟨rfl, hb1⟩
 have hB1 : Below w.heap.size w w1 := (show Below w.heap.size w _ by go_grown).trans (hb1.mono (by simp; omega))
 have k1_7 : w1.cell? ⟨w.heap.size, 7, none⟩ = some (.string x.copy.name) := (hb1.cell (p := ⟨w.heap.size, 7, none⟩) (by simp; omega)).trans (by simp)
 have l1_7 : w1.cell? ⟨w.heap.size + 1, 7, none⟩ = some (.string x.copy.name) := (hb1.cell (p := ⟨w.heap.size + 1, 7, none⟩) (by simp)).trans (by simp)
 have k1_8 : w1.cell? ⟨w.heap.size, 8, none⟩ = some (.string x.copy.service) := (hb1.cell (p := ⟨w.heap.size, 8, none⟩) (by simp; omega)).trans (by simp)
 have l1_8 : w1.cell? ⟨w.heap.size + 1, 8, none⟩ = some (.string x.copy.service) := (hb1.cell (p := ⟨w.heap.size + 1, 8, none⟩) (by simp)).trans (by simp)
 have k1_9 : w1.cell? ⟨w.heap.size, 9, none⟩ = some (.int .i64 x.copy.rank) := (hb1.cell (p := ⟨w.heap.size, 9, none⟩) (by simp; omega)).trans (by simp)
 have l1_9 : w1.cell? ⟨w.heap.size + 1, 9, none⟩ = some (.int .i64 x.copy.rank) := (hb1.cell (p := ⟨w.heap.size + 1, 9, none⟩) (by simp)).trans (by simp)
 have k1_10 : w1.cell? ⟨w.heap.size, 10, none⟩ = some (.int .i64 x.copy.born) := (hb1.cell (p := ⟨w.heap.size, 10, none⟩) (by simp; omega)).trans (by simp)
 have l1_10 : w1.cell? ⟨w.heap.size + 1, 10, none⟩ = some (.int .i64 x.copy.born) := (hb1.cell (p := ⟨w.heap.size + 1, 10, none⟩) (by simp)).trans (by simp)
 have k1_11 : w1.cell? ⟨w.heap.size, 11, none⟩ = some (.int .i64 x.copy.room) := (hb1.cell (p := ⟨w.heap.size, 11, none⟩) (by simp; omega)).trans (by simp)
 have l1_11 : w1.cell? ⟨w.heap.size + 1, 11, none⟩ = some (.int .i64 x.copy.room) := (hb1.cell (p := ⟨w.heap.size + 1, 11, none⟩) (by simp)).trans (by simp)
 have k1_12 : w1.cell? ⟨w.heap.size, 12, none⟩ = some (.int .i64 x.copy.hold) := (hb1.cell (p := ⟨w.heap.size, 12, none⟩) (by simp; omega)).trans (by simp)
 have l1_12 : w1.cell? ⟨w.heap.size + 1, 12, none⟩ = some (.int .i64 x.copy.hold) := (hb1.cell (p := ⟨w.heap.size + 1, 12, none⟩) (by simp)).trans (by simp)
 have k1_13 : w1.cell? ⟨w.heap.size, 13, none⟩ = some (.string x.copy.select) := (hb1.cell (p := ⟨w.heap.size, 13, none⟩) (by simp; omega)).trans (by simp)
 have l1_13 : w1.cell? ⟨w.heap.size + 1, 13, none⟩ = some (.string x.copy.select) := (hb1.cell (p := ⟨w.heap.size + 1, 13, none⟩) (by simp)).trans (by simp)
 have k1_14 : w1.cell? ⟨w.heap.size, 14, none⟩ = some (.slice al x.copy.likes.length cl) := (hb1.cell (p := ⟨w.heap.size, 14, none⟩) (by simp; omega)).trans (by simp)
 have l1_14 : w1.cell? ⟨w.heap.size + 1, 14, none⟩ = some (.slice alp x.copy.likes.length clp) := (hb1.cell (p := ⟨w.heap.size + 1, 14, none⟩) (by simp)).trans (by simp)
 have k1_15 : w1.cell? ⟨w.heap.size, 15, none⟩ = some (.int .i64 x.copy.apart) := (hb1.cell (p := ⟨w.heap.size, 15, none⟩) (by simp; omega)).trans (by simp)
 have l1_15 : w1.cell? ⟨w.heap.size + 1, 15, none⟩ = some (.int .i64 x.copy.apart) := (hb1.cell (p := ⟨w.heap.size + 1, 15, none⟩) (by simp)).trans (by simp)
 have k1_16 : w1.cell? ⟨w.heap.size, 16, none⟩ = some (.string x.copy.near) := (hb1.cell (p := ⟨w.heap.size, 16, none⟩) (by simp; omega)).trans (by simp)
 have l1_16 : w1.cell? ⟨w.heap.size + 1, 16, none⟩ = some (.string x.copy.near) := (hb1.cell (p := ⟨w.heap.size + 1, 16, none⟩) (by simp)).trans (by simp)
 have k1_17 : w1.cell? ⟨w.heap.size, 17, none⟩ = some (.string x.copy.fixed) := (hb1.cell (p := ⟨w.heap.size, 17, none⟩) (by simp; omega)).trans (by simp)
 have l1_17 : w1.cell? ⟨w.heap.size + 1, 17, none⟩ = some (.string x.copy.fixed) := (hb1.cell (p := ⟨w.heap.size + 1, 17, none⟩) (by simp)).trans (by simp)
 have k1_18 : w1.cell? ⟨w.heap.size, 18, none⟩ = some (.string x.copy.at_) := (hb1.cell (p := ⟨w.heap.size, 18, none⟩) (by simp; omega)).trans (by simp)
 have l1_18 : w1.cell? ⟨w.heap.size + 1, 18, none⟩ = some (.string x.copy.at_) := (hb1.cell (p := ⟨w.heap.size + 1, 18, none⟩) (by simp)).trans (by simp)
 have k1_19 : w1.cell? ⟨w.heap.size, 19, none⟩ = some (.string x.name) := (hb1.cell (p := ⟨w.heap.size, 19, none⟩) (by simp; omega)).trans (by simp)
 have l1_19 : w1.cell? ⟨w.heap.size + 1, 19, none⟩ = some (.string x.name) := (hb1.cell (p := ⟨w.heap.size + 1, 19, none⟩) (by simp)).trans (by simp)
 have k1_20 : w1.cell? ⟨w.heap.size, 20, none⟩ = some (.string x.at_) := (hb1.cell (p := ⟨w.heap.size, 20, none⟩) (by simp; omega)).trans (by simp)
 have l1_20 : w1.cell? ⟨w.heap.size + 1, 20, none⟩ = some (.string x.at_) := (hb1.cell (p := ⟨w.heap.size + 1, 20, none⟩) (by simp)).trans (by simp)
 have hs1 : w.heap.size + 1 < w1.heap.size := by have := hb1.size; simp at this; omega
 clear hb1
 go_wp2_with fail
 refine (eqCpy_any x.copy al cl alp clp lo lo' _ (NL.out.below LikC.holds (B := w.heap.size) hB1 nL) (PL.out.below LikC.holds (B := w.heap.size) hB1 nL) M2).mono ?_
 rintro e w2 ⟨rfl, hb2⟩
 have hB2 : Below w.heap.size w w2 := hB1.trans (hb2.mono (by omega))
 have k2_19 : w2.cell? ⟨w.heap.size, 19, none⟩ = some (.string x.name) := (hb2.cell (p := ⟨w.heap.size, 19, none⟩) (show w.heap.size < w1.heap.size by omega)).trans k1_19
 have l2_19 : w2.cell? ⟨w.heap.size + 1, 19, none⟩ = some (.string x.name) := (hb2.cell (p := ⟨w.heap.size + 1, 19, none⟩) hs1).trans l1_19
 have k2_20 : w2.cell? ⟨w.heap.size, 20, none⟩ = some (.string x.at_) := (hb2.cell (p := ⟨w.heap.size, 20, none⟩) (show w.heap.size < w1.heap.size by omega)).trans k1_20
 have l2_20 : w2.cell? ⟨w.heap.size + 1, 20, none⟩ = some (.string x.at_) := (hb2.cell (p := ⟨w.heap.size + 1, 20, none⟩) hs1).trans l1_20
 clear hb2 hB1 hs1 k1_7 l1_7 k1_8 l1_8 k1_9 l1_9 k1_10 l1_10 k1_11 l1_11 k1_12 l1_12 k1_13 l1_13 k1_14 l1_14 k1_15 l1_15 k1_16 l1_16 k1_17 l1_17 k1_18 l1_18 k1_19 l1_19 k1_20 l1_20
 go_wp2_with fail
 go_ret
 exact ⟨rfl, hB2⟩

end Go.Proofs.YtihnjndnkgnmaaaGreat
