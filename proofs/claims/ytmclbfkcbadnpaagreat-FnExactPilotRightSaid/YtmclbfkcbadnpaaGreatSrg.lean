import Derived.Test.YtmclbfkcbadnpaaGreatL3s
import Derived.Test.YtmclbfkcbadnpaaGreatSp3
import Derived.Test.YtmclbfkcbadnpaaGreatJ42
import Derived.Test.YtmclbfkcbadnpaaGreatImr
namespace Go.Proofs.YtmclbfkcbadnpaaGreat
open Go.RowKit Go.WideMaps Go.Maps

def SrgIn2 (B g : Nat) (x : Flt) (a1 : Option Addr) (c1 : Nat) (a2 : Option Addr) (c2 : Nat) (a3 : Option Addr) (c3 : Nat) (cs : List Value) (bb bo : Nat) (bs : List Value) (w : World) : Prop := FltIn B x a1 c1 a2 c2 a3 c3 w ∧ w.rangeAt g 0 cs ∧ w.rangeAt bb bo bs

set_option maxHeartbeats 4000000 in
set_option maxRecDepth 100000 in
theorem specRight_any (x : Flt) (a1 : Option Addr) (c1 : Nat) (a2 : Option Addr) (c2 : Nat) (a3 : Option Addr) (c3 : Nat) (lo : Nat) (w : World) (n1 : SliceC BrtC 6 lo w a1 x.berths) (n2 : SliceC SvcC 2 lo w a2 x.services) (n3 : SliceC CpyC 12 lo w a3 x.copies)
  (l1 : x.berths.length ≤ 1048576) (l2 : x.services.length ≤ 1048576) (l3 : x.copies.length ≤ 1048576) :
  Calls Tryz.prog 11 #[.agg #[.bool x.pack, .slice a1 x.berths.length c1, .slice a2 x.services.length c2, .slice a3 x.copies.length c3]] w fun e w' => ∃ a cap, e = .returned (.slice a (rightL x).length cap) ∧ SliceC StrC 1 (w.heap.size + 1) w' a (rightL x) ∧ Below w.heap.size w w' := by
 obtain ⟨i0, hi, hz0, hz1, hz2⟩ := info_parts info_str
 have N1 := Hid.intro n1
 have N2 := Hid.intro n2
 have N3 := Hid.intro n3
 have HEQ := Hid.intro (valid_eq x l3)
 clear n1 n2 n3
 go_enter Tryz.func11, Tryz.ntmps11
 go_wp2_with fail
 have HX0 : Hid (Blk w.heap.size #[.bool x.pack, .slice a1 x.berths.length c1, .slice a2 x.services.length c2, .slice a3 x.copies.length c3] 33 ((w.alloc (Obj.cells #[.bool x.pack, .slice a1 x.berths.length c1, .slice a2 x.services.length c2, .slice a3 x.copies.length c3] 33)).alloc (Obj.cells #[] 9))) := (Blk.alloc w #[.bool x.pack, .slice a1 x.berths.length c1, .slice a2 x.services.length c2, .slice a3 x.copies.length c3] 33).below ((Below.refl _ _).alloc (Nat.le_refl _) _) (Blk.alloc w _ _).lt
 have HO0 : Hid (World.ownsRow ((w.alloc (Obj.cells #[.bool x.pack, .slice a1 x.berths.length c1, .slice a2 x.services.length c2, .slice a3 x.copies.length c3] 33)).alloc (Obj.cells #[] 9)) (w.heap.size + 1) 9 1 (.slice (some ⟨w.heap.size + 1, 0, none⟩) 0 0) 0 []) := by
  refine ⟨rfl, .inr ⟨w.heap.size + 1, 0, #[], rfl, Nat.le_refl _, ?_, Nat.le_refl _, Nat.zero_le _, rfl, rfl⟩⟩
  have h := World.alloc_heap_new (w.alloc (Obj.cells #[.bool x.pack, .slice a1 x.berths.length c1, .slice a2 x.services.length c2, .slice a3 x.copies.length c3] 33)) (Obj.cells #[] 9)
  simpa using h
 have HB0 : Hid (Below w.heap.size w ((w.alloc (Obj.cells #[.bool x.pack, .slice a1 x.berths.length c1, .slice a2 x.services.length c2, .slice a3 x.copies.length c3] 33)).alloc (Obj.cells #[] 9))) := ((Below.refl _ w).alloc (Nat.le_refl _) _).alloc (by simp) _
 have hsz0 : w.heap.size + 1 < (((w.alloc (Obj.cells #[.bool x.pack, .slice a1 x.berths.length c1, .slice a2 x.services.length c2, .slice a3 x.copies.length c3] 33)).alloc (Obj.cells #[] 9))).heap.size := by simp
 generalize ((w.alloc (Obj.cells #[.bool x.pack, .slice a1 x.berths.length c1, .slice a2 x.services.length c2, .slice a3 x.copies.length c3] 33)).alloc (Obj.cells #[] 9)) = w0 at *
 refine (specValid_any x a1 c1 a2 c2 a3 c3 lo _ (N1.out.below BrtC.holds HB0.out (Nat.le_refl _)) (N2.out.below SvcC.holds HB0.out (Nat.le_refl _)) (N3.out.below CpyC.holds HB0.out (Nat.le_refl _)) l1 l2 l3).mono ?_
 rintro e w1 ⟨rfl, hb1⟩
 have HX1 := Hid.intro (HX0.out.below hb1 HX0.out.lt)
 have HO1 : Hid (w1.ownsRow (w.heap.size + 1) 9 1 (.slice (some ⟨w.heap.size + 1, 0, none⟩) 0 0) 0 []) := ownsRow_below HO0.out hb1
 have HB1 : Hid (Below w.heap.size w w1) := HB0.out.trans (hb1.mono HB0.out.size)
 have hsz1 : w.heap.size + 1 < w1.heap.size := Nat.lt_of_lt_of_le hsz0 hb1.size
 clear hb1 HX0 HO0 HB0 hsz0
 cases hv : validS x with
 | false =>
  have HE : Hid (rightL x = []) := by
   show _ = _
   unfold rightL
   rw [if_neg (by rw [HEQ.out, hv]; decide)]
  clear hv
  go_wp2_with fail
  go_ret
  exact ⟨some ⟨w.heap.size + 1, 0, none⟩, 0, by rw [HE.out]; rfl, by rw [HE.out]; exact SliceC.nil, HB1.out⟩
 | true =>
  have HV : Hid (validI x = true) := HEQ.out.trans hv
  obtain ⟨_, h60, _, _, _, _⟩ := valid_parts HV.out
  have h12 := (valid_more HV.out).1
  clear hv
  go_wp2_with fail
  go_loopw [3, 4] (fun v i wr => ∃ k : Nat, k ≤ x.copies.length ∧ i = .int .i64 k ∧ Hid (wr.ownsRow (w.heap.size + 1) 9 1 v (rightTo x k).length (stV (rightTo x k))) ∧ Hid (Below (w.heap.size + 1) w1 wr) ∧ w.heap.size + 1 < wr.heap.size) (fun _ i _ => x.copies.length - (intOf i).toNat)
  case atStart => exact ⟨0, Nat.zero_le _, rfl, HO1, Below.refl _ _, hsz1⟩
  case round =>
   clear HO1
   obtain ⟨k, hk, rfl, hO, hBk, hsk⟩ := hrel
   have HWr : Hid (Below w.heap.size w wr) := HB1.out.trans (hBk.out.mono (Nat.le_succ _))
   have HXr := Hid.intro (HX1.out.below hBk.out (Nat.lt_succ_self _))
   have p3 : wr.cell? ⟨w.heap.size, 3, none⟩ = some (.slice a3 x.copies.length c3) := HXr.out.cell rfl
   by_cases hlt : k < x.copies.length
   ·obtain ⟨c, hck⟩ : ∃ c, x.copies[k]? = some c := ⟨x.copies[k], List.getElem?_eq_getElem hlt⟩
    obtain ⟨cb, co, rfl, _, _, hc⟩ := (N3.out.below CpyC.holds HWr.out (Nat.le_refl _)).at hck
    obtain ⟨a8, c8, q0, q1, q2, q3, q4, q5, q6, q7, q8, q9, q10, q11, z0, z1, z6, z9, z10, z11, z7⟩ := hc
    simp only [Nat.add_zero] at q0 q1 q2 q3 q4 q5 q6 q7 q8 q9 q10 q11
    have HRA : Hid (wr.rangeAt cb (co + k * 12) [.string c.name, .string c.service, .int .i64 c.rank, .int .i64 c.born, .int .i64 c.room, .int .i64 c.hold, .string c.select, .slice a8 c.likes.length c8, .int .i64 c.apart, .string c.near, .string c.fixed, .string c.at_]) := range_cons q0 (range_cons q1 (range_cons q2 (range_cons q3 (range_cons q4 (range_cons q5 (range_cons q6 (range_cons q7 (range_cons q8 (range_cons q9 (range_cons q10 (range_cons q11 (range_nil _ _ _))))))))))))
    have HX := Hid.intro hck
    have Z6 := Hid.intro z6
    have Z0 := Hid.intro z0
    clear hck q0 q1 q2 q3 q4 q5 q6 q7 q8 q9 q10 q11 z0 z1 z6 z7 z9 z10 z11
    go_upto_region 8 with (first | (refine wpList_load_mid rfl 53 _ rfl cb (co + k * 12) (by first | rfl | (simp [go_sem]; done)) [.string c.name, .string c.service, .int .i64 c.rank, .int .i64 c.born, .int .i64 c.room, .int .i64 c.hold, .string c.select, .slice a8 c.likes.length c8, .int .i64 c.apart, .string c.near, .string c.fixed, .string c.at_] _ HRA.out Tryz.underlying53 rfl isz_Cpy ?_))
    have hbx : Below wr.heap.size wr (wr.alloc (Obj.cells #[.string c.name, .string c.service, .int .i64 c.rank, .int .i64 c.born, .int .i64 c.room, .int .i64 c.hold, .string c.select, .slice a8 c.likes.length c8, .int .i64 c.apart, .string c.near, .string c.fixed, .string c.at_] 53)) := (Below.refl _ wr).alloc (Nat.le_refl _) _
    have HX4 : Hid (Blk wr.heap.size #[.string c.name, .string c.service, .int .i64 c.rank, .int .i64 c.born, .int .i64 c.room, .int .i64 c.hold, .string c.select, .slice a8 c.likes.length c8, .int .i64 c.apart, .string c.near, .string c.fixed, .string c.at_] 53 (wr.alloc (Obj.cells #[.string c.name, .string c.service, .int .i64 c.rank, .int .i64 c.born, .int .i64 c.room, .int .i64 c.hold, .string c.select, .slice a8 c.likes.length c8, .int .i64 c.apart, .string c.near, .string c.fixed, .string c.at_] 53))) := Blk.alloc _ _ _
    have HF4 : Hid (Blk w.heap.size #[.bool x.pack, .slice a1 x.berths.length c1, .slice a2 x.services.length c2, .slice (some ⟨cb, co, none⟩) x.copies.length c3] 33 (wr.alloc (Obj.cells #[.string c.name, .string c.service, .int .i64 c.rank, .int .i64 c.born, .int .i64 c.room, .int .i64 c.hold, .string c.select, .slice a8 c.likes.length c8, .int .i64 c.apart, .string c.near, .string c.fixed, .string c.at_] 53))) := HXr.out.below hbx HXr.out.lt
    have HB4 : Hid (Below (w.heap.size + 1) w1 (wr.alloc (Obj.cells #[.string c.name, .string c.service, .int .i64 c.rank, .int .i64 c.born, .int .i64 c.room, .int .i64 c.hold, .string c.select, .slice a8 c.likes.length c8, .int .i64 c.apart, .string c.near, .string c.fixed, .string c.at_] 53))) := hBk.out.trans (hbx.mono (by omega))
    have HO4 := Hid.intro (ownsRow_below hO.out hbx)
    have HW4 : Hid (Below w.heap.size w (wr.alloc (Obj.cells #[.string c.name, .string c.service, .int .i64 c.rank, .int .i64 c.born, .int .i64 c.room, .int .i64 c.hold, .string c.select, .slice a8 c.likes.length c8, .int .i64 c.apart, .string c.near, .string c.fixed, .string c.at_] 53))) := HWr.out.trans (hbx.mono HWr.out.size)
    have hs4 : w.heap.size + 1 < (wr.alloc (Obj.cells #[.string c.name, .string c.service, .int .i64 c.rank, .int .i64 c.born, .int .i64 c.room, .int .i64 c.hold, .string c.select, .slice a8 c.likes.length c8, .int .i64 c.apart, .string c.near, .string c.fixed, .string c.at_] 53)).heap.size := Nat.lt_of_lt_of_le hsk hbx.size
    clear HRA hbx hBk hO HWr HXr p3
    generalize (wr.alloc (Obj.cells #[.string c.name, .string c.service, .int .i64 c.rank, .int .i64 c.born, .int .i64 c.room, .int .i64 c.hold, .string c.select, .slice a8 c.likes.length c8, .int .i64 c.apart, .string c.near, .string c.fixed, .string c.at_] 53)) = w4 at *
    by_cases hat : c.at_ = ⟨#[]⟩
    ·have hte := empty_toList hat
     have hte2 := isEmpty_of' hat
     have HE := Hid.intro (rightTo_no HX.out (wrong_none (k := k) (by rw [hat]; exact nowhere (valid_more HV.out).2.2.1)))
     clear hat
     refine wp_region_held_drew (S := fun wy => wy.cell? ⟨wr.heap.size, 11, none⟩ = some (.string c.at_)) (by kernel_rfl) (HX4.out.drew.cell rfl) (fun hS => ?_)
     refine wpAnyH_take (i := 0) (oi := ⟨some 23, _, _, _, _, none⟩) (v := .pointer (some ⟨wr.heap.size, 11, none⟩)) rfl (by kernel_rfl) (by kernel_rfl) (by kernel_rfl) (fun _ _ _ h => h) (Or.inl ⟨by rfl, ?_⟩) hS ?_
     ·intro wy hy
      skip
      go_simp
     simp only [Act.put, List.setIfInBounds_toArray, List.set_cons_zero, List.set_cons_succ]
     refine wpAnyH_take (i := 1) (oi := ⟨some 24, _, _, _, _, none⟩) (v := .string c.at_) rfl (by kernel_rfl) (by kernel_rfl) (by kernel_rfl) (fun _ _ _ h => h) (Or.inl ⟨by rfl, ?_⟩) hS ?_
     ·intro wy hy
      skip
      go_simp
     simp only [Act.put, List.setIfInBounds_toArray, List.set_cons_zero, List.set_cons_succ]
     refine wpAnyH_take (i := 2) (oi := ⟨some 25, _, _, _, _, none⟩) (v := .bool false) rfl (by kernel_rfl) (by kernel_rfl) (by kernel_rfl) (fun _ _ _ h => h) (Or.inl ⟨by rfl, ?_⟩) hS ?_
     ·intro wy hy
      skip
      go_simp
     simp only [Act.put, List.setIfInBounds_toArray, List.set_cons_zero, List.set_cons_succ]
     refine wpAnyH_take (i := 3) (oi := ⟨some 26, _, _, _, _, none⟩) (v := .bool false) rfl (by kernel_rfl) (by kernel_rfl) (by kernel_rfl) (fun _ _ _ h => h) (Or.inl ⟨by rfl, ?_⟩) hS ?_
     ·intro wy hy
      skip
      go_simp
     simp only [Act.put, List.setIfInBounds_toArray, List.set_cons_zero, List.set_cons_succ]
     refine wpAnyH_take (i := 4) (oi := ⟨some 27, _, _, _, _, some (3, true)⟩) (v := undef) rfl (by kernel_rfl) (by kernel_rfl) (by kernel_rfl) (fun _ _ _ h => h) (Or.inr ⟨by rfl, rfl⟩) hS ?_
     simp only [Act.put, List.setIfInBounds_toArray, List.set_cons_zero, List.set_cons_succ]
     refine wpAnyH_take (i := 5) (oi := ⟨some 28, _, _, _, _, some (3, true)⟩) (v := undef) rfl (by kernel_rfl) (by kernel_rfl) (by kernel_rfl) (fun _ _ _ h => h) (Or.inr ⟨by rfl, rfl⟩) hS ?_
     simp only [Act.put, List.setIfInBounds_toArray, List.set_cons_zero, List.set_cons_succ]
     refine wpAnyH_take (i := 6) (oi := ⟨some 29, _, _, _, _, some (3, true)⟩) (v := undef) rfl (by kernel_rfl) (by kernel_rfl) (by kernel_rfl) (fun _ _ _ h => h) (Or.inr ⟨by rfl, rfl⟩) hS ?_
     simp only [Act.put, List.setIfInBounds_toArray, List.set_cons_zero, List.set_cons_succ]
     refine wpAnyH_take (i := 7) (oi := ⟨some 30, _, _, _, _, some (3, true)⟩) (v := undef) rfl (by kernel_rfl) (by kernel_rfl) (by kernel_rfl) (fun _ _ _ h => h) (Or.inr ⟨by rfl, rfl⟩) hS ?_
     simp only [Act.put, List.setIfInBounds_toArray, List.set_cons_zero, List.set_cons_succ]
     refine wpAnyH_take (i := 8) (oi := ⟨some 31, _, _, _, _, some (3, true)⟩) (v := undef) rfl (by kernel_rfl) (by kernel_rfl) (by kernel_rfl) (fun _ _ _ h => h) (Or.inr ⟨by rfl, rfl⟩) hS ?_
     simp only [Act.put, List.setIfInBounds_toArray, List.set_cons_zero, List.set_cons_succ]
     refine wpAnyH_take (i := 9) (oi := ⟨some 32, _, _, _, _, some (3, true)⟩) (v := undef) rfl (by kernel_rfl) (by kernel_rfl) (by kernel_rfl) (fun _ _ _ h => h) (Or.inr ⟨by rfl, rfl⟩) hS ?_
     simp only [Act.put, List.setIfInBounds_toArray, List.set_cons_zero, List.set_cons_succ]
     refine wpAnyH_take (i := 10) (oi := ⟨some 33, _, _, _, _, some (3, true)⟩) (v := undef) rfl (by kernel_rfl) (by kernel_rfl) (by kernel_rfl) (fun _ _ _ h => h) (Or.inr ⟨by rfl, rfl⟩) hS ?_
     simp only [Act.put, List.setIfInBounds_toArray, List.set_cons_zero, List.set_cons_succ]
     refine wpAnyH_take (i := 11) (oi := ⟨some 34, _, _, _, _, some (3, true)⟩) (v := undef) rfl (by kernel_rfl) (by kernel_rfl) (by kernel_rfl) (fun _ _ _ h => h) (Or.inr ⟨by rfl, rfl⟩) hS ?_
     simp only [Act.put, List.setIfInBounds_toArray, List.set_cons_zero, List.set_cons_succ]
     refine wpAnyH_take (i := 12) (oi := ⟨some 35, _, _, _, _, some (3, true)⟩) (v := undef) rfl (by kernel_rfl) (by kernel_rfl) (by kernel_rfl) (fun _ _ _ h => h) (Or.inr ⟨by rfl, rfl⟩) hS ?_
     simp only [Act.put, List.setIfInBounds_toArray, List.set_cons_zero, List.set_cons_succ]
     refine wpAnyH_take (i := 13) (oi := ⟨some 36, _, _, _, _, some (3, true)⟩) (v := undef) rfl (by kernel_rfl) (by kernel_rfl) (by kernel_rfl) (fun _ _ _ h => h) (Or.inr ⟨by rfl, rfl⟩) hS ?_
     simp only [Act.put, List.setIfInBounds_toArray, List.set_cons_zero, List.set_cons_succ]
     refine wpAnyH_take (i := 14) (oi := ⟨some 37, _, _, _, _, some (3, true)⟩) (v := undef) rfl (by kernel_rfl) (by kernel_rfl) (by kernel_rfl) (fun _ _ _ h => h) (Or.inr ⟨by rfl, rfl⟩) hS ?_
     simp only [Act.put, List.setIfInBounds_toArray, List.set_cons_zero, List.set_cons_succ]
     refine wpAnyH_take (i := 15) (oi := ⟨some 38, _, _, _, _, some (3, true)⟩) (v := undef) rfl (by kernel_rfl) (by kernel_rfl) (by kernel_rfl) (fun _ _ _ h => h) (Or.inr ⟨by rfl, rfl⟩) hS ?_
     simp only [Act.put, List.setIfInBounds_toArray, List.set_cons_zero, List.set_cons_succ]
     refine wpAnyH_take (i := 16) (oi := ⟨some 39, _, _, _, _, none⟩) (v := .bool false) rfl (by kernel_rfl) (by kernel_rfl) (by kernel_rfl) (fun _ _ _ h => h) (Or.inl ⟨by rfl, ?_⟩) hS ?_
     ·intro wy hy
      skip
      go_simp
     simp only [Act.put, List.setIfInBounds_toArray, List.set_cons_zero, List.set_cons_succ]
     refine wpAnyH_done (by kernel_rfl) ?_ _
     clear hS
     go_wp2_with fail
     go_roundw
     case rel => first | exact ⟨k + 1, by omega, by go_num, by rw [HE.out]; exact ownsRow_below HO4.out (Below.refl _ w4).drew, HB4.out.drew, hs4⟩ | ((repeat apply Exists.intro); exact ⟨⟨k + 1, by omega, by go_num, by rw [HE.out]; exact ownsRow_below HO4.out (Below.refl _ w4).drew, HB4.out.drew, hs4⟩, rfl⟩)
     case measure => simp [intOf]; omega
    have hte := nonempty_toList hat
    have hte2 := isEmpty_not' hat
    obtain ⟨bi, hbi⟩ : ∃ bi, lastOf (brN x) c.at_ x.berths.length = some bi := by
     rcases ((valid_more HV.out).2.2.2 k c HX.out).2.2 with h | h
     ·exact absurd h hat
     ·exact h
    obtain ⟨hib, b, hb, hbna⟩ := idxB_some (valid_more HV.out).2.1 hbi
    have HIB := Hid.intro hib
    have HBB := Hid.intro hb
    have hbl : bi < x.berths.length := lt_of_some hb
    have HWS := Hid.intro (wrong_some (k := k) hbi hb)
    obtain ⟨bb, bo, rfl, _, hbbl, hbc⟩ := (N1.out.below BrtC.holds HW4.out (Nat.le_refl _)).at hb
    obtain ⟨am, cm, t0, t1, t2, t3, t4, t5, _, _, nM⟩ := hbc
    simp only [Nat.add_zero] at t0
    have HRB : Hid (w4.rangeAt bb (bo + bi * 6) [.string b.name, .string b.zone, .slice am b.marks.length cm, .int .i64 b.room, .int .i64 b.hold, .bool b.closed]) := range_cons t0 (range_cons t1 (range_cons t2 (range_cons t3 (range_cons t4 (range_cons t5 (range_nil _ _ _))))))
    have NM := Hid.intro nM
    clear hat hbi hib hb hbna t0 t1 t2 t3 t4 t5 nM
    refine wp_region_held_drew (S := SrgIn2 w.heap.size wr.heap.size x (some ⟨bb, bo, none⟩) c1 a2 c2 (some ⟨cb, co, none⟩) c3 [.string c.name, .string c.service, .int .i64 c.rank, .int .i64 c.born, .int .i64 c.room, .int .i64 c.hold, .string c.select, .slice a8 c.likes.length c8, .int .i64 c.apart, .string c.near, .string c.fixed, .string c.at_] bb (bo + bi * 6) [.string b.name, .string b.zone, .slice am b.marks.length cm, .int .i64 b.room, .int .i64 b.hold, .bool b.closed]) (by kernel_rfl) ⟨⟨HF4.out.drew.cell rfl, HF4.out.drew.cell rfl, HF4.out.drew.cell rfl, HF4.out.drew.cell rfl⟩, range_drew HX4.out.rangeA, range_drew HRB.out⟩ (fun hS => ?_)
    refine wpAnyH_take (i := 0) (oi := ⟨some 23, _, _, _, _, none⟩) (v := .pointer (some ⟨wr.heap.size, 11, none⟩)) rfl (by kernel_rfl) (by kernel_rfl) (by kernel_rfl) (fun _ _ _ h => h) (Or.inl ⟨by rfl, ?_⟩) hS ?_
    ·intro wy hy
     obtain ⟨⟨y0, y1, y2, y3⟩, yr, yb⟩ := hy
     have e11 : wy.cell? ⟨wr.heap.size, 11, none⟩ = some (.string c.at_) := by simpa using yr 11 _ rfl
     clear yr yb
     go_simp
    simp only [Act.put, List.setIfInBounds_toArray, List.set_cons_zero, List.set_cons_succ]
    refine wpAnyH_take (i := 1) (oi := ⟨some 24, _, _, _, _, none⟩) (v := .string c.at_) rfl (by kernel_rfl) (by kernel_rfl) (by kernel_rfl) (fun _ _ _ h => h) (Or.inl ⟨by rfl, ?_⟩) hS ?_
    ·intro wy hy
     obtain ⟨⟨y0, y1, y2, y3⟩, yr, yb⟩ := hy
     have e11 : wy.cell? ⟨wr.heap.size, 11, none⟩ = some (.string c.at_) := by simpa using yr 11 _ rfl
     clear yr yb
     go_simp
    simp only [Act.put, List.setIfInBounds_toArray, List.set_cons_zero, List.set_cons_succ]
    refine wpAnyH_take (i := 2) (oi := ⟨some 25, _, _, _, _, none⟩) (v := .bool true) rfl (by kernel_rfl) (by kernel_rfl) (by kernel_rfl) (fun _ _ _ h => h) (Or.inl ⟨by rfl, ?_⟩) hS ?_
    ·intro wy hy
     obtain ⟨⟨y0, y1, y2, y3⟩, yr, yb⟩ := hy
     have e11 : wy.cell? ⟨wr.heap.size, 11, none⟩ = some (.string c.at_) := by simpa using yr 11 _ rfl
     clear yr yb
     go_simp
    simp only [Act.put, List.setIfInBounds_toArray, List.set_cons_zero, List.set_cons_succ]
    refine wpAnyH_take (i := 3) (oi := ⟨some 26, _, _, _, _, none⟩) (v := .bool true) rfl (by kernel_rfl) (by kernel_rfl) (by kernel_rfl) (fun _ _ _ h => h) (Or.inl ⟨by rfl, ?_⟩) hS ?_
    ·intro wy hy
     obtain ⟨⟨y0, y1, y2, y3⟩, yr, yb⟩ := hy
     have e11 : wy.cell? ⟨wr.heap.size, 11, none⟩ = some (.string c.at_) := by simpa using yr 11 _ rfl
     clear yr yb
     go_simp
    simp only [Act.put, List.setIfInBounds_toArray, List.set_cons_zero, List.set_cons_succ]
    refine wpAnyH_take (i := 4) (oi := ⟨some 27, _, _, _, _, some (3, true)⟩) (v := .agg #[.bool x.pack, .slice (some ⟨bb, bo, none⟩) x.berths.length c1, .slice a2 x.services.length c2, .slice (some ⟨cb, co, none⟩) x.copies.length c3]) rfl (by kernel_rfl) (by kernel_rfl) (by kernel_rfl) (fun _ _ _ h => h) (Or.inl ⟨by rfl, ?_⟩) hS ?_
    ·intro wy hy
     obtain ⟨⟨y0, y1, y2, y3⟩, yr, yb⟩ := hy
     have e11 : wy.cell? ⟨wr.heap.size, 11, none⟩ = some (.string c.at_) := by simpa using yr 11 _ rfl
     clear yr yb
     go_simp
    simp only [Act.put, List.setIfInBounds_toArray, List.set_cons_zero, List.set_cons_succ]
    refine wpAnyH_take (i := 5) (oi := ⟨some 28, _, _, _, _, some (3, true)⟩) (v := .agg #[.string c.name, .string c.service, .int .i64 c.rank, .int .i64 c.born, .int .i64 c.room, .int .i64 c.hold, .string c.select, .slice a8 c.likes.length c8, .int .i64 c.apart, .string c.near, .string c.fixed, .string c.at_]) rfl (by kernel_rfl) (by kernel_rfl) (by kernel_rfl) (fun _ _ _ h => h) (Or.inl ⟨by rfl, ?_⟩) hS ?_
    ·intro wy hy
     obtain ⟨⟨y0, y1, y2, y3⟩, yr, yb⟩ := hy
     have e0 : wy.cell? ⟨wr.heap.size, 0, none⟩ = some (.string c.name) := by simpa using yr 0 _ rfl
     have e1 : wy.cell? ⟨wr.heap.size, 1, none⟩ = some (.string c.service) := by simpa using yr 1 _ rfl
     have e2 : wy.cell? ⟨wr.heap.size, 2, none⟩ = some (.int .i64 c.rank) := by simpa using yr 2 _ rfl
     have e3 : wy.cell? ⟨wr.heap.size, 3, none⟩ = some (.int .i64 c.born) := by simpa using yr 3 _ rfl
     have e4 : wy.cell? ⟨wr.heap.size, 4, none⟩ = some (.int .i64 c.room) := by simpa using yr 4 _ rfl
     have e5 : wy.cell? ⟨wr.heap.size, 5, none⟩ = some (.int .i64 c.hold) := by simpa using yr 5 _ rfl
     have e6 : wy.cell? ⟨wr.heap.size, 6, none⟩ = some (.string c.select) := by simpa using yr 6 _ rfl
     have e7 : wy.cell? ⟨wr.heap.size, 7, none⟩ = some (.slice a8 c.likes.length c8) := by simpa using yr 7 _ rfl
     have e8 : wy.cell? ⟨wr.heap.size, 8, none⟩ = some (.int .i64 c.apart) := by simpa using yr 8 _ rfl
     have e9 : wy.cell? ⟨wr.heap.size, 9, none⟩ = some (.string c.near) := by simpa using yr 9 _ rfl
     have e10 : wy.cell? ⟨wr.heap.size, 10, none⟩ = some (.string c.fixed) := by simpa using yr 10 _ rfl
     have e11 : wy.cell? ⟨wr.heap.size, 11, none⟩ = some (.string c.at_) := by simpa using yr 11 _ rfl
     clear yr yb
     go_simp
    simp only [Act.put, List.setIfInBounds_toArray, List.set_cons_zero, List.set_cons_succ]
    refine wpAnyH_take (i := 6) (oi := ⟨some 29, _, _, _, _, some (3, true)⟩) (v := .pointer (some ⟨w.heap.size, 1, none⟩)) rfl (by kernel_rfl) (by kernel_rfl) (by kernel_rfl) (fun _ _ _ h => h) (Or.inl ⟨by rfl, ?_⟩) hS ?_
    ·intro wy hy
     obtain ⟨⟨y0, y1, y2, y3⟩, yr, yb⟩ := hy
     have e11 : wy.cell? ⟨wr.heap.size, 11, none⟩ = some (.string c.at_) := by simpa using yr 11 _ rfl
     clear yr yb
     go_simp
    simp only [Act.put, List.setIfInBounds_toArray, List.set_cons_zero, List.set_cons_succ]
    refine wpAnyH_take (i := 7) (oi := ⟨some 30, _, _, _, _, some (3, true)⟩) (v := .slice (some ⟨bb, bo, none⟩) x.berths.length c1) rfl (by kernel_rfl) (by kernel_rfl) (by kernel_rfl) (fun _ _ _ h => h) (Or.inl ⟨by rfl, ?_⟩) hS ?_
    ·intro wy hy
     obtain ⟨⟨y0, y1, y2, y3⟩, yr, yb⟩ := hy
     have e11 : wy.cell? ⟨wr.heap.size, 11, none⟩ = some (.string c.at_) := by simpa using yr 11 _ rfl
     clear yr yb
     go_simp
    simp only [Act.put, List.setIfInBounds_toArray, List.set_cons_zero, List.set_cons_succ]
    refine wpAnyH_take (i := 8) (oi := ⟨some 31, _, _, _, _, some (3, true)⟩) (v := .agg #[.bool x.pack, .slice (some ⟨bb, bo, none⟩) x.berths.length c1, .slice a2 x.services.length c2, .slice (some ⟨cb, co, none⟩) x.copies.length c3]) rfl (by kernel_rfl) (by kernel_rfl) (by kernel_rfl) (fun _ _ _ h => h) (Or.inl ⟨by rfl, ?_⟩) hS ?_
    ·intro wy hy
     obtain ⟨⟨y0, y1, y2, y3⟩, yr, yb⟩ := hy
     have e11 : wy.cell? ⟨wr.heap.size, 11, none⟩ = some (.string c.at_) := by simpa using yr 11 _ rfl
     clear yr yb
     go_simp
    simp only [Act.put, List.setIfInBounds_toArray, List.set_cons_zero, List.set_cons_succ]
    refine wpAnyH_take (i := 9) (oi := ⟨some 32, _, _, _, _, some (3, true)⟩) (v := .pointer (some ⟨wr.heap.size, 11, none⟩)) rfl (by kernel_rfl) (by kernel_rfl) (by kernel_rfl) (fun _ _ _ h => h) (Or.inl ⟨by rfl, ?_⟩) hS ?_
    ·intro wy hy
     obtain ⟨⟨y0, y1, y2, y3⟩, yr, yb⟩ := hy
     have e11 : wy.cell? ⟨wr.heap.size, 11, none⟩ = some (.string c.at_) := by simpa using yr 11 _ rfl
     clear yr yb
     go_simp
    simp only [Act.put, List.setIfInBounds_toArray, List.set_cons_zero, List.set_cons_succ]
    refine wpAnyH_take (i := 10) (oi := ⟨some 33, _, _, _, _, some (3, true)⟩) (v := .string c.at_) rfl (by kernel_rfl) (by kernel_rfl) (by kernel_rfl) (fun _ _ _ h => h) (Or.inl ⟨by rfl, ?_⟩) hS ?_
    ·intro wy hy
     obtain ⟨⟨y0, y1, y2, y3⟩, yr, yb⟩ := hy
     have e11 : wy.cell? ⟨wr.heap.size, 11, none⟩ = some (.string c.at_) := by simpa using yr 11 _ rfl
     clear yr yb
     go_simp
    simp only [Act.put, List.setIfInBounds_toArray, List.set_cons_zero, List.set_cons_succ]
    refine wpAnyH_ready (rs := [11]) (by kernel_rfl) (by simp) (AllReadyH.cons (o := ⟨some 34, _, _, _, _, some (3, true)⟩) rfl (fun K hK => ?_) AllReadyH.nil)
    go_simp
    refine (l2Berth_any x (some ⟨bb, bo, none⟩) c1 a2 c2 (some ⟨cb, co, none⟩) c3 lo c.at_ _ (N1.out.below BrtC.holds HW4.out.drew (Nat.le_refl _)) l1).mono ?_
    rintro e w5 ⟨rfl, hb5⟩
    rw [HIB.out]
    have hd5 : Below w4.heap.size w4 w5 := (Below.refl _ w4).drew.trans hb5
    have HX5 := Hid.intro (HX4.out.below hd5 HX4.out.lt)
    have HF5 := Hid.intro (HF4.out.below hd5 HF4.out.lt)
    have HB5 : Hid (Below (w.heap.size + 1) w1 w5) := HB4.out.trans (hd5.mono (by omega))
    have HW5 : Hid (Below w.heap.size w w5) := HW4.out.trans (hd5.mono HW4.out.size)
    have HO5 := Hid.intro (ownsRow_below HO4.out hd5)
    have HRB5 := Hid.intro (range_belowV HRB.out hd5 hbbl)
    have NM5 := Hid.intro (NM.out.below StrC.holds hd5 (Nat.le_refl _))
    have hbb5 : bb < w5.heap.size := Nat.lt_of_lt_of_le hbbl hd5.size
    have hs5 : w.heap.size + 1 < w5.heap.size := Nat.lt_of_lt_of_le hs4 hd5.size
    refine hK.out _ _ ⟨⟨HF5.out.cell rfl, HF5.out.cell rfl, HF5.out.cell rfl, HF5.out.cell rfl⟩, HX5.out.rangeA, HRB5.out⟩ (fun hS => ?_)
    clear hK K hb5 hd5 HX4 HF4 HB4 HW4 HO4 HRB NM hs4 hbbl
    refine wpAnyH_take (i := 12) (oi := ⟨some 35, _, _, _, _, some (3, true)⟩) (v := .pointer (some ⟨bb, bo + bi * 6, none⟩)) rfl (by kernel_rfl) (by kernel_rfl) (by kernel_rfl) (fun _ _ _ h => h) (Or.inl ⟨by rfl, ?_⟩) hS ?_
    ·intro wy hy
     obtain ⟨⟨y0, y1, y2, y3⟩, yr, yb⟩ := hy
     have e11 : wy.cell? ⟨wr.heap.size, 11, none⟩ = some (.string c.at_) := by simpa using yr 11 _ rfl
     clear yr yb
     go_simp
    simp only [Act.put, List.setIfInBounds_toArray, List.set_cons_zero, List.set_cons_succ]
    refine wpAnyH_take (i := 13) (oi := ⟨some 36, _, _, _, _, some (3, true)⟩) (v := .agg #[.string b.name, .string b.zone, .slice am b.marks.length cm, .int .i64 b.room, .int .i64 b.hold, .bool b.closed]) rfl (by kernel_rfl) (by kernel_rfl) (by kernel_rfl) (fun _ _ _ h => h) (Or.inl ⟨by rfl, ?_⟩) hS ?_
    ·intro wy hy
     obtain ⟨⟨y0, y1, y2, y3⟩, yr, yb⟩ := hy
     have h0 : wy.cell? ⟨bb, bo + bi * 6, none⟩ = some (.string b.name) := by simpa using yb 0 _ rfl
     have h1 : wy.cell? ⟨bb, bo + bi * 6 + 1, none⟩ = some (.string b.zone) := by simpa using yb 1 _ rfl
     have h2 : wy.cell? ⟨bb, bo + bi * 6 + 2, none⟩ = some (.slice am b.marks.length cm) := by simpa using yb 2 _ rfl
     have h3 : wy.cell? ⟨bb, bo + bi * 6 + 3, none⟩ = some (.int .i64 b.room) := by simpa using yb 3 _ rfl
     have h4 : wy.cell? ⟨bb, bo + bi * 6 + 4, none⟩ = some (.int .i64 b.hold) := by simpa using yb 4 _ rfl
     have h5 : wy.cell? ⟨bb, bo + bi * 6 + 5, none⟩ = some (.bool b.closed) := by simpa using yb 5 _ rfl
     clear yr yb
     go_simp
    simp only [Act.put, List.setIfInBounds_toArray, List.set_cons_zero, List.set_cons_succ]
    refine wpAnyH_ready (rs := [14]) (by kernel_rfl) (by simp) (AllReadyH.cons (o := ⟨some 37, _, _, _, _, some (3, true)⟩) rfl (fun K hK => ?_) AllReadyH.nil)
    go_simp
    have H1 : SliceC BrtC 6 lo w5 (some ⟨bb, bo, none⟩) x.berths := N1.out.below BrtC.holds HW5.out (Nat.le_refl _)
    have H2 : SliceC CpyC 12 lo w5 (some ⟨cb, co, none⟩) x.copies := N3.out.below CpyC.holds HW5.out (Nat.le_refl _)
    have HC := l3Fits_any lo k bi x (some ⟨bb, bo, none⟩) c1 a2 c2 (some ⟨cb, co, none⟩) c3 c a8 c8 b am cm true w5 H1 H2 NM5.out HX.out HBB.out HV.out Z6.out
    clear H1 H2
    refine HC.mono ?_
    rintro e w6 ⟨rfl, hb6⟩
    have HX6 := Hid.intro (HX5.out.below hb6 HX5.out.lt)
    have HF6 := Hid.intro (HF5.out.below hb6 HF5.out.lt)
    have HB6 : Hid (Below (w.heap.size + 1) w1 w6) := HB5.out.trans (hb6.mono (by omega))
    have HO6 := Hid.intro (ownsRow_below HO5.out hb6)
    have hs6 : w.heap.size + 1 < w6.heap.size := Nat.lt_of_lt_of_le hs5 hb6.size
    obtain ⟨fv, hfv⟩ : ∃ t, t = fitsI x k c b true := ⟨_, rfl⟩
    rw [← hfv]
    have HFV := Hid.intro hfv
    clear hfv
    refine hK.out _ _ ⟨⟨HF6.out.cell rfl, HF6.out.cell rfl, HF6.out.cell rfl, HF6.out.cell rfl⟩, HX6.out.rangeA, range_belowV HRB5.out hb6 hbb5⟩ (fun hS => ?_)
    clear hK K hb6 HX5 HF5 HB5 HW5 HO5 HRB5 NM5 hs5 hbb5
    by_cases hf0 : fv = 0
    ·have HE := Hid.intro (rightTo_no HX.out (HWS.out.trans (decide_eq_false (fun h => h (HFV.out.symm.trans hf0)))))
     refine wpAnyH_take (i := 15) (oi := ⟨some 38, _, _, _, _, some (3, true)⟩) (v := .bool false) rfl (by kernel_rfl) (by kernel_rfl) (by kernel_rfl) (fun _ _ _ h => h) (Or.inl ⟨by rfl, ?_⟩) hS ?_
     ·intro wy hy
      obtain ⟨⟨y0, y1, y2, y3⟩, yr, yb⟩ := hy
      have e11 : wy.cell? ⟨wr.heap.size, 11, none⟩ = some (.string c.at_) := by simpa using yr 11 _ rfl
      clear yr yb
      have e0 := hf0
      go_simp
     simp only [Act.put, List.setIfInBounds_toArray, List.set_cons_zero, List.set_cons_succ]
     refine wpAnyH_take (i := 16) (oi := ⟨some 39, _, _, _, _, none⟩) (v := .bool false) rfl (by kernel_rfl) (by kernel_rfl) (by kernel_rfl) (fun _ _ _ h => h) (Or.inl ⟨by rfl, ?_⟩) hS ?_
     ·intro wy hy
      obtain ⟨⟨y0, y1, y2, y3⟩, yr, yb⟩ := hy
      have e11 : wy.cell? ⟨wr.heap.size, 11, none⟩ = some (.string c.at_) := by simpa using yr 11 _ rfl
      clear yr yb
      go_simp
     simp only [Act.put, List.setIfInBounds_toArray, List.set_cons_zero, List.set_cons_succ]
     refine wpAnyH_done (by kernel_rfl) ?_ _
     clear hS hf0 HFV
     go_wp2_with fail
     go_roundw
     case rel => first | exact ⟨k + 1, by omega, by go_num, by rw [HE.out]; exact HO6.out, HB6, hs6⟩ | ((repeat apply Exists.intro); exact ⟨⟨k + 1, by omega, by go_num, by rw [HE.out]; exact HO6.out, HB6, hs6⟩, rfl⟩)
     case measure => simp [intOf]; omega
    ·have HE := Hid.intro (rightTo_yes HX.out (HWS.out.trans (decide_eq_true (fun h => hf0 (HFV.out.trans h)))))
     refine wpAnyH_take (i := 15) (oi := ⟨some 38, _, _, _, _, some (3, true)⟩) (v := .bool true) rfl (by kernel_rfl) (by kernel_rfl) (by kernel_rfl) (fun _ _ _ h => h) (Or.inl ⟨by rfl, ?_⟩) hS ?_
     ·intro wy hy
      obtain ⟨⟨y0, y1, y2, y3⟩, yr, yb⟩ := hy
      have e11 : wy.cell? ⟨wr.heap.size, 11, none⟩ = some (.string c.at_) := by simpa using yr 11 _ rfl
      clear yr yb
      have e0 : ¬ fv = 0 := hf0
      go_simp
     simp only [Act.put, List.setIfInBounds_toArray, List.set_cons_zero, List.set_cons_succ]
     refine wpAnyH_take (i := 16) (oi := ⟨some 39, _, _, _, _, none⟩) (v := .bool true) rfl (by kernel_rfl) (by kernel_rfl) (by kernel_rfl) (fun _ _ _ h => h) (Or.inl ⟨by rfl, ?_⟩) hS ?_
     ·intro wy hy
      obtain ⟨⟨y0, y1, y2, y3⟩, yr, yb⟩ := hy
      have e11 : wy.cell? ⟨wr.heap.size, 11, none⟩ = some (.string c.at_) := by simpa using yr 11 _ rfl
      clear yr yb
      go_simp
     simp only [Act.put, List.setIfInBounds_toArray, List.set_cons_zero, List.set_cons_succ]
     refine wpAnyH_done (by kernel_rfl) ?_ _
     clear hS hf0 HFV
     have n0 : w6.cell? ⟨wr.heap.size, 0, none⟩ = some (.string c.name) := HX6.out.cell rfl
     have hln : (rightTo x k).length ≤ k := rightTo_len k
     go_wp2_with (first | (at_builtin; refine wpList_append_lies _ rfl (.tmp 40) (.tmp 43) 37 rfl (w.heap.size + 1) 9 i0 _ 1 16 Tryz.underlying37 hi hz0 hz1 hz2 rfl (by decide) _ (rightTo x k).length _ rfl (ownsRow_below HO6.out ((Below.refl _ _).alloc (Nat.le_refl _) _)) ⟨w6.heap.size, 0, none⟩ 1 1 [.string c.name] rfl rfl (oneS (by simp)) (by intro u hu; rw [List.mem_singleton.1 hu]; rfl) (by omega) (by unfold maxLen; omega) (by omega) (by simp; omega) _ rfl ?_; intro g2 cap2 w9 hown hgrow hto hgl))
     go_roundw
     case rel =>
      have hBa : Below w6.heap.size w6 (w6.alloc (Obj.cells #[.string c.name] 9)) := (Below.refl _ w6).alloc (Nat.le_refl _) _
      have hsa : w.heap.size + 1 < (w6.alloc (Obj.cells #[.string c.name] 9)).heap.size := Nat.lt_of_lt_of_le hs6 hBa.size
      have hBg : Below (w.heap.size + 1) (w6.alloc (Obj.cells #[.string c.name] 9)) w9 := (Below.refl _ _).grown hgrow (Nat.le_of_lt hsa) (fun i hi => (HO6.out.lt i hi).1)
      have hR : w9.ownsRow (w.heap.size + 1) 9 1 (.slice (some ⟨g2, 0, none⟩) ((rightTo x k).length + 1) cap2) (rightTo x (k + 1)).length (stV (rightTo x (k + 1))) := by
       rw [HE.out]
       simpa [stV] using hown
      first | exact ⟨k + 1, by omega, by go_num, hR, HB6.out.trans ((hBa.mono (by omega)).trans hBg), Nat.lt_of_lt_of_le hsa hBg.size⟩ | ((repeat apply Exists.intro); exact ⟨⟨k + 1, by omega, by go_num, hR, HB6.out.trans ((hBa.mono (by omega)).trans hBg), Nat.lt_of_lt_of_le hsa hBg.size⟩, rfl⟩)
     case measure => simp [intOf]; omega
   ·have hke : k = x.copies.length := by omega
    subst hke
    have HE : Hid (rightL x = rightTo x x.copies.length) := by show _ = _; unfold rightL; rw [if_pos HV.out]
    obtain ⟨av, cv, rfl, hSv⟩ := row_strs hO.out (fun s hs => by have := (rightL_small x).2.2 s (by rw [HE.out]; exact hs); unfold maxLen; omega) (by have := rightTo_len (x := x) x.copies.length; unfold maxLen; omega)
    have HSV := Hid.intro hSv
    clear hSv
    go_wp2_with fail
    go_ret
    exact ⟨av, cv, by rw [HE.out]; rfl, by rw [HE.out]; exact HSV.out, HWr.out⟩

end Go.Proofs.YtmclbfkcbadnpaaGreat
