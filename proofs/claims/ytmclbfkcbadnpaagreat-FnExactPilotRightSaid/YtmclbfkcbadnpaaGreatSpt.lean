import Derived.Test.YtmclbfkcbadnpaaGreatFv2
import Derived.Deep.RegionHeld3
namespace Go.Proofs.YtmclbfkcbadnpaaGreat
open Go.RowKit

theorem isz_spot : (Tryz.prog.info? 63).map (·.size) = some 24 := by kernel_rfl

def SptS (p q r o : Nat) (v : Value) (cs bs : List Value) (w : World) : Prop := w.cell? ⟨p, 3, none⟩ = some v ∧ w.rangeAt r o cs ∧ w.rangeAt q 0 bs

theorem SptS.below {p q r o : Nat} {v : Value} {cs bs : List Value} {w w' : World} (h : SptS p q r o v cs bs w) (hb : Below w.heap.size w w') (hr : r < w.heap.size) (hq : q < w.heap.size) : SptS p q r o v cs bs w' :=
 ⟨(hb.cell (p := ⟨p, 3, none⟩) (block_lt_of_cell h.1)).trans h.1, range_belowV h.2.1 hb hr, range_belowV h.2.2 hb hq⟩

theorem there_belowV {w w' : World} {g o n B : Nat} (h : w.there g o n) (hb : Below B w w') (hB : g < B) : w'.there g o n := by
 intro j hj
 rw [hb.cell (p := ⟨g, _, none⟩) hB, hb.frozen (p := ⟨g, _, none⟩) hB]
 exact h j hj

set_option maxHeartbeats 4000000 in
set_option maxRecDepth 100000 in
theorem spotOf_any (p : Nat) (x : Flt) (a1 : Option Addr) (c1 : Nat) (a2 : Option Addr) (c2 : Nat) (a3 : Option Addr) (c3 : Nat) (lo ci bi : Nat) (y : Cpy) (b : Brt) (w : World) (hp : FndIn p x a1 c1 a2 c2 a3 c3 w)
  (n1 : SliceC BrtC 6 lo w a1 x.berths) (n3 : SliceC CpyC 12 lo w a3 x.copies) (l3 : x.copies.length ≤ 1048576) (hy : x.copies[ci]? = some y) (hb : x.berths[bi]? = some b) :
  Calls Tryz.prog 37 #[.pointer (some ⟨p, 0, none⟩), .int .i64 ci, .int .i64 bi] w fun e w' => ∃ a7 c7 am cm, e = .returned (.agg #[.pointer (some ⟨p, 0, none⟩), .int .i64 ci, .string y.name, .string y.service, .int .i64 y.rank, .int .i64 y.born, .int .i64 y.room, .int .i64 y.hold, .string y.select, .slice a7 y.likes.length c7, .int .i64 y.apart, .string y.near, .string y.fixed, .string y.at_, .int .i64 bi, .string b.name, .string b.zone, .slice am b.marks.length cm, .int .i64 b.room, .int .i64 b.hold, .bool b.closed, .int .i64 (useTo x.copies b.name ci x.copies.length).1, .int .i64 (useTo x.copies b.name ci x.copies.length).2.1, .int .i64 (useTo x.copies b.name ci x.copies.length).2.2]) ∧ SliceC LikC 2 lo w a7 y.likes ∧ SliceC StrC 1 lo w am b.marks ∧ (∃ cb co bb bo, a3 = some ⟨cb, co, none⟩ ∧ a1 = some ⟨bb, bo, none⟩ ∧ w.cell? ⟨cb, co + ci * 12 + 7, none⟩ = some (.slice a7 y.likes.length c7) ∧ w.cell? ⟨bb, bo + bi * 6 + 2, none⟩ = some (.slice am b.marks.length cm)) ∧ Below w.heap.size w w' := by
 obtain ⟨p1, p2, p3⟩ := hp
 have hci := lt_of_some hy
 have hbi := lt_of_some hb
 obtain ⟨by_, oy, rfl, _, hyl, hcy⟩ := n3.at hy
 obtain ⟨bb, ob, rfl, _, hbl, hcb⟩ := n1.at hb
 obtain ⟨a7, c7, q0, q1, q2, q3, q4, q5, q6, q7, q8, q9, q10, q11, _, _, _, _, _, _, n7⟩ := hcy
 obtain ⟨am, cm, r0, r1, r2, r3, r4, r5, _, _, nm⟩ := hcb
 simp only [Nat.add_zero] at q0 r0
 have N3 : Hid (SliceC CpyC 12 lo w (some ⟨by_, oy, none⟩) x.copies) := n3
 have N7 : Hid (SliceC LikC 2 lo w a7 y.likes) := n7
 have HAT : Hid (∃ cb co bb' bo, (some ⟨by_, oy, none⟩ : Option Addr) = some ⟨cb, co, none⟩ ∧ (some ⟨bb, ob, none⟩ : Option Addr) = some ⟨bb', bo, none⟩ ∧ w.cell? ⟨cb, co + ci * 12 + 7, none⟩ = some (.slice a7 y.likes.length c7) ∧ w.cell? ⟨bb', bo + bi * 6 + 2, none⟩ = some (.slice am b.marks.length cm)) := ⟨by_, oy, bb, ob, rfl, rfl, q7, r2⟩
 have NM : Hid (SliceC StrC 1 lo w am b.marks) := nm
 have HRB : Hid (w.rangeAt bb (ob + bi * 6) [.string b.name, .string b.zone, .slice am b.marks.length cm, .int .i64 b.room, .int .i64 b.hold, .bool b.closed]) := range_cons r0 (range_cons r1 (range_cons r2 (range_cons r3 (range_cons r4 (range_cons r5 (range_nil _ _ _))))))
 have HRC : Hid (w.rangeAt by_ (oy + ci * 12) [.string y.name, .string y.service, .int .i64 y.rank, .int .i64 y.born, .int .i64 y.room, .int .i64 y.hold, .string y.select, .slice a7 y.likes.length c7, .int .i64 y.apart, .string y.near, .string y.fixed, .string y.at_]) := range_cons q0 (range_cons q1 (range_cons q2 (range_cons q3 (range_cons q4 (range_cons q5 (range_cons q6 (range_cons q7 (range_cons q8 (range_cons q9 (range_cons q10 (range_cons q11 (range_nil _ _ _))))))))))))
 clear n1 n3 n7 nm hy hb q0 q1 q2 q3 q4 q5 q6 q7 q8 q9 q10 q11 r0 r1 r2 r3 r4 r5
 go_enter Tryz.func37, Tryz.ntmps37
 go_upto_region 1 with fail
 have hal : Below w.heap.size w (w.alloc (Obj.cells #[.pointer none, .int .i64 0, .string ⟨#[]⟩, .string ⟨#[]⟩, .int .i64 0, .int .i64 0, .int .i64 0, .int .i64 0, .string ⟨#[]⟩, .slice none 0 0, .int .i64 0, .string ⟨#[]⟩, .string ⟨#[]⟩, .string ⟨#[]⟩, .int .i64 0, .string ⟨#[]⟩, .string ⟨#[]⟩, .slice none 0 0, .int .i64 0, .int .i64 0, .bool false, .int .i64 0, .int .i64 0, .int .i64 0] 63)) := (Below.refl _ _).alloc (Nat.le_refl _) _
 have HT1 : Hid ((w.alloc (Obj.cells #[.pointer none, .int .i64 0, .string ⟨#[]⟩, .string ⟨#[]⟩, .int .i64 0, .int .i64 0, .int .i64 0, .int .i64 0, .string ⟨#[]⟩, .slice none 0 0, .int .i64 0, .string ⟨#[]⟩, .string ⟨#[]⟩, .string ⟨#[]⟩, .int .i64 0, .string ⟨#[]⟩, .string ⟨#[]⟩, .slice none 0 0, .int .i64 0, .int .i64 0, .bool false, .int .i64 0, .int .i64 0, .int .i64 0] 63)).there w.heap.size 0 24) := there_cons (by simp; rfl) (by simp) (there_cons (by simp; rfl) (by simp) (there_cons (by simp; rfl) (by simp) (there_cons (by simp; rfl) (by simp) (there_cons (by simp; rfl) (by simp) (there_cons (by simp; rfl) (by simp) (there_cons (by simp; rfl) (by simp) (there_cons (by simp; rfl) (by simp) (there_cons (by simp; rfl) (by simp) (there_cons (by simp; rfl) (by simp) (there_cons (by simp; rfl) (by simp) (there_cons (by simp; rfl) (by simp) (there_cons (by simp; rfl) (by simp) (there_cons (by simp; rfl) (by simp) (there_cons (by simp; rfl) (by simp) (there_cons (by simp; rfl) (by simp) (there_cons (by simp; rfl) (by simp) (there_cons (by simp; rfl) (by simp) (there_cons (by simp; rfl) (by simp) (there_cons (by simp; rfl) (by simp) (there_cons (by simp; rfl) (by simp) (there_cons (by simp; rfl) (by simp) (there_cons (by simp; rfl) (by simp) (there_cons (by simp; rfl) (by simp) (there_nil _ _ _))))))))))))))))))))))))
 have HB1 : Hid (Below w.heap.size w (w.alloc (Obj.cells #[.pointer none, .int .i64 0, .string ⟨#[]⟩, .string ⟨#[]⟩, .int .i64 0, .int .i64 0, .int .i64 0, .int .i64 0, .string ⟨#[]⟩, .slice none 0 0, .int .i64 0, .string ⟨#[]⟩, .string ⟨#[]⟩, .string ⟨#[]⟩, .int .i64 0, .string ⟨#[]⟩, .string ⟨#[]⟩, .slice none 0 0, .int .i64 0, .int .i64 0, .bool false, .int .i64 0, .int .i64 0, .int .i64 0] 63))) := hal
 have HRB1 : Hid ((w.alloc (Obj.cells #[.pointer none, .int .i64 0, .string ⟨#[]⟩, .string ⟨#[]⟩, .int .i64 0, .int .i64 0, .int .i64 0, .int .i64 0, .string ⟨#[]⟩, .slice none 0 0, .int .i64 0, .string ⟨#[]⟩, .string ⟨#[]⟩, .string ⟨#[]⟩, .int .i64 0, .string ⟨#[]⟩, .string ⟨#[]⟩, .slice none 0 0, .int .i64 0, .int .i64 0, .bool false, .int .i64 0, .int .i64 0, .int .i64 0] 63)).rangeAt bb (ob + bi * 6) [.string b.name, .string b.zone, .slice am b.marks.length cm, .int .i64 b.room, .int .i64 b.hold, .bool b.closed]) := range_belowV HRB.out hal hbl
 have hs1 : (w.alloc (Obj.cells #[.pointer none, .int .i64 0, .string ⟨#[]⟩, .string ⟨#[]⟩, .int .i64 0, .int .i64 0, .int .i64 0, .int .i64 0, .string ⟨#[]⟩, .slice none 0 0, .int .i64 0, .string ⟨#[]⟩, .string ⟨#[]⟩, .string ⟨#[]⟩, .int .i64 0, .string ⟨#[]⟩, .string ⟨#[]⟩, .slice none 0 0, .int .i64 0, .int .i64 0, .bool false, .int .i64 0, .int .i64 0, .int .i64 0] 63)).heap.size = w.heap.size + 1 := by simp
 have p1' : (w.alloc (Obj.cells #[.pointer none, .int .i64 0, .string ⟨#[]⟩, .string ⟨#[]⟩, .int .i64 0, .int .i64 0, .int .i64 0, .int .i64 0, .string ⟨#[]⟩, .slice none 0 0, .int .i64 0, .string ⟨#[]⟩, .string ⟨#[]⟩, .string ⟨#[]⟩, .int .i64 0, .string ⟨#[]⟩, .string ⟨#[]⟩, .slice none 0 0, .int .i64 0, .int .i64 0, .bool false, .int .i64 0, .int .i64 0, .int .i64 0] 63)).cell? ⟨p, 1, none⟩ = some (.slice (some ⟨bb, ob, none⟩) x.berths.length c1) := (hal.cell (p := ⟨p, 1, none⟩) (block_lt_of_cell p1)).trans p1
 have P3 : Hid (w.cell? ⟨p, 3, none⟩ = some (.slice (some ⟨by_, oy, none⟩) x.copies.length c3)) := p3
 clear hal HRB p2 p1 p3
 generalize (w.alloc (Obj.cells #[.pointer none, .int .i64 0, .string ⟨#[]⟩, .string ⟨#[]⟩, .int .i64 0, .int .i64 0, .int .i64 0, .int .i64 0, .string ⟨#[]⟩, .slice none 0 0, .int .i64 0, .string ⟨#[]⟩, .string ⟨#[]⟩, .string ⟨#[]⟩, .int .i64 0, .string ⟨#[]⟩, .string ⟨#[]⟩, .slice none 0 0, .int .i64 0, .int .i64 0, .bool false, .int .i64 0, .int .i64 0, .int .i64 0] 63)) = w1 at *
 go_upto_region 2 with (first | (refine wpList_load_mid rfl 55 _ rfl bb (ob + bi * 6) (by first | rfl | (simp [go_sem]; done)) [.string b.name, .string b.zone, .slice am b.marks.length cm, .int .i64 b.room, .int .i64 b.hold, .bool b.closed] _ HRB1.out Tryz.underlying55 rfl isz_Brt ?_))
 have hal : Below w1.heap.size w1 (w1.alloc (Obj.cells #[.string b.name, .string b.zone, .slice am b.marks.length cm, .int .i64 b.room, .int .i64 b.hold, .bool b.closed] 55)) := (Below.refl _ _).alloc (Nat.le_refl _) _
 have HB2 : Hid (Below w.heap.size w (w1.alloc (Obj.cells #[.string b.name, .string b.zone, .slice am b.marks.length cm, .int .i64 b.room, .int .i64 b.hold, .bool b.closed] 55))) := HB1.out.trans (hal.mono HB1.out.size)
 have HT2 : Hid ((w1.alloc (Obj.cells #[.string b.name, .string b.zone, .slice am b.marks.length cm, .int .i64 b.room, .int .i64 b.hold, .bool b.closed] 55)).there w.heap.size 0 24) := there_belowV HT1.out hal (by omega)
 have HRX : Hid ((w1.alloc (Obj.cells #[.string b.name, .string b.zone, .slice am b.marks.length cm, .int .i64 b.room, .int .i64 b.hold, .bool b.closed] 55)).rangeAt (w.heap.size + 1) 0 [.string b.name, .string b.zone, .slice am b.marks.length cm, .int .i64 b.room, .int .i64 b.hold, .bool b.closed]) := by
  rw [← hs1]
  exact range_cons (by simp) (range_cons (by simp) (range_cons (by simp) (range_cons (by simp) (range_cons (by simp) (range_cons (by simp) (range_nil _ _ _))))))
 have hs2 : (w1.alloc (Obj.cells #[.string b.name, .string b.zone, .slice am b.marks.length cm, .int .i64 b.room, .int .i64 b.hold, .bool b.closed] 55)).heap.size = w.heap.size + 2 := by simp; omega
 have HSS : Hid (SptS p (w.heap.size + 1) by_ (oy + ci * 12) (.slice (some ⟨by_, oy, none⟩) x.copies.length c3) [.string y.name, .string y.service, .int .i64 y.rank, .int .i64 y.born, .int .i64 y.room, .int .i64 y.hold, .string y.select, .slice a7 y.likes.length c7, .int .i64 y.apart, .string y.near, .string y.fixed, .string y.at_] [.string b.name, .string b.zone, .slice am b.marks.length cm, .int .i64 b.room, .int .i64 b.hold, .bool b.closed] (w1.alloc (Obj.cells #[.string b.name, .string b.zone, .slice am b.marks.length cm, .int .i64 b.room, .int .i64 b.hold, .bool b.closed] 55))) := ⟨(HB2.out.cell (p := ⟨p, 3, none⟩) (block_lt_of_cell P3.out)).trans P3.out, range_belowV HRC.out HB2.out hyl, HRX.out⟩
 have N3' : Hid (SliceC CpyC 12 lo (w1.alloc (Obj.cells #[.string b.name, .string b.zone, .slice am b.marks.length cm, .int .i64 b.room, .int .i64 b.hold, .bool b.closed] 55)).drew (some ⟨by_, oy, none⟩) x.copies) := (N3.out.below CpyC.holds HB2.out (Nat.le_refl _)).below CpyC.holds ((Below.refl _ (w1.alloc (Obj.cells #[.string b.name, .string b.zone, .slice am b.marks.length cm, .int .i64 b.room, .int .i64 b.hold, .bool b.closed] 55))).drew) (Nat.le_refl _)
 have HT3 : Hid ((w1.alloc (Obj.cells #[.string b.name, .string b.zone, .slice am b.marks.length cm, .int .i64 b.room, .int .i64 b.hold, .bool b.closed] 55)).drew.there w.heap.size 0 24) := there_belowV HT2.out ((Below.refl (w1.alloc (Obj.cells #[.string b.name, .string b.zone, .slice am b.marks.length cm, .int .i64 b.room, .int .i64 b.hold, .bool b.closed] 55)).heap.size (w1.alloc (Obj.cells #[.string b.name, .string b.zone, .slice am b.marks.length cm, .int .i64 b.room, .int .i64 b.hold, .bool b.closed] 55))).drew) (by omega)
 have HB3 : Hid (Below w.heap.size w (w1.alloc (Obj.cells #[.string b.name, .string b.zone, .slice am b.marks.length cm, .int .i64 b.room, .int .i64 b.hold, .bool b.closed] 55)).drew) := HB2.out.drew
 have HSD : Hid (SptS p (w.heap.size + 1) by_ (oy + ci * 12) (.slice (some ⟨by_, oy, none⟩) x.copies.length c3) [.string y.name, .string y.service, .int .i64 y.rank, .int .i64 y.born, .int .i64 y.room, .int .i64 y.hold, .string y.select, .slice a7 y.likes.length c7, .int .i64 y.apart, .string y.near, .string y.fixed, .string y.at_] [.string b.name, .string b.zone, .slice am b.marks.length cm, .int .i64 b.room, .int .i64 b.hold, .bool b.closed] (w1.alloc (Obj.cells #[.string b.name, .string b.zone, .slice am b.marks.length cm, .int .i64 b.room, .int .i64 b.hold, .bool b.closed] 55)).drew) := HSS.out.below ((Below.refl _ (w1.alloc (Obj.cells #[.string b.name, .string b.zone, .slice am b.marks.length cm, .int .i64 b.room, .int .i64 b.hold, .bool b.closed] 55))).drew) (by omega) (by omega)
 have hs3 : (w1.alloc (Obj.cells #[.string b.name, .string b.zone, .slice am b.marks.length cm, .int .i64 b.room, .int .i64 b.hold, .bool b.closed] 55)).drew.heap.size = w.heap.size + 2 := by rw [← hs2]; simp
 clear hal HB1 HB2 HT1 HT2 HRX HRB1 p1' hs1 hs2 HSS
 refine wp_region_held_drew (S := SptS p (w.heap.size + 1) by_ (oy + ci * 12) (.slice (some ⟨by_, oy, none⟩) x.copies.length c3) [.string y.name, .string y.service, .int .i64 y.rank, .int .i64 y.born, .int .i64 y.room, .int .i64 y.hold, .string y.select, .slice a7 y.likes.length c7, .int .i64 y.apart, .string y.near, .string y.fixed, .string y.at_] [.string b.name, .string b.zone, .slice am b.marks.length cm, .int .i64 b.room, .int .i64 b.hold, .bool b.closed]) (by kernel_rfl) HSD.out (fun hS => ?_)
 clear HSD
 generalize (w1.alloc (Obj.cells #[.string b.name, .string b.zone, .slice am b.marks.length cm, .int .i64 b.room, .int .i64 b.hold, .bool b.closed] 55)).drew = w3 at *
 refine wpAnyH_take (i := 0) (oi := ⟨some 16, _, _, _, _, none⟩) (v := .pointer (some ⟨p, 0, none⟩)) rfl (by kernel_rfl) (by kernel_rfl) (by kernel_rfl) (fun _ _ _ h => h) (Or.inl ⟨by rfl, ?_⟩) hS ?_
 ·intro wy hy
  obtain ⟨y0, y1, y2⟩ := hy
  have y3 := y2 0 _ rfl
  simp only [Nat.add_zero] at y3
  clear y1 y2
  go_simp
 simp only [Act.put, List.setIfInBounds_toArray, List.set_cons_zero, List.set_cons_succ]
 refine wpAnyH_take (i := 1) (oi := ⟨some 17, _, _, _, _, none⟩) (v := .int .i64 ci) rfl (by kernel_rfl) (by kernel_rfl) (by kernel_rfl) (fun _ _ _ h => h) (Or.inl ⟨by rfl, ?_⟩) hS ?_
 ·intro wy hy
  obtain ⟨y0, y1, y2⟩ := hy
  have y3 := y2 0 _ rfl
  simp only [Nat.add_zero] at y3
  clear y1 y2
  go_simp
 simp only [Act.put, List.setIfInBounds_toArray, List.set_cons_zero, List.set_cons_succ]
 refine wpAnyH_take (i := 2) (oi := ⟨some 18, _, _, _, _, none⟩) (v := .pointer (some ⟨p, 0, none⟩)) rfl (by kernel_rfl) (by kernel_rfl) (by kernel_rfl) (fun _ _ _ h => h) (Or.inl ⟨by rfl, ?_⟩) hS ?_
 ·intro wy hy
  obtain ⟨y0, y1, y2⟩ := hy
  have y3 := y2 0 _ rfl
  simp only [Nat.add_zero] at y3
  clear y1 y2
  go_simp
 simp only [Act.put, List.setIfInBounds_toArray, List.set_cons_zero, List.set_cons_succ]
 refine wpAnyH_take (i := 3) (oi := ⟨some 19, _, _, _, _, none⟩) (v := .pointer (some ⟨p, 0, none⟩)) rfl (by kernel_rfl) (by kernel_rfl) (by kernel_rfl) (fun _ _ _ h => h) (Or.inl ⟨by rfl, ?_⟩) hS ?_
 ·intro wy hy
  obtain ⟨y0, y1, y2⟩ := hy
  have y3 := y2 0 _ rfl
  simp only [Nat.add_zero] at y3
  clear y1 y2
  go_simp
 simp only [Act.put, List.setIfInBounds_toArray, List.set_cons_zero, List.set_cons_succ]
 refine wpAnyH_take (i := 4) (oi := ⟨some 20, _, _, _, _, none⟩) (v := .pointer (some ⟨p, 0, none⟩)) rfl (by kernel_rfl) (by kernel_rfl) (by kernel_rfl) (fun _ _ _ h => h) (Or.inl ⟨by rfl, ?_⟩) hS ?_
 ·intro wy hy
  obtain ⟨y0, y1, y2⟩ := hy
  have y3 := y2 0 _ rfl
  simp only [Nat.add_zero] at y3
  clear y1 y2
  go_simp
 simp only [Act.put, List.setIfInBounds_toArray, List.set_cons_zero, List.set_cons_succ]
 refine wpAnyH_take (i := 5) (oi := ⟨some 21, _, _, _, _, none⟩) (v := .pointer (some ⟨p, 3, none⟩)) rfl (by kernel_rfl) (by kernel_rfl) (by kernel_rfl) (fun _ _ _ h => h) (Or.inl ⟨by rfl, ?_⟩) hS ?_
 ·intro wy hy
  obtain ⟨y0, y1, y2⟩ := hy
  have y3 := y2 0 _ rfl
  simp only [Nat.add_zero] at y3
  clear y1 y2
  go_simp
 simp only [Act.put, List.setIfInBounds_toArray, List.set_cons_zero, List.set_cons_succ]
 refine wpAnyH_take (i := 6) (oi := ⟨some 22, _, _, _, _, none⟩) (v := .slice (some ⟨by_, oy, none⟩) x.copies.length c3) rfl (by kernel_rfl) (by kernel_rfl) (by kernel_rfl) (fun _ _ _ h => h) (Or.inl ⟨by rfl, ?_⟩) hS ?_
 ·intro wy hy
  obtain ⟨y0, y1, y2⟩ := hy
  have y3 := y2 0 _ rfl
  simp only [Nat.add_zero] at y3
  clear y1 y2
  go_simp
 simp only [Act.put, List.setIfInBounds_toArray, List.set_cons_zero, List.set_cons_succ]
 refine wpAnyH_take (i := 7) (oi := ⟨some 23, _, _, _, _, none⟩) (v := .int .i64 ci) rfl (by kernel_rfl) (by kernel_rfl) (by kernel_rfl) (fun _ _ _ h => h) (Or.inl ⟨by rfl, ?_⟩) hS ?_
 ·intro wy hy
  obtain ⟨y0, y1, y2⟩ := hy
  have y3 := y2 0 _ rfl
  simp only [Nat.add_zero] at y3
  clear y1 y2
  go_simp
 simp only [Act.put, List.setIfInBounds_toArray, List.set_cons_zero, List.set_cons_succ]
 refine wpAnyH_take (i := 8) (oi := ⟨some 24, _, _, _, _, none⟩) (v := .pointer (some ⟨by_, oy + ci * 12, none⟩)) rfl (by kernel_rfl) (by kernel_rfl) (by kernel_rfl) (fun _ _ _ h => h) (Or.inl ⟨by rfl, ?_⟩) hS ?_
 ·intro wy hy
  obtain ⟨y0, y1, y2⟩ := hy
  have y3 := y2 0 _ rfl
  simp only [Nat.add_zero] at y3
  clear y1 y2
  go_simp
 simp only [Act.put, List.setIfInBounds_toArray, List.set_cons_zero, List.set_cons_succ]
 refine wpAnyH_take (i := 9) (oi := ⟨some 25, _, _, _, _, none⟩) (v := .agg #[.string y.name, .string y.service, .int .i64 y.rank, .int .i64 y.born, .int .i64 y.room, .int .i64 y.hold, .string y.select, .slice a7 y.likes.length c7, .int .i64 y.apart, .string y.near, .string y.fixed, .string y.at_]) rfl (by kernel_rfl) (by kernel_rfl) (by kernel_rfl) (fun _ _ _ h => h) (yieldsIf_load_mid rfl 53 (.tmp 24) rfl by_ (oy + ci * 12) rfl [.string y.name, .string y.service, .int .i64 y.rank, .int .i64 y.born, .int .i64 y.room, .int .i64 y.hold, .string y.select, .slice a7 y.likes.length c7, .int .i64 y.apart, .string y.near, .string y.fixed, .string y.at_] _ (fun _ h => h.2.1) Tryz.underlying53 rfl isz_Cpy) hS ?_
 simp only [Act.put, List.setIfInBounds_toArray, List.set_cons_zero, List.set_cons_succ]
 refine wpAnyH_take (i := 10) (oi := ⟨some 26, _, _, _, _, none⟩) (v := .int .i64 bi) rfl (by kernel_rfl) (by kernel_rfl) (by kernel_rfl) (fun _ _ _ h => h) (Or.inl ⟨by rfl, ?_⟩) hS ?_
 ·intro wy hy
  obtain ⟨y0, y1, y2⟩ := hy
  have y3 := y2 0 _ rfl
  simp only [Nat.add_zero] at y3
  clear y1 y2
  go_simp
 simp only [Act.put, List.setIfInBounds_toArray, List.set_cons_zero, List.set_cons_succ]
 refine wpAnyH_take (i := 11) (oi := ⟨some 27, _, _, _, _, none⟩) (v := .agg #[.string b.name, .string b.zone, .slice am b.marks.length cm, .int .i64 b.room, .int .i64 b.hold, .bool b.closed]) rfl (by kernel_rfl) (by kernel_rfl) (by kernel_rfl) (fun _ _ _ h => h) (yieldsIf_load_mid rfl 55 (.tmp 7) rfl (w.heap.size + 1) (0) rfl [.string b.name, .string b.zone, .slice am b.marks.length cm, .int .i64 b.room, .int .i64 b.hold, .bool b.closed] _ (fun _ h => h.2.2) Tryz.underlying55 rfl isz_Brt) hS ?_
 simp only [Act.put, List.setIfInBounds_toArray, List.set_cons_zero, List.set_cons_succ]
 refine wpAnyH_take (i := 12) (oi := ⟨some 28, _, _, _, _, none⟩) (v := .pointer (some ⟨p, 0, none⟩)) rfl (by kernel_rfl) (by kernel_rfl) (by kernel_rfl) (fun _ _ _ h => h) (Or.inl ⟨by rfl, ?_⟩) hS ?_
 ·intro wy hy
  obtain ⟨y0, y1, y2⟩ := hy
  have y3 := y2 0 _ rfl
  simp only [Nat.add_zero] at y3
  clear y1 y2
  go_simp
 simp only [Act.put, List.setIfInBounds_toArray, List.set_cons_zero, List.set_cons_succ]
 refine wpAnyH_take (i := 13) (oi := ⟨some 29, _, _, _, _, none⟩) (v := .pointer (some ⟨w.heap.size + 1, 0, none⟩)) rfl (by kernel_rfl) (by kernel_rfl) (by kernel_rfl) (fun _ _ _ h => h) (Or.inl ⟨by rfl, ?_⟩) hS ?_
 ·intro wy hy
  obtain ⟨y0, y1, y2⟩ := hy
  have y3 := y2 0 _ rfl
  simp only [Nat.add_zero] at y3
  clear y1 y2
  go_simp
 simp only [Act.put, List.setIfInBounds_toArray, List.set_cons_zero, List.set_cons_succ]
 refine wpAnyH_take (i := 14) (oi := ⟨some 30, _, _, _, _, none⟩) (v := .string b.name) rfl (by kernel_rfl) (by kernel_rfl) (by kernel_rfl) (fun _ _ _ h => h) (Or.inl ⟨by rfl, ?_⟩) hS ?_
 ·intro wy hy
  obtain ⟨y0, y1, y2⟩ := hy
  have y3 := y2 0 _ rfl
  simp only [Nat.add_zero] at y3
  clear y1 y2
  go_simp
 simp only [Act.put, List.setIfInBounds_toArray, List.set_cons_zero, List.set_cons_succ]
 refine wpAnyH_take (i := 15) (oi := ⟨some 31, _, _, _, _, none⟩) (v := .int .i64 ci) rfl (by kernel_rfl) (by kernel_rfl) (by kernel_rfl) (fun _ _ _ h => h) (Or.inl ⟨by rfl, ?_⟩) hS ?_
 ·intro wy hy
  obtain ⟨y0, y1, y2⟩ := hy
  have y3 := y2 0 _ rfl
  simp only [Nat.add_zero] at y3
  clear y1 y2
  go_simp
 simp only [Act.put, List.setIfInBounds_toArray, List.set_cons_zero, List.set_cons_succ]
 refine wpAnyH_ready (rs := [16]) (by kernel_rfl) (by simp) (AllReadyH.cons (o := ⟨some 32, _, _, _, _, none⟩) rfl (fun K hK => ?_) AllReadyH.nil)
 go_simp
 refine (used_any p x.copies (some ⟨by_, oy, none⟩) c3 lo b.name ci _ hS.1 N3'.out l3).mono ?_
 rintro e w4 ⟨rfl, hb4⟩
 have HT4 : Hid (w4.there w.heap.size 0 24) := there_belowV HT3.out hb4 (by omega)
 have HB4 : Hid (Below w.heap.size w w4) := HB3.out.trans (hb4.mono HB3.out.size)
 have hs4 : w.heap.size + 2 ≤ w4.heap.size := by have := hb4.size; omega
 refine hK.out _ _ (hS.below hb4 (by omega) (by omega)) (fun hS => ?_)
 clear hb4 HT3 HB3 N3' hK K hs3
 obtain ⟨V, hV⟩ : ∃ V, V = (useTo x.copies b.name ci x.copies.length) := ⟨_, rfl⟩
 have HV : Hid (V = (useTo x.copies b.name ci x.copies.length)) := hV
 rw [← hV]
 clear hV
 refine wpAnyH_take (i := 17) (oi := ⟨some 33, _, _, _, _, none⟩) (v := .agg #[.pointer (some ⟨p, 0, none⟩), .int .i64 ci, .string y.name, .string y.service, .int .i64 y.rank, .int .i64 y.born, .int .i64 y.room, .int .i64 y.hold, .string y.select, .slice a7 y.likes.length c7, .int .i64 y.apart, .string y.near, .string y.fixed, .string y.at_, .int .i64 bi, .string b.name, .string b.zone, .slice am b.marks.length cm, .int .i64 b.room, .int .i64 b.hold, .bool b.closed, .int .i64 V.1, .int .i64 V.2.1, .int .i64 V.2.2]) rfl (by kernel_rfl) (by kernel_rfl) (by kernel_rfl) (fun _ _ _ h => h) (Or.inl ⟨by rfl, ?_⟩) hS ?_
 ·intro wy hy
  clear hy
  go_simp
 simp only [Act.put, List.setIfInBounds_toArray, List.set_cons_zero, List.set_cons_succ]
 refine wpAnyH_ready (rs := [18]) (by kernel_rfl) (by simp) (AllReadyH.cons (o := ⟨none, _, _, _, _, none⟩) rfl (fun K hK => ?_) AllReadyH.nil)
 rw [if_pos (by rfl)]
 refine wp_store_mid 63 (.tmp 6) (.tmp 33) (by rfl) w.heap.size 0 #[.pointer (some ⟨p, 0, none⟩), .int .i64 ci, .string y.name, .string y.service, .int .i64 y.rank, .int .i64 y.born, .int .i64 y.room, .int .i64 y.hold, .string y.select, .slice a7 y.likes.length c7, .int .i64 y.apart, .string y.near, .string y.fixed, .string y.at_, .int .i64 bi, .string b.name, .string b.zone, .slice am b.marks.length cm, .int .i64 b.room, .int .i64 b.hold, .bool b.closed, .int .i64 V.1, .int .i64 V.2.1, .int .i64 V.2.2] (by rfl) (by rfl) HT4.out isz_spot (by simp [Value.oneCell']) ?_
 have HB5 : Hid (Below w.heap.size w (w4.setCells w.heap.size 0 [.pointer (some ⟨p, 0, none⟩), .int .i64 ci, .string y.name, .string y.service, .int .i64 y.rank, .int .i64 y.born, .int .i64 y.room, .int .i64 y.hold, .string y.select, .slice a7 y.likes.length c7, .int .i64 y.apart, .string y.near, .string y.fixed, .string y.at_, .int .i64 bi, .string b.name, .string b.zone, .slice am b.marks.length cm, .int .i64 b.room, .int .i64 b.hold, .bool b.closed, .int .i64 V.1, .int .i64 V.2.1, .int .i64 V.2.2])) := below_setCells (Nat.le_refl _) _ _ _ HB4.out
 have HR5 : Hid ((w4.setCells w.heap.size 0 [.pointer (some ⟨p, 0, none⟩), .int .i64 ci, .string y.name, .string y.service, .int .i64 y.rank, .int .i64 y.born, .int .i64 y.room, .int .i64 y.hold, .string y.select, .slice a7 y.likes.length c7, .int .i64 y.apart, .string y.near, .string y.fixed, .string y.at_, .int .i64 bi, .string b.name, .string b.zone, .slice am b.marks.length cm, .int .i64 b.room, .int .i64 b.hold, .bool b.closed, .int .i64 V.1, .int .i64 V.2.1, .int .i64 V.2.2]).rangeAt w.heap.size 0 [.pointer (some ⟨p, 0, none⟩), .int .i64 ci, .string y.name, .string y.service, .int .i64 y.rank, .int .i64 y.born, .int .i64 y.room, .int .i64 y.hold, .string y.select, .slice a7 y.likes.length c7, .int .i64 y.apart, .string y.near, .string y.fixed, .string y.at_, .int .i64 bi, .string b.name, .string b.zone, .slice am b.marks.length cm, .int .i64 b.room, .int .i64 b.hold, .bool b.closed, .int .i64 V.1, .int .i64 V.2.1, .int .i64 V.2.2]) := World.rangeAt_setCells_same _ _ _ _ HT4.out
 have hSn : SptS p (w.heap.size + 1) by_ (oy + ci * 12) (.slice (some ⟨by_, oy, none⟩) x.copies.length c3) [.string y.name, .string y.service, .int .i64 y.rank, .int .i64 y.born, .int .i64 y.room, .int .i64 y.hold, .string y.select, .slice a7 y.likes.length c7, .int .i64 y.apart, .string y.near, .string y.fixed, .string y.at_] [.string b.name, .string b.zone, .slice am b.marks.length cm, .int .i64 b.room, .int .i64 b.hold, .bool b.closed] (w4.setCells w.heap.size 0 [.pointer (some ⟨p, 0, none⟩), .int .i64 ci, .string y.name, .string y.service, .int .i64 y.rank, .int .i64 y.born, .int .i64 y.room, .int .i64 y.hold, .string y.select, .slice a7 y.likes.length c7, .int .i64 y.apart, .string y.near, .string y.fixed, .string y.at_, .int .i64 bi, .string b.name, .string b.zone, .slice am b.marks.length cm, .int .i64 b.room, .int .i64 b.hold, .bool b.closed, .int .i64 V.1, .int .i64 V.2.1, .int .i64 V.2.2]) := ⟨(HB5.out.cell (p := ⟨p, 3, none⟩) (block_lt_of_cell P3.out)).trans P3.out, range_belowV HRC.out HB5.out hyl, World.rangeAt_setCells_apart hS.2.2 w.heap.size 0 _ (.inl (by omega))⟩
 refine hK.out _ _ hSn (fun hS => ?_)
 clear hSn hK K HT4 HB4
 generalize w4.setCells w.heap.size 0 [.pointer (some ⟨p, 0, none⟩), .int .i64 ci, .string y.name, .string y.service, .int .i64 y.rank, .int .i64 y.born, .int .i64 y.room, .int .i64 y.hold, .string y.select, .slice a7 y.likes.length c7, .int .i64 y.apart, .string y.near, .string y.fixed, .string y.at_, .int .i64 bi, .string b.name, .string b.zone, .slice am b.marks.length cm, .int .i64 b.room, .int .i64 b.hold, .bool b.closed, .int .i64 V.1, .int .i64 V.2.1, .int .i64 V.2.2] = w5 at *
 refine wpAnyH_done (by kernel_rfl) ?_ _
 go_wp2_with fail
 exact bodyPost_ret (results_cell_mid rfl _ _ w.heap.size [.pointer (some ⟨p, 0, none⟩), .int .i64 ci, .string y.name, .string y.service, .int .i64 y.rank, .int .i64 y.born, .int .i64 y.room, .int .i64 y.hold, .string y.select, .slice a7 y.likes.length c7, .int .i64 y.apart, .string y.near, .string y.fixed, .string y.at_, .int .i64 bi, .string b.name, .string b.zone, .slice am b.marks.length cm, .int .i64 b.room, .int .i64 b.hold, .bool b.closed, .int .i64 V.1, .int .i64 V.2.1, .int .i64 V.2.2] _ rfl HR5.out Tryz.underlying63 rfl isz_spot) rfl ⟨a7, c7, am, cm, by rw [← HV.out], N7.out, NM.out, HAT.out, HB5.out⟩

end Go.Proofs.YtmclbfkcbadnpaaGreat
