import Derived.Test.YtmclbfkcbadnpaaGreatJ42
import Derived.Test.YtmclbfkcbadnpaaGreatJ4
import Derived.Test.YtmclbfkcbadnpaaGreatAsk
import Derived.Deep.AppendLies
namespace Go.Proofs.YtmclbfkcbadnpaaGreat
open Go.RowKit Go.WideMaps Go.Maps

theorem FoundM.belowB {p m1 m2 m3 m4 n B : Nat} {x : Flt} {a1 : Option Addr} {c1 : Nat} {a2 : Option Addr} {c2 : Nat} {a3 : Option Addr} {c3 : Nat} {w w' : World} (h : FoundM p m1 m2 m3 m4 n x a1 c1 a2 c2 a3 c3 w) (hb : Below B w w') (k0 : p < B) (k1 : m1 < B) (k2 : m2 < B) (k3 : m3 < B) (k4 : m4 < B) : FoundM p m1 m2 m3 m4 n x a1 c1 a2 c2 a3 c3 w' :=
 ⟨range_belowV h.1 hb k0, Nat.lt_of_lt_of_le h.2.1 hb.size, ownsMap_below h.2.2.1 hb k1, ownsMap_below h.2.2.2.1 hb k2, ownsMap_below h.2.2.2.2.1 hb k3, h.memo.below hb k4, h.2.2.2.2.2.2⟩

theorem ownsRow_but {w w' : World} {base : Nat} {e : TypeId} {size : Nat} {v : Value} {n : Nat} {xs : List Value} {m4 : Nat} (h : w.ownsRow base e size v n xs) (hb : But m4 w.heap.size w w') (hm : m4 < base) : w'.ownsRow base e size v n xs := by
 refine ⟨h.1, ?_⟩
 rcases h.2 with h' | ⟨g, cap, cur, h1, h2, h3, h4⟩
 ·exact .inl h'
 ·refine .inr ⟨g, cap, cur, h1, h2, ?_, h4⟩
  rw [hb.block g (Array.getElem?_eq_some_iff.1 h3).1 (by omega)]
  exact h3

theorem oneS {w : World} {sb : Nat} {v : Value} (h : w.cell? ⟨sb, 0, none⟩ = some v) : ∀ j u, [v][j]? = some u → w.cell? ((⟨sb, 0, none⟩ : Addr).add j) = some u := by
 intro j u hu
 cases j with
 | zero => simp at hu; subst hu; simpa [Addr.add] using h
 | succ j => simp at hu

abbrev stV (l : List ByteArray) : List Value := l.map Value.string

theorem row_strs {w : World} {base : Nat} {v : Value} {l : List ByteArray} (h : w.ownsRow base 9 1 v l.length (stV l)) (hz : ∀ s ∈ l, s.size ≤ maxLen) (hm : l.length ≤ maxLen) : ∃ a c, v = .slice a l.length c ∧ SliceC StrC 1 base w a l := by
 rcases h.2 with ⟨hv, h0⟩ | ⟨g, cap, cur, hv, hb, hg, _⟩
 ·have : l = [] := List.length_eq_zero_iff.1 h0
  subst this
  exact ⟨none, 0, hv, SliceC.nil⟩
 ·subst hv
  exact ⟨_, cap, rfl, sliceC_of_strs h hz hm (Nat.le_refl _)⟩

theorem FoundM.memoUp {p m1 m2 m3 m4 n n' : Nat} {x : Flt} {a1 : Option Addr} {c1 : Nat} {a2 : Option Addr} {c2 : Nat} {a3 : Option Addr} {c3 : Nat} {w : World} (h : FoundM p m1 m2 m3 m4 n x a1 c1 a2 c2 a3 c3 w) (hn : n ≤ n' := by omega) : FoundM p m1 m2 m3 m4 n' x a1 c1 a2 c2 a3 c3 w :=
 ⟨h.1, h.2.1, h.2.2.1, h.2.2.2.1, h.2.2.2.2.1, h.memo.mono hn, h.2.2.2.2.2.2⟩

set_option maxHeartbeats 4000000 in
set_option maxRecDepth 100000 in
theorem implRight_any (x : Flt) (a1 : Option Addr) (c1 : Nat) (a2 : Option Addr) (c2 : Nat) (a3 : Option Addr) (c3 : Nat) (lo : Nat) (w : World) (n1 : SliceC BrtC 6 lo w a1 x.berths) (n2 : SliceC SvcC 2 lo w a2 x.services) (n3 : SliceC CpyC 12 lo w a3 x.copies)
  (l1 : x.berths.length ≤ 1048576) (l2 : x.services.length ≤ 1048576) (l3 : x.copies.length ≤ 1048576) :
  Calls Tryz.prog 12 #[.agg #[.bool x.pack, .slice a1 x.berths.length c1, .slice a2 x.services.length c2, .slice a3 x.copies.length c3]] w fun e w' => ∃ a cap, e = .returned (.slice a (rightL x).length cap) ∧ SliceC StrC 1 (w.heap.size + 1) w' a (rightL x) ∧ Below w.heap.size w w' := by
 obtain ⟨i0, hi, hz0, hz1, hz2⟩ := info_parts info_str
 have N1 := Hid.intro n1
 have N2 := Hid.intro n2
 have N3 := Hid.intro n3
 clear n1 n2 n3
 go_enter Tryz.func12, Tryz.ntmps12
 go_wp2_with fail
 have HB0 : Hid (Below w.heap.size w (w.alloc (Obj.cells #[.bool x.pack, .slice a1 x.berths.length c1, .slice a2 x.services.length c2, .slice a3 x.copies.length c3] 33))) := (Below.refl _ w).alloc (Nat.le_refl _) _
 have HF0 : Hid (Blk w.heap.size #[.bool x.pack, .slice a1 x.berths.length c1, .slice a2 x.services.length c2, .slice a3 x.copies.length c3] 33 (w.alloc (Obj.cells #[.bool x.pack, .slice a1 x.berths.length c1, .slice a2 x.services.length c2, .slice a3 x.copies.length c3] 33))) := Blk.alloc _ _ _
 have hsz0 : (w.alloc (Obj.cells #[.bool x.pack, .slice a1 x.berths.length c1, .slice a2 x.services.length c2, .slice a3 x.copies.length c3] 33)).heap.size = w.heap.size + 1 := by simp
 generalize (w.alloc (Obj.cells #[.bool x.pack, .slice a1 x.berths.length c1, .slice a2 x.services.length c2, .slice a3 x.copies.length c3] 33)) = w0 at *
 have M1 := Hid.intro (N1.out.below BrtC.holds HB0.out (Nat.le_refl _))
 have M3 := Hid.intro (N3.out.below CpyC.holds HB0.out (Nat.le_refl _))
 refine (findValid_any x a1 c1 a2 c2 a3 c3 lo w0 M1.out (N2.out.below SvcC.holds HB0.out (Nat.le_refl _)) M3.out l1 l2 l3).mono ?_
 rintro e w1 ⟨v, rfl, hb1, hres⟩
 have HB1 := Hid.intro hb1
 cases hv : validI x with
 | false =>
  have HE : Hid (rightL x = []) := by show _ = _; unfold rightL; rw [if_neg (by rw [hv]; decide)]
  have HW1 : Hid (Below w.heap.size w w1) := HB0.out.trans (hb1.mono HB0.out.size)
  clear hres hb1 hv
  go_wp2_with fail
  go_ret
  exact ⟨none, 0, by rw [HE.out]; rfl, by rw [HE.out]; exact SliceC.nil, HW1.out⟩
 | true =>
  obtain ⟨p, m1, m2, m3, m4, rfl, hp, hm4, hF⟩ := hres hv
  obtain ⟨_, h60, _, _, _, _⟩ := valid_parts hv
  have hm4' : w0.heap.size ≤ m4 := hm4
  have HV := Hid.intro hv
  have HP : Hid (w0.heap.size ≤ p) := hp
  have HF1 := Hid.intro (FoundM.of hF)
  have HF0b := Hid.intro (HF0.out.below hb1 HF0.out.lt)
  have hsz1 : w0.heap.size ≤ w1.heap.size := hb1.size
  clear hres hF hb1 hp hm4 hv HF0
  go_wp2_with fail
  refine (stay_any _).mono ?_
  rintro e w2 ⟨rfl, hr2, hs2, hb2⟩
  have HF2 := Hid.intro (HF1.out.below hb2)
  have HX2 := Hid.intro (HF0b.out.below hb2 HF0b.out.lt)
  have HB2 : Hid (Below w0.heap.size w0 w2) := HB1.out.trans (hb2.mono hsz1)
  have HR2 : Hid (w2.rangeAt w1.heap.size 0 stayV) := hr2
  have k0 : p < w2.heap.size := HF2.out.2.1
  have k1 : m1 < w2.heap.size := HF2.out.2.2.1.lt
  have k2 : m2 < w2.heap.size := HF2.out.2.2.2.1.lt
  have k3 : m3 < w2.heap.size := HF2.out.2.2.2.2.1.lt
  have k4 : m4 < w2.heap.size := HF2.out.memo.lt
  have km : m4 < w1.heap.size := HF1.out.memo.lt
  have hw2 : w.heap.size < w2.heap.size := HX2.out.lt
  have hx0 : w.heap.size ≠ m4 := by omega
  have b3 : w2.cell? ⟨w.heap.size, 3, none⟩ = some (.slice a3 x.copies.length c3) := HX2.out.cell rfl
  clear hb2 hr2 HF1 HF0b
  go_wp2_with fail
  go_loopw [6, 22] (fun v i wr => ∃ k : Nat, k ≤ x.copies.length ∧ i = .int .i64 k ∧ Hid (wr.ownsRow w2.heap.size 9 1 v (rightTo x k).length (stV (rightTo x k))) ∧ Hid (FoundM p m1 m2 m3 m4 (8 * k) x a1 c1 a2 c2 a3 c3 wr) ∧ Hid (But m4 w2.heap.size w2 wr) ∧ w2.heap.size ≤ wr.heap.size) (fun _ i _ => x.copies.length - (intOf i).toNat)
  case atStart => exact ⟨0, Nat.zero_le _, rfl, World.ownsRow_nil _ _ _ _, HF2, But.refl _ _ _, Nat.le_refl _⟩
  case round =>
   obtain ⟨k, hk, rfl, hO, hFk, hBk, hsk⟩ := hrel
   clear HF2 b3
   have HWr : Hid (Below w0.heap.size w0 wr) := HB2.out.trans (hBk.out.below HB2.out.size hm4')
   by_cases hlt : k < x.copies.length
   ·obtain ⟨c, hck⟩ : ∃ c, x.copies[k]? = some c := ⟨x.copies[k], List.getElem?_eq_getElem hlt⟩
    obtain ⟨cb, co, rfl, _, _, hc⟩ := (M3.out.below CpyC.holds HWr.out (Nat.le_refl _)).at hck
    obtain ⟨a8, c8, q0, q1, q2, q3, q4, q5, q6, q7, q8, q9, q10, q11, z0, z1, z6, z9, z10, z11, z7⟩ := hc
    simp only [Nat.add_zero] at q0 q1 q2 q3 q4 q5 q6 q7 q8 q9 q10 q11
    have HRA : Hid (wr.rangeAt cb (co + k * 12) [.string c.name, .string c.service, .int .i64 c.rank, .int .i64 c.born, .int .i64 c.room, .int .i64 c.hold, .string c.select, .slice a8 c.likes.length c8, .int .i64 c.apart, .string c.near, .string c.fixed, .string c.at_]) := range_cons q0 (range_cons q1 (range_cons q2 (range_cons q3 (range_cons q4 (range_cons q5 (range_cons q6 (range_cons q7 (range_cons q8 (range_cons q9 (range_cons q10 (range_cons q11 (range_nil _ _ _))))))))))))
    have HX := Hid.intro hck
    have Z11 := Hid.intro z11
    have HNM := Hid.intro (name_20 (copy_name HV.out hck))
    clear hck q0 q1 q2 q3 q4 q5 q6 q7 q8 q9 q10 q11 z0 z1 z6 z7 z9 z10 z11
    go_upto_region 9 with (first | (refine wpList_load_mid rfl 53 _ rfl cb (co + k * 12) (by first | rfl | (simp [go_sem]; done)) [.string c.name, .string c.service, .int .i64 c.rank, .int .i64 c.born, .int .i64 c.room, .int .i64 c.hold, .string c.select, .slice a8 c.likes.length c8, .int .i64 c.apart, .string c.near, .string c.fixed, .string c.at_] _ HRA.out Tryz.underlying53 rfl isz_Cpy ?_))
    have hbx : Below wr.heap.size wr (wr.alloc (Obj.cells #[.string c.name, .string c.service, .int .i64 c.rank, .int .i64 c.born, .int .i64 c.room, .int .i64 c.hold, .string c.select, .slice a8 c.likes.length c8, .int .i64 c.apart, .string c.near, .string c.fixed, .string c.at_] 53)) := (Below.refl _ wr).alloc (Nat.le_refl _) _
    have HX4 : Hid (Blk wr.heap.size #[.string c.name, .string c.service, .int .i64 c.rank, .int .i64 c.born, .int .i64 c.room, .int .i64 c.hold, .string c.select, .slice a8 c.likes.length c8, .int .i64 c.apart, .string c.near, .string c.fixed, .string c.at_] 53 (wr.alloc (Obj.cells #[.string c.name, .string c.service, .int .i64 c.rank, .int .i64 c.born, .int .i64 c.room, .int .i64 c.hold, .string c.select, .slice a8 c.likes.length c8, .int .i64 c.apart, .string c.near, .string c.fixed, .string c.at_] 53))) := Blk.alloc _ _ _
    have HF4 := Hid.intro (hFk.out.below hbx)
    have HB4 : Hid (But m4 w2.heap.size w2 (wr.alloc (Obj.cells #[.string c.name, .string c.service, .int .i64 c.rank, .int .i64 c.born, .int .i64 c.room, .int .i64 c.hold, .string c.select, .slice a8 c.likes.length c8, .int .i64 c.apart, .string c.near, .string c.fixed, .string c.at_] 53))) := hBk.out.trans (But.of_below (hbx.mono hsk))
    have HO4 := Hid.intro (ownsRow_below hO.out hbx)
    have hs4 : w2.heap.size ≤ (wr.alloc (Obj.cells #[.string c.name, .string c.service, .int .i64 c.rank, .int .i64 c.born, .int .i64 c.room, .int .i64 c.hold, .string c.select, .slice a8 c.likes.length c8, .int .i64 c.apart, .string c.near, .string c.fixed, .string c.at_] 53)).heap.size := Nat.le_trans hsk hbx.size
    have hw4 : wr.heap.size < (wr.alloc (Obj.cells #[.string c.name, .string c.service, .int .i64 c.rank, .int .i64 c.born, .int .i64 c.room, .int .i64 c.hold, .string c.select, .slice a8 c.likes.length c8, .int .i64 c.apart, .string c.near, .string c.fixed, .string c.at_] 53)).heap.size := HX4.out.lt
    clear HRA hbx hFk hBk hO HWr
    generalize (wr.alloc (Obj.cells #[.string c.name, .string c.service, .int .i64 c.rank, .int .i64 c.born, .int .i64 c.room, .int .i64 c.hold, .string c.select, .slice a8 c.likes.length c8, .int .i64 c.apart, .string c.near, .string c.fixed, .string c.at_] 53)) = w4 at *
    have g11 : w4.cell? ⟨wr.heap.size, 11, none⟩ = some (.string c.at_) := HX4.out.cell rfl
    have p4 : w4.cell? ⟨p, 4, none⟩ = some (.map (some m1)) := HF4.out.1 4 _ rfl
    have yl := look_places (s := c.at_) HF4.out.2.2.1.drew Z11.out
    cases hj : lastOf (brN x) c.at_ x.berths.length with
    | none =>
     rw [hj] at yl
     simp only [Option.isSome_none, Option.getD_none] at yl
     have HE := Hid.intro (rightTo_no HX.out (wrong_none (k := k) hj))
     clear hj
     go_region
     go_wp2_with fail
     go_roundw
     case rel => exact ⟨k + 1, by omega, by go_num, by rw [HE.out]; exact HO4.out.drew, (HF4.out.below (Below.refl _ w4).drew).memoUp, HB4.out.drew, hs4⟩
     case measure => simp [intOf]; omega
    | some bi =>
     obtain ⟨hjl, _⟩ := lastOf_get hj
     obtain ⟨b, hb⟩ : ∃ b, x.berths[bi]? = some b := ⟨x.berths[bi], List.getElem?_eq_getElem hjl⟩
     have HWS := Hid.intro (wrong_some (k := k) hj hb)
     have HBB := Hid.intro hb
     rw [hj] at yl
     simp only [Option.isSome_some, Option.getD_some] at yl
     clear hj hb
     go_region
     have HF4d : Hid (FoundM p m1 m2 m3 m4 (8 * k) x a1 c1 a2 c2 (some ⟨cb, co, none⟩) c3 w4.drew) := HF4.out.below (Below.refl _ w4).drew
     have HW4 : Hid (Below w0.heap.size w0 w4.drew) := (HB2.out.trans (HB4.out.below HB2.out.size hm4')).drew
     have HB4d : Hid (But m4 w2.heap.size w2 w4.drew) := HB4.out.drew
     have HO4d : Hid (w4.drew.ownsRow w2.heap.size 9 1 u6 (rightTo x k).length (stV (rightTo x k))) := ownsRow_below HO4.out (Below.refl _ w4).drew
     have HX4d : Hid (Blk wr.heap.size #[.string c.name, .string c.service, .int .i64 c.rank, .int .i64 c.born, .int .i64 c.room, .int .i64 c.hold, .string c.select, .slice a8 c.likes.length c8, .int .i64 c.apart, .string c.near, .string c.fixed, .string c.at_] 53 w4.drew) := HX4.out
     have hs4d : w2.heap.size ≤ w4.drew.heap.size := hs4
     have hw4d : wr.heap.size < w4.drew.heap.size := hw4
     clear HF4 HB4 HO4 HX4 hs4 hw4 g11 p4 yl
     generalize w4.drew = w5 at *
     go_wp2_with fail
     refine (spotOf_any p x a1 c1 a2 c2 (some ⟨cb, co, none⟩) c3 lo k bi c b _ ⟨HF4d.out.1 1 _ rfl, HF4d.out.1 2 _ rfl, HF4d.out.1 3 _ rfl⟩ (M1.out.below BrtC.holds HW4.out (Nat.le_refl _)) (M3.out.below CpyC.holds HW4.out (Nat.le_refl _)) l3 HX.out HBB.out).mono ?_
     rintro e w6 ⟨a7, c7, am, cm, rfl, _, _, ⟨cb', co', bb, bo, ea, eb, hs7, hsm⟩, hb6⟩
     cases ea
     have S7 : Hid (SliceC LikC 2 lo w0 a7 c.likes) := by
      obtain ⟨b', o', e, _, hl, hc⟩ := M3.out.at HX.out
      cases e
      obtain ⟨a7', c7', _, _, _, _, _, _, _, q7, _, _, _, _, _, _, _, _, _, _, n7⟩ := hc
      rw [HW4.out.cell (p := ⟨cb, co + k * 12 + 7, none⟩) hl] at hs7
      have hq := (show w0.cell? ⟨cb, co + k * 12 + 7, none⟩ = _ from q7).symm.trans hs7
      simp only [Option.some.injEq, Value.slice.injEq] at hq
      obtain ⟨rfl, _, _⟩ := hq
      exact n7
     have SM : Hid (SliceC StrC 1 lo w0 am b.marks) := by
      obtain ⟨b', o', e, _, hl, hc⟩ := M1.out.at HBB.out
      rw [eb] at e
      cases e
      obtain ⟨am', cm', _, _, r2, _, _, _, _, _, nm⟩ := hc
      rw [HW4.out.cell (p := ⟨bb, bo + bi * 6 + 2, none⟩) hl] at hsm
      have hq := (show w0.cell? ⟨bb, bo + bi * 6 + 2, none⟩ = _ from r2).symm.trans hsm
      simp only [Option.some.injEq, Value.slice.injEq] at hq
      obtain ⟨rfl, _, _⟩ := hq
      exact nm
     have HF6 := Hid.intro (HF4d.out.below hb6)
     have HW6 : Hid (Below w0.heap.size w0 w6) := HW4.out.trans (hb6.mono HW4.out.size)
     have HB6 : Hid (But m4 w2.heap.size w2 w6) := HB4d.out.trans (But.of_below (hb6.mono hs4d))
     have HO6 : Hid (w6.ownsRow w2.heap.size 9 1 u6 (rightTo x k).length (stV (rightTo x k))) := ownsRow_below HO4d.out hb6
     have HX6 := Hid.intro (HX4d.out.below hb6 HX4d.out.lt)
     have hs6 : w2.heap.size ≤ w6.heap.size := Nat.le_trans hs4d hb6.size
     have hw6 : wr.heap.size < w6.heap.size := HX6.out.lt
     clear hs7 hsm eb hb6 HF4d HW4 HB4d HO4d HX4d hs4d hw4d
     obtain ⟨u1, hu1⟩ : ∃ u : Int, u = (useTo x.copies b.name k x.copies.length).1 := ⟨_, rfl⟩
     obtain ⟨u2, hu2⟩ : ∃ u : Int, u = (useTo x.copies b.name k x.copies.length).2.1 := ⟨_, rfl⟩
     obtain ⟨u3, hu3⟩ : ∃ u : Int, u = (useTo x.copies b.name k x.copies.length).2.2 := ⟨_, rfl⟩
     rw [← hu1, ← hu2, ← hu3]
     have HU1 : Hid (u1 = standTo x k b.name x.copies.length) := hu1.trans (use_stand k b.name _ h60)
     have HU2 : Hid (u2 = roomTo x k b.name x.copies.length) := hu2.trans (use_room k b.name (fun i c' h => ((valid_more HV.out).2.2.2 i c' h).1) _ h60)
     have HU3 : Hid (u3 = holdTo x k b.name x.copies.length) := hu3.trans (use_hold k b.name (fun i c' h => ((valid_apart HV.out).1 i c' h).1) _ h60)
     have HR2b : Hid (0 ≤ u2 ∧ u2 ≤ 60000) := by
      have := roomTo_bd k b.name (fun i c' h => ((valid_more HV.out).2.2.2 i c' h).1) x.copies.length
      show _ ∧ _
      rw [HU2.out]
      omega
     have HR3b : Hid (0 ≤ u3 ∧ u3 ≤ 60000) := by
      have := holdTo_bd k b.name (fun i c' h => ((valid_apart HV.out).1 i c' h).1) x.copies.length
      show _ ∧ _
      rw [HU3.out]
      omega
     have HFI : Hid (firstR (stayR x k c b u1 u2 u3) = fitsI x k c b true) := stay_first HU1.out HU2.out HU3.out
     have HK : Hid (SpotK w0 lo p m4 k bi x a1 (some ⟨cb, co, none⟩) c a7 b am) := ⟨HP.out, hm4', M1.out, M3.out, S7.out, SM.out, HV.out, HX.out, HBB.out⟩
     have HRI : Hid (RsnIn w1.heap.size (stayR x k c b u1 u2 u3) w6) := by
      refine rsnIn_stay x k c b u1 u2 u3 (fun j v hj => ?_)
      exact (HB6.out.cell (a := ⟨w1.heap.size, 0 + j, none⟩) hs2 (by show w1.heap.size ≠ m4; omega)).trans (HR2.out j v hj)
     clear hu1 hu2 hu3 HU1 HU2 HU3 S7 SM
     go_wp2_with fail
     refine (firstOf_any w0 lo p m1 m2 m3 m4 k bi x a1 c1 a2 c2 (some ⟨cb, co, none⟩) c3 c a7 c7 b am cm u1 u2 u3 (stayR x k c b u1 u2 u3) w1.heap.size 7 (8 * k) w6 HK.out (by show 7 ≤ 8; omega) (by omega) (fun i r h => come_says w0 lo p m1 m2 m3 m4 k bi x a1 c1 a2 c2 (some ⟨cb, co, none⟩) c3 c a7 c7 b am cm u1 u2 u3 HK.out HR2b.out HR3b.out r (stay_come (List.mem_of_getElem? h))) (fun i r h => come_enters x k c b u1 u2 u3 r (stay_come (List.mem_of_getElem? h))) HW6.out HF6.out HRI.out (by omega) (by omega)).mono ?_
     rintro e w7 ⟨rfl, hm7, hb7⟩
     rw [HFI.out]
     have HF7 : Hid (FoundM p m1 m2 m3 m4 (8 * (k + 1)) x a1 c1 a2 c2 (some ⟨cb, co, none⟩) c3 w7) := HF6.out.but hb7 (hm7.mono (by omega)) (some_ne HBB.out) (services_ne HV.out HX.out) (some_ne HX.out)
     have HB7 : Hid (But m4 w2.heap.size w2 w7) := HB6.out.trans (hb7.mono hs6)
     have hs7 : w2.heap.size ≤ w7.heap.size := Nat.le_trans hs6 hb7.size
     have HX7 : Hid (Blk wr.heap.size #[.string c.name, .string c.service, .int .i64 c.rank, .int .i64 c.born, .int .i64 c.room, .int .i64 c.hold, .string c.select, .slice a8 c.likes.length c8, .int .i64 c.apart, .string c.near, .string c.fixed, .string c.at_] 53 w7) := (hb7.block wr.heap.size hw6 (by omega)).trans HX6.out
     have HO7 : Hid (w7.ownsRow w2.heap.size 9 1 u6 (rightTo x k).length (stV (rightTo x k))) := ownsRow_but HO6.out hb7 (by omega)
     have n0 : w7.cell? ⟨wr.heap.size, 0, none⟩ = some (.string c.name) := HX7.out.cell rfl
     have hw7 : wr.heap.size < w7.heap.size := HX7.out.lt
     clear hm7 hb7 HF6 HB6 HO6 HX6 HW6 HK HRI HFI HR2b HR3b hs6 hw6
     obtain ⟨fv, hfv⟩ : ∃ t, t = fitsI x k c b true := ⟨_, rfl⟩
     rw [← hfv]
     have HFV := Hid.intro hfv
     clear hfv
     by_cases hf0 : fv = 0
     ·have HE := Hid.intro (rightTo_no HX.out (HWS.out.trans (decide_eq_false (fun h => h (HFV.out.symm.trans hf0)))))
      subst hf0
      go_wp2_with fail
      go_roundw
      case rel => exact ⟨k + 1, by omega, by go_num, by rw [HE.out]; exact HO7.out, HF7, HB7, hs7⟩
      case measure => simp [intOf]; omega
     ·have HE := Hid.intro (rightTo_yes HX.out (HWS.out.trans (decide_eq_true (fun h => hf0 (HFV.out.trans h)))))
      go_wp2_with fail
      refine (clone_any c.name _ (by have := HNM.out; omega)).mono ?_
      rintro e w8 ⟨rfl, hb8⟩
      have HO8 : Hid (w8.ownsRow w2.heap.size 9 1 u6 (rightTo x k).length (stV (rightTo x k))) := ownsRow_below HO7.out hb8
      have HF8 := Hid.intro (HF7.out.below hb8)
      have HB8 : Hid (But m4 w2.heap.size w2 w8) := HB7.out.trans (But.of_below (hb8.mono hs7))
      have hs8 : w2.heap.size ≤ w8.heap.size := Nat.le_trans hs7 hb8.size
      have hln : (rightTo x k).length ≤ k := rightTo_len k
      clear hb8 HO7 HF7 HB7 HX7 n0 hs7 hw7
      go_wp2_with (first | (at_builtin; refine wpList_append_lies _ rfl (.tmp 47) (.tmp 51) 37 rfl w2.heap.size 9 i0 _ 1 16 Tryz.underlying37 hi hz0 hz1 hz2 rfl (by decide) _ (rightTo x k).length _ rfl (ownsRow_below HO8.out ((Below.refl _ _).alloc (Nat.le_refl _) _)) ⟨w8.heap.size, 0, none⟩ 1 1 [.string c.name] rfl rfl (oneS (by simp)) (by intro u hu; rw [List.mem_singleton.1 hu]; rfl) (by omega) (by unfold maxLen; omega) (by omega) (by simp; omega) _ rfl ?_; intro g2 cap2 w9 hown hgrow hto hgl))
      go_roundw
      case rel =>
       have hBa : Below w8.heap.size w8 (w8.alloc (Obj.cells #[.string c.name] 9)) := (Below.refl _ w8).alloc (Nat.le_refl _) _
       have hsa : w2.heap.size ≤ (w8.alloc (Obj.cells #[.string c.name] 9)).heap.size := Nat.le_trans hs8 hBa.size
       have hBg : Below w2.heap.size (w8.alloc (Obj.cells #[.string c.name] 9)) w9 := (Below.refl _ _).grown hgrow hsa (fun i hi => (HO8.out.lt i hi).1)
       refine ⟨k + 1, by omega, by go_num, ?_, (HF8.out.below hBa).belowB hBg k0 k1 k2 k3 k4, HB8.out.trans ((But.of_below (hBa.mono hs8)).trans (But.of_below hBg)), Nat.le_trans hsa hBg.size⟩
       show World.ownsRow _ _ _ _ _ _ _
       rw [HE.out]
       simpa [stV] using hown
      case measure => simp [intOf]; omega
   ·have hke : k = x.copies.length := by omega
    subst hke
    have HE : Hid (rightL x = rightTo x x.copies.length) := by show _ = _; unfold rightL; rw [if_pos HV.out]
    have HB9 : Hid (Below w.heap.size w wr) := HB0.out.trans ((HB2.out.trans (hBk.out.below HB2.out.size hm4')).mono HB0.out.size)
    obtain ⟨av, cv, rfl, hSv⟩ := row_strs hO.out (fun s hs => by have := (rightL_small x).2.2 s (by rw [HE.out]; exact hs); unfold maxLen; omega) (by have := rightTo_len (x := x) x.copies.length; unfold maxLen; omega)
    have HSV := Hid.intro hSv
    clear hSv
    go_wp2_with fail
    go_ret
    exact ⟨av, cv, by rw [HE.out]; rfl, by rw [HE.out]; exact HSV.out.keep StrC.holds (Keeps.refl _ _) (by omega), HB9.out⟩

end Go.Proofs.YtmclbfkcbadnpaaGreat
