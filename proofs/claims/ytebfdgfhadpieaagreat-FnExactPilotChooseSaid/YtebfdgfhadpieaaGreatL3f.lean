import Derived.Test.YtebfdgfhadpieaaGreatL3t
namespace Go.Proofs.YtebfdgfhadpieaaGreat
open Go.RowKit Go.WideMaps Go.Maps
set_option maxHeartbeats 4000000 in
set_option maxRecDepth 100000 in
theorem l3Far_any (lo ci : Nat) (x : Flt) (a1 : Option Addr) (c1 : Nat) (a2 : Option Addr) (c2 : Nat) (a3 : Option Addr) (c3 : Nat) (y : Cpy) (a7 : Option Addr) (c7 : Nat) (b : Brt) (am : Option Addr) (cm : Nat) (w : World) (n1 : SliceC BrtC 6 lo w a1 x.berths) (n3 : SliceC CpyC 12 lo w a3 x.copies) (hci : x.copies[ci]? = some y) (hv : validI x = true) :
  Calls Tryz.prog 58 #[.agg #[.bool x.pack, .slice a1 x.berths.length c1, .slice a2 x.services.length c2, .slice a3 x.copies.length c3], .agg #[.string y.name, .string y.service, .int .i64 y.rank, .int .i64 y.born, .int .i64 y.room, .int .i64 y.hold, .string y.select, .slice a7 y.likes.length c7, .int .i64 y.apart, .string y.near, .string y.fixed, .string y.at_], .agg #[.string b.name, .string b.zone, .slice am b.marks.length cm, .int .i64 b.room, .int .i64 b.hold, .bool b.closed]] w fun e w' => e = .returned (.bool (farI x ci y b)) ∧ Below w.heap.size w w' := by
 have N1 := iH n1
 have N3 := iH n3
 have HCI := iH hci
 obtain ⟨l2, l3, _, hcN, _, _⟩ := valid_parts hv
 have l1 := (valid_more hv).1
 have HCN := iH hcN
 clear n1 n3 hci hcN
 clear hv
 go_enter Tryz.func58, Tryz.ntmps58
 go_upto_region 1 with fail
 have HI0 := iH (L3In.of x a1 c1 a2 c2 a3 c3 y a7 c7 b am cm w).1
 have HB0 := iH (L3In.of x a1 c1 a2 c2 a3 c3 y a7 c7 b am cm w).2
 generalize (((w.alloc (Obj.cells #[.bool x.pack, .slice a1 x.berths.length c1, .slice a2 x.services.length c2, .slice a3 x.copies.length c3] 33)).alloc (Obj.cells #[.string y.name, .string y.service, .int .i64 y.rank, .int .i64 y.born, .int .i64 y.room, .int .i64 y.hold, .string y.select, .slice a7 y.likes.length c7, .int .i64 y.apart, .string y.near, .string y.fixed, .string y.at_] 45)).alloc (Obj.cells #[.string b.name, .string b.zone, .slice am b.marks.length cm, .int .i64 b.room, .int .i64 b.hold, .bool b.closed] 61)) = w0 at *
 have y9 : w0.cell? ⟨w.heap.size + 1, 9, none⟩ = some (.string y.near) := HI0.out.2.1.cell rfl
 by_cases hne : y.near = ⟨#[]⟩
 ·have t1 := empty_toList hne
  have t2 := isEmpty_of' hne
  have HT := iH (far_no1 (x := x) (ci := ci) (b := b) hne)
  clear hne
  go_wp2_with fail
  go_ret
  exact ⟨ret_bool HT.out.symm, HB0.out⟩
 have t1 := nonempty_toList hne
 have t2 := isEmpty_not' hne
 have HNE := iH hne
 clear hne
 go_wp2_with fail
 go_loopw [7, 8] (fun s i wr => ∃ (k : Nat) (q : Bool), k ≤ x.copies.length ∧ s = .bool q ∧ i = .int .i64 k ∧ Hid (q = anyTo (stF x ci y.near) k) ∧ Hid (anyTo (znF x ci y.near b.zone) k = false) ∧ Hid (L3In w.heap.size x a1 c1 a2 c2 a3 c3 y a7 c7 b am cm wr) ∧ Hid (Below w.heap.size w wr)) (fun _ i _ => x.copies.length - (intOf i).toNat)
 case atStart => exact ⟨0, false, Nat.zero_le _, rfl, rfl, rfl, rfl, HI0, HB0⟩
 case round =>
  clear HI0 HB0 y9
  obtain ⟨k, q, hk, rfl, rfl, hQ, hZ, hI, hB⟩ := hrel
  have p3 : wr.cell? ⟨w.heap.size, 3, none⟩ = some (.slice a3 x.copies.length c3) := hI.out.1.cell rfl
  by_cases hlt : k < x.copies.length
  ·skip
   obtain ⟨c, hck⟩ : ∃ c, x.copies[k]? = some c := ⟨x.copies[k], List.getElem?_eq_getElem hlt⟩
   obtain ⟨cb, co, rfl, _, _, hc⟩ := (N3.out.below CpyC.holds hB.out nL).at hck
   obtain ⟨a8, c8, q0, q1, q2, q3, q4, q5, q6, q7, q8, q9, q10, q11, z0, z1, z6, z9, z10, z11, z7⟩ := hc
   simp only [Nat.add_zero] at q0 q1 q2 q3 q4 q5 q6 q7 q8 q9 q10 q11
   have HRA : Hid (wr.rangeAt cb (co + k * 12) [.string c.name, .string c.service, .int .i64 c.rank, .int .i64 c.born, .int .i64 c.room, .int .i64 c.hold, .string c.select, .slice a8 c.likes.length c8, .int .i64 c.apart, .string c.near, .string c.fixed, .string c.at_]) := range_cons q0 (range_cons q1 (range_cons q2 (range_cons q3 (range_cons q4 (range_cons q5 (range_cons q6 (range_cons q7 (range_cons q8 (range_cons q9 (range_cons q10 (range_cons q11 (range_nil _ _ _))))))))))))
   have HX := iH hck
   have HSM : Hid (k = ci ↔ c.name = y.name) := by
    constructor
    ·rintro rfl
     have := HCI.out
     rw [hck] at this
     cases this
     rfl
    ·intro e
     exact HCN.out.inj (map_get (f := (·.name)) hck) (by rw [map_get (f := (·.name)) HCI.out, e])
   clear hck q0 q1 q2 q3 q4 q5 q6 q7 q8 q9 q10 q11 z0 z1 z6 z7 z9 z10 z11
   go_upto_region 8 with (first | (refine wpList_load_mid rfl 45 _ rfl cb (co + k * 12) (by first | rfl | (simp [go_sem]; done)) [.string c.name, .string c.service, .int .i64 c.rank, .int .i64 c.born, .int .i64 c.room, .int .i64 c.hold, .string c.select, .slice a8 c.likes.length c8, .int .i64 c.apart, .string c.near, .string c.fixed, .string c.at_] _ HRA.out Tryz.underlying45 rfl isz_Cpy ?_))
   have hbx : Below wr.heap.size wr (wr.alloc (Obj.cells #[.string c.name, .string c.service, .int .i64 c.rank, .int .i64 c.born, .int .i64 c.room, .int .i64 c.hold, .string c.select, .slice a8 c.likes.length c8, .int .i64 c.apart, .string c.near, .string c.fixed, .string c.at_] 45)) := (Below.refl _ wr).alloc nL _
   have HX4 : Hid (Blk wr.heap.size #[.string c.name, .string c.service, .int .i64 c.rank, .int .i64 c.born, .int .i64 c.room, .int .i64 c.hold, .string c.select, .slice a8 c.likes.length c8, .int .i64 c.apart, .string c.near, .string c.fixed, .string c.at_] 45 (wr.alloc (Obj.cells #[.string c.name, .string c.service, .int .i64 c.rank, .int .i64 c.born, .int .i64 c.room, .int .i64 c.hold, .string c.select, .slice a8 c.likes.length c8, .int .i64 c.apart, .string c.near, .string c.fixed, .string c.at_] 45))) := Blk.alloc _ _ _
   have HI4 := iH (hI.out.below hbx)
   have HB4 : Hid (Below w.heap.size w (wr.alloc (Obj.cells #[.string c.name, .string c.service, .int .i64 c.rank, .int .i64 c.born, .int .i64 c.room, .int .i64 c.hold, .string c.select, .slice a8 c.likes.length c8, .int .i64 c.apart, .string c.near, .string c.fixed, .string c.at_] 45))) := hB.out.trans (hbx.mono hB.out.size)
   have hbk : w.heap.size + 1 + 1 < wr.heap.size := hI.out.2.2.lt
   clear HRA hbx hI hB p3
   generalize (wr.alloc (Obj.cells #[.string c.name, .string c.service, .int .i64 c.rank, .int .i64 c.born, .int .i64 c.room, .int .i64 c.hold, .string c.select, .slice a8 c.likes.length c8, .int .i64 c.apart, .string c.near, .string c.fixed, .string c.at_] 45)) = w4 at *
   have y0 : w4.cell? ⟨w.heap.size + 1, 0, none⟩ = some (.string y.name) := HI4.out.2.1.cell rfl
   have y1 : w4.cell? ⟨w.heap.size + 1, 1, none⟩ = some (.string y.service) := HI4.out.2.1.cell rfl
   have y8 : w4.cell? ⟨w.heap.size + 1, 8, none⟩ = some (.int .i64 y.apart) := HI4.out.2.1.cell rfl
   have y9 : w4.cell? ⟨w.heap.size + 1, 9, none⟩ = some (.string y.near) := HI4.out.2.1.cell rfl
   have zb0 : w4.cell? ⟨w.heap.size + 1 + 1, 0, none⟩ = some (.string b.name) := HI4.out.2.2.cell rfl
   have g0 : w4.cell? ⟨wr.heap.size, 0, none⟩ = some (.string c.name) := HX4.out.cell rfl
   have g1 : w4.cell? ⟨wr.heap.size, 1, none⟩ = some (.string c.service) := HX4.out.cell rfl
   have g4 : w4.cell? ⟨wr.heap.size, 4, none⟩ = some (.int .i64 c.room) := HX4.out.cell rfl
   have g5 : w4.cell? ⟨wr.heap.size, 5, none⟩ = some (.int .i64 c.hold) := HX4.out.cell rfl
   have g8 : w4.cell? ⟨wr.heap.size, 8, none⟩ = some (.int .i64 c.apart) := HX4.out.cell rfl
   have g11 : w4.cell? ⟨wr.heap.size, 11, none⟩ = some (.string c.at_) := HX4.out.cell rfl
   by_cases hnm : c.name = y.name
   ·have htn := bts_eq hnm
    have hkc := HSM.out.2 hnm
    have HQE : Hid (q = anyTo (stF x ci y.near) (k + 1)) := hQ.out.trans (anyTo_no (st_no HX.out (fun h => h.1 hkc))).symm
    have HZE : Hid (anyTo (znF x ci y.near b.zone) (k + 1) = false) := (anyTo_no (zn_no HX.out (fun h => h.1 hkc))).trans hZ.out
    clear hnm hkc
    go_wp2_with fail
    go_roundw
    case rel => first | exact ⟨k + 1, q, by omega, rfl, by go_num, HQE, HZE, HI4, HB4⟩ | ((repeat apply Exists.intro); exact ⟨⟨k + 1, q, by omega, rfl, by go_num, HQE, HZE, HI4, HB4⟩, rfl⟩)
    case measure => simp [intOf]; omega
   have htn := bts_ne hnm
   have hkc : k ≠ ci := fun h => hnm (HSM.out.1 h)
   clear hnm
   by_cases hsv : c.service = y.near
   rotate_left
   ·have hts := bts_ne hsv
    have HQE : Hid (q = anyTo (stF x ci y.near) (k + 1)) := hQ.out.trans (anyTo_no (st_no HX.out (fun h => hsv h.2.1))).symm
    have HZE : Hid (anyTo (znF x ci y.near b.zone) (k + 1) = false) := (anyTo_no (zn_no HX.out (fun h => hsv h.2.1))).trans hZ.out
    clear hsv hkc
    go_wp2_with fail
    go_roundw
    case rel => first | exact ⟨k + 1, q, by omega, rfl, by go_num, HQE, HZE, HI4, HB4⟩ | ((repeat apply Exists.intro); exact ⟨⟨k + 1, q, by omega, rfl, by go_num, HQE, HZE, HI4, HB4⟩, rfl⟩)
    case measure => simp [intOf]; omega
   have hts := bts_eq hsv
   have HSV := iH hsv
   clear hsv
   by_cases hat : c.at_ = ⟨#[]⟩
   ·have hte := empty_toList hat
    have hte2 := isEmpty_of' hat
    have HQE : Hid (q = anyTo (stF x ci y.near) (k + 1)) := hQ.out.trans (anyTo_no (st_no HX.out (fun h => h.2.2 hat))).symm
    have HZE : Hid (anyTo (znF x ci y.near b.zone) (k + 1) = false) := (anyTo_no (zn_no HX.out (fun h => h.2.2.1 hat))).trans hZ.out
    clear hat hkc
    go_wp2_with fail
    go_roundw
    case rel => first | exact ⟨k + 1, q, by omega, rfl, by go_num, HQE, HZE, HI4, HB4⟩ | ((repeat apply Exists.intro); exact ⟨⟨k + 1, q, by omega, rfl, by go_num, HQE, HZE, HI4, HB4⟩, rfl⟩)
    case measure => simp [intOf]; omega
   have hte := nonempty_toList hat
   have hte2 := isEmpty_not' hat
   have HAT := iH hat
   clear hat
   obtain ⟨zz, hzz⟩ : ∃ zz, ((zoneOf x.berths c.at_).toList == b.zone.toList) = zz := ⟨_, rfl⟩
   go_upto_region 10 with fail
   clear y0 y1 y8 y9 zb0 g0 g1 g4 g5 g8 g11
   refine wp_region_held_drew (S := L3T w.heap.size x a1 c1 a2 c2 (some ⟨cb, co, none⟩) c3 y b wr.heap.size c) (by kernel_rfl) (HI4.out.drew.t (HX4.out.drew.cell rfl) (HX4.out.drew.cell rfl)) (fun hS => ?_)
   refine x0 0 42 (.agg #[.bool x.pack, .slice a1 x.berths.length c1, .slice a2 x.services.length c2, .slice (some ⟨cb, co, none⟩) x.copies.length c3]) rfl hS ?_
   simp only [pA,pB,pC,pD]
   refine x0 1 43 (.pointer (some ⟨wr.heap.size, 11, none⟩)) rfl hS ?_
   simp only [pA,pB,pC,pD]
   refine x0 2 44 (.string c.at_) rfl hS ?_
   simp only [pA,pB,pC,pD]
   refine x0 4 46 (.pointer (some ⟨w.heap.size + 1 + 1, 1, none⟩)) rfl hS ?_
   simp only [pA,pB,pC,pD]
   refine x0 5 47 (.string b.zone) rfl hS ?_
   simp only [pA,pB,pC,pD]
   refine rd1 3 ⟨some 45, _, _, _, _, none⟩ rfl (fun K hK => ?_)
   go_simp
   refine (zoneOf_any x a1 c1 a2 c2 (some ⟨cb, co, none⟩) c3 lo c.at_ _ (N1.out.below BrtC.holds HB4.out.drew nL) (by omega)).mono ?_
   rintro e w7 ⟨rfl, hb7⟩
   have hd7 : Below w4.heap.size w4 w7 := (Below.refl _ w4).drew.trans hb7
   have HB7 : Hid (Below w.heap.size w w7) := HB4.out.trans (hd7.mono HB4.out.size)
   have HI7 := iH (HI4.out.below hd7)
   have HX7 := iH (HX4.out.below hd7 HX4.out.lt)
   refine hK.out _ _ (HI7.out.t (HX7.out.cell rfl) (HX7.out.cell rfl)) (fun hS => ?_)
   clear hK K hb7 hd7
   refine x0 6 48 (.bool zz) rfl hS ?_
   simp only [pA,pB,pC,pD]
   refine td ?_
   clear hS
   cases zz with
   | false =>
    have hzo : ¬ zoneOf x.berths c.at_ = b.zone := fun h => by rw [bts_eq h] at hzz; cases hzz
    have HQE : Hid (true = anyTo (stF x ci y.near) (k + 1)) := (anyTo_yes (st_yes HX.out hkc HSV.out HAT.out)).symm
    have HZE : Hid (anyTo (znF x ci y.near b.zone) (k + 1) = false) := (anyTo_no (zn_no HX.out (fun h => hzo h.2.2.2))).trans hZ.out
    clear hzo hzz
    go_wp2_with fail
    go_roundw
    case rel => first | exact ⟨k + 1, true, by omega, rfl, by go_num, HQE, HZE, HI7, HB7⟩ | ((repeat apply Exists.intro); exact ⟨⟨k + 1, true, by omega, rfl, by go_num, HQE, HZE, HI7, HB7⟩, rfl⟩)
    case measure => simp [intOf]; omega
   | true =>
    have hzo : zoneOf x.berths c.at_ = b.zone := Classical.byContradiction fun h => by rw [bts_ne h] at hzz; cases hzz
    have HTE : Hid (farI x ci y b = false) := far_no2 (anyTo_mono _ (show k + 1 ≤ x.copies.length by omega) (anyTo_yes (zn_yes HX.out hkc HSV.out HAT.out hzo)))
    clear hzo hzz
    go_wp2_with fail
    go_ret
    exact ⟨ret_bool HTE.out.symm, HB7.out⟩
  ·have hke : k = x.copies.length := by omega
   subst hke
   have y1 : wr.cell? ⟨w.heap.size + 1, 1, none⟩ = some (.string y.service) := hI.out.2.1.cell rfl
   have y9 : wr.cell? ⟨w.heap.size + 1, 9, none⟩ = some (.string y.near) := hI.out.2.1.cell rfl
   by_cases hns : y.near = y.service
   ·have tns := bts_eq hns
    have HT : Hid (farI x ci y b = (false || q)) := far_is HNE.out hZ.out hQ.out.symm (by rw [decide_eq_false (fun k => k hns)])
    clear hns
    cases q
    all_goals
     go_wp2_with fail
     go_ret
     exact ⟨ret_bool HT.out.symm, hB.out⟩
   ·have tns := bts_ne hns
    have HT : Hid (farI x ci y b = (true || q)) := far_is HNE.out hZ.out hQ.out.symm (by rw [decide_eq_true hns])
    clear hns
    cases q
    all_goals
     go_wp2_with fail
     go_ret
     exact ⟨ret_bool HT.out.symm, hB.out⟩
end Go.Proofs.YtebfdgfhadpieaaGreat
