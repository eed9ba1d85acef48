import Derived.Test.YtebfdgfhadpieaaGreatL3f
namespace Go.Proofs.YtebfdgfhadpieaaGreat
open Go.RowKit Go.WideMaps Go.Maps
theorem fits_1 {x : Flt} {ci : Nat} {y : Cpy} {b : Brt} {op : Bool}  (h1 : (b.closed && !op) = true) : fitsI x ci y b op = 1 := by
 unfold fitsI
 rw [if_pos h1]
theorem fits_2 {x : Flt} {ci : Nat} {y : Cpy} {b : Brt} {op : Bool} (h1 : ¬ ((b.closed && !op) = true)) (h2 : elsI y b = true) : fitsI x ci y b op = 2 := by
 unfold fitsI
 rw [if_neg h1, if_pos h2]
theorem fits_3 {x : Flt} {ci : Nat} {y : Cpy} {b : Brt} {op : Bool} (h1 : ¬ ((b.closed && !op) = true)) (h2 : ¬ (elsI y b = true)) (h3 : asksI y.select b.marks b.zone = false) : fitsI x ci y b op = 3 := by
 unfold fitsI
 rw [if_neg h1, if_neg h2, if_pos h3]
theorem fits_4 {x : Flt} {ci : Nat} {y : Cpy} {b : Brt} {op : Bool} (h1 : ¬ ((b.closed && !op) = true)) (h2 : ¬ (elsI y b = true)) (h3 : ¬ (asksI y.select b.marks b.zone = false)) (h4 : togI x ci y b = true) : fitsI x ci y b op = 4 := by
 unfold fitsI
 rw [if_neg h1, if_neg h2, if_neg h3, if_pos h4]
theorem fits_5 {x : Flt} {ci : Nat} {y : Cpy} {b : Brt} {op : Bool} (h1 : ¬ ((b.closed && !op) = true)) (h2 : ¬ (elsI y b = true)) (h3 : ¬ (asksI y.select b.marks b.zone = false)) (h4 : ¬ (togI x ci y b = true)) (h5 : farI x ci y b = true) : fitsI x ci y b op = 5 := by
 unfold fitsI
 rw [if_neg h1, if_neg h2, if_neg h3, if_neg h4, if_pos h5]
theorem fits_6 {x : Flt} {ci : Nat} {y : Cpy} {b : Brt} {op : Bool} (h1 : ¬ ((b.closed && !op) = true)) (h2 : ¬ (elsI y b = true)) (h3 : ¬ (asksI y.select b.marks b.zone = false)) (h4 : ¬ (togI x ci y b = true)) (h5 : ¬ (farI x ci y b = true)) (h6 : 10 ≤ standTo x ci b.name x.copies.length) : fitsI x ci y b op = 6 := by
 unfold fitsI
 rw [if_neg h1, if_neg h2, if_neg h3, if_neg h4, if_neg h5, if_pos h6]
theorem fits_7 {x : Flt} {ci : Nat} {y : Cpy} {b : Brt} {op : Bool} (h1 : ¬ ((b.closed && !op) = true)) (h2 : ¬ (elsI y b = true)) (h3 : ¬ (asksI y.select b.marks b.zone = false)) (h4 : ¬ (togI x ci y b = true)) (h5 : ¬ (farI x ci y b = true)) (h6 : ¬ (10 ≤ standTo x ci b.name x.copies.length)) (h7 : b.room < roomTo x ci b.name x.copies.length + y.room) : fitsI x ci y b op = 7 := by
 unfold fitsI
 rw [if_neg h1, if_neg h2, if_neg h3, if_neg h4, if_neg h5, if_neg h6, if_pos h7]
theorem fits_8 {x : Flt} {ci : Nat} {y : Cpy} {b : Brt} {op : Bool} (h1 : ¬ ((b.closed && !op) = true)) (h2 : ¬ (elsI y b = true)) (h3 : ¬ (asksI y.select b.marks b.zone = false)) (h4 : ¬ (togI x ci y b = true)) (h5 : ¬ (farI x ci y b = true)) (h6 : ¬ (10 ≤ standTo x ci b.name x.copies.length)) (h7 : ¬ (b.room < roomTo x ci b.name x.copies.length + y.room)) (h8 : b.hold < holdTo x ci b.name x.copies.length + y.hold) : fitsI x ci y b op = 8 := by
 unfold fitsI
 rw [if_neg h1, if_neg h2, if_neg h3, if_neg h4, if_neg h5, if_neg h6, if_neg h7, if_pos h8]
theorem fits_9 {x : Flt} {ci : Nat} {y : Cpy} {b : Brt} {op : Bool} (h1 : ¬ ((b.closed && !op) = true)) (h2 : ¬ (elsI y b = true)) (h3 : ¬ (asksI y.select b.marks b.zone = false)) (h4 : ¬ (togI x ci y b = true)) (h5 : ¬ (farI x ci y b = true)) (h6 : ¬ (10 ≤ standTo x ci b.name x.copies.length)) (h7 : ¬ (b.room < roomTo x ci b.name x.copies.length + y.room)) (h8 : ¬ (b.hold < holdTo x ci b.name x.copies.length + y.hold)) : fitsI x ci y b op = 0 := by
 unfold fitsI
 rw [if_neg h1, if_neg h2, if_neg h3, if_neg h4, if_neg h5, if_neg h6, if_neg h7, if_neg h8]
set_option maxHeartbeats 8000000 in
set_option maxRecDepth 100000 in
theorem l3Fits_any (lo ci bi : Nat) (x : Flt) (a1 : Option Addr) (c1 : Nat) (a2 : Option Addr) (c2 : Nat) (a3 : Option Addr) (c3 : Nat) (y : Cpy) (a7 : Option Addr) (c7 : Nat) (b : Brt) (am : Option Addr) (cm : Nat) (op : Bool) (w : World) (n1 : SliceC BrtC 6 lo w a1 x.berths) (n3 : SliceC CpyC 12 lo w a3 x.copies) (nm : SliceC StrC 1 lo w am b.marks) (hci : x.copies[ci]? = some y) (hbi : x.berths[bi]? = some b) (hv : validI x = true) (hsel : y.select.size ≤ maxLen) :
  Calls Tryz.prog 35 #[.agg #[.bool x.pack, .slice a1 x.berths.length c1, .slice a2 x.services.length c2, .slice a3 x.copies.length c3], .agg #[.string y.name, .string y.service, .int .i64 y.rank, .int .i64 y.born, .int .i64 y.room, .int .i64 y.hold, .string y.select, .slice a7 y.likes.length c7, .int .i64 y.apart, .string y.near, .string y.fixed, .string y.at_], .agg #[.string b.name, .string b.zone, .slice am b.marks.length cm, .int .i64 b.room, .int .i64 b.hold, .bool b.closed], .bool op] w fun e w' => e = .returned (.int .i64 (fitsI x ci y b op)) ∧ Below w.heap.size w w' := by
 obtain ⟨hyr, _, _⟩ := (valid_more hv).2.2.2 ci y hci
 have hyh := ((valid_apart hv).1 ci y hci).1
 obtain ⟨_, hbz, _, hmk⟩ := (valid_more hv).2.2.1 bi b hbi
 have hml := marks_few hmk
 have hz := name_short hbz
 have NM := iH nm
 have HV := iH hv
 have HS := iH hsel
 have HCP : Hid (∀ (k : Nat) (c : Cpy), x.copies[k]? = some c → 0 ≤ c.room ∧ c.room ≤ 1000) := fun k c h => ((valid_more hv).2.2.2 k c h).1
 have HCH : Hid (∀ (k : Nat) (c : Cpy), x.copies[k]? = some c → 0 ≤ c.hold ∧ c.hold ≤ 1000) := fun k c h => ((valid_apart hv).1 k c h).1
 obtain ⟨hy0, hy1⟩ := hyr
 obtain ⟨hh0, hh1⟩ := hyh
 have N1 := iH n1
 have N3 := iH n3
 have HCI := iH hci
 obtain ⟨l2, l3, _, hcN, _, _⟩ := valid_parts hv
 have l1 := (valid_more hv).1
 have HCN := iH hcN
 clear n1 n3 hci hcN
 clear hv hbi hbz hmk nm hsel
 go_enter Tryz.func35, Tryz.ntmps35
 go_upto_region 1 with fail
 have HI0 := iH (L3In.of x a1 c1 a2 c2 a3 c3 y a7 c7 b am cm w).1
 have HB0 := iH (L3In.of x a1 c1 a2 c2 a3 c3 y a7 c7 b am cm w).2
 generalize (((w.alloc (Obj.cells #[.bool x.pack, .slice a1 x.berths.length c1, .slice a2 x.services.length c2, .slice a3 x.copies.length c3] 33)).alloc (Obj.cells #[.string y.name, .string y.service, .int .i64 y.rank, .int .i64 y.born, .int .i64 y.room, .int .i64 y.hold, .string y.select, .slice a7 y.likes.length c7, .int .i64 y.apart, .string y.near, .string y.fixed, .string y.at_] 45)).alloc (Obj.cells #[.string b.name, .string b.zone, .slice am b.marks.length cm, .int .i64 b.room, .int .i64 b.hold, .bool b.closed] 61)) = w0 at *
 have y4 : w0.cell? ⟨w.heap.size + 1, 4, none⟩ = some (.int .i64 y.room) := HI0.out.2.1.cell rfl
 have y5 : w0.cell? ⟨w.heap.size + 1, 5, none⟩ = some (.int .i64 y.hold) := HI0.out.2.1.cell rfl
 go_wp2_with fail
 go_loopw [9, 10, 11, 12] (fun sr sh ss i wr => ∃ (k : Nat) (R H S : Int), k ≤ x.copies.length ∧ sr = .int .i64 R ∧ sh = .int .i64 H ∧ ss = .int .i64 S ∧ i = .int .i64 k ∧ 0 ≤ R ∧ R ≤ 1000 + 1000 * k ∧ 0 ≤ H ∧ H ≤ 1000 + 1000 * k ∧ 0 ≤ S ∧ S ≤ k ∧ Hid (R = y.room + roomTo x ci b.name k) ∧ Hid (H = y.hold + holdTo x ci b.name k) ∧ Hid (S = standTo x ci b.name k) ∧ Hid (L3In w.heap.size x a1 c1 a2 c2 a3 c3 y a7 c7 b am cm wr) ∧ Hid (Below w.heap.size w wr)) (fun _ _ _ i _ => x.copies.length - (intOf i).toNat)
 case atStart => exact ⟨0, y.room, y.hold, 0, Nat.zero_le _, rfl, rfl, rfl, rfl, hy0, by omega, hh0, by omega, by omega, by omega, by show _ = _; simp [roomTo], by show _ = _; simp [holdTo], rfl, HI0, HB0⟩
 case round =>
  clear HI0 HB0 y4 y5
  obtain ⟨k, R, H, S, hk, rfl, rfl, rfl, rfl, hR0, hR1, hH0, hH1, hS0, hS1, hRR, hHH, hS, hI, hB⟩ := hrel
  have p3 : wr.cell? ⟨w.heap.size, 3, none⟩ = some (.slice a3 x.copies.length c3) := hI.out.1.cell rfl
  by_cases hlt : k < x.copies.length
  ·skip
   obtain ⟨c, hck⟩ : ∃ c, x.copies[k]? = some c := ⟨x.copies[k], List.getElem?_eq_getElem hlt⟩
   obtain ⟨cb, co, rfl, _, _, hc⟩ := (N3.out.below CpyC.holds hB.out nL).at hck
   obtain ⟨a8, c8, q0, q1, q2, q3, q4, q5, q6, q7, q8, q9, q10, q11, z0, z1, z6, z9, z10, z11, z7⟩ := hc
   simp only [Nat.add_zero] at q0 q1 q2 q3 q4 q5 q6 q7 q8 q9 q10 q11
   have HRA : Hid (wr.rangeAt cb (co + k * 12) [.string c.name, .string c.service, .int .i64 c.rank, .int .i64 c.born, .int .i64 c.room, .int .i64 c.hold, .string c.select, .slice a8 c.likes.length c8, .int .i64 c.apart, .string c.near, .string c.fixed, .string c.at_]) := range_cons q0 (range_cons q1 (range_cons q2 (range_cons q3 (range_cons q4 (range_cons q5 (range_cons q6 (range_cons q7 (range_cons q8 (range_cons q9 (range_cons q10 (range_cons q11 (range_nil _ _ _))))))))))))
   have HX := iH hck
   have HSM : Hid (k = ci ↔ c.name = y.name) := by
    constructor
    ·rintro rfl
     have := HCI.out
     rw [hck] at this
     cases this
     rfl
    ·intro e
     exact HCN.out.inj (map_get (f := (·.name)) hck) (by rw [map_get (f := (·.name)) HCI.out, e])
   obtain ⟨hcr0, hcr1⟩ := HCP.out k c hck
   obtain ⟨hch0, hch1⟩ := HCH.out k c hck
   clear hck q0 q1 q2 q3 q4 q5 q6 q7 q8 q9 q10 q11 z0 z1 z6 z7 z9 z10 z11
   go_upto_region 8 with (first | (refine wpList_load_mid rfl 45 _ rfl cb (co + k * 12) (by first | rfl | (simp [go_sem]; done)) [.string c.name, .string c.service, .int .i64 c.rank, .int .i64 c.born, .int .i64 c.room, .int .i64 c.hold, .string c.select, .slice a8 c.likes.length c8, .int .i64 c.apart, .string c.near, .string c.fixed, .string c.at_] _ HRA.out Tryz.underlying45 rfl isz_Cpy ?_))
   have hbx : Below wr.heap.size wr (wr.alloc (Obj.cells #[.string c.name, .string c.service, .int .i64 c.rank, .int .i64 c.born, .int .i64 c.room, .int .i64 c.hold, .string c.select, .slice a8 c.likes.length c8, .int .i64 c.apart, .string c.near, .string c.fixed, .string c.at_] 45)) := (Below.refl _ wr).alloc nL _
   have HX4 : Hid (Blk wr.heap.size #[.string c.name, .string c.service, .int .i64 c.rank, .int .i64 c.born, .int .i64 c.room, .int .i64 c.hold, .string c.select, .slice a8 c.likes.length c8, .int .i64 c.apart, .string c.near, .string c.fixed, .string c.at_] 45 (wr.alloc (Obj.cells #[.string c.name, .string c.service, .int .i64 c.rank, .int .i64 c.born, .int .i64 c.room, .int .i64 c.hold, .string c.select, .slice a8 c.likes.length c8, .int .i64 c.apart, .string c.near, .string c.fixed, .string c.at_] 45))) := Blk.alloc _ _ _
   have HI4 := iH (hI.out.below hbx)
   have HB4 : Hid (Below w.heap.size w (wr.alloc (Obj.cells #[.string c.name, .string c.service, .int .i64 c.rank, .int .i64 c.born, .int .i64 c.room, .int .i64 c.hold, .string c.select, .slice a8 c.likes.length c8, .int .i64 c.apart, .string c.near, .string c.fixed, .string c.at_] 45))) := hB.out.trans (hbx.mono hB.out.size)
   have hbk : w.heap.size + 1 + 1 < wr.heap.size := hI.out.2.2.lt
   clear HRA hbx hI hB p3
   generalize (wr.alloc (Obj.cells #[.string c.name, .string c.service, .int .i64 c.rank, .int .i64 c.born, .int .i64 c.room, .int .i64 c.hold, .string c.select, .slice a8 c.likes.length c8, .int .i64 c.apart, .string c.near, .string c.fixed, .string c.at_] 45)) = w4 at *
   have y0 : w4.cell? ⟨w.heap.size + 1, 0, none⟩ = some (.string y.name) := HI4.out.2.1.cell rfl
   have y1 : w4.cell? ⟨w.heap.size + 1, 1, none⟩ = some (.string y.service) := HI4.out.2.1.cell rfl
   have y8 : w4.cell? ⟨w.heap.size + 1, 8, none⟩ = some (.int .i64 y.apart) := HI4.out.2.1.cell rfl
   have y9 : w4.cell? ⟨w.heap.size + 1, 9, none⟩ = some (.string y.near) := HI4.out.2.1.cell rfl
   have zb0 : w4.cell? ⟨w.heap.size + 1 + 1, 0, none⟩ = some (.string b.name) := HI4.out.2.2.cell rfl
   have g0 : w4.cell? ⟨wr.heap.size, 0, none⟩ = some (.string c.name) := HX4.out.cell rfl
   have g1 : w4.cell? ⟨wr.heap.size, 1, none⟩ = some (.string c.service) := HX4.out.cell rfl
   have g4 : w4.cell? ⟨wr.heap.size, 4, none⟩ = some (.int .i64 c.room) := HX4.out.cell rfl
   have g5 : w4.cell? ⟨wr.heap.size, 5, none⟩ = some (.int .i64 c.hold) := HX4.out.cell rfl
   have g8 : w4.cell? ⟨wr.heap.size, 8, none⟩ = some (.int .i64 c.apart) := HX4.out.cell rfl
   have g11 : w4.cell? ⟨wr.heap.size, 11, none⟩ = some (.string c.at_) := HX4.out.cell rfl
   by_cases hnm : c.name = y.name
   ·have htn := bts_eq hnm
    have hkc := HSM.out.2 hnm
    have HRE : Hid (R = y.room + roomTo x ci b.name (k + 1)) := by show _ = _; rw [roomTo_out HX.out (fun h => h.2 hkc), hRR.out]
    have HHE : Hid (H = y.hold + holdTo x ci b.name (k + 1)) := by show _ = _; rw [holdTo_out HX.out (fun h => h.2 hkc), hHH.out]
    have HSE : Hid (S = standTo x ci b.name (k + 1)) := by show _ = _; rw [standTo_out HX.out (fun h => h.2 hkc), hS.out]
    clear hnm hkc
    go_wp2_with fail
    go_roundw
    case rel => first | exact ⟨k + 1, R, H, S, by omega, rfl, rfl, rfl, by go_num, by omega, by omega, by omega, by omega, by omega, by omega, HRE, HHE, HSE, HI4, HB4⟩ | ((repeat apply Exists.intro); exact ⟨⟨k + 1, R, H, S, by omega, rfl, rfl, rfl, by go_num, by omega, by omega, by omega, by omega, by omega, by omega, HRE, HHE, HSE, HI4, HB4⟩, rfl⟩)
    case measure => simp [intOf]; omega
   have htn := bts_ne hnm
   have hkc : k ≠ ci := fun h => hnm (HSM.out.1 h)
   clear hnm
   by_cases hab : c.at_ = b.name
   ·have hta := bts_eq hab
    have HAB := iH hab
    clear hab
    have HRE : Hid (R + c.room = y.room + roomTo x ci b.name (k + 1)) := by show _ = _; rw [roomTo_in HX.out HAB.out hkc, hRR.out]; omega
    have HHE : Hid (H + c.hold = y.hold + holdTo x ci b.name (k + 1)) := by show _ = _; rw [holdTo_in HX.out HAB.out hkc, hHH.out]; omega
    have HSE : Hid (S + 1 = standTo x ci b.name (k + 1)) := by show _ = _; rw [standTo_in HX.out HAB.out hkc, hS.out]
    clear HAB hkc
    go_wp2_with fail
    go_roundw
    case rel => first | exact ⟨k + 1, R + c.room, H + c.hold, S + 1, by omega, rfl, rfl, rfl, by go_num, by omega, by omega, by omega, by omega, by omega, by omega, HRE, HHE, HSE, HI4, HB4⟩ | ((repeat apply Exists.intro); exact ⟨⟨k + 1, R + c.room, H + c.hold, S + 1, by omega, rfl, rfl, rfl, by go_num, by omega, by omega, by omega, by omega, by omega, by omega, HRE, HHE, HSE, HI4, HB4⟩, rfl⟩)
    case measure => simp [intOf]; omega
   ·have hta := bts_ne hab
    have HRE : Hid (R = y.room + roomTo x ci b.name (k + 1)) := by show _ = _; rw [roomTo_out HX.out (fun h => hab h.1), hRR.out]
    have HHE : Hid (H = y.hold + holdTo x ci b.name (k + 1)) := by show _ = _; rw [holdTo_out HX.out (fun h => hab h.1), hHH.out]
    have HSE : Hid (S = standTo x ci b.name (k + 1)) := by show _ = _; rw [standTo_out HX.out (fun h => hab h.1), hS.out]
    clear hab hkc
    go_wp2_with fail
    go_roundw
    case rel => first | exact ⟨k + 1, R, H, S, by omega, rfl, rfl, rfl, by go_num, by omega, by omega, by omega, by omega, by omega, by omega, HRE, HHE, HSE, HI4, HB4⟩ | ((repeat apply Exists.intro); exact ⟨⟨k + 1, R, H, S, by omega, rfl, rfl, rfl, by go_num, by omega, by omega, by omega, by omega, by omega, by omega, HRE, HHE, HSE, HI4, HB4⟩, rfl⟩)
    case measure => simp [intOf]; omega
  ·have hke : k = x.copies.length := by omega
   subst hke
   have HI0 := hI
   have HB0 := hB
   clear hI hB
   have zb5 : wr.cell? ⟨w.heap.size + 1 + 1, 5, none⟩ = some (.bool b.closed) := HI0.out.2.2.cell rfl
   cases op with
   | true =>
    have HCL : Hid (¬ ((b.closed && !true) = true)) := by show ¬ _; simp
    cases hcl : b.closed with
    | true =>
     go_upto_region 14 with fail
     clear hcl zb5
     have y10 : wr.cell? ⟨w.heap.size + 1, 10, none⟩ = some (.string y.fixed) := HI0.out.2.1.cell rfl
     have zb0 : wr.cell? ⟨w.heap.size + 1 + 1, 0, none⟩ = some (.string b.name) := HI0.out.2.2.cell rfl
     by_cases hfx : y.fixed = ⟨#[]⟩
     ·have t1 := empty_toList hfx
      have t2 := isEmpty_of' hfx
      have HE : Hid (¬ (elsI y b = true)) := fun h => by unfold elsI at h; rw [decide_eq_false (fun k => k hfx)] at h; cases h
      clear hfx
      go_upto_region 16 with fail
      clear t1 t2 y10 zb0
      have y6 : wr.cell? ⟨w.heap.size + 1, 6, none⟩ = some (.string y.select) := HI0.out.2.1.cell rfl
      go_wp2_with (first | (refine wpList_load_mid rfl 61 _ rfl (w.heap.size + 1 + 1) 0 (by first | rfl | (simp [go_sem]; done)) [.string b.name, .string b.zone, .slice am b.marks.length cm, .int .i64 b.room, .int .i64 b.hold, .bool b.closed] _ HI0.out.2.2.rangeA Tryz.underlying61 rfl isz_Brt ?_) | (refine wpList_load_mid rfl 45 _ rfl (w.heap.size + 1) 0 (by first | rfl | (simp [go_sem]; done)) [.string y.name, .string y.service, .int .i64 y.rank, .int .i64 y.born, .int .i64 y.room, .int .i64 y.hold, .string y.select, .slice a7 y.likes.length c7, .int .i64 y.apart, .string y.near, .string y.fixed, .string y.at_] _ HI0.out.2.1.rangeA Tryz.underlying45 rfl isz_Cpy ?_) | (refine wpList_load_mid rfl 33 _ rfl w.heap.size 0 (by first | rfl | (simp [go_sem]; done)) [.bool x.pack, .slice a1 x.berths.length c1, .slice a2 x.services.length c2, .slice a3 x.copies.length c3] _ HI0.out.1.rangeA Tryz.underlying33 rfl isz_Flt ?_))
      refine (l3Select_any y.select b.name b.zone b.marks am cm lo b.room b.hold b.closed _ (NM.out.below StrC.holds HB0.out nL) hml hz HS.out).mono ?_
      rintro e w5 ⟨rfl, hb⟩
      have HI5 := iH (HI0.out.below hb)
      have HB5 : Hid (Below w.heap.size w w5) := HB0.out.trans (hb.mono HB0.out.size)
      clear hb
      obtain ⟨q, hq⟩ : ∃ q, selS y.select b.marks b.zone = q := ⟨_, rfl⟩
      rw [hq]
      have HA : Hid (asksI y.select b.marks b.zone = q) := (asks_eq _ _ _).trans hq
      clear hq
      cases q with
      | false =>
       go_wp2_with fail
       go_ret
       exact ⟨ret_int (fits_3 HCL.out HE.out HA.out).symm, HB5.out⟩
      | true =>
       have HA2 : Hid (¬ (asksI y.select b.marks b.zone = false)) := fun h => by rw [HA.out] at h; cases h
       clear y6
       go_wp2_with (first | (refine wpList_load_mid rfl 61 _ rfl (w.heap.size + 1 + 1) 0 (by first | rfl | (simp [go_sem]; done)) [.string b.name, .string b.zone, .slice am b.marks.length cm, .int .i64 b.room, .int .i64 b.hold, .bool b.closed] _ HI5.out.2.2.rangeA Tryz.underlying61 rfl isz_Brt ?_) | (refine wpList_load_mid rfl 45 _ rfl (w.heap.size + 1) 0 (by first | rfl | (simp [go_sem]; done)) [.string y.name, .string y.service, .int .i64 y.rank, .int .i64 y.born, .int .i64 y.room, .int .i64 y.hold, .string y.select, .slice a7 y.likes.length c7, .int .i64 y.apart, .string y.near, .string y.fixed, .string y.at_] _ HI5.out.2.1.rangeA Tryz.underlying45 rfl isz_Cpy ?_) | (refine wpList_load_mid rfl 33 _ rfl w.heap.size 0 (by first | rfl | (simp [go_sem]; done)) [.bool x.pack, .slice a1 x.berths.length c1, .slice a2 x.services.length c2, .slice a3 x.copies.length c3] _ HI5.out.1.rangeA Tryz.underlying33 rfl isz_Flt ?_))
       refine (l3Together_any lo ci x a1 c1 a2 c2 a3 c3 y a7 c7 b am cm _ (N1.out.below BrtC.holds HB5.out nL) (N3.out.below CpyC.holds HB5.out nL) HCI.out HV.out).mono ?_
       rintro e w6 ⟨rfl, hb⟩
       have HI6 := iH (HI5.out.below hb)
       have HB6 : Hid (Below w.heap.size w w6) := HB5.out.trans (hb.mono HB5.out.size)
       clear hb
       obtain ⟨q, hq⟩ : ∃ q, togI x ci y b = q := ⟨_, rfl⟩
       rw [hq]
       have HT := iH hq
       clear hq
       cases q with
       | true =>
        go_wp2_with fail
        go_ret
        exact ⟨ret_int (fits_4 HCL.out HE.out HA2.out HT.out).symm, HB6.out⟩
       | false =>
        have HT2 : Hid (¬ (togI x ci y b = true)) := fun h => by rw [HT.out] at h; cases h
        go_wp2_with (first | (refine wpList_load_mid rfl 61 _ rfl (w.heap.size + 1 + 1) 0 (by first | rfl | (simp [go_sem]; done)) [.string b.name, .string b.zone, .slice am b.marks.length cm, .int .i64 b.room, .int .i64 b.hold, .bool b.closed] _ HI6.out.2.2.rangeA Tryz.underlying61 rfl isz_Brt ?_) | (refine wpList_load_mid rfl 45 _ rfl (w.heap.size + 1) 0 (by first | rfl | (simp [go_sem]; done)) [.string y.name, .string y.service, .int .i64 y.rank, .int .i64 y.born, .int .i64 y.room, .int .i64 y.hold, .string y.select, .slice a7 y.likes.length c7, .int .i64 y.apart, .string y.near, .string y.fixed, .string y.at_] _ HI6.out.2.1.rangeA Tryz.underlying45 rfl isz_Cpy ?_) | (refine wpList_load_mid rfl 33 _ rfl w.heap.size 0 (by first | rfl | (simp [go_sem]; done)) [.bool x.pack, .slice a1 x.berths.length c1, .slice a2 x.services.length c2, .slice a3 x.copies.length c3] _ HI6.out.1.rangeA Tryz.underlying33 rfl isz_Flt ?_))
        refine (l3Far_any lo ci x a1 c1 a2 c2 a3 c3 y a7 c7 b am cm _ (N1.out.below BrtC.holds HB6.out nL) (N3.out.below CpyC.holds HB6.out nL) HCI.out HV.out).mono ?_
        rintro e w7 ⟨rfl, hb⟩
        have HI7 := iH (HI6.out.below hb)
        have HB7 : Hid (Below w.heap.size w w7) := HB6.out.trans (hb.mono HB6.out.size)
        clear hb
        obtain ⟨q, hq⟩ : ∃ q, farI x ci y b = q := ⟨_, rfl⟩
        rw [hq]
        have HR := iH hq
        clear hq
        cases q with
        | true =>
         go_wp2_with fail
         go_ret
         exact ⟨ret_int (fits_5 HCL.out HE.out HA2.out HT2.out HR.out).symm, HB7.out⟩
        | false =>
         have HR2 : Hid (¬ (farI x ci y b = true)) := fun h => by rw [HR.out] at h; cases h
         have zb3 : w7.cell? ⟨w.heap.size + 1 + 1, 3, none⟩ = some (.int .i64 b.room) := HI7.out.2.2.cell rfl
         have zb4 : w7.cell? ⟨w.heap.size + 1 + 1, 4, none⟩ = some (.int .i64 b.hold) := HI7.out.2.2.cell rfl
         by_cases hs : 10 ≤ S
         ·have H6 : Hid (10 ≤ standTo x ci b.name x.copies.length) := by show _ ≤ _; rw [← hS.out]; exact hs
          go_wp2_with fail
          go_ret
          exact ⟨ret_int (fits_6 HCL.out HE.out HA2.out HT2.out HR2.out H6.out).symm, HB7.out⟩
         have H6 : Hid (standTo x ci b.name x.copies.length < 10) := by show _ < _; rw [← hS.out]; omega
         by_cases hr : b.room < R
         ·have H7 : Hid (b.room < roomTo x ci b.name x.copies.length + y.room) := by show _ < _; have := hRR.out; omega
          go_wp2_with fail
          go_ret
          exact ⟨ret_int (fits_7 HCL.out HE.out HA2.out HT2.out HR2.out (Int.not_le.2 H6.out) H7.out).symm, HB7.out⟩
         have H7 : Hid (roomTo x ci b.name x.copies.length + y.room ≤ b.room) := by show _ ≤ _; have := hRR.out; omega
         by_cases hh : b.hold < H
         ·have H8 : Hid (b.hold < holdTo x ci b.name x.copies.length + y.hold) := by show _ < _; have := hHH.out; omega
          go_wp2_with fail
          go_ret
          exact ⟨ret_int (fits_8 HCL.out HE.out HA2.out HT2.out HR2.out (Int.not_le.2 H6.out) (Int.not_lt.2 H7.out) H8.out).symm, HB7.out⟩
         have H8 : Hid (holdTo x ci b.name x.copies.length + y.hold ≤ b.hold) := by show _ ≤ _; have := hHH.out; omega
         go_wp2_with fail
         go_ret
         exact ⟨ret_int (fits_9 HCL.out HE.out HA2.out HT2.out HR2.out (Int.not_le.2 H6.out) (Int.not_lt.2 H7.out) (Int.not_lt.2 H8.out)).symm, HB7.out⟩
     ·have t1 := nonempty_toList hfx
      have t2 := isEmpty_not' hfx
      by_cases hfn : y.fixed = b.name
      ·have t3 := bts_eq hfn
       have HE : Hid (¬ (elsI y b = true)) := fun h => by unfold elsI at h; rw [decide_eq_false (p := ¬ y.fixed = b.name) (fun k => k hfn), Bool.and_false] at h; cases h
       clear hfx hfn
       go_upto_region 16 with fail
       clear t1 t2 t3 y10 zb0
       have y6 : wr.cell? ⟨w.heap.size + 1, 6, none⟩ = some (.string y.select) := HI0.out.2.1.cell rfl
       go_wp2_with (first | (refine wpList_load_mid rfl 61 _ rfl (w.heap.size + 1 + 1) 0 (by first | rfl | (simp [go_sem]; done)) [.string b.name, .string b.zone, .slice am b.marks.length cm, .int .i64 b.room, .int .i64 b.hold, .bool b.closed] _ HI0.out.2.2.rangeA Tryz.underlying61 rfl isz_Brt ?_) | (refine wpList_load_mid rfl 45 _ rfl (w.heap.size + 1) 0 (by first | rfl | (simp [go_sem]; done)) [.string y.name, .string y.service, .int .i64 y.rank, .int .i64 y.born, .int .i64 y.room, .int .i64 y.hold, .string y.select, .slice a7 y.likes.length c7, .int .i64 y.apart, .string y.near, .string y.fixed, .string y.at_] _ HI0.out.2.1.rangeA Tryz.underlying45 rfl isz_Cpy ?_) | (refine wpList_load_mid rfl 33 _ rfl w.heap.size 0 (by first | rfl | (simp [go_sem]; done)) [.bool x.pack, .slice a1 x.berths.length c1, .slice a2 x.services.length c2, .slice a3 x.copies.length c3] _ HI0.out.1.rangeA Tryz.underlying33 rfl isz_Flt ?_))
       refine (l3Select_any y.select b.name b.zone b.marks am cm lo b.room b.hold b.closed _ (NM.out.below StrC.holds HB0.out nL) hml hz HS.out).mono ?_
       rintro e w5 ⟨rfl, hb⟩
       have HI5 := iH (HI0.out.below hb)
       have HB5 : Hid (Below w.heap.size w w5) := HB0.out.trans (hb.mono HB0.out.size)
       clear hb
       obtain ⟨q, hq⟩ : ∃ q, selS y.select b.marks b.zone = q := ⟨_, rfl⟩
       rw [hq]
       have HA : Hid (asksI y.select b.marks b.zone = q) := (asks_eq _ _ _).trans hq
       clear hq
       cases q with
       | false =>
        go_wp2_with fail
        go_ret
        exact ⟨ret_int (fits_3 HCL.out HE.out HA.out).symm, HB5.out⟩
       | true =>
        have HA2 : Hid (¬ (asksI y.select b.marks b.zone = false)) := fun h => by rw [HA.out] at h; cases h
        clear y6
        go_wp2_with (first | (refine wpList_load_mid rfl 61 _ rfl (w.heap.size + 1 + 1) 0 (by first | rfl | (simp [go_sem]; done)) [.string b.name, .string b.zone, .slice am b.marks.length cm, .int .i64 b.room, .int .i64 b.hold, .bool b.closed] _ HI5.out.2.2.rangeA Tryz.underlying61 rfl isz_Brt ?_) | (refine wpList_load_mid rfl 45 _ rfl (w.heap.size + 1) 0 (by first | rfl | (simp [go_sem]; done)) [.string y.name, .string y.service, .int .i64 y.rank, .int .i64 y.born, .int .i64 y.room, .int .i64 y.hold, .string y.select, .slice a7 y.likes.length c7, .int .i64 y.apart, .string y.near, .string y.fixed, .string y.at_] _ HI5.out.2.1.rangeA Tryz.underlying45 rfl isz_Cpy ?_) | (refine wpList_load_mid rfl 33 _ rfl w.heap.size 0 (by first | rfl | (simp [go_sem]; done)) [.bool x.pack, .slice a1 x.berths.length c1, .slice a2 x.services.length c2, .slice a3 x.copies.length c3] _ HI5.out.1.rangeA Tryz.underlying33 rfl isz_Flt ?_))
        refine (l3Together_any lo ci x a1 c1 a2 c2 a3 c3 y a7 c7 b am cm _ (N1.out.below BrtC.holds HB5.out nL) (N3.out.below CpyC.holds HB5.out nL) HCI.out HV.out).mono ?_
        rintro e w6 ⟨rfl, hb⟩
        have HI6 := iH (HI5.out.below hb)
        have HB6 : Hid (Below w.heap.size w w6) := HB5.out.trans (hb.mono HB5.out.size)
        clear hb
        obtain ⟨q, hq⟩ : ∃ q, togI x ci y b = q := ⟨_, rfl⟩
        rw [hq]
        have HT := iH hq
        clear hq
        cases q with
        | true =>
         go_wp2_with fail
         go_ret
         exact ⟨ret_int (fits_4 HCL.out HE.out HA2.out HT.out).symm, HB6.out⟩
        | false =>
         have HT2 : Hid (¬ (togI x ci y b = true)) := fun h => by rw [HT.out] at h; cases h
         go_wp2_with (first | (refine wpList_load_mid rfl 61 _ rfl (w.heap.size + 1 + 1) 0 (by first | rfl | (simp [go_sem]; done)) [.string b.name, .string b.zone, .slice am b.marks.length cm, .int .i64 b.room, .int .i64 b.hold, .bool b.closed] _ HI6.out.2.2.rangeA Tryz.underlying61 rfl isz_Brt ?_) | (refine wpList_load_mid rfl 45 _ rfl (w.heap.size + 1) 0 (by first | rfl | (simp [go_sem]; done)) [.string y.name, .string y.service, .int .i64 y.rank, .int .i64 y.born, .int .i64 y.room, .int .i64 y.hold, .string y.select, .slice a7 y.likes.length c7, .int .i64 y.apart, .string y.near, .string y.fixed, .string y.at_] _ HI6.out.2.1.rangeA Tryz.underlying45 rfl isz_Cpy ?_) | (refine wpList_load_mid rfl 33 _ rfl w.heap.size 0 (by first | rfl | (simp [go_sem]; done)) [.bool x.pack, .slice a1 x.berths.length c1, .slice a2 x.services.length c2, .slice a3 x.copies.length c3] _ HI6.out.1.rangeA Tryz.underlying33 rfl isz_Flt ?_))
         refine (l3Far_any lo ci x a1 c1 a2 c2 a3 c3 y a7 c7 b am cm _ (N1.out.below BrtC.holds HB6.out nL) (N3.out.below CpyC.holds HB6.out nL) HCI.out HV.out).mono ?_
         rintro e w7 ⟨rfl, hb⟩
         have HI7 := iH (HI6.out.below hb)
         have HB7 : Hid (Below w.heap.size w w7) := HB6.out.trans (hb.mono HB6.out.size)
         clear hb
         obtain ⟨q, hq⟩ : ∃ q, farI x ci y b = q := ⟨_, rfl⟩
         rw [hq]
         have HR := iH hq
         clear hq
         cases q with
         | true =>
          go_wp2_with fail
          go_ret
          exact ⟨ret_int (fits_5 HCL.out HE.out HA2.out HT2.out HR.out).symm, HB7.out⟩
         | false =>
          have HR2 : Hid (¬ (farI x ci y b = true)) := fun h => by rw [HR.out] at h; cases h
          have zb3 : w7.cell? ⟨w.heap.size + 1 + 1, 3, none⟩ = some (.int .i64 b.room) := HI7.out.2.2.cell rfl
          have zb4 : w7.cell? ⟨w.heap.size + 1 + 1, 4, none⟩ = some (.int .i64 b.hold) := HI7.out.2.2.cell rfl
          by_cases hs : 10 ≤ S
          ·have H6 : Hid (10 ≤ standTo x ci b.name x.copies.length) := by show _ ≤ _; rw [← hS.out]; exact hs
           go_wp2_with fail
           go_ret
           exact ⟨ret_int (fits_6 HCL.out HE.out HA2.out HT2.out HR2.out H6.out).symm, HB7.out⟩
          have H6 : Hid (standTo x ci b.name x.copies.length < 10) := by show _ < _; rw [← hS.out]; omega
          by_cases hr : b.room < R
          ·have H7 : Hid (b.room < roomTo x ci b.name x.copies.length + y.room) := by show _ < _; have := hRR.out; omega
           go_wp2_with fail
           go_ret
           exact ⟨ret_int (fits_7 HCL.out HE.out HA2.out HT2.out HR2.out (Int.not_le.2 H6.out) H7.out).symm, HB7.out⟩
          have H7 : Hid (roomTo x ci b.name x.copies.length + y.room ≤ b.room) := by show _ ≤ _; have := hRR.out; omega
          by_cases hh : b.hold < H
          ·have H8 : Hid (b.hold < holdTo x ci b.name x.copies.length + y.hold) := by show _ < _; have := hHH.out; omega
           go_wp2_with fail
           go_ret
           exact ⟨ret_int (fits_8 HCL.out HE.out HA2.out HT2.out HR2.out (Int.not_le.2 H6.out) (Int.not_lt.2 H7.out) H8.out).symm, HB7.out⟩
          have H8 : Hid (holdTo x ci b.name x.copies.length + y.hold ≤ b.hold) := by show _ ≤ _; have := hHH.out; omega
          go_wp2_with fail
          go_ret
          exact ⟨ret_int (fits_9 HCL.out HE.out HA2.out HT2.out HR2.out (Int.not_le.2 H6.out) (Int.not_lt.2 H7.out) (Int.not_lt.2 H8.out)).symm, HB7.out⟩
      ·have t3 := bts_ne hfn
       have HE : Hid (elsI y b = true) := by show _ = _; unfold elsI; rw [decide_eq_true hfx, decide_eq_true hfn]; rfl
       clear hfx hfn
       go_wp2_with fail
       go_ret
       exact ⟨ret_int (fits_2 HCL.out HE.out).symm, HB0.out⟩
    | false =>
     go_upto_region 14 with fail
     clear hcl zb5
     have y10 : wr.cell? ⟨w.heap.size + 1, 10, none⟩ = some (.string y.fixed) := HI0.out.2.1.cell rfl
     have zb0 : wr.cell? ⟨w.heap.size + 1 + 1, 0, none⟩ = some (.string b.name) := HI0.out.2.2.cell rfl
     by_cases hfx : y.fixed = ⟨#[]⟩
     ·have t1 := empty_toList hfx
      have t2 := isEmpty_of' hfx
      have HE : Hid (¬ (elsI y b = true)) := fun h => by unfold elsI at h; rw [decide_eq_false (fun k => k hfx)] at h; cases h
      clear hfx
      go_upto_region 16 with fail
      clear t1 t2 y10 zb0
      have y6 : wr.cell? ⟨w.heap.size + 1, 6, none⟩ = some (.string y.select) := HI0.out.2.1.cell rfl
      go_wp2_with (first | (refine wpList_load_mid rfl 61 _ rfl (w.heap.size + 1 + 1) 0 (by first | rfl | (simp [go_sem]; done)) [.string b.name, .string b.zone, .slice am b.marks.length cm, .int .i64 b.room, .int .i64 b.hold, .bool b.closed] _ HI0.out.2.2.rangeA Tryz.underlying61 rfl isz_Brt ?_) | (refine wpList_load_mid rfl 45 _ rfl (w.heap.size + 1) 0 (by first | rfl | (simp [go_sem]; done)) [.string y.name, .string y.service, .int .i64 y.rank, .int .i64 y.born, .int .i64 y.room, .int .i64 y.hold, .string y.select, .slice a7 y.likes.length c7, .int .i64 y.apart, .string y.near, .string y.fixed, .string y.at_] _ HI0.out.2.1.rangeA Tryz.underlying45 rfl isz_Cpy ?_) | (refine wpList_load_mid rfl 33 _ rfl w.heap.size 0 (by first | rfl | (simp [go_sem]; done)) [.bool x.pack, .slice a1 x.berths.length c1, .slice a2 x.services.length c2, .slice a3 x.copies.length c3] _ HI0.out.1.rangeA Tryz.underlying33 rfl isz_Flt ?_))
      refine (l3Select_any y.select b.name b.zone b.marks am cm lo b.room b.hold b.closed _ (NM.out.below StrC.holds HB0.out nL) hml hz HS.out).mono ?_
      rintro e w5 ⟨rfl, hb⟩
      have HI5 := iH (HI0.out.below hb)
      have HB5 : Hid (Below w.heap.size w w5) := HB0.out.trans (hb.mono HB0.out.size)
      clear hb
      obtain ⟨q, hq⟩ : ∃ q, selS y.select b.marks b.zone = q := ⟨_, rfl⟩
      rw [hq]
      have HA : Hid (asksI y.select b.marks b.zone = q) := (asks_eq _ _ _).trans hq
      clear hq
      cases q with
      | false =>
       go_wp2_with fail
       go_ret
       exact ⟨ret_int (fits_3 HCL.out HE.out HA.out).symm, HB5.out⟩
      | true =>
       have HA2 : Hid (¬ (asksI y.select b.marks b.zone = false)) := fun h => by rw [HA.out] at h; cases h
       clear y6
       go_wp2_with (first | (refine wpList_load_mid rfl 61 _ rfl (w.heap.size + 1 + 1) 0 (by first | rfl | (simp [go_sem]; done)) [.string b.name, .string b.zone, .slice am b.marks.length cm, .int .i64 b.room, .int .i64 b.hold, .bool b.closed] _ HI5.out.2.2.rangeA Tryz.underlying61 rfl isz_Brt ?_) | (refine wpList_load_mid rfl 45 _ rfl (w.heap.size + 1) 0 (by first | rfl | (simp [go_sem]; done)) [.string y.name, .string y.service, .int .i64 y.rank, .int .i64 y.born, .int .i64 y.room, .int .i64 y.hold, .string y.select, .slice a7 y.likes.length c7, .int .i64 y.apart, .string y.near, .string y.fixed, .string y.at_] _ HI5.out.2.1.rangeA Tryz.underlying45 rfl isz_Cpy ?_) | (refine wpList_load_mid rfl 33 _ rfl w.heap.size 0 (by first | rfl | (simp [go_sem]; done)) [.bool x.pack, .slice a1 x.berths.length c1, .slice a2 x.services.length c2, .slice a3 x.copies.length c3] _ HI5.out.1.rangeA Tryz.underlying33 rfl isz_Flt ?_))
       refine (l3Together_any lo ci x a1 c1 a2 c2 a3 c3 y a7 c7 b am cm _ (N1.out.below BrtC.holds HB5.out nL) (N3.out.below CpyC.holds HB5.out nL) HCI.out HV.out).mono ?_
       rintro e w6 ⟨rfl, hb⟩
       have HI6 := iH (HI5.out.below hb)
       have HB6 : Hid (Below w.heap.size w w6) := HB5.out.trans (hb.mono HB5.out.size)
       clear hb
       obtain ⟨q, hq⟩ : ∃ q, togI x ci y b = q := ⟨_, rfl⟩
       rw [hq]
       have HT := iH hq
       clear hq
       cases q with
       | true =>
        go_wp2_with fail
        go_ret
        exact ⟨ret_int (fits_4 HCL.out HE.out HA2.out HT.out).symm, HB6.out⟩
       | false =>
        have HT2 : Hid (¬ (togI x ci y b = true)) := fun h => by rw [HT.out] at h; cases h
        go_wp2_with (first | (refine wpList_load_mid rfl 61 _ rfl (w.heap.size + 1 + 1) 0 (by first | rfl | (simp [go_sem]; done)) [.string b.name, .string b.zone, .slice am b.marks.length cm, .int .i64 b.room, .int .i64 b.hold, .bool b.closed] _ HI6.out.2.2.rangeA Tryz.underlying61 rfl isz_Brt ?_) | (refine wpList_load_mid rfl 45 _ rfl (w.heap.size + 1) 0 (by first | rfl | (simp [go_sem]; done)) [.string y.name, .string y.service, .int .i64 y.rank, .int .i64 y.born, .int .i64 y.room, .int .i64 y.hold, .string y.select, .slice a7 y.likes.length c7, .int .i64 y.apart, .string y.near, .string y.fixed, .string y.at_] _ HI6.out.2.1.rangeA Tryz.underlying45 rfl isz_Cpy ?_) | (refine wpList_load_mid rfl 33 _ rfl w.heap.size 0 (by first | rfl | (simp [go_sem]; done)) [.bool x.pack, .slice a1 x.berths.length c1, .slice a2 x.services.length c2, .slice a3 x.copies.length c3] _ HI6.out.1.rangeA Tryz.underlying33 rfl isz_Flt ?_))
        refine (l3Far_any lo ci x a1 c1 a2 c2 a3 c3 y a7 c7 b am cm _ (N1.out.below BrtC.holds HB6.out nL) (N3.out.below CpyC.holds HB6.out nL) HCI.out HV.out).mono ?_
        rintro e w7 ⟨rfl, hb⟩
        have HI7 := iH (HI6.out.below hb)
        have HB7 : Hid (Below w.heap.size w w7) := HB6.out.trans (hb.mono HB6.out.size)
        clear hb
        obtain ⟨q, hq⟩ : ∃ q, farI x ci y b = q := ⟨_, rfl⟩
        rw [hq]
        have HR := iH hq
        clear hq
        cases q with
        | true =>
         go_wp2_with fail
         go_ret
         exact ⟨ret_int (fits_5 HCL.out HE.out HA2.out HT2.out HR.out).symm, HB7.out⟩
        | false =>
         have HR2 : Hid (¬ (farI x ci y b = true)) := fun h => by rw [HR.out] at h; cases h
         have zb3 : w7.cell? ⟨w.heap.size + 1 + 1, 3, none⟩ = some (.int .i64 b.room) := HI7.out.2.2.cell rfl
         have zb4 : w7.cell? ⟨w.heap.size + 1 + 1, 4, none⟩ = some (.int .i64 b.hold) := HI7.out.2.2.cell rfl
         by_cases hs : 10 ≤ S
         ·have H6 : Hid (10 ≤ standTo x ci b.name x.copies.length) := by show _ ≤ _; rw [← hS.out]; exact hs
          go_wp2_with fail
          go_ret
          exact ⟨ret_int (fits_6 HCL.out HE.out HA2.out HT2.out HR2.out H6.out).symm, HB7.out⟩
         have H6 : Hid (standTo x ci b.name x.copies.length < 10) := by show _ < _; rw [← hS.out]; omega
         by_cases hr : b.room < R
         ·have H7 : Hid (b.room < roomTo x ci b.name x.copies.length + y.room) := by show _ < _; have := hRR.out; omega
          go_wp2_with fail
          go_ret
          exact ⟨ret_int (fits_7 HCL.out HE.out HA2.out HT2.out HR2.out (Int.not_le.2 H6.out) H7.out).symm, HB7.out⟩
         have H7 : Hid (roomTo x ci b.name x.copies.length + y.room ≤ b.room) := by show _ ≤ _; have := hRR.out; omega
         by_cases hh : b.hold < H
         ·have H8 : Hid (b.hold < holdTo x ci b.name x.copies.length + y.hold) := by show _ < _; have := hHH.out; omega
          go_wp2_with fail
          go_ret
          exact ⟨ret_int (fits_8 HCL.out HE.out HA2.out HT2.out HR2.out (Int.not_le.2 H6.out) (Int.not_lt.2 H7.out) H8.out).symm, HB7.out⟩
         have H8 : Hid (holdTo x ci b.name x.copies.length + y.hold ≤ b.hold) := by show _ ≤ _; have := hHH.out; omega
         go_wp2_with fail
         go_ret
         exact ⟨ret_int (fits_9 HCL.out HE.out HA2.out HT2.out HR2.out (Int.not_le.2 H6.out) (Int.not_lt.2 H7.out) (Int.not_lt.2 H8.out)).symm, HB7.out⟩
     ·have t1 := nonempty_toList hfx
      have t2 := isEmpty_not' hfx
      by_cases hfn : y.fixed = b.name
      ·have t3 := bts_eq hfn
       have HE : Hid (¬ (elsI y b = true)) := fun h => by unfold elsI at h; rw [decide_eq_false (p := ¬ y.fixed = b.name) (fun k => k hfn), Bool.and_false] at h; cases h
       clear hfx hfn
       go_upto_region 16 with fail
       clear t1 t2 t3 y10 zb0
       have y6 : wr.cell? ⟨w.heap.size + 1, 6, none⟩ = some (.string y.select) := HI0.out.2.1.cell rfl
       go_wp2_with (first | (refine wpList_load_mid rfl 61 _ rfl (w.heap.size + 1 + 1) 0 (by first | rfl | (simp [go_sem]; done)) [.string b.name, .string b.zone, .slice am b.marks.length cm, .int .i64 b.room, .int .i64 b.hold, .bool b.closed] _ HI0.out.2.2.rangeA Tryz.underlying61 rfl isz_Brt ?_) | (refine wpList_load_mid rfl 45 _ rfl (w.heap.size + 1) 0 (by first | rfl | (simp [go_sem]; done)) [.string y.name, .string y.service, .int .i64 y.rank, .int .i64 y.born, .int .i64 y.room, .int .i64 y.hold, .string y.select, .slice a7 y.likes.length c7, .int .i64 y.apart, .string y.near, .string y.fixed, .string y.at_] _ HI0.out.2.1.rangeA Tryz.underlying45 rfl isz_Cpy ?_) | (refine wpList_load_mid rfl 33 _ rfl w.heap.size 0 (by first | rfl | (simp [go_sem]; done)) [.bool x.pack, .slice a1 x.berths.length c1, .slice a2 x.services.length c2, .slice a3 x.copies.length c3] _ HI0.out.1.rangeA Tryz.underlying33 rfl isz_Flt ?_))
       refine (l3Select_any y.select b.name b.zone b.marks am cm lo b.room b.hold b.closed _ (NM.out.below StrC.holds HB0.out nL) hml hz HS.out).mono ?_
       rintro e w5 ⟨rfl, hb⟩
       have HI5 := iH (HI0.out.below hb)
       have HB5 : Hid (Below w.heap.size w w5) := HB0.out.trans (hb.mono HB0.out.size)
       clear hb
       obtain ⟨q, hq⟩ : ∃ q, selS y.select b.marks b.zone = q := ⟨_, rfl⟩
       rw [hq]
       have HA : Hid (asksI y.select b.marks b.zone = q) := (asks_eq _ _ _).trans hq
       clear hq
       cases q with
       | false =>
        go_wp2_with fail
        go_ret
        exact ⟨ret_int (fits_3 HCL.out HE.out HA.out).symm, HB5.out⟩
       | true =>
        have HA2 : Hid (¬ (asksI y.select b.marks b.zone = false)) := fun h => by rw [HA.out] at h; cases h
        clear y6
        go_wp2_with (first | (refine wpList_load_mid rfl 61 _ rfl (w.heap.size + 1 + 1) 0 (by first | rfl | (simp [go_sem]; done)) [.string b.name, .string b.zone, .slice am b.marks.length cm, .int .i64 b.room, .int .i64 b.hold, .bool b.closed] _ HI5.out.2.2.rangeA Tryz.underlying61 rfl isz_Brt ?_) | (refine wpList_load_mid rfl 45 _ rfl (w.heap.size + 1) 0 (by first | rfl | (simp [go_sem]; done)) [.string y.name, .string y.service, .int .i64 y.rank, .int .i64 y.born, .int .i64 y.room, .int .i64 y.hold, .string y.select, .slice a7 y.likes.length c7, .int .i64 y.apart, .string y.near, .string y.fixed, .string y.at_] _ HI5.out.2.1.rangeA Tryz.underlying45 rfl isz_Cpy ?_) | (refine wpList_load_mid rfl 33 _ rfl w.heap.size 0 (by first | rfl | (simp [go_sem]; done)) [.bool x.pack, .slice a1 x.berths.length c1, .slice a2 x.services.length c2, .slice a3 x.copies.length c3] _ HI5.out.1.rangeA Tryz.underlying33 rfl isz_Flt ?_))
        refine (l3Together_any lo ci x a1 c1 a2 c2 a3 c3 y a7 c7 b am cm _ (N1.out.below BrtC.holds HB5.out nL) (N3.out.below CpyC.holds HB5.out nL) HCI.out HV.out).mono ?_
        rintro e w6 ⟨rfl, hb⟩
        have HI6 := iH (HI5.out.below hb)
        have HB6 : Hid (Below w.heap.size w w6) := HB5.out.trans (hb.mono HB5.out.size)
        clear hb
        obtain ⟨q, hq⟩ : ∃ q, togI x ci y b = q := ⟨_, rfl⟩
        rw [hq]
        have HT := iH hq
        clear hq
        cases q with
        | true =>
         go_wp2_with fail
         go_ret
         exact ⟨ret_int (fits_4 HCL.out HE.out HA2.out HT.out).symm, HB6.out⟩
        | false =>
         have HT2 : Hid (¬ (togI x ci y b = true)) := fun h => by rw [HT.out] at h; cases h
         go_wp2_with (first | (refine wpList_load_mid rfl 61 _ rfl (w.heap.size + 1 + 1) 0 (by first | rfl | (simp [go_sem]; done)) [.string b.name, .string b.zone, .slice am b.marks.length cm, .int .i64 b.room, .int .i64 b.hold, .bool b.closed] _ HI6.out.2.2.rangeA Tryz.underlying61 rfl isz_Brt ?_) | (refine wpList_load_mid rfl 45 _ rfl (w.heap.size + 1) 0 (by first | rfl | (simp [go_sem]; done)) [.string y.name, .string y.service, .int .i64 y.rank, .int .i64 y.born, .int .i64 y.room, .int .i64 y.hold, .string y.select, .slice a7 y.likes.length c7, .int .i64 y.apart, .string y.near, .string y.fixed, .string y.at_] _ HI6.out.2.1.rangeA Tryz.underlying45 rfl isz_Cpy ?_) | (refine wpList_load_mid rfl 33 _ rfl w.heap.size 0 (by first | rfl | (simp [go_sem]; done)) [.bool x.pack, .slice a1 x.berths.length c1, .slice a2 x.services.length c2, .slice a3 x.copies.length c3] _ HI6.out.1.rangeA Tryz.underlying33 rfl isz_Flt ?_))
         refine (l3Far_any lo ci x a1 c1 a2 c2 a3 c3 y a7 c7 b am cm _ (N1.out.below BrtC.holds HB6.out nL) (N3.out.below CpyC.holds HB6.out nL) HCI.out HV.out).mono ?_
         rintro e w7 ⟨rfl, hb⟩
         have HI7 := iH (HI6.out.below hb)
         have HB7 : Hid (Below w.heap.size w w7) := HB6.out.trans (hb.mono HB6.out.size)
         clear hb
         obtain ⟨q, hq⟩ : ∃ q, farI x ci y b = q := ⟨_, rfl⟩
         rw [hq]
         have HR := iH hq
         clear hq
         cases q with
         | true =>
          go_wp2_with fail
          go_ret
          exact ⟨ret_int (fits_5 HCL.out HE.out HA2.out HT2.out HR.out).symm, HB7.out⟩
         | false =>
          have HR2 : Hid (¬ (farI x ci y b = true)) := fun h => by rw [HR.out] at h; cases h
          have zb3 : w7.cell? ⟨w.heap.size + 1 + 1, 3, none⟩ = some (.int .i64 b.room) := HI7.out.2.2.cell rfl
          have zb4 : w7.cell? ⟨w.heap.size + 1 + 1, 4, none⟩ = some (.int .i64 b.hold) := HI7.out.2.2.cell rfl
          by_cases hs : 10 ≤ S
          ·have H6 : Hid (10 ≤ standTo x ci b.name x.copies.length) := by show _ ≤ _; rw [← hS.out]; exact hs
           go_wp2_with fail
           go_ret
           exact ⟨ret_int (fits_6 HCL.out HE.out HA2.out HT2.out HR2.out H6.out).symm, HB7.out⟩
          have H6 : Hid (standTo x ci b.name x.copies.length < 10) := by show _ < _; rw [← hS.out]; omega
          by_cases hr : b.room < R
          ·have H7 : Hid (b.room < roomTo x ci b.name x.copies.length + y.room) := by show _ < _; have := hRR.out; omega
           go_wp2_with fail
           go_ret
           exact ⟨ret_int (fits_7 HCL.out HE.out HA2.out HT2.out HR2.out (Int.not_le.2 H6.out) H7.out).symm, HB7.out⟩
          have H7 : Hid (roomTo x ci b.name x.copies.length + y.room ≤ b.room) := by show _ ≤ _; have := hRR.out; omega
          by_cases hh : b.hold < H
          ·have H8 : Hid (b.hold < holdTo x ci b.name x.copies.length + y.hold) := by show _ < _; have := hHH.out; omega
           go_wp2_with fail
           go_ret
           exact ⟨ret_int (fits_8 HCL.out HE.out HA2.out HT2.out HR2.out (Int.not_le.2 H6.out) (Int.not_lt.2 H7.out) H8.out).symm, HB7.out⟩
          have H8 : Hid (holdTo x ci b.name x.copies.length + y.hold ≤ b.hold) := by show _ ≤ _; have := hHH.out; omega
          go_wp2_with fail
          go_ret
          exact ⟨ret_int (fits_9 HCL.out HE.out HA2.out HT2.out HR2.out (Int.not_le.2 H6.out) (Int.not_lt.2 H7.out) (Int.not_lt.2 H8.out)).symm, HB7.out⟩
      ·have t3 := bts_ne hfn
       have HE : Hid (elsI y b = true) := by show _ = _; unfold elsI; rw [decide_eq_true hfx, decide_eq_true hfn]; rfl
       clear hfx hfn
       go_wp2_with fail
       go_ret
       exact ⟨ret_int (fits_2 HCL.out HE.out).symm, HB0.out⟩
   | false =>
    cases hcl : b.closed with
    | true =>
     have HCL : Hid ((b.closed && !false) = true) := by show _ = _; rw [hcl]; rfl
     go_wp2_with fail
     go_ret
     exact ⟨ret_int (fits_1 HCL.out).symm, HB0.out⟩
    | false =>
     have HCL : Hid (¬ ((b.closed && !false) = true)) := by show ¬ _; rw [hcl]; simp
     go_upto_region 14 with fail
     clear hcl zb5
     have y10 : wr.cell? ⟨w.heap.size + 1, 10, none⟩ = some (.string y.fixed) := HI0.out.2.1.cell rfl
     have zb0 : wr.cell? ⟨w.heap.size + 1 + 1, 0, none⟩ = some (.string b.name) := HI0.out.2.2.cell rfl
     by_cases hfx : y.fixed = ⟨#[]⟩
     ·have t1 := empty_toList hfx
      have t2 := isEmpty_of' hfx
      have HE : Hid (¬ (elsI y b = true)) := fun h => by unfold elsI at h; rw [decide_eq_false (fun k => k hfx)] at h; cases h
      clear hfx
      go_upto_region 16 with fail
      clear t1 t2 y10 zb0
      have y6 : wr.cell? ⟨w.heap.size + 1, 6, none⟩ = some (.string y.select) := HI0.out.2.1.cell rfl
      go_wp2_with (first | (refine wpList_load_mid rfl 61 _ rfl (w.heap.size + 1 + 1) 0 (by first | rfl | (simp [go_sem]; done)) [.string b.name, .string b.zone, .slice am b.marks.length cm, .int .i64 b.room, .int .i64 b.hold, .bool b.closed] _ HI0.out.2.2.rangeA Tryz.underlying61 rfl isz_Brt ?_) | (refine wpList_load_mid rfl 45 _ rfl (w.heap.size + 1) 0 (by first | rfl | (simp [go_sem]; done)) [.string y.name, .string y.service, .int .i64 y.rank, .int .i64 y.born, .int .i64 y.room, .int .i64 y.hold, .string y.select, .slice a7 y.likes.length c7, .int .i64 y.apart, .string y.near, .string y.fixed, .string y.at_] _ HI0.out.2.1.rangeA Tryz.underlying45 rfl isz_Cpy ?_) | (refine wpList_load_mid rfl 33 _ rfl w.heap.size 0 (by first | rfl | (simp [go_sem]; done)) [.bool x.pack, .slice a1 x.berths.length c1, .slice a2 x.services.length c2, .slice a3 x.copies.length c3] _ HI0.out.1.rangeA Tryz.underlying33 rfl isz_Flt ?_))
      refine (l3Select_any y.select b.name b.zone b.marks am cm lo b.room b.hold b.closed _ (NM.out.below StrC.holds HB0.out nL) hml hz HS.out).mono ?_
      rintro e w5 ⟨rfl, hb⟩
      have HI5 := iH (HI0.out.below hb)
      have HB5 : Hid (Below w.heap.size w w5) := HB0.out.trans (hb.mono HB0.out.size)
      clear hb
      obtain ⟨q, hq⟩ : ∃ q, selS y.select b.marks b.zone = q := ⟨_, rfl⟩
      rw [hq]
      have HA : Hid (asksI y.select b.marks b.zone = q) := (asks_eq _ _ _).trans hq
      clear hq
      cases q with
      | false =>
       go_wp2_with fail
       go_ret
       exact ⟨ret_int (fits_3 HCL.out HE.out HA.out).symm, HB5.out⟩
      | true =>
       have HA2 : Hid (¬ (asksI y.select b.marks b.zone = false)) := fun h => by rw [HA.out] at h; cases h
       clear y6
       go_wp2_with (first | (refine wpList_load_mid rfl 61 _ rfl (w.heap.size + 1 + 1) 0 (by first | rfl | (simp [go_sem]; done)) [.string b.name, .string b.zone, .slice am b.marks.length cm, .int .i64 b.room, .int .i64 b.hold, .bool b.closed] _ HI5.out.2.2.rangeA Tryz.underlying61 rfl isz_Brt ?_) | (refine wpList_load_mid rfl 45 _ rfl (w.heap.size + 1) 0 (by first | rfl | (simp [go_sem]; done)) [.string y.name, .string y.service, .int .i64 y.rank, .int .i64 y.born, .int .i64 y.room, .int .i64 y.hold, .string y.select, .slice a7 y.likes.length c7, .int .i64 y.apart, .string y.near, .string y.fixed, .string y.at_] _ HI5.out.2.1.rangeA Tryz.underlying45 rfl isz_Cpy ?_) | (refine wpList_load_mid rfl 33 _ rfl w.heap.size 0 (by first | rfl | (simp [go_sem]; done)) [.bool x.pack, .slice a1 x.berths.length c1, .slice a2 x.services.length c2, .slice a3 x.copies.length c3] _ HI5.out.1.rangeA Tryz.underlying33 rfl isz_Flt ?_))
       refine (l3Together_any lo ci x a1 c1 a2 c2 a3 c3 y a7 c7 b am cm _ (N1.out.below BrtC.holds HB5.out nL) (N3.out.below CpyC.holds HB5.out nL) HCI.out HV.out).mono ?_
       rintro e w6 ⟨rfl, hb⟩
       have HI6 := iH (HI5.out.below hb)
       have HB6 : Hid (Below w.heap.size w w6) := HB5.out.trans (hb.mono HB5.out.size)
       clear hb
       obtain ⟨q, hq⟩ : ∃ q, togI x ci y b = q := ⟨_, rfl⟩
       rw [hq]
       have HT := iH hq
       clear hq
       cases q with
       | true =>
        go_wp2_with fail
        go_ret
        exact ⟨ret_int (fits_4 HCL.out HE.out HA2.out HT.out).symm, HB6.out⟩
       | false =>
        have HT2 : Hid (¬ (togI x ci y b = true)) := fun h => by rw [HT.out] at h; cases h
        go_wp2_with (first | (refine wpList_load_mid rfl 61 _ rfl (w.heap.size + 1 + 1) 0 (by first | rfl | (simp [go_sem]; done)) [.string b.name, .string b.zone, .slice am b.marks.length cm, .int .i64 b.room, .int .i64 b.hold, .bool b.closed] _ HI6.out.2.2.rangeA Tryz.underlying61 rfl isz_Brt ?_) | (refine wpList_load_mid rfl 45 _ rfl (w.heap.size + 1) 0 (by first | rfl | (simp [go_sem]; done)) [.string y.name, .string y.service, .int .i64 y.rank, .int .i64 y.born, .int .i64 y.room, .int .i64 y.hold, .string y.select, .slice a7 y.likes.length c7, .int .i64 y.apart, .string y.near, .string y.fixed, .string y.at_] _ HI6.out.2.1.rangeA Tryz.underlying45 rfl isz_Cpy ?_) | (refine wpList_load_mid rfl 33 _ rfl w.heap.size 0 (by first | rfl | (simp [go_sem]; done)) [.bool x.pack, .slice a1 x.berths.length c1, .slice a2 x.services.length c2, .slice a3 x.copies.length c3] _ HI6.out.1.rangeA Tryz.underlying33 rfl isz_Flt ?_))
        refine (l3Far_any lo ci x a1 c1 a2 c2 a3 c3 y a7 c7 b am cm _ (N1.out.below BrtC.holds HB6.out nL) (N3.out.below CpyC.holds HB6.out nL) HCI.out HV.out).mono ?_
        rintro e w7 ⟨rfl, hb⟩
        have HI7 := iH (HI6.out.below hb)
        have HB7 : Hid (Below w.heap.size w w7) := HB6.out.trans (hb.mono HB6.out.size)
        clear hb
        obtain ⟨q, hq⟩ : ∃ q, farI x ci y b = q := ⟨_, rfl⟩
        rw [hq]
        have HR := iH hq
        clear hq
        cases q with
        | true =>
         go_wp2_with fail
         go_ret
         exact ⟨ret_int (fits_5 HCL.out HE.out HA2.out HT2.out HR.out).symm, HB7.out⟩
        | false =>
         have HR2 : Hid (¬ (farI x ci y b = true)) := fun h => by rw [HR.out] at h; cases h
         have zb3 : w7.cell? ⟨w.heap.size + 1 + 1, 3, none⟩ = some (.int .i64 b.room) := HI7.out.2.2.cell rfl
         have zb4 : w7.cell? ⟨w.heap.size + 1 + 1, 4, none⟩ = some (.int .i64 b.hold) := HI7.out.2.2.cell rfl
         by_cases hs : 10 ≤ S
         ·have H6 : Hid (10 ≤ standTo x ci b.name x.copies.length) := by show _ ≤ _; rw [← hS.out]; exact hs
          go_wp2_with fail
          go_ret
          exact ⟨ret_int (fits_6 HCL.out HE.out HA2.out HT2.out HR2.out H6.out).symm, HB7.out⟩
         have H6 : Hid (standTo x ci b.name x.copies.length < 10) := by show _ < _; rw [← hS.out]; omega
         by_cases hr : b.room < R
         ·have H7 : Hid (b.room < roomTo x ci b.name x.copies.length + y.room) := by show _ < _; have := hRR.out; omega
          go_wp2_with fail
          go_ret
          exact ⟨ret_int (fits_7 HCL.out HE.out HA2.out HT2.out HR2.out (Int.not_le.2 H6.out) H7.out).symm, HB7.out⟩
         have H7 : Hid (roomTo x ci b.name x.copies.length + y.room ≤ b.room) := by show _ ≤ _; have := hRR.out; omega
         by_cases hh : b.hold < H
         ·have H8 : Hid (b.hold < holdTo x ci b.name x.copies.length + y.hold) := by show _ < _; have := hHH.out; omega
          go_wp2_with fail
          go_ret
          exact ⟨ret_int (fits_8 HCL.out HE.out HA2.out HT2.out HR2.out (Int.not_le.2 H6.out) (Int.not_lt.2 H7.out) H8.out).symm, HB7.out⟩
         have H8 : Hid (holdTo x ci b.name x.copies.length + y.hold ≤ b.hold) := by show _ ≤ _; have := hHH.out; omega
         go_wp2_with fail
         go_ret
         exact ⟨ret_int (fits_9 HCL.out HE.out HA2.out HT2.out HR2.out (Int.not_le.2 H6.out) (Int.not_lt.2 H7.out) (Int.not_lt.2 H8.out)).symm, HB7.out⟩
     ·have t1 := nonempty_toList hfx
      have t2 := isEmpty_not' hfx
      by_cases hfn : y.fixed = b.name
      ·have t3 := bts_eq hfn
       have HE : Hid (¬ (elsI y b = true)) := fun h => by unfold elsI at h; rw [decide_eq_false (p := ¬ y.fixed = b.name) (fun k => k hfn), Bool.and_false] at h; cases h
       clear hfx hfn
       go_upto_region 16 with fail
       clear t1 t2 t3 y10 zb0
       have y6 : wr.cell? ⟨w.heap.size + 1, 6, none⟩ = some (.string y.select) := HI0.out.2.1.cell rfl
       go_wp2_with (first | (refine wpList_load_mid rfl 61 _ rfl (w.heap.size + 1 + 1) 0 (by first | rfl | (simp [go_sem]; done)) [.string b.name, .string b.zone, .slice am b.marks.length cm, .int .i64 b.room, .int .i64 b.hold, .bool b.closed] _ HI0.out.2.2.rangeA Tryz.underlying61 rfl isz_Brt ?_) | (refine wpList_load_mid rfl 45 _ rfl (w.heap.size + 1) 0 (by first | rfl | (simp [go_sem]; done)) [.string y.name, .string y.service, .int .i64 y.rank, .int .i64 y.born, .int .i64 y.room, .int .i64 y.hold, .string y.select, .slice a7 y.likes.length c7, .int .i64 y.apart, .string y.near, .string y.fixed, .string y.at_] _ HI0.out.2.1.rangeA Tryz.underlying45 rfl isz_Cpy ?_) | (refine wpList_load_mid rfl 33 _ rfl w.heap.size 0 (by first | rfl | (simp [go_sem]; done)) [.bool x.pack, .slice a1 x.berths.length c1, .slice a2 x.services.length c2, .slice a3 x.copies.length c3] _ HI0.out.1.rangeA Tryz.underlying33 rfl isz_Flt ?_))
       refine (l3Select_any y.select b.name b.zone b.marks am cm lo b.room b.hold b.closed _ (NM.out.below StrC.holds HB0.out nL) hml hz HS.out).mono ?_
       rintro e w5 ⟨rfl, hb⟩
       have HI5 := iH (HI0.out.below hb)
       have HB5 : Hid (Below w.heap.size w w5) := HB0.out.trans (hb.mono HB0.out.size)
       clear hb
       obtain ⟨q, hq⟩ : ∃ q, selS y.select b.marks b.zone = q := ⟨_, rfl⟩
       rw [hq]
       have HA : Hid (asksI y.select b.marks b.zone = q) := (asks_eq _ _ _).trans hq
       clear hq
       cases q with
       | false =>
        go_wp2_with fail
        go_ret
        exact ⟨ret_int (fits_3 HCL.out HE.out HA.out).symm, HB5.out⟩
       | true =>
        have HA2 : Hid (¬ (asksI y.select b.marks b.zone = false)) := fun h => by rw [HA.out] at h; cases h
        clear y6
        go_wp2_with (first | (refine wpList_load_mid rfl 61 _ rfl (w.heap.size + 1 + 1) 0 (by first | rfl | (simp [go_sem]; done)) [.string b.name, .string b.zone, .slice am b.marks.length cm, .int .i64 b.room, .int .i64 b.hold, .bool b.closed] _ HI5.out.2.2.rangeA Tryz.underlying61 rfl isz_Brt ?_) | (refine wpList_load_mid rfl 45 _ rfl (w.heap.size + 1) 0 (by first | rfl | (simp [go_sem]; done)) [.string y.name, .string y.service, .int .i64 y.rank, .int .i64 y.born, .int .i64 y.room, .int .i64 y.hold, .string y.select, .slice a7 y.likes.length c7, .int .i64 y.apart, .string y.near, .string y.fixed, .string y.at_] _ HI5.out.2.1.rangeA Tryz.underlying45 rfl isz_Cpy ?_) | (refine wpList_load_mid rfl 33 _ rfl w.heap.size 0 (by first | rfl | (simp [go_sem]; done)) [.bool x.pack, .slice a1 x.berths.length c1, .slice a2 x.services.length c2, .slice a3 x.copies.length c3] _ HI5.out.1.rangeA Tryz.underlying33 rfl isz_Flt ?_))
        refine (l3Together_any lo ci x a1 c1 a2 c2 a3 c3 y a7 c7 b am cm _ (N1.out.below BrtC.holds HB5.out nL) (N3.out.below CpyC.holds HB5.out nL) HCI.out HV.out).mono ?_
        rintro e w6 ⟨rfl, hb⟩
        have HI6 := iH (HI5.out.below hb)
        have HB6 : Hid (Below w.heap.size w w6) := HB5.out.trans (hb.mono HB5.out.size)
        clear hb
        obtain ⟨q, hq⟩ : ∃ q, togI x ci y b = q := ⟨_, rfl⟩
        rw [hq]
        have HT := iH hq
        clear hq
        cases q with
        | true =>
         go_wp2_with fail
         go_ret
         exact ⟨ret_int (fits_4 HCL.out HE.out HA2.out HT.out).symm, HB6.out⟩
        | false =>
         have HT2 : Hid (¬ (togI x ci y b = true)) := fun h => by rw [HT.out] at h; cases h
         go_wp2_with (first | (refine wpList_load_mid rfl 61 _ rfl (w.heap.size + 1 + 1) 0 (by first | rfl | (simp [go_sem]; done)) [.string b.name, .string b.zone, .slice am b.marks.length cm, .int .i64 b.room, .int .i64 b.hold, .bool b.closed] _ HI6.out.2.2.rangeA Tryz.underlying61 rfl isz_Brt ?_) | (refine wpList_load_mid rfl 45 _ rfl (w.heap.size + 1) 0 (by first | rfl | (simp [go_sem]; done)) [.string y.name, .string y.service, .int .i64 y.rank, .int .i64 y.born, .int .i64 y.room, .int .i64 y.hold, .string y.select, .slice a7 y.likes.length c7, .int .i64 y.apart, .string y.near, .string y.fixed, .string y.at_] _ HI6.out.2.1.rangeA Tryz.underlying45 rfl isz_Cpy ?_) | (refine wpList_load_mid rfl 33 _ rfl w.heap.size 0 (by first | rfl | (simp [go_sem]; done)) [.bool x.pack, .slice a1 x.berths.length c1, .slice a2 x.services.length c2, .slice a3 x.copies.length c3] _ HI6.out.1.rangeA Tryz.underlying33 rfl isz_Flt ?_))
         refine (l3Far_any lo ci x a1 c1 a2 c2 a3 c3 y a7 c7 b am cm _ (N1.out.below BrtC.holds HB6.out nL) (N3.out.below CpyC.holds HB6.out nL) HCI.out HV.out).mono ?_
         rintro e w7 ⟨rfl, hb⟩
         have HI7 := iH (HI6.out.below hb)
         have HB7 : Hid (Below w.heap.size w w7) := HB6.out.trans (hb.mono HB6.out.size)
         clear hb
         obtain ⟨q, hq⟩ : ∃ q, farI x ci y b = q := ⟨_, rfl⟩
         rw [hq]
         have HR := iH hq
         clear hq
         cases q with
         | true =>
          go_wp2_with fail
          go_ret
          exact ⟨ret_int (fits_5 HCL.out HE.out HA2.out HT2.out HR.out).symm, HB7.out⟩
         | false =>
          have HR2 : Hid (¬ (farI x ci y b = true)) := fun h => by rw [HR.out] at h; cases h
          have zb3 : w7.cell? ⟨w.heap.size + 1 + 1, 3, none⟩ = some (.int .i64 b.room) := HI7.out.2.2.cell rfl
          have zb4 : w7.cell? ⟨w.heap.size + 1 + 1, 4, none⟩ = some (.int .i64 b.hold) := HI7.out.2.2.cell rfl
          by_cases hs : 10 ≤ S
          ·have H6 : Hid (10 ≤ standTo x ci b.name x.copies.length) := by show _ ≤ _; rw [← hS.out]; exact hs
           go_wp2_with fail
           go_ret
           exact ⟨ret_int (fits_6 HCL.out HE.out HA2.out HT2.out HR2.out H6.out).symm, HB7.out⟩
          have H6 : Hid (standTo x ci b.name x.copies.length < 10) := by show _ < _; rw [← hS.out]; omega
          by_cases hr : b.room < R
          ·have H7 : Hid (b.room < roomTo x ci b.name x.copies.length + y.room) := by show _ < _; have := hRR.out; omega
           go_wp2_with fail
           go_ret
           exact ⟨ret_int (fits_7 HCL.out HE.out HA2.out HT2.out HR2.out (Int.not_le.2 H6.out) H7.out).symm, HB7.out⟩
          have H7 : Hid (roomTo x ci b.name x.copies.length + y.room ≤ b.room) := by show _ ≤ _; have := hRR.out; omega
          by_cases hh : b.hold < H
          ·have H8 : Hid (b.hold < holdTo x ci b.name x.copies.length + y.hold) := by show _ < _; have := hHH.out; omega
           go_wp2_with fail
           go_ret
           exact ⟨ret_int (fits_8 HCL.out HE.out HA2.out HT2.out HR2.out (Int.not_le.2 H6.out) (Int.not_lt.2 H7.out) H8.out).symm, HB7.out⟩
          have H8 : Hid (holdTo x ci b.name x.copies.length + y.hold ≤ b.hold) := by show _ ≤ _; have := hHH.out; omega
          go_wp2_with fail
          go_ret
          exact ⟨ret_int (fits_9 HCL.out HE.out HA2.out HT2.out HR2.out (Int.not_le.2 H6.out) (Int.not_lt.2 H7.out) (Int.not_lt.2 H8.out)).symm, HB7.out⟩
      ·have t3 := bts_ne hfn
       have HE : Hid (elsI y b = true) := by show _ = _; unfold elsI; rw [decide_eq_true hfx, decide_eq_true hfn]; rfl
       clear hfx hfn
       go_wp2_with fail
       go_ret
       exact ⟨ret_int (fits_2 HCL.out HE.out).symm, HB0.out⟩
end Go.Proofs.YtebfdgfhadpieaaGreat
