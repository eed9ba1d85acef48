import Derived.Test.YtnifmiacobfplaaDr2
namespace Go.Proofs.Ytnifmiacobfplaa
open Go.RowKit

set_option maxHeartbeats 4000000 in
set_option maxRecDepth 100000 in
theorem draw11_any (p k0 : Nat) (s : ByteArray) (clock : Int) (w : World) (hR : RdS p k0 w) (hK0 : k0 ≤ 800000) (hs0 : s.size ≤ 100) (hc0 : 0 ≤ clock) (hc1 : clock ≤ 1000) :
  Calls Try.prog 70 #[.pointer (some ⟨p, 0, none⟩), .string s, .int .i64 clock] w fun e w' => ∃ (x : Rn) (k : Nat), e = .returned (.agg #[.string x.want.copy, .int .i64 x.want.version, .string x.want.hold, .int .i64 x.want.pull, .int .i64 x.want.start, .int .i64 x.want.dies, .int .i64 x.want.grace, .int .i64 x.state, .int .i64 x.left, .int .i64 x.falls, .int .i64 x.until_]) ∧ x.want.copy.size ≤ 100 ∧ x.want.hold.size ≤ 100 ∧ k ≤ k0 + 10 ∧ RdS p k w' ∧ Bt p w.heap.size w w' := by
 have HZ0 : Hid (Blk w.heap.size #[.string ⟨#[]⟩, .int .i64 0, .string ⟨#[]⟩, .int .i64 0, .int .i64 0, .int .i64 0, .int .i64 0, .int .i64 0, .int .i64 0, .int .i64 0, .int .i64 0] 38 (w.alloc (.cells #[.string ⟨#[]⟩, .int .i64 0, .string ⟨#[]⟩, .int .i64 0, .int .i64 0, .int .i64 0, .int .i64 0, .int .i64 0, .int .i64 0, .int .i64 0, .int .i64 0] 38))) := Blk.alloc _ _ _
 have hba : Below w.heap.size w (w.alloc (.cells #[.string ⟨#[]⟩, .int .i64 0, .string ⟨#[]⟩, .int .i64 0, .int .i64 0, .int .i64 0, .int .i64 0, .int .i64 0, .int .i64 0, .int .i64 0, .int .i64 0] 38)) := (Below.refl _ _).alloc (Nat.le_refl _) _
 have HR0 : Hid (RdS p k0 (w.alloc (.cells #[.string ⟨#[]⟩, .int .i64 0, .string ⟨#[]⟩, .int .i64 0, .int .i64 0, .int .i64 0, .int .i64 0, .int .i64 0, .int .i64 0, .int .i64 0, .int .i64 0] 38))) := hR.below hba hR.lt
 have hpl := hR.lt
 have HB0 : Hid (Bt p w.heap.size w (w.alloc (.cells #[.string ⟨#[]⟩, .int .i64 0, .string ⟨#[]⟩, .int .i64 0, .int .i64 0, .int .i64 0, .int .i64 0, .int .i64 0, .int .i64 0, .int .i64 0, .int .i64 0] 38))) := Bt.of_below hba
 clear hR hba
 go_enter Try.func70, Try.ntmps70
 go_wp2_with fail
 generalize w.alloc (Obj.cells #[.string ⟨#[]⟩, .int .i64 0, .string ⟨#[]⟩, .int .i64 0, .int .i64 0, .int .i64 0, .int .i64 0, .int .i64 0, .int .i64 0, .int .i64 0, .int .i64 0] 38) = w0 at *
 refine (drawWant_any p k0 s _ HR0.out (by omega)).mono ?_
 rintro e w1 ⟨y, rfl, hy1, hy2, hy3, hr, hb⟩
 have HR1 : Hid (RdS p (k0 + 6) w1) := hr
 have HB1 : Hid (Bt p w.heap.size w w1) := HB0.out.trans (hb.mono HB0.out.size)
 have HZ1 : Hid (Blk w.heap.size #[.string ⟨#[]⟩, .int .i64 0, .string ⟨#[]⟩, .int .i64 0, .int .i64 0, .int .i64 0, .int .i64 0, .int .i64 0, .int .i64 0, .int .i64 0, .int .i64 0] 38 w1) := HZ0.out.bt hb HZ0.out.lt (by omega)
 clear HR0 HB0 HZ0 hr hb
 have hyc : y.copy.size ≤ 100 := by rw [hy1]; exact hs0
 have hyh : y.hold.size ≤ 100 := by omega
 clear hy1 hy2 hy3 hs0
 go_wp2_with fail
 refine (pick_rd p (k0 + 6) 6 _ HR1.out (by omega) (by omega) (by omega)).mono ?_
 rintro e w2 ⟨v1, rfl, hv1, hr, hb, -⟩
 have HR2 : Hid (RdS p (k0 + 7) w2) := hr
 have HB2 : Hid (Bt p w.heap.size w w2) := HB1.out.trans (hb.mono HB1.out.size)
 have HZ2 : Hid (Blk w.heap.size #[.string ⟨#[]⟩, .int .i64 0, .string ⟨#[]⟩, .int .i64 0, .int .i64 0, .int .i64 0, .int .i64 0, .int .i64 0, .int .i64 0, .int .i64 0, .int .i64 0] 38 w2) := HZ1.out.bt hb HZ1.out.lt (by omega)
 clear HR1 HB1 HZ1 hr hb
 go_wp2_with fail
 refine (pick_rd p (k0 + 7) 5 _ HR2.out (by omega) (by omega) (by omega)).mono ?_
 rintro e w3 ⟨v2, rfl, hv2, hr, hb, -⟩
 have HR3 : Hid (RdS p (k0 + 8) w3) := hr
 have HB3 : Hid (Bt p w.heap.size w w3) := HB2.out.trans (hb.mono HB2.out.size)
 have HZ3 : Hid (Blk w.heap.size #[.string ⟨#[]⟩, .int .i64 0, .string ⟨#[]⟩, .int .i64 0, .int .i64 0, .int .i64 0, .int .i64 0, .int .i64 0, .int .i64 0, .int .i64 0, .int .i64 0] 38 w3) := HZ2.out.bt hb HZ2.out.lt (by omega)
 clear HR2 HB2 HZ2 hr hb
 go_wp2_with fail
 refine (pick_rd p (k0 + 8) 6 _ HR3.out (by omega) (by omega) (by omega)).mono ?_
 rintro e w4 ⟨v3, rfl, hv3, hr, hb, -⟩
 have HR4 : Hid (RdS p (k0 + 9) w4) := hr
 have HB4 : Hid (Bt p w.heap.size w w4) := HB3.out.trans (hb.mono HB3.out.size)
 have HZ4 : Hid (Blk w.heap.size #[.string ⟨#[]⟩, .int .i64 0, .string ⟨#[]⟩, .int .i64 0, .int .i64 0, .int .i64 0, .int .i64 0, .int .i64 0, .int .i64 0, .int .i64 0, .int .i64 0] 38 w4) := HZ3.out.bt hb HZ3.out.lt (by omega)
 clear HR3 HB3 HZ3 hr hb
 have HX5 : Hid (Blk w4.heap.size #[.string y.copy, .int .i64 y.version, .string y.hold, .int .i64 y.pull, .int .i64 y.start, .int .i64 y.dies, .int .i64 y.grace, .int .i64 (1 + (v1 : Int)), .int .i64 (v2 : Int), .int .i64 (v3 : Int), .int .i64 0] 38 (w4.alloc (.cells #[.string y.copy, .int .i64 y.version, .string y.hold, .int .i64 y.pull, .int .i64 y.start, .int .i64 y.dies, .int .i64 y.grace, .int .i64 (1 + (v1 : Int)), .int .i64 (v2 : Int), .int .i64 (v3 : Int), .int .i64 0] 38))) := Blk.alloc _ _ _
 have hb5 : Below w4.heap.size w4 (w4.alloc (.cells #[.string y.copy, .int .i64 y.version, .string y.hold, .int .i64 y.pull, .int .i64 y.start, .int .i64 y.dies, .int .i64 y.grace, .int .i64 (1 + (v1 : Int)), .int .i64 (v2 : Int), .int .i64 (v3 : Int), .int .i64 0] 38)) := (Below.refl _ _).alloc (Nat.le_refl _) _
 have hg : w.heap.size < w4.heap.size := HZ4.out.lt
 have hpg := HR4.out.lt
 have HR5 : Hid (RdS p (k0 + 9) (w4.alloc (.cells #[.string y.copy, .int .i64 y.version, .string y.hold, .int .i64 y.pull, .int .i64 y.start, .int .i64 y.dies, .int .i64 y.grace, .int .i64 (1 + (v1 : Int)), .int .i64 (v2 : Int), .int .i64 (v3 : Int), .int .i64 0] 38))) := HR4.out.below hb5 hpg
 have HB5 : Hid (Bt p w.heap.size w (w4.alloc (.cells #[.string y.copy, .int .i64 y.version, .string y.hold, .int .i64 y.pull, .int .i64 y.start, .int .i64 y.dies, .int .i64 y.grace, .int .i64 (1 + (v1 : Int)), .int .i64 (v2 : Int), .int .i64 (v3 : Int), .int .i64 0] 38))) := HB4.out.trans (Bt.of_below (hb5.mono HB4.out.size))
 have HZ5 : Hid (Blk w.heap.size #[.string ⟨#[]⟩, .int .i64 0, .string ⟨#[]⟩, .int .i64 0, .int .i64 0, .int .i64 0, .int .i64 0, .int .i64 0, .int .i64 0, .int .i64 0, .int .i64 0] 38 (w4.alloc (.cells #[.string y.copy, .int .i64 y.version, .string y.hold, .int .i64 y.pull, .int .i64 y.start, .int .i64 y.dies, .int .i64 y.grace, .int .i64 (1 + (v1 : Int)), .int .i64 (v2 : Int), .int .i64 (v3 : Int), .int .i64 0] 38))) := HZ4.out.below hb5 hg
 clear HR4 HB4 HZ4 hb5
 go_upto_region 2 with fail
 generalize w4.alloc (Obj.cells #[.string y.copy, .int .i64 y.version, .string y.hold, .int .i64 y.pull, .int .i64 y.start, .int .i64 y.dies, .int .i64 y.grace, .int .i64 (1 + (v1 : Int)), .int .i64 (v2 : Int), .int .i64 (v3 : Int), .int .i64 0] 38) = w5 at *
 have k2 : w5.cell? ⟨w4.heap.size, 2, none⟩ = some (.string y.hold) := HX5.out.cell rfl
 have k7 : w5.cell? ⟨w4.heap.size, 7, none⟩ = some (.int .i64 (1 + (v1 : Int))) := HX5.out.cell rfl
 have k8 : w5.cell? ⟨w4.heap.size, 8, none⟩ = some (.int .i64 (v2 : Int)) := HX5.out.cell rfl
 have f8 : w5.frozen? ⟨w4.heap.size, 8, none⟩ = false := HX5.out.frozen _
 generalize w4.heap.size = g at *
 cases hq : y.hold.toList.isEmpty
 case true =>
  cases h2 : ((1 + (v1 : Int)) == 2)
  case false =>
   have hbe : Below g w5 w5 := Below.refl _ _
   have HXE : Hid (Blk g #[.string y.copy, .int .i64 y.version, .string y.hold, .int .i64 y.pull, .int .i64 y.start, .int .i64 y.dies, .int .i64 y.grace, .int .i64 (1 + (v1 : Int)), .int .i64 (v2 : Int), .int .i64 (v3 : Int), .int .i64 0] 38 w5) := HX5.out
   have HZE : Hid (Blk w.heap.size #[.string ⟨#[]⟩, .int .i64 0, .string ⟨#[]⟩, .int .i64 0, .int .i64 0, .int .i64 0, .int .i64 0, .int .i64 0, .int .i64 0, .int .i64 0, .int .i64 0] 38 w5) := HZ5.out
   have HTE := Hid.intro HZE.out.there
   obtain ⟨w9, HW9⟩ : ∃ w9, Hid (w9 = w5.setCells w.heap.size 0 [.string y.copy, .int .i64 y.version, .string y.hold, .int .i64 y.pull, .int .i64 y.start, .int .i64 y.dies, .int .i64 y.grace, .int .i64 (1 + (v1 : Int)), .int .i64 (v2 : Int), .int .i64 (v3 : Int), .int .i64 0]) := ⟨_, rfl⟩
   have HR9 : Hid (w9.rangeAt w.heap.size 0 [.string y.copy, .int .i64 y.version, .string y.hold, .int .i64 y.pull, .int .i64 y.start, .int .i64 y.dies, .int .i64 y.grace, .int .i64 (1 + (v1 : Int)), .int .i64 (v2 : Int), .int .i64 (v3 : Int), .int .i64 0]) := by
    show World.rangeAt _ _ _ _
    rw [HW9.out]
    exact World.rangeAt_setCells_same _ _ _ _ HTE.out
   have hb9 : Below w.heap.size w5 w9 := by
    rw [HW9.out]
    exact below_setCells (Nat.le_refl _) _ _ _ (hbe.mono (Nat.le_of_lt hg))
   have HRd : Hid (RdS p (k0 + 9) w9) := HR5.out.below hb9 hpl
   have HBt : Hid (Bt p w.heap.size w w9) := HB5.out.trans (Bt.of_below hb9)
   clear hb9 hbe HR5 HB5 HZ5
   go_wp2_with (first | (refine wpList_load_mid rfl 38 _ rfl g 0 rfl [.string y.copy, .int .i64 y.version, .string y.hold, .int .i64 y.pull, .int .i64 y.start, .int .i64 y.dies, .int .i64 y.grace, .int .i64 (1 + (v1 : Int)), .int .i64 (v2 : Int), .int .i64 (v3 : Int), .int .i64 0] _ HXE.out.rangeA Try.underlying38 rfl isz_Rn ?_) | (refine wpList_store_to rfl 38 _ _ rfl w.heap.size 0 #[.string y.copy, .int .i64 y.version, .string y.hold, .int .i64 y.pull, .int .i64 y.start, .int .i64 y.dies, .int .i64 y.grace, .int .i64 (1 + (v1 : Int)), .int .i64 (v2 : Int), .int .i64 (v3 : Int), .int .i64 0] rfl rfl HTE.out isz_Rn (by simp [Value.oneCell']) w9 HW9.out ?_))
   exact bodyPost_ret (results_cell_mid rfl _ _ w.heap.size [.string y.copy, .int .i64 y.version, .string y.hold, .int .i64 y.pull, .int .i64 y.start, .int .i64 y.dies, .int .i64 y.grace, .int .i64 (1 + (v1 : Int)), .int .i64 (v2 : Int), .int .i64 (v3 : Int), .int .i64 0] _ rfl HR9.out Try.underlying38 rfl isz_Rn) rfl ⟨⟨y, (1 + (v1 : Int)), (v2 : Int), v3, 0⟩, k0 + 9, rfl, hyc, hyh, by omega, HRd.out, HBt.out⟩
  case true =>
   have hbe : Below g w5 (w5.setCell ⟨g, 8, none⟩ (.int .i64 0)) := ((Below.refl _ _).setCell (p := ⟨g, 8, none⟩) (Nat.le_refl g) _)
   have HXE : Hid (Blk g #[.string y.copy, .int .i64 y.version, .string y.hold, .int .i64 y.pull, .int .i64 y.start, .int .i64 y.dies, .int .i64 y.grace, .int .i64 (1 + (v1 : Int)), .int .i64 0, .int .i64 (v3 : Int), .int .i64 0] 38 (w5.setCell ⟨g, 8, none⟩ (.int .i64 0))) := (HX5.out.set 8 (.int .i64 0))
   have HZE : Hid (Blk w.heap.size #[.string ⟨#[]⟩, .int .i64 0, .string ⟨#[]⟩, .int .i64 0, .int .i64 0, .int .i64 0, .int .i64 0, .int .i64 0, .int .i64 0, .int .i64 0, .int .i64 0] 38 (w5.setCell ⟨g, 8, none⟩ (.int .i64 0))) := (HZ5.out.other (a := ⟨g, 8, none⟩) (show w.heap.size ≠ g by omega) _)
   have HTE := Hid.intro HZE.out.there
   obtain ⟨w9, HW9⟩ : ∃ w9, Hid (w9 = (w5.setCell ⟨g, 8, none⟩ (.int .i64 0)).setCells w.heap.size 0 [.string y.copy, .int .i64 y.version, .string y.hold, .int .i64 y.pull, .int .i64 y.start, .int .i64 y.dies, .int .i64 y.grace, .int .i64 (1 + (v1 : Int)), .int .i64 0, .int .i64 (v3 : Int), .int .i64 0]) := ⟨_, rfl⟩
   have HR9 : Hid (w9.rangeAt w.heap.size 0 [.string y.copy, .int .i64 y.version, .string y.hold, .int .i64 y.pull, .int .i64 y.start, .int .i64 y.dies, .int .i64 y.grace, .int .i64 (1 + (v1 : Int)), .int .i64 0, .int .i64 (v3 : Int), .int .i64 0]) := by
    show World.rangeAt _ _ _ _
    rw [HW9.out]
    exact World.rangeAt_setCells_same _ _ _ _ HTE.out
   have hb9 : Below w.heap.size w5 w9 := by
    rw [HW9.out]
    exact below_setCells (Nat.le_refl _) _ _ _ (hbe.mono (Nat.le_of_lt hg))
   have HRd : Hid (RdS p (k0 + 9) w9) := HR5.out.below hb9 hpl
   have HBt : Hid (Bt p w.heap.size w w9) := HB5.out.trans (Bt.of_below hb9)
   clear hb9 hbe HR5 HB5 HZ5
   go_wp2_with (first | (refine wpList_load_mid rfl 38 _ rfl g 0 rfl [.string y.copy, .int .i64 y.version, .string y.hold, .int .i64 y.pull, .int .i64 y.start, .int .i64 y.dies, .int .i64 y.grace, .int .i64 (1 + (v1 : Int)), .int .i64 0, .int .i64 (v3 : Int), .int .i64 0] _ HXE.out.rangeA Try.underlying38 rfl isz_Rn ?_) | (refine wpList_store_to rfl 38 _ _ rfl w.heap.size 0 #[.string y.copy, .int .i64 y.version, .string y.hold, .int .i64 y.pull, .int .i64 y.start, .int .i64 y.dies, .int .i64 y.grace, .int .i64 (1 + (v1 : Int)), .int .i64 0, .int .i64 (v3 : Int), .int .i64 0] rfl rfl HTE.out isz_Rn (by simp [Value.oneCell']) w9 HW9.out ?_))
   exact bodyPost_ret (results_cell_mid rfl _ _ w.heap.size [.string y.copy, .int .i64 y.version, .string y.hold, .int .i64 y.pull, .int .i64 y.start, .int .i64 y.dies, .int .i64 y.grace, .int .i64 (1 + (v1 : Int)), .int .i64 0, .int .i64 (v3 : Int), .int .i64 0] _ rfl HR9.out Try.underlying38 rfl isz_Rn) rfl ⟨⟨y, (1 + (v1 : Int)), 0, v3, 0⟩, k0 + 9, rfl, hyc, hyh, by omega, HRd.out, HBt.out⟩
 case false =>
  go_wp2_with fail
  refine (pick_rd p (k0 + 9) 14 _ HR5.out (by omega) (by omega) (by omega)).mono ?_
  rintro e w6 ⟨v4, rfl, hv4, hr, hb, hs⟩
  have HR6 : Hid (RdS p (k0 + 10) w6) := hr
  have HB6 : Hid (Bt p w.heap.size w w6) := HB5.out.trans (hb.mono HB5.out.size)
  have HZ6 : Hid (Blk w.heap.size #[.string ⟨#[]⟩, .int .i64 0, .string ⟨#[]⟩, .int .i64 0, .int .i64 0, .int .i64 0, .int .i64 0, .int .i64 0, .int .i64 0, .int .i64 0, .int .i64 0] 38 w6) := HZ5.out.bt hb HZ5.out.lt (by omega)
  have HX6 : Hid (Blk g #[.string y.copy, .int .i64 y.version, .string y.hold, .int .i64 y.pull, .int .i64 y.start, .int .i64 y.dies, .int .i64 y.grace, .int .i64 (1 + (v1 : Int)), .int .i64 (v2 : Int), .int .i64 (v3 : Int), .int .i64 0] 38 w6) := HX5.out.bt hb HX5.out.lt (by omega)
  clear HR5 HB5 HZ5 HX5 hr hb hs k2 k7 k8 f8
  have k7 : w6.cell? ⟨g, 7, none⟩ = some (.int .i64 (1 + (v1 : Int))) := HX6.out.cell rfl
  have k8 : w6.cell? ⟨g, 8, none⟩ = some (.int .i64 (v2 : Int)) := HX6.out.cell rfl
  have f8 : w6.frozen? ⟨g, 8, none⟩ = false := HX6.out.frozen _
  have k10 : w6.cell? ⟨g, 10, none⟩ = some (.int .i64 0) := HX6.out.cell rfl
  have f10 : w6.frozen? ⟨g, 10, none⟩ = false := HX6.out.frozen _
  by_cases hu : clock + (v4 : Int) - 4 < 0
  case pos =>
   cases h2 : ((1 + (v1 : Int)) == 2)
   case false =>
    have hbe : Below g w6 ((w6.setCell ⟨g, 10, none⟩ (.int .i64 (clock + (v4 : Int) - 4))).setCell ⟨g, 10, none⟩ (.int .i64 0)) := ((((Below.refl _ _).setCell (p := ⟨g, 10, none⟩) (Nat.le_refl g) _)).setCell (p := ⟨g, 10, none⟩) (Nat.le_refl g) _)
    have HXE : Hid (Blk g #[.string y.copy, .int .i64 y.version, .string y.hold, .int .i64 y.pull, .int .i64 y.start, .int .i64 y.dies, .int .i64 y.grace, .int .i64 (1 + (v1 : Int)), .int .i64 (v2 : Int), .int .i64 (v3 : Int), .int .i64 0] 38 ((w6.setCell ⟨g, 10, none⟩ (.int .i64 (clock + (v4 : Int) - 4))).setCell ⟨g, 10, none⟩ (.int .i64 0))) := ((HX6.out.set 10 (.int .i64 (clock + (v4 : Int) - 4))).set 10 (.int .i64 0))
    have HZE : Hid (Blk w.heap.size #[.string ⟨#[]⟩, .int .i64 0, .string ⟨#[]⟩, .int .i64 0, .int .i64 0, .int .i64 0, .int .i64 0, .int .i64 0, .int .i64 0, .int .i64 0, .int .i64 0] 38 ((w6.setCell ⟨g, 10, none⟩ (.int .i64 (clock + (v4 : Int) - 4))).setCell ⟨g, 10, none⟩ (.int .i64 0))) := ((HZ6.out.other (a := ⟨g, 10, none⟩) (show w.heap.size ≠ g by omega) _).other (a := ⟨g, 10, none⟩) (show w.heap.size ≠ g by omega) _)
    have HTE := Hid.intro HZE.out.there
    obtain ⟨w9, HW9⟩ : ∃ w9, Hid (w9 = ((w6.setCell ⟨g, 10, none⟩ (.int .i64 (clock + (v4 : Int) - 4))).setCell ⟨g, 10, none⟩ (.int .i64 0)).setCells w.heap.size 0 [.string y.copy, .int .i64 y.version, .string y.hold, .int .i64 y.pull, .int .i64 y.start, .int .i64 y.dies, .int .i64 y.grace, .int .i64 (1 + (v1 : Int)), .int .i64 (v2 : Int), .int .i64 (v3 : Int), .int .i64 0]) := ⟨_, rfl⟩
    have HR9 : Hid (w9.rangeAt w.heap.size 0 [.string y.copy, .int .i64 y.version, .string y.hold, .int .i64 y.pull, .int .i64 y.start, .int .i64 y.dies, .int .i64 y.grace, .int .i64 (1 + (v1 : Int)), .int .i64 (v2 : Int), .int .i64 (v3 : Int), .int .i64 0]) := by
     show World.rangeAt _ _ _ _
     rw [HW9.out]
     exact World.rangeAt_setCells_same _ _ _ _ HTE.out
    have hb9 : Below w.heap.size w6 w9 := by
     rw [HW9.out]
     exact below_setCells (Nat.le_refl _) _ _ _ (hbe.mono (Nat.le_of_lt hg))
    have HRd : Hid (RdS p (k0 + 10) w9) := HR6.out.below hb9 hpl
    have HBt : Hid (Bt p w.heap.size w w9) := HB6.out.trans (Bt.of_below hb9)
    clear hb9 hbe HR6 HB6 HZ6
    go_wp2_with (first | (refine wpList_load_mid rfl 38 _ rfl g 0 rfl [.string y.copy, .int .i64 y.version, .string y.hold, .int .i64 y.pull, .int .i64 y.start, .int .i64 y.dies, .int .i64 y.grace, .int .i64 (1 + (v1 : Int)), .int .i64 (v2 : Int), .int .i64 (v3 : Int), .int .i64 0] _ HXE.out.rangeA Try.underlying38 rfl isz_Rn ?_) | (refine wpList_store_to rfl 38 _ _ rfl w.heap.size 0 #[.string y.copy, .int .i64 y.version, .string y.hold, .int .i64 y.pull, .int .i64 y.start, .int .i64 y.dies, .int .i64 y.grace, .int .i64 (1 + (v1 : Int)), .int .i64 (v2 : Int), .int .i64 (v3 : Int), .int .i64 0] rfl rfl HTE.out isz_Rn (by simp [Value.oneCell']) w9 HW9.out ?_))
    exact bodyPost_ret (results_cell_mid rfl _ _ w.heap.size [.string y.copy, .int .i64 y.version, .string y.hold, .int .i64 y.pull, .int .i64 y.start, .int .i64 y.dies, .int .i64 y.grace, .int .i64 (1 + (v1 : Int)), .int .i64 (v2 : Int), .int .i64 (v3 : Int), .int .i64 0] _ rfl HR9.out Try.underlying38 rfl isz_Rn) rfl ⟨⟨y, (1 + (v1 : Int)), (v2 : Int), v3, 0⟩, k0 + 10, rfl, hyc, hyh, by omega, HRd.out, HBt.out⟩
   case true =>
    have hbe : Below g w6 (((w6.setCell ⟨g, 10, none⟩ (.int .i64 (clock + (v4 : Int) - 4))).setCell ⟨g, 10, none⟩ (.int .i64 0)).setCell ⟨g, 8, none⟩ (.int .i64 0)) := ((((((Below.refl _ _).setCell (p := ⟨g, 10, none⟩) (Nat.le_refl g) _)).setCell (p := ⟨g, 10, none⟩) (Nat.le_refl g) _)).setCell (p := ⟨g, 8, none⟩) (Nat.le_refl g) _)
    have HXE : Hid (Blk g #[.string y.copy, .int .i64 y.version, .string y.hold, .int .i64 y.pull, .int .i64 y.start, .int .i64 y.dies, .int .i64 y.grace, .int .i64 (1 + (v1 : Int)), .int .i64 0, .int .i64 (v3 : Int), .int .i64 0] 38 (((w6.setCell ⟨g, 10, none⟩ (.int .i64 (clock + (v4 : Int) - 4))).setCell ⟨g, 10, none⟩ (.int .i64 0)).setCell ⟨g, 8, none⟩ (.int .i64 0))) := (((HX6.out.set 10 (.int .i64 (clock + (v4 : Int) - 4))).set 10 (.int .i64 0)).set 8 (.int .i64 0))
    have HZE : Hid (Blk w.heap.size #[.string ⟨#[]⟩, .int .i64 0, .string ⟨#[]⟩, .int .i64 0, .int .i64 0, .int .i64 0, .int .i64 0, .int .i64 0, .int .i64 0, .int .i64 0, .int .i64 0] 38 (((w6.setCell ⟨g, 10, none⟩ (.int .i64 (clock + (v4 : Int) - 4))).setCell ⟨g, 10, none⟩ (.int .i64 0)).setCell ⟨g, 8, none⟩ (.int .i64 0))) := (((HZ6.out.other (a := ⟨g, 10, none⟩) (show w.heap.size ≠ g by omega) _).other (a := ⟨g, 10, none⟩) (show w.heap.size ≠ g by omega) _).other (a := ⟨g, 8, none⟩) (show w.heap.size ≠ g by omega) _)
    have HTE := Hid.intro HZE.out.there
    obtain ⟨w9, HW9⟩ : ∃ w9, Hid (w9 = (((w6.setCell ⟨g, 10, none⟩ (.int .i64 (clock + (v4 : Int) - 4))).setCell ⟨g, 10, none⟩ (.int .i64 0)).setCell ⟨g, 8, none⟩ (.int .i64 0)).setCells w.heap.size 0 [.string y.copy, .int .i64 y.version, .string y.hold, .int .i64 y.pull, .int .i64 y.start, .int .i64 y.dies, .int .i64 y.grace, .int .i64 (1 + (v1 : Int)), .int .i64 0, .int .i64 (v3 : Int), .int .i64 0]) := ⟨_, rfl⟩
    have HR9 : Hid (w9.rangeAt w.heap.size 0 [.string y.copy, .int .i64 y.version, .string y.hold, .int .i64 y.pull, .int .i64 y.start, .int .i64 y.dies, .int .i64 y.grace, .int .i64 (1 + (v1 : Int)), .int .i64 0, .int .i64 (v3 : Int), .int .i64 0]) := by
     show World.rangeAt _ _ _ _
     rw [HW9.out]
     exact World.rangeAt_setCells_same _ _ _ _ HTE.out
    have hb9 : Below w.heap.size w6 w9 := by
     rw [HW9.out]
     exact below_setCells (Nat.le_refl _) _ _ _ (hbe.mono (Nat.le_of_lt hg))
    have HRd : Hid (RdS p (k0 + 10) w9) := HR6.out.below hb9 hpl
    have HBt : Hid (Bt p w.heap.size w w9) := HB6.out.trans (Bt.of_below hb9)
    clear hb9 hbe HR6 HB6 HZ6
    go_wp2_with (first | (refine wpList_load_mid rfl 38 _ rfl g 0 rfl [.string y.copy, .int .i64 y.version, .string y.hold, .int .i64 y.pull, .int .i64 y.start, .int .i64 y.dies, .int .i64 y.grace, .int .i64 (1 + (v1 : Int)), .int .i64 0, .int .i64 (v3 : Int), .int .i64 0] _ HXE.out.rangeA Try.underlying38 rfl isz_Rn ?_) | (refine wpList_store_to rfl 38 _ _ rfl w.heap.size 0 #[.string y.copy, .int .i64 y.version, .string y.hold, .int .i64 y.pull, .int .i64 y.start, .int .i64 y.dies, .int .i64 y.grace, .int .i64 (1 + (v1 : Int)), .int .i64 0, .int .i64 (v3 : Int), .int .i64 0] rfl rfl HTE.out isz_Rn (by simp [Value.oneCell']) w9 HW9.out ?_))
    exact bodyPost_ret (results_cell_mid rfl _ _ w.heap.size [.string y.copy, .int .i64 y.version, .string y.hold, .int .i64 y.pull, .int .i64 y.start, .int .i64 y.dies, .int .i64 y.grace, .int .i64 (1 + (v1 : Int)), .int .i64 0, .int .i64 (v3 : Int), .int .i64 0] _ rfl HR9.out Try.underlying38 rfl isz_Rn) rfl ⟨⟨y, (1 + (v1 : Int)), 0, v3, 0⟩, k0 + 10, rfl, hyc, hyh, by omega, HRd.out, HBt.out⟩
  case neg =>
   cases h2 : ((1 + (v1 : Int)) == 2)
   case false =>
    have hbe : Below g w6 (w6.setCell ⟨g, 10, none⟩ (.int .i64 (clock + (v4 : Int) - 4))) := ((Below.refl _ _).setCell (p := ⟨g, 10, none⟩) (Nat.le_refl g) _)
    have HXE : Hid (Blk g #[.string y.copy, .int .i64 y.version, .string y.hold, .int .i64 y.pull, .int .i64 y.start, .int .i64 y.dies, .int .i64 y.grace, .int .i64 (1 + (v1 : Int)), .int .i64 (v2 : Int), .int .i64 (v3 : Int), .int .i64 (clock + (v4 : Int) - 4)] 38 (w6.setCell ⟨g, 10, none⟩ (.int .i64 (clock + (v4 : Int) - 4)))) := (HX6.out.set 10 (.int .i64 (clock + (v4 : Int) - 4)))
    have HZE : Hid (Blk w.heap.size #[.string ⟨#[]⟩, .int .i64 0, .string ⟨#[]⟩, .int .i64 0, .int .i64 0, .int .i64 0, .int .i64 0, .int .i64 0, .int .i64 0, .int .i64 0, .int .i64 0] 38 (w6.setCell ⟨g, 10, none⟩ (.int .i64 (clock + (v4 : Int) - 4)))) := (HZ6.out.other (a := ⟨g, 10, none⟩) (show w.heap.size ≠ g by omega) _)
    have HTE := Hid.intro HZE.out.there
    obtain ⟨w9, HW9⟩ : ∃ w9, Hid (w9 = (w6.setCell ⟨g, 10, none⟩ (.int .i64 (clock + (v4 : Int) - 4))).setCells w.heap.size 0 [.string y.copy, .int .i64 y.version, .string y.hold, .int .i64 y.pull, .int .i64 y.start, .int .i64 y.dies, .int .i64 y.grace, .int .i64 (1 + (v1 : Int)), .int .i64 (v2 : Int), .int .i64 (v3 : Int), .int .i64 (clock + (v4 : Int) - 4)]) := ⟨_, rfl⟩
    have HR9 : Hid (w9.rangeAt w.heap.size 0 [.string y.copy, .int .i64 y.version, .string y.hold, .int .i64 y.pull, .int .i64 y.start, .int .i64 y.dies, .int .i64 y.grace, .int .i64 (1 + (v1 : Int)), .int .i64 (v2 : Int), .int .i64 (v3 : Int), .int .i64 (clock + (v4 : Int) - 4)]) := by
     show World.rangeAt _ _ _ _
     rw [HW9.out]
     exact World.rangeAt_setCells_same _ _ _ _ HTE.out
    have hb9 : Below w.heap.size w6 w9 := by
     rw [HW9.out]
     exact below_setCells (Nat.le_refl _) _ _ _ (hbe.mono (Nat.le_of_lt hg))
    have HRd : Hid (RdS p (k0 + 10) w9) := HR6.out.below hb9 hpl
    have HBt : Hid (Bt p w.heap.size w w9) := HB6.out.trans (Bt.of_below hb9)
    clear hb9 hbe HR6 HB6 HZ6
    go_wp2_with (first | (refine wpList_load_mid rfl 38 _ rfl g 0 rfl [.string y.copy, .int .i64 y.version, .string y.hold, .int .i64 y.pull, .int .i64 y.start, .int .i64 y.dies, .int .i64 y.grace, .int .i64 (1 + (v1 : Int)), .int .i64 (v2 : Int), .int .i64 (v3 : Int), .int .i64 (clock + (v4 : Int) - 4)] _ HXE.out.rangeA Try.underlying38 rfl isz_Rn ?_) | (refine wpList_store_to rfl 38 _ _ rfl w.heap.size 0 #[.string y.copy, .int .i64 y.version, .string y.hold, .int .i64 y.pull, .int .i64 y.start, .int .i64 y.dies, .int .i64 y.grace, .int .i64 (1 + (v1 : Int)), .int .i64 (v2 : Int), .int .i64 (v3 : Int), .int .i64 (clock + (v4 : Int) - 4)] rfl rfl HTE.out isz_Rn (by simp [Value.oneCell']) w9 HW9.out ?_))
    exact bodyPost_ret (results_cell_mid rfl _ _ w.heap.size [.string y.copy, .int .i64 y.version, .string y.hold, .int .i64 y.pull, .int .i64 y.start, .int .i64 y.dies, .int .i64 y.grace, .int .i64 (1 + (v1 : Int)), .int .i64 (v2 : Int), .int .i64 (v3 : Int), .int .i64 (clock + (v4 : Int) - 4)] _ rfl HR9.out Try.underlying38 rfl isz_Rn) rfl ⟨⟨y, (1 + (v1 : Int)), (v2 : Int), v3, (clock + (v4 : Int) - 4)⟩, k0 + 10, rfl, hyc, hyh, by omega, HRd.out, HBt.out⟩
   case true =>
    have hbe : Below g w6 ((w6.setCell ⟨g, 10, none⟩ (.int .i64 (clock + (v4 : Int) - 4))).setCell ⟨g, 8, none⟩ (.int .i64 0)) := ((((Below.refl _ _).setCell (p := ⟨g, 10, none⟩) (Nat.le_refl g) _)).setCell (p := ⟨g, 8, none⟩) (Nat.le_refl g) _)
    have HXE : Hid (Blk g #[.string y.copy, .int .i64 y.version, .string y.hold, .int .i64 y.pull, .int .i64 y.start, .int .i64 y.dies, .int .i64 y.grace, .int .i64 (1 + (v1 : Int)), .int .i64 0, .int .i64 (v3 : Int), .int .i64 (clock + (v4 : Int) - 4)] 38 ((w6.setCell ⟨g, 10, none⟩ (.int .i64 (clock + (v4 : Int) - 4))).setCell ⟨g, 8, none⟩ (.int .i64 0))) := ((HX6.out.set 10 (.int .i64 (clock + (v4 : Int) - 4))).set 8 (.int .i64 0))
    have HZE : Hid (Blk w.heap.size #[.string ⟨#[]⟩, .int .i64 0, .string ⟨#[]⟩, .int .i64 0, .int .i64 0, .int .i64 0, .int .i64 0, .int .i64 0, .int .i64 0, .int .i64 0, .int .i64 0] 38 ((w6.setCell ⟨g, 10, none⟩ (.int .i64 (clock + (v4 : Int) - 4))).setCell ⟨g, 8, none⟩ (.int .i64 0))) := ((HZ6.out.other (a := ⟨g, 10, none⟩) (show w.heap.size ≠ g by omega) _).other (a := ⟨g, 8, none⟩) (show w.heap.size ≠ g by omega) _)
    have HTE := Hid.intro HZE.out.there
    obtain ⟨w9, HW9⟩ : ∃ w9, Hid (w9 = ((w6.setCell ⟨g, 10, none⟩ (.int .i64 (clock + (v4 : Int) - 4))).setCell ⟨g, 8, none⟩ (.int .i64 0)).setCells w.heap.size 0 [.string y.copy, .int .i64 y.version, .string y.hold, .int .i64 y.pull, .int .i64 y.start, .int .i64 y.dies, .int .i64 y.grace, .int .i64 (1 + (v1 : Int)), .int .i64 0, .int .i64 (v3 : Int), .int .i64 (clock + (v4 : Int) - 4)]) := ⟨_, rfl⟩
    have HR9 : Hid (w9.rangeAt w.heap.size 0 [.string y.copy, .int .i64 y.version, .string y.hold, .int .i64 y.pull, .int .i64 y.start, .int .i64 y.dies, .int .i64 y.grace, .int .i64 (1 + (v1 : Int)), .int .i64 0, .int .i64 (v3 : Int), .int .i64 (clock + (v4 : Int) - 4)]) := by
     show World.rangeAt _ _ _ _
     rw [HW9.out]
     exact World.rangeAt_setCells_same _ _ _ _ HTE.out
    have hb9 : Below w.heap.size w6 w9 := by
     rw [HW9.out]
     exact below_setCells (Nat.le_refl _) _ _ _ (hbe.mono (Nat.le_of_lt hg))
    have HRd : Hid (RdS p (k0 + 10) w9) := HR6.out.below hb9 hpl
    have HBt : Hid (Bt p w.heap.size w w9) := HB6.out.trans (Bt.of_below hb9)
    clear hb9 hbe HR6 HB6 HZ6
    go_wp2_with (first | (refine wpList_load_mid rfl 38 _ rfl g 0 rfl [.string y.copy, .int .i64 y.version, .string y.hold, .int .i64 y.pull, .int .i64 y.start, .int .i64 y.dies, .int .i64 y.grace, .int .i64 (1 + (v1 : Int)), .int .i64 0, .int .i64 (v3 : Int), .int .i64 (clock + (v4 : Int) - 4)] _ HXE.out.rangeA Try.underlying38 rfl isz_Rn ?_) | (refine wpList_store_to rfl 38 _ _ rfl w.heap.size 0 #[.string y.copy, .int .i64 y.version, .string y.hold, .int .i64 y.pull, .int .i64 y.start, .int .i64 y.dies, .int .i64 y.grace, .int .i64 (1 + (v1 : Int)), .int .i64 0, .int .i64 (v3 : Int), .int .i64 (clock + (v4 : Int) - 4)] rfl rfl HTE.out isz_Rn (by simp [Value.oneCell']) w9 HW9.out ?_))
    exact bodyPost_ret (results_cell_mid rfl _ _ w.heap.size [.string y.copy, .int .i64 y.version, .string y.hold, .int .i64 y.pull, .int .i64 y.start, .int .i64 y.dies, .int .i64 y.grace, .int .i64 (1 + (v1 : Int)), .int .i64 0, .int .i64 (v3 : Int), .int .i64 (clock + (v4 : Int) - 4)] _ rfl HR9.out Try.underlying38 rfl isz_Rn) rfl ⟨⟨y, (1 + (v1 : Int)), 0, v3, (clock + (v4 : Int) - 4)⟩, k0 + 10, rfl, hyc, hyh, by omega, HRd.out, HBt.out⟩

end Go.Proofs.Ytnifmiacobfplaa
