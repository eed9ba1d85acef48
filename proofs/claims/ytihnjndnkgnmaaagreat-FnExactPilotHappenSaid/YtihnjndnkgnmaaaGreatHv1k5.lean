import Derived.Test.YtihnjndnkgnmaaaGreatTk0
import Derived.Test.YtihnjndnkgnmaaaGreatJ36
namespace Go.Proofs.YtihnjndnkgnmaaaGreat
open Go.RowKit

set_option maxHeartbeats 40000000 in
set_option maxRecDepth 100000 in
theorem event_k5 (x : Flt) (v : Evt) (a1 : Option Addr) (c1 b2 o2 c2 : Nat) (a3 : Option Addr) (c3 : Nat) (am : Option Addr) (cm : Nat) (al : Option Addr) (cl lo : Nat) (w : World) (n1 : SliceC BrtC 6 lo w a1 x.berths) (n2 : SliceC SvcC 2 lo w (some ⟨b2, o2, none⟩) x.services) (n3 : SliceC CpyC 12 lo w a3 x.copies) (nm : SliceC StrC 1 lo w am v.berth.marks) (nl : SliceC LikC 2 lo w al v.copy.likes) (hvx : validI x = true) (hlb : x.berths.length ≤ 12) (hls : x.services.length ≤ 30) (hlc : x.copies.length ≤ 60) (hmk : ∀ y ∈ x.berths, y.marks.length ≤ 1048576) (hlk : ∀ y ∈ x.copies, y.likes.length ≤ 1048576) (hvm : v.berth.marks.length ≤ 1048576) (hvl : v.copy.likes.length ≤ 1048576) (z1 : SzB [v.berth]) (z3 : SzC [v.copy]) (za : v.at_.size ≤ maxLen) (hk0 : Hid (v.kind = 5)) :
  Calls Tryz.prog 21 #[.agg #[.bool x.pack, .slice a1 x.berths.length c1, .slice (some ⟨b2, o2, none⟩) x.services.length c2, .slice a3 x.copies.length c3], .agg #[.int .i64 v.kind, .string v.berth.name, .string v.berth.zone, .slice am v.berth.marks.length cm, .int .i64 v.berth.room, .int .i64 v.berth.hold, .bool v.berth.closed, .string v.copy.name, .string v.copy.service, .int .i64 v.copy.rank, .int .i64 v.copy.born, .int .i64 v.copy.room, .int .i64 v.copy.hold, .string v.copy.select, .slice al v.copy.likes.length cl, .int .i64 v.copy.apart, .string v.copy.near, .string v.copy.fixed, .string v.copy.at_, .string v.name, .string v.at_]] w fun e w' => EvRes x v w e w' := by
 have HZB := iH (SzB.of n1)
 have HZC := iH (SzC.of n3)
 have HZ1 := iH z1
 have HZ3 := iH z3
 have HZA := iH za
 have N1 := iH n1
 have N2 := iH n2
 have N3 := iH n3
 have NM := iH nm
 have NL := iH nl
 have HV := iH hvx
 have HAB := iH (valid_more hvx).2.1
 have HAC := iH (valid_parts hvx).2.2.2.1
 have HMK := iH hmk
 have HLK := iH hlk
 clear n1 n2 n3 nm nl hvx hmk hlk z1 z3 za
 have h1 := Blk.alloc w #[.bool x.pack, .slice a1 x.berths.length c1, .slice (some ⟨b2, o2, none⟩) x.services.length c2, .slice a3 x.copies.length c3] 41
 have h2 : Blk (w.heap.size + 1) #[.int .i64 v.kind, .string v.berth.name, .string v.berth.zone, .slice am v.berth.marks.length cm, .int .i64 v.berth.room, .int .i64 v.berth.hold, .bool v.berth.closed, .string v.copy.name, .string v.copy.service, .int .i64 v.copy.rank, .int .i64 v.copy.born, .int .i64 v.copy.room, .int .i64 v.copy.hold, .string v.copy.select, .slice al v.copy.likes.length cl, .int .i64 v.copy.apart, .string v.copy.near, .string v.copy.fixed, .string v.copy.at_, .string v.name, .string v.at_] 50 ((w.alloc (Obj.cells #[.bool x.pack, .slice a1 x.berths.length c1, .slice (some ⟨b2, o2, none⟩) x.services.length c2, .slice a3 x.copies.length c3] 41)).alloc (Obj.cells #[.int .i64 v.kind, .string v.berth.name, .string v.berth.zone, .slice am v.berth.marks.length cm, .int .i64 v.berth.room, .int .i64 v.berth.hold, .bool v.berth.closed, .string v.copy.name, .string v.copy.service, .int .i64 v.copy.rank, .int .i64 v.copy.born, .int .i64 v.copy.room, .int .i64 v.copy.hold, .string v.copy.select, .slice al v.copy.likes.length cl, .int .i64 v.copy.apart, .string v.copy.near, .string v.copy.fixed, .string v.copy.at_, .string v.name, .string v.at_] 50)) := by
  have := Blk.alloc (w.alloc (Obj.cells #[.bool x.pack, .slice a1 x.berths.length c1, .slice (some ⟨b2, o2, none⟩) x.services.length c2, .slice a3 x.copies.length c3] 41)) #[.int .i64 v.kind, .string v.berth.name, .string v.berth.zone, .slice am v.berth.marks.length cm, .int .i64 v.berth.room, .int .i64 v.berth.hold, .bool v.berth.closed, .string v.copy.name, .string v.copy.service, .int .i64 v.copy.rank, .int .i64 v.copy.born, .int .i64 v.copy.room, .int .i64 v.copy.hold, .string v.copy.select, .slice al v.copy.likes.length cl, .int .i64 v.copy.apart, .string v.copy.near, .string v.copy.fixed, .string v.copy.at_, .string v.name, .string v.at_] 50
  simpa using this
 have HR3 : Hid (Blk (w.heap.size + 1 + 1) #[.bool false, .slice none 0 0, .slice none 0 0, .slice none 0 0] 41 (((w.alloc (Obj.cells #[.bool x.pack, .slice a1 x.berths.length c1, .slice (some ⟨b2, o2, none⟩) x.services.length c2, .slice a3 x.copies.length c3] 41)).alloc (Obj.cells #[.int .i64 v.kind, .string v.berth.name, .string v.berth.zone, .slice am v.berth.marks.length cm, .int .i64 v.berth.room, .int .i64 v.berth.hold, .bool v.berth.closed, .string v.copy.name, .string v.copy.service, .int .i64 v.copy.rank, .int .i64 v.copy.born, .int .i64 v.copy.room, .int .i64 v.copy.hold, .string v.copy.select, .slice al v.copy.likes.length cl, .int .i64 v.copy.apart, .string v.copy.near, .string v.copy.fixed, .string v.copy.at_, .string v.name, .string v.at_] 50)).alloc (Obj.cells #[.bool false, .slice none 0 0, .slice none 0 0, .slice none 0 0] 41))) := by
  have := Blk.alloc ((w.alloc (Obj.cells #[.bool x.pack, .slice a1 x.berths.length c1, .slice (some ⟨b2, o2, none⟩) x.services.length c2, .slice a3 x.copies.length c3] 41)).alloc (Obj.cells #[.int .i64 v.kind, .string v.berth.name, .string v.berth.zone, .slice am v.berth.marks.length cm, .int .i64 v.berth.room, .int .i64 v.berth.hold, .bool v.berth.closed, .string v.copy.name, .string v.copy.service, .int .i64 v.copy.rank, .int .i64 v.copy.born, .int .i64 v.copy.room, .int .i64 v.copy.hold, .string v.copy.select, .slice al v.copy.likes.length cl, .int .i64 v.copy.apart, .string v.copy.near, .string v.copy.fixed, .string v.copy.at_, .string v.name, .string v.at_] 50)) #[.bool false, .slice none 0 0, .slice none 0 0, .slice none 0 0] 41
  show Blk _ _ _ _
  simpa using this
 have HF3 : Hid (Blk w.heap.size #[.bool x.pack, .slice a1 x.berths.length c1, .slice (some ⟨b2, o2, none⟩) x.services.length c2, .slice a3 x.copies.length c3] 41 (((w.alloc (Obj.cells #[.bool x.pack, .slice a1 x.berths.length c1, .slice (some ⟨b2, o2, none⟩) x.services.length c2, .slice a3 x.copies.length c3] 41)).alloc (Obj.cells #[.int .i64 v.kind, .string v.berth.name, .string v.berth.zone, .slice am v.berth.marks.length cm, .int .i64 v.berth.room, .int .i64 v.berth.hold, .bool v.berth.closed, .string v.copy.name, .string v.copy.service, .int .i64 v.copy.rank, .int .i64 v.copy.born, .int .i64 v.copy.room, .int .i64 v.copy.hold, .string v.copy.select, .slice al v.copy.likes.length cl, .int .i64 v.copy.apart, .string v.copy.near, .string v.copy.fixed, .string v.copy.at_, .string v.name, .string v.at_] 50)).alloc (Obj.cells #[.bool false, .slice none 0 0, .slice none 0 0, .slice none 0 0] 41))) := (h1.below ((Below.refl _ _).alloc nL _) h1.lt).below ((Below.refl _ _).alloc nL _) (by simp; omega)
 have HE3 : Hid (Blk (w.heap.size + 1) #[.int .i64 v.kind, .string v.berth.name, .string v.berth.zone, .slice am v.berth.marks.length cm, .int .i64 v.berth.room, .int .i64 v.berth.hold, .bool v.berth.closed, .string v.copy.name, .string v.copy.service, .int .i64 v.copy.rank, .int .i64 v.copy.born, .int .i64 v.copy.room, .int .i64 v.copy.hold, .string v.copy.select, .slice al v.copy.likes.length cl, .int .i64 v.copy.apart, .string v.copy.near, .string v.copy.fixed, .string v.copy.at_, .string v.name, .string v.at_] 50 (((w.alloc (Obj.cells #[.bool x.pack, .slice a1 x.berths.length c1, .slice (some ⟨b2, o2, none⟩) x.services.length c2, .slice a3 x.copies.length c3] 41)).alloc (Obj.cells #[.int .i64 v.kind, .string v.berth.name, .string v.berth.zone, .slice am v.berth.marks.length cm, .int .i64 v.berth.room, .int .i64 v.berth.hold, .bool v.berth.closed, .string v.copy.name, .string v.copy.service, .int .i64 v.copy.rank, .int .i64 v.copy.born, .int .i64 v.copy.room, .int .i64 v.copy.hold, .string v.copy.select, .slice al v.copy.likes.length cl, .int .i64 v.copy.apart, .string v.copy.near, .string v.copy.fixed, .string v.copy.at_, .string v.name, .string v.at_] 50)).alloc (Obj.cells #[.bool false, .slice none 0 0, .slice none 0 0, .slice none 0 0] 41))) := h2.below ((Below.refl _ _).alloc nL _) h2.lt
 have hB3 : Below w.heap.size w (((w.alloc (Obj.cells #[.bool x.pack, .slice a1 x.berths.length c1, .slice (some ⟨b2, o2, none⟩) x.services.length c2, .slice a3 x.copies.length c3] 41)).alloc (Obj.cells #[.int .i64 v.kind, .string v.berth.name, .string v.berth.zone, .slice am v.berth.marks.length cm, .int .i64 v.berth.room, .int .i64 v.berth.hold, .bool v.berth.closed, .string v.copy.name, .string v.copy.service, .int .i64 v.copy.rank, .int .i64 v.copy.born, .int .i64 v.copy.room, .int .i64 v.copy.hold, .string v.copy.select, .slice al v.copy.likes.length cl, .int .i64 v.copy.apart, .string v.copy.near, .string v.copy.fixed, .string v.copy.at_, .string v.name, .string v.at_] 50)).alloc (Obj.cells #[.bool false, .slice none 0 0, .slice none 0 0, .slice none 0 0] 41)) := by go_grown
 clear h1 h2
 go_enter Tryz.func21, Tryz.ntmps21
 go_upto_region 1 with fail
 generalize (((w.alloc (Obj.cells #[.bool x.pack, .slice a1 x.berths.length c1, .slice (some ⟨b2, o2, none⟩) x.services.length c2, .slice a3 x.copies.length c3] 41)).alloc (Obj.cells #[.int .i64 v.kind, .string v.berth.name, .string v.berth.zone, .slice am v.berth.marks.length cm, .int .i64 v.berth.room, .int .i64 v.berth.hold, .bool v.berth.closed, .string v.copy.name, .string v.copy.service, .int .i64 v.copy.rank, .int .i64 v.copy.born, .int .i64 v.copy.room, .int .i64 v.copy.hold, .string v.copy.select, .slice al v.copy.likes.length cl, .int .i64 v.copy.apart, .string v.copy.near, .string v.copy.fixed, .string v.copy.at_, .string v.name, .string v.at_] 50)).alloc (Obj.cells #[.bool false, .slice none 0 0, .slice none 0 0, .slice none 0 0] 41)) = w3 at *
 go_wp2_with (refine wpList_load_mid rfl 41 _ rfl w.heap.size 0 rfl [.bool x.pack, .slice a1 x.berths.length c1, .slice (some ⟨b2, o2, none⟩) x.services.length c2, .slice a3 x.copies.length c3] _ HF3.out.rangeA Tryz.underlying41 rfl isz_Flt ?_)
 refine (fleetOf_any x a1 c1 b2 o2 c2 a3 c3 lo _ (N1.out.below BrtC.holds hB3 nL) (N2.out.below SvcC.holds hB3 nL) (N3.out.below CpyC.holds hB3 nL) (by omega) (by omega) (by omega) HMK.out HLK.out).mono ?_
 rintro e w4 ⟨d1, q1, g2, q2, d3, q3, bs, H, wB, rfl, hsf, hs1, hH1, hH2, hwB, hkB, hs2, hg2, hoc, hb4⟩
 have HSF := iH hsf
 have HS1 := iH hs1
 have HS2 := iH hs2
 have HOC := iH hoc
 have hHw : w.heap.size ≤ w3.heap.size := hB3.size
 have HRL : w.heap.size + 1 + 1 < w3.heap.size := HR3.out.lt
 have HKB := iH hkB
 have HWB := iH (And.intro hwB hg2)
 have hB4 := hB3.trans (hb4.mono hB3.size)
 have hW34 : w3.heap.size ≤ w4.heap.size := hb4.size
 have HE4 := HE3.out.below hb4 HE3.out.lt
 have HR4 := HR3.out.below hb4 HR3.out.lt
 have hr4 := HR4.lt
 have hza : Blk w4.heap.size #[.bool false, .slice none 0 0, .slice none 0 0, .slice none 0 0] 41 (w4.alloc (Obj.cells #[.bool false, .slice none 0 0, .slice none 0 0, .slice none 0 0] 41)) := Blk.alloc _ _ _
 have HTS : Hid ((w4.alloc (Obj.cells #[.bool false, .slice none 0 0, .slice none 0 0, .slice none 0 0] 41)).there w4.heap.size 0 4) := hza.there
 obtain ⟨w5, HW5⟩ : ∃ w5, Hid (w5 = (w4.alloc (Obj.cells #[.bool false, .slice none 0 0, .slice none 0 0, .slice none 0 0] 41)).setCells w4.heap.size 0 [.bool x.pack, .slice d1 x.berths.length q1, .slice (some ⟨g2, 0, none⟩) x.services.length q2, .slice d3 x.copies.length q3]) := ⟨_, rfl⟩
 have hbx : Below w4.heap.size w4 w5 := by
  rw [HW5.out]
  exact below_setCells nL _ _ _ ((Below.refl _ w4).alloc nL _)
 have hk5 : Blk w4.heap.size #[.bool x.pack, .slice d1 x.berths.length q1, .slice (some ⟨g2, 0, none⟩) x.services.length q2, .slice d3 x.copies.length q3] 41 w5 := by
  rw [HW5.out]
  exact hza.setAll #[.bool x.pack, .slice d1 x.berths.length q1, .slice (some ⟨g2, 0, none⟩) x.services.length q2, .slice d3 x.copies.length q3] rfl
 obtain ⟨gx, hgx⟩ : ∃ gx, gx = w4.heap.size := ⟨_, rfl⟩
 obtain ⟨eb, heb⟩ : ∃ eb, eb = w.heap.size + 1 := ⟨_, rfl⟩
 obtain ⟨rb, hrb⟩ : ∃ rb, rb = w.heap.size + 1 + 1 := ⟨_, rfl⟩
 have HEW : Hid (EvW x v am cm al cl gx eb rb (.slice d1 x.berths.length q1) (.slice (some ⟨g2, 0, none⟩) x.services.length q2) (.slice d3 x.copies.length q3) w w4 w5) := ⟨by rw [hgx]; exact hk5, by rw [heb]; exact HE4.below hbx HE4.lt, by rw [hrb]; exact HR4.below hbx HR4.lt, hB4.trans (hbx.mono hB4.size), by rw [hgx]; exact hbx, by omega, by omega, by omega, by omega⟩
 have HGX : Hid (w4.heap.size = gx) := hgx.symm
 go_upto_region 2 with (refine wpList_store_to rfl 41 _ _ rfl w4.heap.size 0 #[.bool x.pack, .slice d1 x.berths.length q1, .slice (some ⟨g2, 0, none⟩) x.services.length q2, .slice d3 x.copies.length q3] rfl rfl HTS.out isz_Flt (by simp [Value.oneCell']) w5 HW5.out ?_)
 clear HTS HW5 hza hbx hk5 HE4 HR4 hB4 HF3 HE3 HR3 hsf hs1 hs2 hoc hb4 hr4 hkB hwB hg2
 rw [← HGX.out] at hgx
 clear hgx
 rw [HGX.out, ← hrb, ← heb]
 have HRB0 : rb < w3.heap.size := by rw [hrb]; exact HRL
 clear heb hrb HRL
 have HRB : Hid (rb < w3.heap.size) := HRB0
 have _hv := And.intro hvm hvl
 clear _hv
 have hkd : v.kind = 5 := hk0.out
 have k0 : w5.cell? ⟨eb, 0, none⟩ = some (.int .i64 5) := by rw [← hkd]; exact HEW.out.he.cell rfl
 have k19 : w5.cell? ⟨eb, 19, none⟩ = some (.string v.name) := HEW.out.he.cell rfl
 have k20 : w5.cell? ⟨eb, 20, none⟩ = some (.string v.at_) := HEW.out.he.cell rfl
 have HCP : Hid (SliceC CpyC 12 bs w4 d3 x.copies) := HOC.out.copies HZC.out (by unfold maxLen; omega)
 have HLX := iH HEW.out.hx.rangeA
 go_upto_region 35 with fail
 go_wp2_with (refine wpList_load_mid rfl 41 _ rfl gx 0 rfl [.bool x.pack, .slice d1 x.berths.length q1, .slice (some ⟨g2, 0, none⟩) x.services.length q2, .slice d3 x.copies.length q3] _ HLX.out Tryz.underlying41 rfl isz_Flt ?_)
 refine (l2Copy_any x d1 q1 (some ⟨g2, 0, none⟩) q2 d3 q3 bs v.name _ (HCP.out.below CpyC.holds (B := gx) HEW.out.h4 (Nat.le_of_eq HGX.out)) (by omega)).mono ?_
 rintro e w6 ⟨rfl, hb6⟩
 have HEW6 := iH (HEW.out.below hb6)
 clear hb6 k0 k19 k20 HEW HLX
 have k20 : w6.cell? ⟨eb, 20, none⟩ = some (.string v.at_) := HEW6.out.he.cell rfl
 have kx0 : w6.cell? ⟨gx, 0, none⟩ = some (.bool x.pack) := HEW6.out.hx.cell rfl
 have kx1 : w6.cell? ⟨gx, 1, none⟩ = some (.slice d1 x.berths.length q1) := HEW6.out.hx.cell rfl
 have kx2 : w6.cell? ⟨gx, 2, none⟩ = some (.slice (some ⟨g2, 0, none⟩) x.services.length q2) := HEW6.out.hx.cell rfl
 have kx3 : w6.cell? ⟨gx, 3, none⟩ = some (.slice d3 x.copies.length q3) := HEW6.out.hx.cell rfl
 have HG2 : Hid (w3.heap.size ≤ g2 ∨ x.services = []) := by
  rcases HS2.out.2 with h9 | ⟨b9, o9, e9, ⟨h8, _⟩, _⟩
  ·exact .inr h9
  ·cases e9
   exact .inl h8
 cases hj : lastOf (cpN x) v.name x.copies.length with
 | none =>
  have HEV : Hid (evF x v = none) := by
   show evF x v = none
   simp [evF, hkd, hj]
  rw [idxC_no hj]
  clear hj
  go_upto_region 37 with fail
  clear k20 kx0 kx1 kx2 kx3
  have HTR := iH HEW6.out.hr.there
  have HLX := iH HEW6.out.hx.rangeA
  obtain ⟨wz, HWZ⟩ : ∃ w', Hid (w' = w6.setCells rb 0 [.bool x.pack, .slice d1 x.berths.length q1, .slice (some ⟨g2, 0, none⟩) x.services.length q2, .slice d3 x.copies.length q3]) := ⟨_, rfl⟩
  have HRZ : Hid (wz.rangeAt rb 0 [.bool x.pack, .slice d1 x.berths.length q1, .slice (some ⟨g2, 0, none⟩) x.services.length q2, .slice d3 x.copies.length q3]) := by
   show World.rangeAt _ _ _ _
   rw [HWZ.out]
   exact World.rangeAt_setCells_same _ _ _ _ HTR.out
  have hBZ : Below w.heap.size w wz := by
   have k1 := HEW6.out.i1
   have k2 := HEW6.out.i2
   rw [HWZ.out]
   exact below_setCells (by omega) _ _ _ HEW6.out.hb
  go_wp2_with (first | (refine wpList_load_mid rfl 41 _ rfl gx 0 rfl [.bool x.pack, .slice d1 x.berths.length q1, .slice (some ⟨g2, 0, none⟩) x.services.length q2, .slice d3 x.copies.length q3] _ HLX.out Tryz.underlying41 rfl isz_Flt ?_) | (refine wpList_store_to rfl 41 _ _ rfl rb 0 #[.bool x.pack, .slice d1 x.berths.length q1, .slice (some ⟨g2, 0, none⟩) x.services.length q2, .slice d3 x.copies.length q3] rfl rfl HTR.out isz_Flt (by simp [Value.oneCell']) wz HWZ.out ?_))
  exact bodyPost_ret (results_ctV rfl _ _ rb [.bool x.pack, .slice d1 x.berths.length q1, .slice (some ⟨g2, 0, none⟩) x.services.length q2, .slice d3 x.copies.length q3] _ rfl HRZ.out Tryz.underlying41 rfl isz_Flt) rfl (.inl ⟨HEV.out, _, _, _, _, rfl, by simp [Value.oneCell'], hBZ⟩)
 | some k =>
  obtain ⟨hic, c, hc, hcn⟩ := idxC_some HAC.out hj
  rw [hic]
  have hk0 : ¬ ((k : Nat) : Int) < 0 := by omega
  have hkl := lt_of_some hc
  have HJ := iH hj
  have HKD := iH hkd
  clear hj hic hcn hkd
  have HSZ : Hid (SzC (x.copies.set k { c with at_ := v.at_ })) := by
   intro y hy
   have hz := HZC.out c (List.mem_of_getElem? hc)
   rcases List.mem_or_eq_of_mem_set hy with h | h
   ·exact HZC.out y h
   ·subst h
    exact ⟨hz.1, hz.2.1, hz.2.2.1, hz.2.2.2.1, hz.2.2.2.2.1, HZA.out⟩
  by_cases hat : v.at_ = noText
  ·have HEV : Hid (evF x v = some { x with copies := movL x.copies k v.at_ }) := by
    show evF x v = _
    simp [evF, HKD.out, HJ.out, hat]
   have ht := bts_eq hat
   have ht0 : v.at_.toList.isEmpty = true := by rw [hat, ByteArray.toList_eq]; rfl
   clear hat
   go_upto_region 38 with fail
   clear ht ht0 k20 kx0 kx1 kx2 kx3
   obtain ⟨g3, rfl⟩ : ∃ g3, d3 = some ⟨g3, 0, none⟩ := by
    obtain ⟨_, h9, _⟩ := HOC.out
    rcases SlF.of h9 with ⟨_, h8, _⟩ | ⟨g, h8, _⟩
    ·omega
    ·exact ⟨g, h8⟩
   have HOn : Hid (OwnC bs w6 (.slice (some ⟨g3, 0, none⟩) x.copies.length q3) x.copies) := HOC.out.below LikC.holds (by rw [HGX.out]; exact HEW6.out.h4)
   obtain ⟨hg3a, hg3b⟩ : bs ≤ g3 ∧ g3 < gx := by
    obtain ⟨_, h9, _⟩ := HOC.out
    have h8 := h9.lt g3 rfl
    rw [HGX.out] at h8
    exact h8
   obtain ⟨kz, fz⟩ : w6.cell? ⟨g3, k * 12 + 11, none⟩ = some (.string c.at_) ∧ w6.frozen? ⟨g3, k * 12 + 11, none⟩ = false := by
    obtain ⟨cs9, h9, h8⟩ := HOn.out
    obtain ⟨ae, ce, p1, _⟩ := h8 k c hc
    have h7 := p1 11 _ rfl
    have h6 := h9.cellAt (k * 12 + 11) (by have h5 := lt_of_some h7; have h4 := h9.1; omega)
    rw [h7] at h6
    exact ⟨by simpa using h6, by simpa using h9.frozenAt (k * 12 + 11)⟩
   have HKc : Hid (EvK x v am cm al cl gx eb rb bs H g2 (.slice d1 x.berths.length q1) (.slice (some ⟨g2, 0, none⟩) x.services.length q2) (.slice (some ⟨g3, 0, none⟩) x.copies.length q3) w wB w6) := ⟨HEW6.out.hx, HEW6.out.he, HEW6.out.hr, HEW6.out.hb, HKB.out.trans (Keeps.of_below HEW6.out.h4 (Nat.le_of_eq HGX.out) _), HS2.out.keep SvcC.holds (Keeps.of_below HEW6.out.h4 (Nat.le_of_eq HGX.out) _) hHw, HEW6.out.i1, HEW6.out.i2, (by have h9 := HRB.out; omega), HWB.out.1, HWB.out.2⟩
   have kx3 : w6.cell? ⟨gx, 3, none⟩ = some (.slice (some ⟨g3, 0, none⟩) x.copies.length q3) := HKc.out.hx.cell rfl
   have ke20 : w6.cell? ⟨eb, 20, none⟩ = some (.string v.at_) := HKc.out.he.cell rfl
   have i0 : (0 : Int) ≤ (k : Int) := by omega
   have i1 : (k : Int) < (x.copies.length : Int) := by omega
   have HK9 := iH (HKc.out.store hg3a hg3b (k * 12 + 11) (.string v.at_))
   have HO9 := iH (OwnC_at HOn.out hc v.at_)
   go_upto_region 39 with fail
   clear kx3 ke20 kz fz i0 i1 HKc HOn
   generalize w6.setCell ⟨g3, k * 12 + 11, none⟩ (.string v.at_) = w9 at *
   rw [List.length_set] at HO9
   have HTR := iH HK9.out.hr.there
   have HLX := iH HK9.out.hx.rangeA
   obtain ⟨wz, HWZ⟩ : ∃ w', Hid (w' = w9.setCells rb 0 [.bool x.pack, .slice d1 x.berths.length q1, .slice (some ⟨g2, 0, none⟩) x.services.length q2, .slice (some ⟨g3, 0, none⟩) x.copies.length q3]) := ⟨_, rfl⟩
   have HRZ : Hid (wz.rangeAt rb 0 [.bool x.pack, .slice d1 x.berths.length q1, .slice (some ⟨g2, 0, none⟩) x.services.length q2, .slice (some ⟨g3, 0, none⟩) x.copies.length q3]) := by
    show World.rangeAt _ _ _ _
    rw [HWZ.out]
    exact World.rangeAt_setCells_same _ _ _ _ HTR.out
   have hBZ : Below w.heap.size w wz := by
    have k1 := HK9.out.i1
    have k2 := HK9.out.i2
    rw [HWZ.out]
    exact below_setCells (by omega) _ _ _ HK9.out.hb
   have hRB : rb < H := by have h9 := HRB.out; omega
   have HKW : Hid (Keeps H wB wz) := by
    show Keeps _ _ _
    rw [HWZ.out]
    exact HK9.out.kb.trans (Keeps.setCells hRB _ _ _)
   have HSV : Hid (SliceC SvcC 2 w.heap.size wz (some ⟨g2, 0, none⟩) x.services) := by
    show SliceC _ _ _ _ _ _
    rw [HWZ.out]
    exact slice_grown SvcC.flat HK9.out.sv (grownBy_cells _ _ _) (fun b o e hn e2 => by cases e; have e3 : g2 = rb := Option.some.inj e2; rcases HG2.out with h7 | h7; (have h9 := HRB.out; omega); exact hn h7)
   have HOZ : Hid (OwnC bs wz (.slice (some ⟨g3, 0, none⟩) x.copies.length q3) (x.copies.set k { c with at_ := v.at_ })) := by
    show OwnN _ _ _ _ _ _ _ _ _ _
    rw [HWZ.out]
    exact HO9.out.kept LikC.flat (grownBy_cells _ _ _) (fun r e => by cases e; omega)
   have HML := iH (mov_set hc v.at_)
   have hml : (x.copies.set k { c with at_ := v.at_ }).length = x.copies.length := List.length_set
   go_wp2_with (first | (refine wpList_load_mid rfl 41 _ rfl gx 0 rfl [.bool x.pack, .slice d1 x.berths.length q1, .slice (some ⟨g2, 0, none⟩) x.services.length q2, .slice (some ⟨g3, 0, none⟩) x.copies.length q3] _ HLX.out Tryz.underlying41 rfl isz_Flt ?_) | (refine wpList_store_to rfl 41 _ _ rfl rb 0 #[.bool x.pack, .slice d1 x.berths.length q1, .slice (some ⟨g2, 0, none⟩) x.services.length q2, .slice (some ⟨g3, 0, none⟩) x.copies.length q3] rfl rfl HTR.out isz_Flt (by simp [Value.oneCell']) wz HWZ.out ?_))
   exact bodyPost_ret (results_ctV rfl _ _ rb [.bool x.pack, .slice d1 x.berths.length q1, .slice (some ⟨g2, 0, none⟩) x.services.length q2, .slice (some ⟨g3, 0, none⟩) x.copies.length q3] _ rfl HRZ.out Tryz.underlying41 rfl isz_Flt) rfl (.inr ⟨{ x with copies := movL x.copies k v.at_ }, d1, q1, some ⟨g2, 0, none⟩, q2, some ⟨g3, 0, none⟩, q3, HEV.out, (by show _ = Ending.returned (.tuple #[.agg #[_, _, _, .slice _ (movL x.copies k v.at_).length _], _]); rw [HML.out, hml]; rfl), (HS1.out.keep BrtC.holds HKW.out (Nat.le_trans hHw hH1)), HSV.out, (by show SliceC CpyC 12 _ _ _ (movL x.copies k v.at_); rw [HML.out]; exact (OwnN.copies (by rw [hml]; exact HOZ.out) HSZ.out (by rw [hml]; unfold maxLen; omega)).keep CpyC.holds (Keeps.refl _ _) (by omega)), hBZ⟩)
  ·have ht := bts_ne hat
   have ht0 : v.at_.toList.isEmpty = false := by
    cases he : v.at_.toList with
    | nil => exact absurd (by rw [ByteArray.toList_eq] at he; exact ByteArray.ext (Array.toList_inj.1 he)) hat
    | cons _ _ => rfl
   go_wp2_with fail
   refine (l2Berth_any x d1 q1 (some ⟨g2, 0, none⟩) q2 d3 q3 H v.at_ _ ((HS1.out.keep BrtC.holds (HKB.out.trans (Keeps.of_below HEW6.out.h4 (Nat.le_of_eq HGX.out) _)) nL)) (by omega)).mono ?_
   rintro e w7 ⟨rfl, hb7⟩
   have HEW7 := iH (HEW6.out.below hb7)
   clear hb7 k20 kx0 kx1 kx2 kx3 HEW6
   cases hj2 : lastOf (brN x) v.at_ x.berths.length with
   | none =>
    have HEV : Hid (evF x v = none) := by
     show evF x v = none
     simp [evF, HKD.out, hj2, hat]
    rw [idxB_no hj2]
    clear hj2
    go_upto_region 37 with fail
    clear ht ht0
    have HTR := iH HEW7.out.hr.there
    have HLX := iH HEW7.out.hx.rangeA
    obtain ⟨wz, HWZ⟩ : ∃ w', Hid (w' = w7.setCells rb 0 [.bool x.pack, .slice d1 x.berths.length q1, .slice (some ⟨g2, 0, none⟩) x.services.length q2, .slice d3 x.copies.length q3]) := ⟨_, rfl⟩
    have HRZ : Hid (wz.rangeAt rb 0 [.bool x.pack, .slice d1 x.berths.length q1, .slice (some ⟨g2, 0, none⟩) x.services.length q2, .slice d3 x.copies.length q3]) := by
     show World.rangeAt _ _ _ _
     rw [HWZ.out]
     exact World.rangeAt_setCells_same _ _ _ _ HTR.out
    have hBZ : Below w.heap.size w wz := by
     have k1 := HEW7.out.i1
     have k2 := HEW7.out.i2
     rw [HWZ.out]
     exact below_setCells (by omega) _ _ _ HEW7.out.hb
    go_wp2_with (first | (refine wpList_load_mid rfl 41 _ rfl gx 0 rfl [.bool x.pack, .slice d1 x.berths.length q1, .slice (some ⟨g2, 0, none⟩) x.services.length q2, .slice d3 x.copies.length q3] _ HLX.out Tryz.underlying41 rfl isz_Flt ?_) | (refine wpList_store_to rfl 41 _ _ rfl rb 0 #[.bool x.pack, .slice d1 x.berths.length q1, .slice (some ⟨g2, 0, none⟩) x.services.length q2, .slice d3 x.copies.length q3] rfl rfl HTR.out isz_Flt (by simp [Value.oneCell']) wz HWZ.out ?_))
    exact bodyPost_ret (results_ctV rfl _ _ rb [.bool x.pack, .slice d1 x.berths.length q1, .slice (some ⟨g2, 0, none⟩) x.services.length q2, .slice d3 x.copies.length q3] _ rfl HRZ.out Tryz.underlying41 rfl isz_Flt) rfl (.inl ⟨HEV.out, _, _, _, _, rfl, by simp [Value.oneCell'], hBZ⟩)
   | some kb =>
    have HEV : Hid (evF x v = some { x with copies := movL x.copies k v.at_ }) := by
     show evF x v = _
     simp [evF, HKD.out, HJ.out, hj2]
    rw [(idxB_some HAB.out hj2).1]
    have hkb : ¬ ((kb : Nat) : Int) < 0 := by omega
    clear hj2
    go_upto_region 38 with fail
    clear ht ht0 hkb
    obtain ⟨g3, rfl⟩ : ∃ g3, d3 = some ⟨g3, 0, none⟩ := by
     obtain ⟨_, h9, _⟩ := HOC.out
     rcases SlF.of h9 with ⟨_, h8, _⟩ | ⟨g, h8, _⟩
     ·omega
     ·exact ⟨g, h8⟩
    have HOn : Hid (OwnC bs w7 (.slice (some ⟨g3, 0, none⟩) x.copies.length q3) x.copies) := HOC.out.below LikC.holds (by rw [HGX.out]; exact HEW7.out.h4)
    obtain ⟨hg3a, hg3b⟩ : bs ≤ g3 ∧ g3 < gx := by
     obtain ⟨_, h9, _⟩ := HOC.out
     have h8 := h9.lt g3 rfl
     rw [HGX.out] at h8
     exact h8
    obtain ⟨kz, fz⟩ : w7.cell? ⟨g3, k * 12 + 11, none⟩ = some (.string c.at_) ∧ w7.frozen? ⟨g3, k * 12 + 11, none⟩ = false := by
     obtain ⟨cs9, h9, h8⟩ := HOn.out
     obtain ⟨ae, ce, p1, _⟩ := h8 k c hc
     have h7 := p1 11 _ rfl
     have h6 := h9.cellAt (k * 12 + 11) (by have h5 := lt_of_some h7; have h4 := h9.1; omega)
     rw [h7] at h6
     exact ⟨by simpa using h6, by simpa using h9.frozenAt (k * 12 + 11)⟩
    have HKc : Hid (EvK x v am cm al cl gx eb rb bs H g2 (.slice d1 x.berths.length q1) (.slice (some ⟨g2, 0, none⟩) x.services.length q2) (.slice (some ⟨g3, 0, none⟩) x.copies.length q3) w wB w7) := ⟨HEW7.out.hx, HEW7.out.he, HEW7.out.hr, HEW7.out.hb, HKB.out.trans (Keeps.of_below HEW7.out.h4 (Nat.le_of_eq HGX.out) _), HS2.out.keep SvcC.holds (Keeps.of_below HEW7.out.h4 (Nat.le_of_eq HGX.out) _) hHw, HEW7.out.i1, HEW7.out.i2, (by have h9 := HRB.out; omega), HWB.out.1, HWB.out.2⟩
    have kx3 : w7.cell? ⟨gx, 3, none⟩ = some (.slice (some ⟨g3, 0, none⟩) x.copies.length q3) := HKc.out.hx.cell rfl
    have ke20 : w7.cell? ⟨eb, 20, none⟩ = some (.string v.at_) := HKc.out.he.cell rfl
    have i0 : (0 : Int) ≤ (k : Int) := by omega
    have i1 : (k : Int) < (x.copies.length : Int) := by omega
    have HK9 := iH (HKc.out.store hg3a hg3b (k * 12 + 11) (.string v.at_))
    have HO9 := iH (OwnC_at HOn.out hc v.at_)
    go_upto_region 39 with fail
    clear kx3 ke20 kz fz i0 i1 HKc HOn
    generalize w7.setCell ⟨g3, k * 12 + 11, none⟩ (.string v.at_) = w9 at *
    rw [List.length_set] at HO9
    have HTR := iH HK9.out.hr.there
    have HLX := iH HK9.out.hx.rangeA
    obtain ⟨wz, HWZ⟩ : ∃ w', Hid (w' = w9.setCells rb 0 [.bool x.pack, .slice d1 x.berths.length q1, .slice (some ⟨g2, 0, none⟩) x.services.length q2, .slice (some ⟨g3, 0, none⟩) x.copies.length q3]) := ⟨_, rfl⟩
    have HRZ : Hid (wz.rangeAt rb 0 [.bool x.pack, .slice d1 x.berths.length q1, .slice (some ⟨g2, 0, none⟩) x.services.length q2, .slice (some ⟨g3, 0, none⟩) x.copies.length q3]) := by
     show World.rangeAt _ _ _ _
     rw [HWZ.out]
     exact World.rangeAt_setCells_same _ _ _ _ HTR.out
    have hBZ : Below w.heap.size w wz := by
     have k1 := HK9.out.i1
     have k2 := HK9.out.i2
     rw [HWZ.out]
     exact below_setCells (by omega) _ _ _ HK9.out.hb
    have hRB : rb < H := by have h9 := HRB.out; omega
    have HKW : Hid (Keeps H wB wz) := by
     show Keeps _ _ _
     rw [HWZ.out]
     exact HK9.out.kb.trans (Keeps.setCells hRB _ _ _)
    have HSV : Hid (SliceC SvcC 2 w.heap.size wz (some ⟨g2, 0, none⟩) x.services) := by
     show SliceC _ _ _ _ _ _
     rw [HWZ.out]
     exact slice_grown SvcC.flat HK9.out.sv (grownBy_cells _ _ _) (fun b o e hn e2 => by cases e; have e3 : g2 = rb := Option.some.inj e2; rcases HG2.out with h7 | h7; (have h9 := HRB.out; omega); exact hn h7)
    have HOZ : Hid (OwnC bs wz (.slice (some ⟨g3, 0, none⟩) x.copies.length q3) (x.copies.set k { c with at_ := v.at_ })) := by
     show OwnN _ _ _ _ _ _ _ _ _ _
     rw [HWZ.out]
     exact HO9.out.kept LikC.flat (grownBy_cells _ _ _) (fun r e => by cases e; omega)
    have HML := iH (mov_set hc v.at_)
    have hml : (x.copies.set k { c with at_ := v.at_ }).length = x.copies.length := List.length_set
    go_wp2_with (first | (refine wpList_load_mid rfl 41 _ rfl gx 0 rfl [.bool x.pack, .slice d1 x.berths.length q1, .slice (some ⟨g2, 0, none⟩) x.services.length q2, .slice (some ⟨g3, 0, none⟩) x.copies.length q3] _ HLX.out Tryz.underlying41 rfl isz_Flt ?_) | (refine wpList_store_to rfl 41 _ _ rfl rb 0 #[.bool x.pack, .slice d1 x.berths.length q1, .slice (some ⟨g2, 0, none⟩) x.services.length q2, .slice (some ⟨g3, 0, none⟩) x.copies.length q3] rfl rfl HTR.out isz_Flt (by simp [Value.oneCell']) wz HWZ.out ?_))
    exact bodyPost_ret (results_ctV rfl _ _ rb [.bool x.pack, .slice d1 x.berths.length q1, .slice (some ⟨g2, 0, none⟩) x.services.length q2, .slice (some ⟨g3, 0, none⟩) x.copies.length q3] _ rfl HRZ.out Tryz.underlying41 rfl isz_Flt) rfl (.inr ⟨{ x with copies := movL x.copies k v.at_ }, d1, q1, some ⟨g2, 0, none⟩, q2, some ⟨g3, 0, none⟩, q3, HEV.out, (by show _ = Ending.returned (.tuple #[.agg #[_, _, _, .slice _ (movL x.copies k v.at_).length _], _]); rw [HML.out, hml]; rfl), (HS1.out.keep BrtC.holds HKW.out (Nat.le_trans hHw hH1)), HSV.out, (by show SliceC CpyC 12 _ _ _ (movL x.copies k v.at_); rw [HML.out]; exact (OwnN.copies (by rw [hml]; exact HOZ.out) HSZ.out (by rw [hml]; unfold maxLen; omega)).keep CpyC.holds (Keeps.refl _ _) (by omega)), hBZ⟩)

end Go.Proofs.YtihnjndnkgnmaaaGreat
