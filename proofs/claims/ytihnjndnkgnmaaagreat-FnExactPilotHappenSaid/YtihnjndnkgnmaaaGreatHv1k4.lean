import Derived.Test.YtihnjndnkgnmaaaGreatTk0
import Derived.Test.YtihnjndnkgnmaaaGreatTkw
import Derived.Test.YtihnjndnkgnmaaaGreatJ36
namespace Go.Proofs.YtihnjndnkgnmaaaGreat
open Go.RowKit

set_option maxHeartbeats 40000000 in
set_option maxRecDepth 100000 in
theorem event_k4 (x : Flt) (v : Evt) (a1 : Option Addr) (c1 b2 o2 c2 : Nat) (a3 : Option Addr) (c3 : Nat) (am : Option Addr) (cm : Nat) (al : Option Addr) (cl lo : Nat) (w : World) (n1 : SliceC BrtC 6 lo w a1 x.berths) (n2 : SliceC SvcC 2 lo w (some ⟨b2, o2, none⟩) x.services) (n3 : SliceC CpyC 12 lo w a3 x.copies) (nm : SliceC StrC 1 lo w am v.berth.marks) (nl : SliceC LikC 2 lo w al v.copy.likes) (hvx : validI x = true) (hlb : x.berths.length ≤ 12) (hls : x.services.length ≤ 30) (hlc : x.copies.length ≤ 60) (hmk : ∀ y ∈ x.berths, y.marks.length ≤ 1048576) (hlk : ∀ y ∈ x.copies, y.likes.length ≤ 1048576) (hvm : v.berth.marks.length ≤ 1048576) (hvl : v.copy.likes.length ≤ 1048576) (z1 : SzB [v.berth]) (z3 : SzC [v.copy]) (za : v.at_.size ≤ maxLen) (hk0 : Hid (v.kind = 4)) :
  Calls Tryz.prog 21 #[.agg #[.bool x.pack, .slice a1 x.berths.length c1, .slice (some ⟨b2, o2, none⟩) x.services.length c2, .slice a3 x.copies.length c3], .agg #[.int .i64 v.kind, .string v.berth.name, .string v.berth.zone, .slice am v.berth.marks.length cm, .int .i64 v.berth.room, .int .i64 v.berth.hold, .bool v.berth.closed, .string v.copy.name, .string v.copy.service, .int .i64 v.copy.rank, .int .i64 v.copy.born, .int .i64 v.copy.room, .int .i64 v.copy.hold, .string v.copy.select, .slice al v.copy.likes.length cl, .int .i64 v.copy.apart, .string v.copy.near, .string v.copy.fixed, .string v.copy.at_, .string v.name, .string v.at_]] w fun e w' => EvRes x v w e w' := by
 have HZB := iH (SzB.of n1)
 have HZC := iH (SzC.of n3)
 have HZ1 := iH z1
 have HZ3 := iH z3
 have HZA := iH za
 have N1 := iH n1
 have N2 := iH n2
 have N3 := iH n3
 have NM := iH nm
 have NL := iH nl
 have HV := iH hvx
 have HAB := iH (valid_more hvx).2.1
 have HAC := iH (valid_parts hvx).2.2.2.1
 have HMK := iH hmk
 have HLK := iH hlk
 clear n1 n2 n3 nm nl hvx hmk hlk z1 z3 za
 have h1 := Blk.alloc w #[.bool x.pack, .slice a1 x.berths.length c1, .slice (some ⟨b2, o2, none⟩) x.services.length c2, .slice a3 x.copies.length c3] 41
 have h2 : Blk (w.heap.size + 1) #[.int .i64 v.kind, .string v.berth.name, .string v.berth.zone, .slice am v.berth.marks.length cm, .int .i64 v.berth.room, .int .i64 v.berth.hold, .bool v.berth.closed, .string v.copy.name, .string v.copy.service, .int .i64 v.copy.rank, .int .i64 v.copy.born, .int .i64 v.copy.room, .int .i64 v.copy.hold, .string v.copy.select, .slice al v.copy.likes.length cl, .int .i64 v.copy.apart, .string v.copy.near, .string v.copy.fixed, .string v.copy.at_, .string v.name, .string v.at_] 50 ((w.alloc (Obj.cells #[.bool x.pack, .slice a1 x.berths.length c1, .slice (some ⟨b2, o2, none⟩) x.services.length c2, .slice a3 x.copies.length c3] 41)).alloc (Obj.cells #[.int .i64 v.kind, .string v.berth.name, .string v.berth.zone, .slice am v.berth.marks.length cm, .int .i64 v.berth.room, .int .i64 v.berth.hold, .bool v.berth.closed, .string v.copy.name, .string v.copy.service, .int .i64 v.copy.rank, .int .i64 v.copy.born, .int .i64 v.copy.room, .int .i64 v.copy.hold, .string v.copy.select, .slice al v.copy.likes.length cl, .int .i64 v.copy.apart, .string v.copy.near, .string v.copy.fixed, .string v.copy.at_, .string v.name, .string v.at_] 50)) := by
  have := Blk.alloc (w.alloc (Obj.cells #[.bool x.pack, .slice a1 x.berths.length c1, .slice (some ⟨b2, o2, none⟩) x.services.length c2, .slice a3 x.copies.length c3] 41)) #[.int .i64 v.kind, .string v.berth.name, .string v.berth.zone, .slice am v.berth.marks.length cm, .int .i64 v.berth.room, .int .i64 v.berth.hold, .bool v.berth.closed, .string v.copy.name, .string v.copy.service, .int .i64 v.copy.rank, .int .i64 v.copy.born, .int .i64 v.copy.room, .int .i64 v.copy.hold, .string v.copy.select, .slice al v.copy.likes.length cl, .int .i64 v.copy.apart, .string v.copy.near, .string v.copy.fixed, .string v.copy.at_, .string v.name, .string v.at_] 50
  simpa using this
 have HR3 : Hid (Blk (w.heap.size + 1 + 1) #[.bool false, .slice none 0 0, .slice none 0 0, .slice none 0 0] 41 (((w.alloc (Obj.cells #[.bool x.pack, .slice a1 x.berths.length c1, .slice (some ⟨b2, o2, none⟩) x.services.length c2, .slice a3 x.copies.length c3] 41)).alloc (Obj.cells #[.int .i64 v.kind, .string v.berth.name, .string v.berth.zone, .slice am v.berth.marks.length cm, .int .i64 v.berth.room, .int .i64 v.berth.hold, .bool v.berth.closed, .string v.copy.name, .string v.copy.service, .int .i64 v.copy.rank, .int .i64 v.copy.born, .int .i64 v.copy.room, .int .i64 v.copy.hold, .string v.copy.select, .slice al v.copy.likes.length cl, .int .i64 v.copy.apart, .string v.copy.near, .string v.copy.fixed, .string v.copy.at_, .string v.name, .string v.at_] 50)).alloc (Obj.cells #[.bool false, .slice none 0 0, .slice none 0 0, .slice none 0 0] 41))) := by
  have := Blk.alloc ((w.alloc (Obj.cells #[.bool x.pack, .slice a1 x.berths.length c1, .slice (some ⟨b2, o2, none⟩) x.services.length c2, .slice a3 x.copies.length c3] 41)).alloc (Obj.cells #[.int .i64 v.kind, .string v.berth.name, .string v.berth.zone, .slice am v.berth.marks.length cm, .int .i64 v.berth.room, .int .i64 v.berth.hold, .bool v.berth.closed, .string v.copy.name, .string v.copy.service, .int .i64 v.copy.rank, .int .i64 v.copy.born, .int .i64 v.copy.room, .int .i64 v.copy.hold, .string v.copy.select, .slice al v.copy.likes.length cl, .int .i64 v.copy.apart, .string v.copy.near, .string v.copy.fixed, .string v.copy.at_, .string v.name, .string v.at_] 50)) #[.bool false, .slice none 0 0, .slice none 0 0, .slice none 0 0] 41
  show Blk _ _ _ _
  simpa using this
 have HF3 : Hid (Blk w.heap.size #[.bool x.pack, .slice a1 x.berths.length c1, .slice (some ⟨b2, o2, none⟩) x.services.length c2, .slice a3 x.copies.length c3] 41 (((w.alloc (Obj.cells #[.bool x.pack, .slice a1 x.berths.length c1, .slice (some ⟨b2, o2, none⟩) x.services.length c2, .slice a3 x.copies.length c3] 41)).alloc (Obj.cells #[.int .i64 v.kind, .string v.berth.name, .string v.berth.zone, .slice am v.berth.marks.length cm, .int .i64 v.berth.room, .int .i64 v.berth.hold, .bool v.berth.closed, .string v.copy.name, .string v.copy.service, .int .i64 v.copy.rank, .int .i64 v.copy.born, .int .i64 v.copy.room, .int .i64 v.copy.hold, .string v.copy.select, .slice al v.copy.likes.length cl, .int .i64 v.copy.apart, .string v.copy.near, .string v.copy.fixed, .string v.copy.at_, .string v.name, .string v.at_] 50)).alloc (Obj.cells #[.bool false, .slice none 0 0, .slice none 0 0, .slice none 0 0] 41))) := (h1.below ((Below.refl _ _).alloc nL _) h1.lt).below ((Below.refl _ _).alloc nL _) (by simp; omega)
 have HE3 : Hid (Blk (w.heap.size + 1) #[.int .i64 v.kind, .string v.berth.name, .string v.berth.zone, .slice am v.berth.marks.length cm, .int .i64 v.berth.room, .int .i64 v.berth.hold, .bool v.berth.closed, .string v.copy.name, .string v.copy.service, .int .i64 v.copy.rank, .int .i64 v.copy.born, .int .i64 v.copy.room, .int .i64 v.copy.hold, .string v.copy.select, .slice al v.copy.likes.length cl, .int .i64 v.copy.apart, .string v.copy.near, .string v.copy.fixed, .string v.copy.at_, .string v.name, .string v.at_] 50 (((w.alloc (Obj.cells #[.bool x.pack, .slice a1 x.berths.length c1, .slice (some ⟨b2, o2, none⟩) x.services.length c2, .slice a3 x.copies.length c3] 41)).alloc (Obj.cells #[.int .i64 v.kind, .string v.berth.name, .string v.berth.zone, .slice am v.berth.marks.length cm, .int .i64 v.berth.room, .int .i64 v.berth.hold, .bool v.berth.closed, .string v.copy.name, .string v.copy.service, .int .i64 v.copy.rank, .int .i64 v.copy.born, .int .i64 v.copy.room, .int .i64 v.copy.hold, .string v.copy.select, .slice al v.copy.likes.length cl, .int .i64 v.copy.apart, .string v.copy.near, .string v.copy.fixed, .string v.copy.at_, .string v.name, .string v.at_] 50)).alloc (Obj.cells #[.bool false, .slice none 0 0, .slice none 0 0, .slice none 0 0] 41))) := h2.below ((Below.refl _ _).alloc nL _) h2.lt
 have hB3 : Below w.heap.size w (((w.alloc (Obj.cells #[.bool x.pack, .slice a1 x.berths.length c1, .slice (some ⟨b2, o2, none⟩) x.services.length c2, .slice a3 x.copies.length c3] 41)).alloc (Obj.cells #[.int .i64 v.kind, .string v.berth.name, .string v.berth.zone, .slice am v.berth.marks.length cm, .int .i64 v.berth.room, .int .i64 v.berth.hold, .bool v.berth.closed, .string v.copy.name, .string v.copy.service, .int .i64 v.copy.rank, .int .i64 v.copy.born, .int .i64 v.copy.room, .int .i64 v.copy.hold, .string v.copy.select, .slice al v.copy.likes.length cl, .int .i64 v.copy.apart, .string v.copy.near, .string v.copy.fixed, .string v.copy.at_, .string v.name, .string v.at_] 50)).alloc (Obj.cells #[.bool false, .slice none 0 0, .slice none 0 0, .slice none 0 0] 41)) := by go_grown
 clear h1 h2
 go_enter Tryz.func21, Tryz.ntmps21
 go_upto_region 1 with fail
 generalize (((w.alloc (Obj.cells #[.bool x.pack, .slice a1 x.berths.length c1, .slice (some ⟨b2, o2, none⟩) x.services.length c2, .slice a3 x.copies.length c3] 41)).alloc (Obj.cells #[.int .i64 v.kind, .string v.berth.name, .string v.berth.zone, .slice am v.berth.marks.length cm, .int .i64 v.berth.room, .int .i64 v.berth.hold, .bool v.berth.closed, .string v.copy.name, .string v.copy.service, .int .i64 v.copy.rank, .int .i64 v.copy.born, .int .i64 v.copy.room, .int .i64 v.copy.hold, .string v.copy.select, .slice al v.copy.likes.length cl, .int .i64 v.copy.apart, .string v.copy.near, .string v.copy.fixed, .string v.copy.at_, .string v.name, .string v.at_] 50)).alloc (Obj.cells #[.bool false, .slice none 0 0, .slice none 0 0, .slice none 0 0] 41)) = w3 at *
 go_wp2_with (refine wpList_load_mid rfl 41 _ rfl w.heap.size 0 rfl [.bool x.pack, .slice a1 x.berths.length c1, .slice (some ⟨b2, o2, none⟩) x.services.length c2, .slice a3 x.copies.length c3] _ HF3.out.rangeA Tryz.underlying41 rfl isz_Flt ?_)
 refine (fleetOf_any x a1 c1 b2 o2 c2 a3 c3 lo _ (N1.out.below BrtC.holds hB3 nL) (N2.out.below SvcC.holds hB3 nL) (N3.out.below CpyC.holds hB3 nL) (by omega) (by omega) (by omega) HMK.out HLK.out).mono ?_
 rintro e w4 ⟨d1, q1, g2, q2, d3, q3, bs, H, wB, rfl, hsf, hs1, hH1, hH2, hwB, hkB, hs2, hg2, hoc, hb4⟩
 have HSF := iH hsf
 have HS1 := iH hs1
 have HS2 := iH hs2
 have HOC := iH hoc
 have hHw : w.heap.size ≤ w3.heap.size := hB3.size
 have HRL : w.heap.size + 1 + 1 < w3.heap.size := HR3.out.lt
 have HKB := iH hkB
 have HWB := iH (And.intro hwB hg2)
 have hB4 := hB3.trans (hb4.mono hB3.size)
 have hW34 : w3.heap.size ≤ w4.heap.size := hb4.size
 have HE4 := HE3.out.below hb4 HE3.out.lt
 have HR4 := HR3.out.below hb4 HR3.out.lt
 have hr4 := HR4.lt
 have hza : Blk w4.heap.size #[.bool false, .slice none 0 0, .slice none 0 0, .slice none 0 0] 41 (w4.alloc (Obj.cells #[.bool false, .slice none 0 0, .slice none 0 0, .slice none 0 0] 41)) := Blk.alloc _ _ _
 have HTS : Hid ((w4.alloc (Obj.cells #[.bool false, .slice none 0 0, .slice none 0 0, .slice none 0 0] 41)).there w4.heap.size 0 4) := hza.there
 obtain ⟨w5, HW5⟩ : ∃ w5, Hid (w5 = (w4.alloc (Obj.cells #[.bool false, .slice none 0 0, .slice none 0 0, .slice none 0 0] 41)).setCells w4.heap.size 0 [.bool x.pack, .slice d1 x.berths.length q1, .slice (some ⟨g2, 0, none⟩) x.services.length q2, .slice d3 x.copies.length q3]) := ⟨_, rfl⟩
 have hbx : Below w4.heap.size w4 w5 := by
  rw [HW5.out]
  exact below_setCells nL _ _ _ ((Below.refl _ w4).alloc nL _)
 have hk5 : Blk w4.heap.size #[.bool x.pack, .slice d1 x.berths.length q1, .slice (some ⟨g2, 0, none⟩) x.services.length q2, .slice d3 x.copies.length q3] 41 w5 := by
  rw [HW5.out]
  exact hza.setAll #[.bool x.pack, .slice d1 x.berths.length q1, .slice (some ⟨g2, 0, none⟩) x.services.length q2, .slice d3 x.copies.length q3] rfl
 obtain ⟨gx, hgx⟩ : ∃ gx, gx = w4.heap.size := ⟨_, rfl⟩
 obtain ⟨eb, heb⟩ : ∃ eb, eb = w.heap.size + 1 := ⟨_, rfl⟩
 obtain ⟨rb, hrb⟩ : ∃ rb, rb = w.heap.size + 1 + 1 := ⟨_, rfl⟩
 have HEW : Hid (EvW x v am cm al cl gx eb rb (.slice d1 x.berths.length q1) (.slice (some ⟨g2, 0, none⟩) x.services.length q2) (.slice d3 x.copies.length q3) w w4 w5) := ⟨by rw [hgx]; exact hk5, by rw [heb]; exact HE4.below hbx HE4.lt, by rw [hrb]; exact HR4.below hbx HR4.lt, hB4.trans (hbx.mono hB4.size), by rw [hgx]; exact hbx, by omega, by omega, by omega, by omega⟩
 have HGX : Hid (w4.heap.size = gx) := hgx.symm
 go_upto_region 2 with (refine wpList_store_to rfl 41 _ _ rfl w4.heap.size 0 #[.bool x.pack, .slice d1 x.berths.length q1, .slice (some ⟨g2, 0, none⟩) x.services.length q2, .slice d3 x.copies.length q3] rfl rfl HTS.out isz_Flt (by simp [Value.oneCell']) w5 HW5.out ?_)
 clear HTS HW5 hza hbx hk5 HE4 HR4 hB4 HF3 HE3 HR3 hsf hs1 hs2 hoc hb4 hr4 hkB hwB hg2
 rw [← HGX.out] at hgx
 clear hgx
 rw [HGX.out, ← hrb, ← heb]
 have HRB0 : rb < w3.heap.size := by rw [hrb]; exact HRL
 clear heb hrb HRL
 have HRB : Hid (rb < w3.heap.size) := HRB0
 have _hv := And.intro hvm hvl
 clear _hv
 have hkd : v.kind = 4 := hk0.out
 have k0 : w5.cell? ⟨eb, 0, none⟩ = some (.int .i64 4) := by rw [← hkd]; exact HEW.out.he.cell rfl
 have k19 : w5.cell? ⟨eb, 19, none⟩ = some (.string v.name) := HEW.out.he.cell rfl
 have HCP : Hid (SliceC CpyC 12 bs w4 d3 x.copies) := HOC.out.copies HZC.out (by unfold maxLen; omega)
 have HLX := iH HEW.out.hx.rangeA
 go_upto_region 30 with fail
 go_wp2_with (refine wpList_load_mid rfl 41 _ rfl gx 0 rfl [.bool x.pack, .slice d1 x.berths.length q1, .slice (some ⟨g2, 0, none⟩) x.services.length q2, .slice d3 x.copies.length q3] _ HLX.out Tryz.underlying41 rfl isz_Flt ?_)
 refine (l2Copy_any x d1 q1 (some ⟨g2, 0, none⟩) q2 d3 q3 bs v.name _ (HCP.out.below CpyC.holds (B := gx) HEW.out.h4 (Nat.le_of_eq HGX.out)) (by omega)).mono ?_
 rintro e w6 ⟨rfl, hb6⟩
 have HEW6 := iH (HEW.out.below hb6)
 clear hb6 k0 k19 HEW HLX HCP
 cases hj : lastOf (cpN x) v.name x.copies.length with
 | none =>
  have HEV : Hid (evF x v = none) := by
   show evF x v = none
   simp [evF, hkd, hj]
  rw [idxC_no hj]
  clear hj
  go_upto_region 32 with fail
  have HTR := iH HEW6.out.hr.there
  have HLX := iH HEW6.out.hx.rangeA
  obtain ⟨wz, HWZ⟩ : ∃ w', Hid (w' = w6.setCells rb 0 [.bool x.pack, .slice d1 x.berths.length q1, .slice (some ⟨g2, 0, none⟩) x.services.length q2, .slice d3 x.copies.length q3]) := ⟨_, rfl⟩
  have HRZ : Hid (wz.rangeAt rb 0 [.bool x.pack, .slice d1 x.berths.length q1, .slice (some ⟨g2, 0, none⟩) x.services.length q2, .slice d3 x.copies.length q3]) := by
   show World.rangeAt _ _ _ _
   rw [HWZ.out]
   exact World.rangeAt_setCells_same _ _ _ _ HTR.out
  have hBZ : Below w.heap.size w wz := by
   have k1 := HEW6.out.i1
   have k2 := HEW6.out.i2
   rw [HWZ.out]
   exact below_setCells (by omega) _ _ _ HEW6.out.hb
  go_wp2_with (first | (refine wpList_load_mid rfl 41 _ rfl gx 0 rfl [.bool x.pack, .slice d1 x.berths.length q1, .slice (some ⟨g2, 0, none⟩) x.services.length q2, .slice d3 x.copies.length q3] _ HLX.out Tryz.underlying41 rfl isz_Flt ?_) | (refine wpList_store_to rfl 41 _ _ rfl rb 0 #[.bool x.pack, .slice d1 x.berths.length q1, .slice (some ⟨g2, 0, none⟩) x.services.length q2, .slice d3 x.copies.length q3] rfl rfl HTR.out isz_Flt (by simp [Value.oneCell']) wz HWZ.out ?_))
  exact bodyPost_ret (results_ctV rfl _ _ rb [.bool x.pack, .slice d1 x.berths.length q1, .slice (some ⟨g2, 0, none⟩) x.services.length q2, .slice d3 x.copies.length q3] _ rfl HRZ.out Tryz.underlying41 rfl isz_Flt) rfl (.inl ⟨HEV.out, _, _, _, _, rfl, by simp [Value.oneCell'], hBZ⟩)
 | some k =>
  obtain ⟨hic, c, hc, hcn⟩ := idxC_some HAC.out hj
  rw [hic]
  have hk0 : ¬ ((k : Nat) : Int) < 0 := by omega
  have hkl := lt_of_some hc
  have HEV : Hid (evF x v = some { x with copies := cutL x.copies k }) := by
   show evF x v = _
   simp [evF, hkd, hj]
  clear hj hic hcn hkd hc
  go_upto_region 33 with fail
  obtain ⟨i0, hi, hz0, hz1, hz2⟩ := info_parts info_Cpy
  have HII := iH hi
  clear hi
  obtain ⟨g3, rfl⟩ : ∃ g3, d3 = some ⟨g3, 0, none⟩ := by
   obtain ⟨_, h9, _⟩ := HOC.out
   rcases SlF.of h9 with ⟨_, h8, _⟩ | ⟨g, h8, _⟩
   ·omega
   ·exact ⟨g, h8⟩
  obtain ⟨hga, hgb, hcq, hcm⟩ : bs ≤ g3 ∧ g3 < gx ∧ x.copies.length ≤ q3 ∧ q3 ≤ maxLen := by
   obtain ⟨_, hco, _⟩ := HOC.out
   have h8 := hco.lt g3 rfl
   rw [HGX.out] at h8
   rcases SlF.of hco with ⟨h9, _⟩ | ⟨_, _, h9⟩
   ·cases h9
   ·exact ⟨h8.1, h8.2, h9⟩
  unfold maxLen at hcm
  obtain ⟨cs, hc1, hc2, hc3, hc4⟩ := cellsCpy (HOC.out.copies HZC.out (by unfold maxLen; omega))
  have HC1 := iH hc1
  have HC2 := iH hc2
  have HC3 := iH hc3
  have HC4 : Hid (EAt vCp Cpy.likes LikC 2 12 bs w4 cs x.copies) := hc4
  clear hc1 hc2 hc3 hc4
  have HCT : Hid (∀ wy, EvW x v am cm al cl gx eb rb (.slice d1 x.berths.length q1) (.slice (some ⟨g2, 0, none⟩) x.services.length q2) (.slice (some ⟨g3, 0, none⟩) x.copies.length q3) w w4 wy → ∀ o u, w4.cell? ⟨g3, o, none⟩ = some u → wy.cell? ⟨g3, o, none⟩ = some u) := fun wy hy o u h => (hy.h4.cell (p := ⟨g3, o, none⟩) hgb).trans h
  have HCW : Hid (∀ wy, EvW x v am cm al cl gx eb rb (.slice d1 x.berths.length q1) (.slice (some ⟨g2, 0, none⟩) x.services.length q2) (.slice (some ⟨g3, 0, none⟩) x.copies.length q3) w w4 wy → ∀ j u, cs[j]? = some u → wy.cell? ((⟨g3, 0, none⟩ : Addr).add j) = some u) := fun wy hy j u h => by
   have h9 := HC2.out j u h
   rw [Addr.add_mid] at h9 ⊢
   exact HCT.out wy hy _ u h9
  have HCW2 : Hid (∀ wy, EvW x v am cm al cl gx eb rb (.slice d1 x.berths.length q1) (.slice (some ⟨g2, 0, none⟩) x.services.length q2) (.slice (some ⟨g3, 0, none⟩) x.copies.length q3) w w4 wy → ∀ (r j : Nat) u, w4.cell? ((⟨g3, r, none⟩ : Addr).add j) = some u → wy.cell? ((⟨g3, r, none⟩ : Addr).add j) = some u) := fun wy hy r j u h => by
   rw [Addr.add_mid] at h ⊢
   exact HCT.out wy hy _ u h
  refine wp_region_until (S := fun wy => Blk gx #[.bool x.pack, .slice d1 x.berths.length q1, .slice (some ⟨g2, 0, none⟩) x.services.length q2, .slice (some ⟨g3, 0, none⟩) x.copies.length q3] 41 wy) 13 (by kernel_rfl) HEW6.out.hx.drew (fun hS => ?_)
  have HN := iH HEW6.out.drew
  clear HEW6
  generalize w6.drew = wn at *
  refine tv 1 ⟨some 180, _, _, _, _, none⟩ (.pointer (some ⟨gx, 3, none⟩)) rfl (by rfl) ?_ hS ?_
  ·intro wy hy
   clear hy
   go_simp
  simp only [pA,pB,pC,pD]
  refine tv 2 ⟨some 181, _, _, _, _, none⟩ (.slice (some ⟨g3, 0, none⟩) x.copies.length q3) rfl (by rfl) ?_ hS ?_
  ·intro wy hy
   have h0 : wy.cell? ⟨gx, 3, none⟩ = some (.slice (some ⟨g3, 0, none⟩) x.copies.length q3) := Blk.cell hy rfl
   clear hy
   go_simp
  simp only [pA,pB,pC,pD]
  refine tv 3 ⟨some 182, _, _, _, _, none⟩ (.int .i64 k) rfl (by rfl) ?_ hS ?_
  ·intro wy hy
   clear hy
   go_simp
  simp only [pA,pB,pC,pD]
  refine tv 4 ⟨some 183, _, _, _, _, none⟩ (.slice (some ⟨g3, 0, none⟩) k q3) rfl (by rfl) ?_ hS ?_
  ·intro wy hy
   clear hy
   (go_simp; try omega)
  simp only [pA,pB,pC,pD]
  refine tv 6 ⟨some 185, _, _, _, _, none⟩ (.pointer (some ⟨gx, 3, none⟩)) rfl (by rfl) ?_ hS ?_
  ·intro wy hy
   clear hy
   go_simp
  simp only [pA,pB,pC,pD]
  refine tv 7 ⟨some 186, _, _, _, _, none⟩ (.slice (some ⟨g3, 0, none⟩) x.copies.length q3) rfl (by rfl) ?_ hS ?_
  ·intro wy hy
   have h0 : wy.cell? ⟨gx, 3, none⟩ = some (.slice (some ⟨g3, 0, none⟩) x.copies.length q3) := Blk.cell hy rfl
   clear hy
   go_simp
  simp only [pA,pB,pC,pD]
  refine tv 8 ⟨some 187, _, _, _, _, none⟩ (.int .i64 k) rfl (by rfl) ?_ hS ?_
  ·intro wy hy
   clear hy
   go_simp
  simp only [pA,pB,pC,pD]
  refine tv 9 ⟨some 188, _, _, _, _, none⟩ (.int .i64 ((k + 1 : Nat) : Int)) rfl (by rfl) ?_ hS ?_
  ·intro wy hy
   clear hy
   first | (go_simp; done) | (go_simp; rw [IntKind.wrap_i64]; omega) | (go_simp; omega)
  simp only [pA,pB,pC,pD]
  obtain ⟨ro, hrb, hrc⟩ := rest_at (w := w4) (b := g3) (o := 0) (k := k + 1) (cap := q3) (len := x.copies.length) (n := 12) (cs := cs) HC1.out hcq (by omega) HC2.out
  have HRC := iH hrc
  clear hrc
  refine tv 10 ⟨some 189, _, _, _, _, none⟩ (.slice (some ⟨g3, ro, none⟩) (x.copies.length - (k + 1)) (q3 - (k + 1))) rfl (by rfl) ?_ hS ?_
  ·intro wy hy
   clear hy
   (rw [← hrb]; go_simp; try omega)
  simp only [pA,pB,pC,pD]
  clear hrb
  refine ru1 0 ⟨some 179, _, _, _, _, none⟩ rfl (fun KK hKK => ?_)
  go_simp
  have hal : Below wn.heap.size wn (wn.alloc (Obj.cells #[] 48)) := (Below.refl _ _).alloc nL _
  have HRw : Hid ((wn.alloc (Obj.cells #[] 48)).ownsRow wn.heap.size 48 12 (.slice (some ⟨wn.heap.size, 0, none⟩) 0 0) 0 []) := World.ownsRow_made wn #[] 0 nL (Nat.zero_le _) rfl
  have hgn : gx < wn.heap.size := HN.out.hx.lt
  replace HN := iH (HN.out.below hal)
  refine hKK.out _ _ HN.out.hx (fun hS => ?_)
  clear hKK KK hal
  generalize wn.heap.size = h0 at *
  generalize wn.alloc (Obj.cells #[] 48) = wo at *
  have HH0 : Hid (h0 ≤ wo.heap.size) := by have h9 := (HRw.out.lt h0 rfl).2; exact Nat.le_of_lt h9
  refine ru1 5 ⟨some 184, _, _, _, _, none⟩ rfl (fun KK hKK => ?_)
  rw [if_pos (by rfl)]
  refine wp_append_atD (.tmp 179) (.tmp 183) 39 (by rfl) h0 48 i0 _ 12 160 Tryz.underlying39 HII.out hz0 hz1 hz2 rfl (by decide) _ 0 _ (by rfl) HRw.out ⟨g3, 0, none⟩ k q3 (cs.take (k * 12)) (by rfl) (by rw [List.length_take, HC1.out]; have h9 := Nat.mul_le_mul_right 12 (Nat.le_of_lt hkl); omega) (fun j u hj => HCW.out wo HN.out j u (by have h9 := lt_of_some hj; simp only [List.length_take] at h9; rwa [List.getElem?_take_of_lt (by omega)] at hj)) (fun u hu => HC3.out u (List.mem_of_mem_take hu)) (by unfold maxLen; omega) (by omega) (by have h9 := HRw.out.lt; have h8 := HH0.out; exact h8) ?_
  intro v' wp hown hgrow hnil hblk
  have hv : v' ≠ .slice none 0 0 := (fun e => by have h9 := (hnil.1 e).1; cases h9)
  rw [Nat.zero_add, List.nil_append] at hown
  obtain ⟨e1, p1, rfl⟩ := rowf hown hv
  have hrow : ∀ r, Value.ownBlock _ = some r → gx < r := fun r e => Nat.lt_of_lt_of_le hgn (HRw.out.lt r e).1
  replace HN := iH (HN.out.grown hgrow hrow)
  replace HRw := iH hown
  have HH1 := iH (Nat.le_trans HH0.out hgrow.size)
  refine hKK.out _ _ HN.out.hx (fun hS => ?_)
  clear hKK KK hown hgrow hnil hblk hv hrow HH0
  have HH0 := HH1
  clear HH1
  simp only [pA,pB,pC,pD]
  refine ru1 11 ⟨some 190, _, _, _, _, none⟩ rfl (fun KK hKK => ?_)
  rw [if_pos (by rfl)]
  refine wp_append_atD (.tmp 184) (.tmp 189) 39 (by rfl) h0 48 i0 _ 12 160 Tryz.underlying39 HII.out hz0 hz1 hz2 rfl (by decide) _ k _ (by rfl) HRw.out ⟨g3, ro, none⟩ (x.copies.length - (k + 1)) (q3 - (k + 1)) (cs.drop ((k + 1) * 12)) (by rfl) (by rw [List.length_drop, HC1.out, Nat.sub_mul]) (fun j u hj => HCW2.out wp HN.out ro j u (HRC.out j u hj)) (fun u hu => HC3.out u (List.mem_of_mem_drop hu)) (by unfold maxLen; omega) (by omega) (by have h9 := HRw.out.lt; have h8 := HH0.out; exact h8) ?_
  intro v' wq hown hgrow hnil hblk
  have hv : v' ≠ .slice none 0 0 := (fun e => by have h9 := (hnil.1 e).1; cases h9)
  skip
  obtain ⟨e2, p2, rfl⟩ := rowf hown hv
  have hrow : ∀ r, Value.ownBlock _ = some r → gx < r := fun r e => Nat.lt_of_lt_of_le hgn (HRw.out.lt r e).1
  replace HN := iH (HN.out.grown hgrow hrow)
  replace HRw := iH hown
  have HH1 := iH (Nat.le_trans HH0.out hgrow.size)
  refine hKK.out _ _ HN.out.hx (fun hS => ?_)
  clear hKK KK hown hgrow hnil hblk hv hrow HH0
  have HH0 := HH1
  clear HH1
  simp only [pA,pB,pC,pD]
  refine tv 12 ⟨some 191, _, _, _, _, none⟩ (.pointer (some ⟨gx, 3, none⟩)) rfl (by rfl) ?_ hS ?_
  ·intro wy hy
   clear hy
   go_simp
  simp only [pA,pB,pC,pD]
  have kz := HN.out.hx.cell (o := 3) rfl
  have fz := HN.out.hx.frozen 3
  refine wpAnyU_ready (rs := [13]) (by kernel_rfl) (by simp) (AllReadyU.last (o := ⟨none, _, _, _, _, none⟩) rfl (fun KK hKK => ?_))
  go_simp
  clear kz fz
  have HN9 := iH (HN.out.set3 (.slice (some ⟨e2, 0, none⟩) (k + (x.copies.length - (k + 1))) p2))
  have HR9 := iH (kept_set (i := 3) HRw.out hgn (.slice (some ⟨e2, 0, none⟩) (k + (x.copies.length - (k + 1))) p2))
  refine hKK.out _ _ (wpAnyU_done (by kernel_rfl) ?_ _)
  clear hKK KK hS HN HRw
  generalize wq.setCell ⟨gx, 3, none⟩ (.slice (some ⟨e2, 0, none⟩) (k + (x.copies.length - (k + 1))) p2) = w9 at *
  have hcl : k + (x.copies.length - (k + 1)) = (cutL x.copies k).length := by unfold cutL; rw [List.length_append, List.length_take, List.length_drop]; omega
  rw [hcl] at HN9 HR9 ⊢
  go_upto_region 39 with fail
  have HTR := iH HN9.out.hr.there
  have HLX := iH HN9.out.hx.rangeA
  obtain ⟨wz, HWZ⟩ : ∃ w', Hid (w' = w9.setCells rb 0 [.bool x.pack, .slice d1 x.berths.length q1, .slice (some ⟨g2, 0, none⟩) x.services.length q2, .slice (some ⟨e2, 0, none⟩) (cutL x.copies k).length p2]) := ⟨_, rfl⟩
  have HRZ : Hid (wz.rangeAt rb 0 [.bool x.pack, .slice d1 x.berths.length q1, .slice (some ⟨g2, 0, none⟩) x.services.length q2, .slice (some ⟨e2, 0, none⟩) (cutL x.copies k).length p2]) := by
   show World.rangeAt _ _ _ _
   rw [HWZ.out]
   exact World.rangeAt_setCells_same _ _ _ _ HTR.out
  have hBZ : Below w.heap.size w wz := by
   have k1 := HN9.out.i1
   have k2 := HN9.out.i2
   rw [HWZ.out]
   exact below_setCells (by omega) _ _ _ HN9.out.hb
  have hRB : rb < w3.heap.size := HRB.out
  have HKV : Hid (Keeps w3.heap.size w4 wz) := by
   show Keeps _ _ _
   rw [HWZ.out]
   have h9 : Keeps w3.heap.size w4 w9 := Keeps.of_below HN9.out.h4 (Nat.le_of_eq HGX.out) _
   exact h9.trans (Keeps.setCells hRB _ _ _)
  have HKW : Hid (Keeps H wB wz) := HKB.out.trans (HKV.out.up hH1)
  have HRz : Hid (wz.ownsRow h0 48 12 (.slice (some ⟨e2, 0, none⟩) (cutL x.copies k).length p2) (cutL x.copies k).length (cs.take (k * 12) ++ cs.drop ((k + 1) * 12))) := by
   show World.ownsRow _ _ _ _ _ _ _
   rw [HWZ.out]
   exact kept_rows HR9.out (by have h9 := HN9.out.i3; omega) _
  have HEz : Hid (EAt vCp Cpy.likes LikC 2 12 bs wz (cs.take (k * 12) ++ cs.drop ((k + 1) * 12)) (cutL x.copies k)) := by
   show EAt _ _ _ _ _ _ _ _ _
   have e1 := HC4.out.take vCp_len k
   have e3 := HC4.out.drop (k + 1)
   have e4 := e1.app vCp_len (by rw [List.length_take, List.length_take, HC1.out, Nat.min_eq_left (Nat.le_of_lt hkl), Nat.min_eq_left (Nat.mul_le_mul_right 12 (Nat.le_of_lt hkl))]) e3
   exact e4.keep LikC.holds (HKV.out.up (Nat.le_trans hH1 hH2))
  obtain ⟨d9, q9, e9, hsl⟩ := rowCpy HRz.out (by omega) HEz.out (fun y hy => HZC.out y (cut_mem hy)) (by have h9 := cut_len x.copies k; unfold maxLen; omega)
  have e8 : some ⟨e2, 0, none⟩ = d9 := by injection e9
  subst e8
  have HSL := iH hsl
  clear hsl e9
  go_wp2_with (first | (refine wpList_load_mid rfl 41 _ rfl gx 0 rfl [.bool x.pack, .slice d1 x.berths.length q1, .slice (some ⟨g2, 0, none⟩) x.services.length q2, .slice (some ⟨e2, 0, none⟩) (cutL x.copies k).length p2] _ HLX.out Tryz.underlying41 rfl isz_Flt ?_) | (refine wpList_store_to rfl 41 _ _ rfl rb 0 #[.bool x.pack, .slice d1 x.berths.length q1, .slice (some ⟨g2, 0, none⟩) x.services.length q2, .slice (some ⟨e2, 0, none⟩) (cutL x.copies k).length p2] rfl rfl HTR.out isz_Flt (by simp [Value.oneCell']) wz HWZ.out ?_))
  exact bodyPost_ret (results_ctV rfl _ _ rb [.bool x.pack, .slice d1 x.berths.length q1, .slice (some ⟨g2, 0, none⟩) x.services.length q2, .slice (some ⟨e2, 0, none⟩) (cutL x.copies k).length p2] _ rfl HRZ.out Tryz.underlying41 rfl isz_Flt) rfl (.inr ⟨{ x with copies := cutL x.copies k }, d1, q1, some ⟨g2, 0, none⟩, q2, some ⟨e2, 0, none⟩, p2, HEV.out, rfl, (HS1.out.keep BrtC.holds HKW.out (Nat.le_trans hHw hH1)), (HS2.out.keep SvcC.holds HKV.out hHw), HSL.out.keep CpyC.holds (Keeps.refl _ _) (by omega), hBZ⟩)

end Go.Proofs.YtihnjndnkgnmaaaGreat
