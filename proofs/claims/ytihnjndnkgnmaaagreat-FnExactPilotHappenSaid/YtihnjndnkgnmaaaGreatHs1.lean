import Derived.Test.YtihnjndnkgnmaaaGreatTk0
import Derived.Test.YtihnjndnkgnmaaaGreatJ42
import Derived.Test.YtihnjndnkgnmaaaGreatJ43
import Derived.Test.YtihnjndnkgnmaaaGreatSp3
import Derived.Test.YtihnjndnkgnmaaaGreatJ29
namespace Go.Proofs.YtihnjndnkgnmaaaGreat
open Go.RowKit

theorem ev_none {x : Flt} {v : Evt} (h : evF x v = none) : 1 ≤ v.kind ∧ v.kind ≤ 5 := by
 by_cases hk : 1 ≤ v.kind ∧ v.kind ≤ 5
 ·exact hk
 ·unfold evF at h
  rw [if_neg (by omega), if_neg (by omega), if_neg (by omega), if_neg (by omega), if_neg (by omega)] at h
  cases h
theorem ev_in {x y : Flt} {v : Evt} (h : evF x v = some y) (h1 : validI x = true) (h2 : validI y = false) : 1 ≤ v.kind ∧ v.kind ≤ 5 := by
 by_cases hk : 1 ≤ v.kind ∧ v.kind ≤ 5
 ·exact hk
 ·unfold evF at h
  rw [if_neg (by omega), if_neg (by omega), if_neg (by omega), if_neg (by omega), if_neg (by omega)] at h
  cases h
  rw [h1] at h2
  cases h2
theorem ev_len {x y : Flt} {v : Evt} (h : evF x v = some y) (h1 : x.berths.length ≤ 12) (h2 : x.services.length ≤ 30) (h3 : x.copies.length ≤ 60) : y.berths.length ≤ 1048576 ∧ y.services.length ≤ 1048576 ∧ y.copies.length ≤ 1048576 := by
 unfold evF at h
 split at h
 ·cases h
  have := putN_len Brt.name x.berths v.berth
  exact ⟨by show (putN Brt.name x.berths v.berth).length ≤ _; omega, by show x.services.length ≤ _; omega, by show x.copies.length ≤ _; omega⟩
 ·split at h
  ·obtain ⟨k, _, e⟩ := Option.map_eq_some_iff.1 h
   subst e
   have := cut_len x.berths k
   exact ⟨by show (cutL x.berths k).length ≤ _; omega, by show x.services.length ≤ _; omega, by show (x.copies.map _).length ≤ _; rw [List.length_map]; omega⟩
  ·split at h
   ·cases h
    have := putN_len Cpy.name x.copies v.copy
    exact ⟨by show x.berths.length ≤ _; omega, by show x.services.length ≤ _; omega, by show (putN Cpy.name x.copies v.copy).length ≤ _; omega⟩
   ·split at h
    ·obtain ⟨k, _, e⟩ := Option.map_eq_some_iff.1 h
     subst e
     have := cut_len x.copies k
     exact ⟨by show x.berths.length ≤ _; omega, by show x.services.length ≤ _; omega, by show (cutL x.copies k).length ≤ _; omega⟩
    ·split at h
     ·split at h
      ·obtain ⟨k, _, e⟩ := Option.map_eq_some_iff.1 h
       subst e
       have := mov_len x.copies k v.at_
       exact ⟨by show x.berths.length ≤ _; omega, by show x.services.length ≤ _; omega, by show (movL x.copies k v.at_).length ≤ _; omega⟩
      ·cases h
     ·cases h
      exact ⟨by omega, by omega, by omega⟩

def HsR (y : Flt) (code : Int) (w : World) (e : Ending) (w' : World) : Prop :=
 ∃ (d1 : Option Addr) (q1 : Nat) (d2 : Option Addr) (q2 : Nat) (d3 : Option Addr) (q3 : Nat), e = .returned (.tuple #[.agg #[.bool y.pack, .slice d1 y.berths.length q1, .slice d2 y.services.length q2, .slice d3 y.copies.length q3], .int .i64 code]) ∧ SliceC BrtC 6 w.heap.size w' d1 y.berths ∧ SliceC SvcC 2 w.heap.size w' d2 y.services ∧ SliceC CpyC 12 w.heap.size w' d3 y.copies ∧ Below w.heap.size w w'

set_option maxHeartbeats 8000000 in
set_option maxRecDepth 100000 in
theorem specHappen_any (x : Flt) (v : Evt) (a1 : Option Addr) (c1 b2 o2 c2 : Nat) (a3 : Option Addr) (c3 : Nat) (am : Option Addr) (cm : Nat) (al : Option Addr) (cl lo : Nat) (w : World) (n1 : SliceC BrtC 6 lo w a1 x.berths) (n2 : SliceC SvcC 2 lo w (some ⟨b2, o2, none⟩) x.services) (n3 : SliceC CpyC 12 lo w a3 x.copies) (nm : SliceC StrC 1 lo w am v.berth.marks) (nl : SliceC LikC 2 lo w al v.copy.likes) (l1 : x.berths.length ≤ 1048576) (l2 : x.services.length ≤ 1048576) (l3 : x.copies.length ≤ 1048576) (hvm : v.berth.marks.length ≤ 1048576) (hvl : v.copy.likes.length ≤ 1048576) (z1 : SzB [v.berth]) (z3 : SzC [v.copy]) (za : v.at_.size ≤ maxLen) :
  Calls Tryz.prog 6 #[.agg #[.bool x.pack, .slice a1 x.berths.length c1, .slice (some ⟨b2, o2, none⟩) x.services.length c2, .slice a3 x.copies.length c3], .agg #[.int .i64 v.kind, .string v.berth.name, .string v.berth.zone, .slice am v.berth.marks.length cm, .int .i64 v.berth.room, .int .i64 v.berth.hold, .bool v.berth.closed, .string v.copy.name, .string v.copy.service, .int .i64 v.copy.rank, .int .i64 v.copy.born, .int .i64 v.copy.room, .int .i64 v.copy.hold, .string v.copy.select, .slice al v.copy.likes.length cl, .int .i64 v.copy.apart, .string v.copy.near, .string v.copy.fixed, .string v.copy.at_, .string v.name, .string v.at_]] w fun e w' => HsR (hapR x v).1 (hapR x v).2 w e w' := by
 have N1 := iH n1
 have N2 := iH n2
 have N3 := iH n3
 have NM := iH nm
 have NL := iH nl
 have HZ1 := iH z1
 have HZ3 := iH z3
 have HZA := iH za
 clear n1 n2 n3 nm nl z1 z3 za
 have h1 := Blk.alloc w #[.bool x.pack, .slice a1 x.berths.length c1, .slice (some ⟨b2, o2, none⟩) x.services.length c2, .slice a3 x.copies.length c3] 41
 have h2 : Blk (w.heap.size + 1) #[.int .i64 v.kind, .string v.berth.name, .string v.berth.zone, .slice am v.berth.marks.length cm, .int .i64 v.berth.room, .int .i64 v.berth.hold, .bool v.berth.closed, .string v.copy.name, .string v.copy.service, .int .i64 v.copy.rank, .int .i64 v.copy.born, .int .i64 v.copy.room, .int .i64 v.copy.hold, .string v.copy.select, .slice al v.copy.likes.length cl, .int .i64 v.copy.apart, .string v.copy.near, .string v.copy.fixed, .string v.copy.at_, .string v.name, .string v.at_] 50 ((w.alloc (Obj.cells #[.bool x.pack, .slice a1 x.berths.length c1, .slice (some ⟨b2, o2, none⟩) x.services.length c2, .slice a3 x.copies.length c3] 41)).alloc (Obj.cells #[.int .i64 v.kind, .string v.berth.name, .string v.berth.zone, .slice am v.berth.marks.length cm, .int .i64 v.berth.room, .int .i64 v.berth.hold, .bool v.berth.closed, .string v.copy.name, .string v.copy.service, .int .i64 v.copy.rank, .int .i64 v.copy.born, .int .i64 v.copy.room, .int .i64 v.copy.hold, .string v.copy.select, .slice al v.copy.likes.length cl, .int .i64 v.copy.apart, .string v.copy.near, .string v.copy.fixed, .string v.copy.at_, .string v.name, .string v.at_] 50)) := by
  have := Blk.alloc (w.alloc (Obj.cells #[.bool x.pack, .slice a1 x.berths.length c1, .slice (some ⟨b2, o2, none⟩) x.services.length c2, .slice a3 x.copies.length c3] 41)) #[.int .i64 v.kind, .string v.berth.name, .string v.berth.zone, .slice am v.berth.marks.length cm, .int .i64 v.berth.room, .int .i64 v.berth.hold, .bool v.berth.closed, .string v.copy.name, .string v.copy.service, .int .i64 v.copy.rank, .int .i64 v.copy.born, .int .i64 v.copy.room, .int .i64 v.copy.hold, .string v.copy.select, .slice al v.copy.likes.length cl, .int .i64 v.copy.apart, .string v.copy.near, .string v.copy.fixed, .string v.copy.at_, .string v.name, .string v.at_] 50
  simpa using this
 have HR3 : Hid (Blk (w.heap.size + 1 + 1) #[.bool false, .slice none 0 0, .slice none 0 0, .slice none 0 0] 41 (((w.alloc (Obj.cells #[.bool x.pack, .slice a1 x.berths.length c1, .slice (some ⟨b2, o2, none⟩) x.services.length c2, .slice a3 x.copies.length c3] 41)).alloc (Obj.cells #[.int .i64 v.kind, .string v.berth.name, .string v.berth.zone, .slice am v.berth.marks.length cm, .int .i64 v.berth.room, .int .i64 v.berth.hold, .bool v.berth.closed, .string v.copy.name, .string v.copy.service, .int .i64 v.copy.rank, .int .i64 v.copy.born, .int .i64 v.copy.room, .int .i64 v.copy.hold, .string v.copy.select, .slice al v.copy.likes.length cl, .int .i64 v.copy.apart, .string v.copy.near, .string v.copy.fixed, .string v.copy.at_, .string v.name, .string v.at_] 50)).alloc (Obj.cells #[.bool false, .slice none 0 0, .slice none 0 0, .slice none 0 0] 41))) := by
  have := Blk.alloc ((w.alloc (Obj.cells #[.bool x.pack, .slice a1 x.berths.length c1, .slice (some ⟨b2, o2, none⟩) x.services.length c2, .slice a3 x.copies.length c3] 41)).alloc (Obj.cells #[.int .i64 v.kind, .string v.berth.name, .string v.berth.zone, .slice am v.berth.marks.length cm, .int .i64 v.berth.room, .int .i64 v.berth.hold, .bool v.berth.closed, .string v.copy.name, .string v.copy.service, .int .i64 v.copy.rank, .int .i64 v.copy.born, .int .i64 v.copy.room, .int .i64 v.copy.hold, .string v.copy.select, .slice al v.copy.likes.length cl, .int .i64 v.copy.apart, .string v.copy.near, .string v.copy.fixed, .string v.copy.at_, .string v.name, .string v.at_] 50)) #[.bool false, .slice none 0 0, .slice none 0 0, .slice none 0 0] 41
  show Blk _ _ _ _
  simpa using this
 have HF3 : Hid (Blk w.heap.size #[.bool x.pack, .slice a1 x.berths.length c1, .slice (some ⟨b2, o2, none⟩) x.services.length c2, .slice a3 x.copies.length c3] 41 (((w.alloc (Obj.cells #[.bool x.pack, .slice a1 x.berths.length c1, .slice (some ⟨b2, o2, none⟩) x.services.length c2, .slice a3 x.copies.length c3] 41)).alloc (Obj.cells #[.int .i64 v.kind, .string v.berth.name, .string v.berth.zone, .slice am v.berth.marks.length cm, .int .i64 v.berth.room, .int .i64 v.berth.hold, .bool v.berth.closed, .string v.copy.name, .string v.copy.service, .int .i64 v.copy.rank, .int .i64 v.copy.born, .int .i64 v.copy.room, .int .i64 v.copy.hold, .string v.copy.select, .slice al v.copy.likes.length cl, .int .i64 v.copy.apart, .string v.copy.near, .string v.copy.fixed, .string v.copy.at_, .string v.name, .string v.at_] 50)).alloc (Obj.cells #[.bool false, .slice none 0 0, .slice none 0 0, .slice none 0 0] 41))) := (h1.below ((Below.refl _ _).alloc nL _) h1.lt).below ((Below.refl _ _).alloc nL _) (by simp; omega)
 have HE3 : Hid (Blk (w.heap.size + 1) #[.int .i64 v.kind, .string v.berth.name, .string v.berth.zone, .slice am v.berth.marks.length cm, .int .i64 v.berth.room, .int .i64 v.berth.hold, .bool v.berth.closed, .string v.copy.name, .string v.copy.service, .int .i64 v.copy.rank, .int .i64 v.copy.born, .int .i64 v.copy.room, .int .i64 v.copy.hold, .string v.copy.select, .slice al v.copy.likes.length cl, .int .i64 v.copy.apart, .string v.copy.near, .string v.copy.fixed, .string v.copy.at_, .string v.name, .string v.at_] 50 (((w.alloc (Obj.cells #[.bool x.pack, .slice a1 x.berths.length c1, .slice (some ⟨b2, o2, none⟩) x.services.length c2, .slice a3 x.copies.length c3] 41)).alloc (Obj.cells #[.int .i64 v.kind, .string v.berth.name, .string v.berth.zone, .slice am v.berth.marks.length cm, .int .i64 v.berth.room, .int .i64 v.berth.hold, .bool v.berth.closed, .string v.copy.name, .string v.copy.service, .int .i64 v.copy.rank, .int .i64 v.copy.born, .int .i64 v.copy.room, .int .i64 v.copy.hold, .string v.copy.select, .slice al v.copy.likes.length cl, .int .i64 v.copy.apart, .string v.copy.near, .string v.copy.fixed, .string v.copy.at_, .string v.name, .string v.at_] 50)).alloc (Obj.cells #[.bool false, .slice none 0 0, .slice none 0 0, .slice none 0 0] 41))) := h2.below ((Below.refl _ _).alloc nL _) h2.lt
 have hB3 : Below w.heap.size w (((w.alloc (Obj.cells #[.bool x.pack, .slice a1 x.berths.length c1, .slice (some ⟨b2, o2, none⟩) x.services.length c2, .slice a3 x.copies.length c3] 41)).alloc (Obj.cells #[.int .i64 v.kind, .string v.berth.name, .string v.berth.zone, .slice am v.berth.marks.length cm, .int .i64 v.berth.room, .int .i64 v.berth.hold, .bool v.berth.closed, .string v.copy.name, .string v.copy.service, .int .i64 v.copy.rank, .int .i64 v.copy.born, .int .i64 v.copy.room, .int .i64 v.copy.hold, .string v.copy.select, .slice al v.copy.likes.length cl, .int .i64 v.copy.apart, .string v.copy.near, .string v.copy.fixed, .string v.copy.at_, .string v.name, .string v.at_] 50)).alloc (Obj.cells #[.bool false, .slice none 0 0, .slice none 0 0, .slice none 0 0] 41)) := by go_grown
 clear h1 h2
 go_enter Tryz.func6, Tryz.ntmps6
 go_upto_region 1 with fail
 generalize (((w.alloc (Obj.cells #[.bool x.pack, .slice a1 x.berths.length c1, .slice (some ⟨b2, o2, none⟩) x.services.length c2, .slice a3 x.copies.length c3] 41)).alloc (Obj.cells #[.int .i64 v.kind, .string v.berth.name, .string v.berth.zone, .slice am v.berth.marks.length cm, .int .i64 v.berth.room, .int .i64 v.berth.hold, .bool v.berth.closed, .string v.copy.name, .string v.copy.service, .int .i64 v.copy.rank, .int .i64 v.copy.born, .int .i64 v.copy.room, .int .i64 v.copy.hold, .string v.copy.select, .slice al v.copy.likes.length cl, .int .i64 v.copy.apart, .string v.copy.near, .string v.copy.fixed, .string v.copy.at_, .string v.name, .string v.at_] 50)).alloc (Obj.cells #[.bool false, .slice none 0 0, .slice none 0 0, .slice none 0 0] 41)) = w3 at *
 go_wp2_with (refine wpList_load_mid rfl 41 _ rfl w.heap.size 0 rfl [.bool x.pack, .slice a1 x.berths.length c1, .slice (some ⟨b2, o2, none⟩) x.services.length c2, .slice a3 x.copies.length c3] _ HF3.out.rangeA Tryz.underlying41 rfl isz_Flt ?_)
 refine (specValid_any x a1 c1 (some ⟨b2, o2, none⟩) c2 a3 c3 lo _ (N1.out.below BrtC.holds hB3 nL) (N2.out.below SvcC.holds hB3 nL) (N3.out.below CpyC.holds hB3 nL) l1 l2 l3).mono ?_
 rintro e w4 ⟨rfl, hb4⟩
 rw [← valid_eq x l3]
 have HF4 := iH (HF3.out.below hb4 HF3.out.lt)
 have HE4 := iH (HE3.out.below hb4 HE3.out.lt)
 have HR4 := iH (HR3.out.below hb4 HR3.out.lt)
 have hB4 := hB3.trans (hb4.mono hB3.size)
 clear hb4 HF3 HE3 HR3 hB3
 cases hv : validI x with
 | false =>
  have HR := iH (hapR_1 (e := v) hv)
  clear hv
  have hr9 : (w.heap.size + 1 + 1) < w4.heap.size := HR4.out.lt
  have HTR := iH HR4.out.there
  obtain ⟨wz, HWZ⟩ : ∃ w', Hid (w' = w4.setCells (w.heap.size + 1 + 1) 0 [.bool false, .slice none 0 0, .slice none 0 0, .slice none 0 0]) := ⟨_, rfl⟩
  have HRZ : Hid (wz.rangeAt (w.heap.size + 1 + 1) 0 [.bool false, .slice none 0 0, .slice none 0 0, .slice none 0 0]) := by
   show World.rangeAt _ _ _ _
   rw [HWZ.out]
   exact World.rangeAt_setCells_same _ _ _ _ HTR.out
  have hBZ : Below w.heap.size w wz := by
   rw [HWZ.out]
   exact below_setCells (by omega) _ _ _ hB4
  go_wp2_with (first | (refine wpList_store_to rfl 41 _ _ rfl (w.heap.size + 1 + 1) 0 #[.bool false, .slice none 0 0, .slice none 0 0, .slice none 0 0] rfl rfl HTR.out isz_Flt (by simp [Value.oneCell']) wz HWZ.out ?_))
  exact bodyPost_ret (results_ct8 rfl _ _ (w.heap.size + 1 + 1) [.bool false, .slice none 0 0, .slice none 0 0, .slice none 0 0] _ rfl HRZ.out Tryz.underlying41 rfl isz_Flt) rfl (by show HsR _ _ _ _ _; rw [HR.out]; exact ⟨none, 0, none, 0, none, 0, rfl, SliceC.nil, SliceC.nil, SliceC.nil, hBZ⟩)
 | true =>
  have HV := iH hv
  obtain ⟨hlb, _⟩ := valid_more hv
  obtain ⟨hls, hlc, _⟩ := valid_parts hv
  have HSM := iH (sm_of (valid_small hv))
  have hr4 : (w.heap.size + 1 + 1) < w4.heap.size := HR4.out.lt
  clear hv
  go_wp2_with (first | (refine wpList_load_mid rfl 41 _ rfl w.heap.size 0 rfl [.bool x.pack, .slice a1 x.berths.length c1, .slice (some ⟨b2, o2, none⟩) x.services.length c2, .slice a3 x.copies.length c3] _ HF4.out.rangeA Tryz.underlying41 rfl isz_Flt ?_) | (refine wpList_load_mid rfl 50 _ rfl (w.heap.size + 1) 0 rfl [.int .i64 v.kind, .string v.berth.name, .string v.berth.zone, .slice am v.berth.marks.length cm, .int .i64 v.berth.room, .int .i64 v.berth.hold, .bool v.berth.closed, .string v.copy.name, .string v.copy.service, .int .i64 v.copy.rank, .int .i64 v.copy.born, .int .i64 v.copy.room, .int .i64 v.copy.hold, .string v.copy.select, .slice al v.copy.likes.length cl, .int .i64 v.copy.apart, .string v.copy.near, .string v.copy.fixed, .string v.copy.at_, .string v.name, .string v.at_] _ HE4.out.rangeA Tryz.underlying50 rfl isz_Evt ?_))
  refine (event_any x v a1 c1 b2 o2 c2 a3 c3 am cm al cl lo _ (N1.out.below BrtC.holds hB4 nL) (N2.out.below SvcC.holds hB4 nL) (N3.out.below CpyC.holds hB4 nL) (NM.out.below StrC.holds hB4 nL) (NL.out.below LikC.holds hB4 nL) HV.out hlb hls hlc (fun y hy => (HSM.out.1 y hy).1) (fun y hy => (HSM.out.2.2.1 y hy).1) hvm hvl HZ1.out HZ3.out HZA.out).mono ?_
  intro e w5 hres
  rcases hres with ⟨hn, u0, u1, u2, u3, rfl, hone, hb5⟩ | ⟨y, d1, q1, d2, q2, d3, q3, hn, rfl, hs1, hs2, hs3, hb5⟩
  ·skip
   have HR := iH (hapR_3 HV.out (ev_none hn) hn)
   have hB5 := hB4.trans (hb5.mono hB4.size)
   have HE5 := HE4.out.below hb5 HE4.out.lt
   have HR5 := HR4.out.below hb5 HR4.out.lt
   have hza : Blk w5.heap.size #[.bool false, .slice none 0 0, .slice none 0 0, .slice none 0 0] 41 (w5.alloc (Obj.cells #[.bool false, .slice none 0 0, .slice none 0 0, .slice none 0 0] 41)) := Blk.alloc _ _ _
   have HTS : Hid ((w5.alloc (Obj.cells #[.bool false, .slice none 0 0, .slice none 0 0, .slice none 0 0] 41)).there w5.heap.size 0 4) := hza.there
   obtain ⟨w6, HW6⟩ : ∃ w6, Hid (w6 = (w5.alloc (Obj.cells #[.bool false, .slice none 0 0, .slice none 0 0, .slice none 0 0] 41)).setCells w5.heap.size 0 [u0, u1, u2, u3]) := ⟨_, rfl⟩
   have hbx : Below w5.heap.size w5 w6 := by
    rw [HW6.out]
    exact below_setCells nL _ _ _ ((Below.refl _ w5).alloc nL _)
   have hk6 : Hid (Blk w5.heap.size #[u0, u1, u2, u3] 41 w6) := by
    show Blk _ _ _ _
    rw [HW6.out]
    exact hza.setAll #[u0, u1, u2, u3] rfl
   have HE6 := iH (HE5.below hbx HE5.lt)
   have HR6 := iH (HR5.below hbx HR5.lt)
   have hB6 := hB5.trans (hbx.mono hB5.size)
   go_upto_region 4 with (refine wpList_store_to rfl 41 _ _ rfl w5.heap.size 0 #[u0, u1, u2, u3] rfl rfl HTS.out isz_Flt hone w6 HW6.out ?_)
   clear hza HTS HW6 hbx hk6 HE6 HE5 HR5 hB5 hb5 hn hone
   go_upto_region 7 with fail
   have hr9 : (w.heap.size + 1 + 1) < w6.heap.size := HR6.out.lt
   have HTR := iH HR6.out.there
   obtain ⟨wz, HWZ⟩ : ∃ w', Hid (w' = w6.setCells (w.heap.size + 1 + 1) 0 [.bool false, .slice none 0 0, .slice none 0 0, .slice none 0 0]) := ⟨_, rfl⟩
   have HRZ : Hid (wz.rangeAt (w.heap.size + 1 + 1) 0 [.bool false, .slice none 0 0, .slice none 0 0, .slice none 0 0]) := by
    show World.rangeAt _ _ _ _
    rw [HWZ.out]
    exact World.rangeAt_setCells_same _ _ _ _ HTR.out
   have hBZ : Below w.heap.size w wz := by
    rw [HWZ.out]
    exact below_setCells (by omega) _ _ _ hB6
   go_wp2_with (first | (refine wpList_store_to rfl 41 _ _ rfl (w.heap.size + 1 + 1) 0 #[.bool false, .slice none 0 0, .slice none 0 0, .slice none 0 0] rfl rfl HTR.out isz_Flt (by simp [Value.oneCell']) wz HWZ.out ?_))
   exact bodyPost_ret (results_ct8 rfl _ _ (w.heap.size + 1 + 1) [.bool false, .slice none 0 0, .slice none 0 0, .slice none 0 0] _ rfl HRZ.out Tryz.underlying41 rfl isz_Flt) rfl (by show HsR _ _ _ _ _; rw [HR.out]; exact ⟨none, 0, none, 0, none, 0, rfl, SliceC.nil, SliceC.nil, SliceC.nil, hBZ⟩)
  ·skip
   have HEV := iH hn
   obtain ⟨m1, m2, m3⟩ := ev_len hn hlb hls hlc
   have hB5 := hB4.trans (hb5.mono hB4.size)
   have HE5 := HE4.out.below hb5 HE4.out.lt
   have HR5 := HR4.out.below hb5 HR4.out.lt
   have hza : Blk w5.heap.size #[.bool false, .slice none 0 0, .slice none 0 0, .slice none 0 0] 41 (w5.alloc (Obj.cells #[.bool false, .slice none 0 0, .slice none 0 0, .slice none 0 0] 41)) := Blk.alloc _ _ _
   have HTS : Hid ((w5.alloc (Obj.cells #[.bool false, .slice none 0 0, .slice none 0 0, .slice none 0 0] 41)).there w5.heap.size 0 4) := hza.there
   obtain ⟨w6, HW6⟩ : ∃ w6, Hid (w6 = (w5.alloc (Obj.cells #[.bool false, .slice none 0 0, .slice none 0 0, .slice none 0 0] 41)).setCells w5.heap.size 0 [.bool y.pack, .slice d1 y.berths.length q1, .slice d2 y.services.length q2, .slice d3 y.copies.length q3]) := ⟨_, rfl⟩
   have hbx : Below w5.heap.size w5 w6 := by
    rw [HW6.out]
    exact below_setCells nL _ _ _ ((Below.refl _ w5).alloc nL _)
   have hk6 : Hid (Blk w5.heap.size #[.bool y.pack, .slice d1 y.berths.length q1, .slice d2 y.services.length q2, .slice d3 y.copies.length q3] 41 w6) := by
    show Blk _ _ _ _
    rw [HW6.out]
    exact hza.setAll #[.bool y.pack, .slice d1 y.berths.length q1, .slice d2 y.services.length q2, .slice d3 y.copies.length q3] rfl
   have HE6 := iH (HE5.below hbx HE5.lt)
   have HR6 := iH (HR5.below hbx HR5.lt)
   have hB6 := hB5.trans (hbx.mono hB5.size)
   go_upto_region 4 with (refine wpList_store_to rfl 41 _ _ rfl w5.heap.size 0 #[.bool y.pack, .slice d1 y.berths.length q1, .slice d2 y.services.length q2, .slice d3 y.copies.length q3] rfl rfl HTS.out isz_Flt (by simp [Value.oneCell']) w6 HW6.out ?_)
   have HS1 := iH (hs1.below BrtC.holds hbx nL)
   have HS2 := iH (hs2.below SvcC.holds hbx nL)
   have HS3 := iH (hs3.below CpyC.holds hbx nL)
   have hws := hB4.size
   have hw5 := hb5.size
   clear hza HTS HW6 hbx HE5 HR5 hB5 hb5 hn hs1 hs2 hs3
   generalize w5.heap.size = gx at *
   have kx0 : w6.cell? ⟨gx, 0, none⟩ = some (.bool y.pack) := hk6.out.cell rfl
   have kx1 : w6.cell? ⟨gx, 1, none⟩ = some (.slice d1 y.berths.length q1) := hk6.out.cell rfl
   have kx2 : w6.cell? ⟨gx, 2, none⟩ = some (.slice d2 y.services.length q2) := hk6.out.cell rfl
   have kx3 : w6.cell? ⟨gx, 3, none⟩ = some (.slice d3 y.copies.length q3) := hk6.out.cell rfl
   go_wp2_with fail
   clear kx0 kx1 kx2 kx3
   refine (specValid_any y d1 q1 d2 q2 d3 q3 w4.heap.size _ HS1.out HS2.out HS3.out m1 m2 m3).mono ?_
   rintro e w7 ⟨rfl, hb7⟩
   rw [← valid_eq y m3]
   have HX7 := iH (hk6.out.below hb7 hk6.out.lt)
   have HE7 := iH (HE6.out.below hb7 HE6.out.lt)
   have HR7 := iH (HR6.out.below hb7 HR6.out.lt)
   have hB7 := hB6.trans (hb7.mono hB6.size)
   replace HS1 := iH (HS1.out.below BrtC.holds hb7 nL)
   replace HS2 := iH (HS2.out.below SvcC.holds hb7 nL)
   replace HS3 := iH (HS3.out.below CpyC.holds hb7 nL)
   clear hb7 HE6 HR6 hB6 hk6
   cases hvy : validI y with
   | false =>
    have HR := iH (hapR_2 HV.out (ev_in HEV.out HV.out hvy) HEV.out hvy)
    clear hvy
    have hr9 : (w.heap.size + 1 + 1) < w7.heap.size := HR7.out.lt
    have HTR := iH HR7.out.there
    obtain ⟨wz, HWZ⟩ : ∃ w', Hid (w' = w7.setCells (w.heap.size + 1 + 1) 0 [.bool false, .slice none 0 0, .slice none 0 0, .slice none 0 0]) := ⟨_, rfl⟩
    have HRZ : Hid (wz.rangeAt (w.heap.size + 1 + 1) 0 [.bool false, .slice none 0 0, .slice none 0 0, .slice none 0 0]) := by
     show World.rangeAt _ _ _ _
     rw [HWZ.out]
     exact World.rangeAt_setCells_same _ _ _ _ HTR.out
    have hBZ : Below w.heap.size w wz := by
     rw [HWZ.out]
     exact below_setCells (by omega) _ _ _ hB7
    go_wp2_with (first | (refine wpList_store_to rfl 41 _ _ rfl (w.heap.size + 1 + 1) 0 #[.bool false, .slice none 0 0, .slice none 0 0, .slice none 0 0] rfl rfl HTR.out isz_Flt (by simp [Value.oneCell']) wz HWZ.out ?_))
    exact bodyPost_ret (results_ct8 rfl _ _ (w.heap.size + 1 + 1) [.bool false, .slice none 0 0, .slice none 0 0, .slice none 0 0] _ rfl HRZ.out Tryz.underlying41 rfl isz_Flt) rfl (by show HsR _ _ _ _ _; rw [HR.out]; exact ⟨none, 0, none, 0, none, 0, rfl, SliceC.nil, SliceC.nil, SliceC.nil, hBZ⟩)
   | true =>
    have HVY := iH hvy
    clear hvy
    have k0 : w7.cell? ⟨w.heap.size + 1, 0, none⟩ = some (.int .i64 v.kind) := HE7.out.cell rfl
    go_wp2_with fail
    refine (in_any v.kind 1 5 _).mono ?_
    rintro e w8 ⟨rfl, rfl⟩
    clear k0
    by_cases hk : 1 ≤ v.kind ∧ v.kind ≤ 5
    ·have HR := iH (hapR_0 HV.out hk HEV.out HVY.out)
     have hin : inB v.kind 1 5 = true := decide_eq_true hk
     rw [hin]
     clear hk hin
     have hr9 : (w.heap.size + 1 + 1) < w8.heap.size := HR7.out.lt
     have HTR := iH HR7.out.there
     obtain ⟨wz, HWZ⟩ : ∃ w', Hid (w' = w8.setCells (w.heap.size + 1 + 1) 0 [.bool y.pack, .slice d1 y.berths.length q1, .slice d2 y.services.length q2, .slice d3 y.copies.length q3]) := ⟨_, rfl⟩
     have HRZ : Hid (wz.rangeAt (w.heap.size + 1 + 1) 0 [.bool y.pack, .slice d1 y.berths.length q1, .slice d2 y.services.length q2, .slice d3 y.copies.length q3]) := by
      show World.rangeAt _ _ _ _
      rw [HWZ.out]
      exact World.rangeAt_setCells_same _ _ _ _ HTR.out
     have hBZ : Below w.heap.size w wz := by
      rw [HWZ.out]
      exact below_setCells (by omega) _ _ _ hB7
     have HLX := iH HX7.out.rangeA
     have HKS : Hid (SliceC BrtC 6 w.heap.size wz d1 y.berths ∧ SliceC SvcC 2 w.heap.size wz d2 y.services ∧ SliceC CpyC 12 w.heap.size wz d3 y.copies) := by
      show _ ∧ _ ∧ _
      rw [HWZ.out]
      have hkk : Keeps w4.heap.size w8 (w8.setCells (w.heap.size + 1 + 1) 0 [.bool y.pack, .slice d1 y.berths.length q1, .slice d2 y.services.length q2, .slice d3 y.copies.length q3]) := Keeps.setCells hr4 _ _ _
      exact ⟨HS1.out.keep BrtC.holds hkk hws, HS2.out.keep SvcC.holds hkk hws, HS3.out.keep CpyC.holds hkk hws⟩
     go_wp2_with (first | (refine wpList_load_mid rfl 41 _ rfl gx 0 rfl [.bool y.pack, .slice d1 y.berths.length q1, .slice d2 y.services.length q2, .slice d3 y.copies.length q3] _ HLX.out Tryz.underlying41 rfl isz_Flt ?_) | (refine wpList_store_to rfl 41 _ _ rfl (w.heap.size + 1 + 1) 0 #[.bool y.pack, .slice d1 y.berths.length q1, .slice d2 y.services.length q2, .slice d3 y.copies.length q3] rfl rfl HTR.out isz_Flt (by simp [Value.oneCell']) wz HWZ.out ?_))
     exact bodyPost_ret (results_ct8 rfl _ _ (w.heap.size + 1 + 1) [.bool y.pack, .slice d1 y.berths.length q1, .slice d2 y.services.length q2, .slice d3 y.copies.length q3] _ rfl HRZ.out Tryz.underlying41 rfl isz_Flt) rfl (by show HsR _ _ _ _ _; rw [HR.out]; exact ⟨d1, q1, d2, q2, d3, q3, rfl, HKS.out.1, HKS.out.2.1, HKS.out.2.2, hBZ⟩)
    ·have HR := iH (hapR_4 HV.out hk)
     have hin : inB v.kind 1 5 = false := decide_eq_false hk
     rw [hin]
     clear hk hin
     have hr9 : (w.heap.size + 1 + 1) < w8.heap.size := HR7.out.lt
     have HTR := iH HR7.out.there
     obtain ⟨wz, HWZ⟩ : ∃ w', Hid (w' = w8.setCells (w.heap.size + 1 + 1) 0 [.bool false, .slice none 0 0, .slice none 0 0, .slice none 0 0]) := ⟨_, rfl⟩
     have HRZ : Hid (wz.rangeAt (w.heap.size + 1 + 1) 0 [.bool false, .slice none 0 0, .slice none 0 0, .slice none 0 0]) := by
      show World.rangeAt _ _ _ _
      rw [HWZ.out]
      exact World.rangeAt_setCells_same _ _ _ _ HTR.out
     have hBZ : Below w.heap.size w wz := by
      rw [HWZ.out]
      exact below_setCells (by omega) _ _ _ hB7
     go_wp2_with (first | (refine wpList_store_to rfl 41 _ _ rfl (w.heap.size + 1 + 1) 0 #[.bool false, .slice none 0 0, .slice none 0 0, .slice none 0 0] rfl rfl HTR.out isz_Flt (by simp [Value.oneCell']) wz HWZ.out ?_))
     exact bodyPost_ret (results_ct8 rfl _ _ (w.heap.size + 1 + 1) [.bool false, .slice none 0 0, .slice none 0 0, .slice none 0 0] _ rfl HRZ.out Tryz.underlying41 rfl isz_Flt) rfl (by show HsR _ _ _ _ _; rw [HR.out]; exact ⟨none, 0, none, 0, none, 0, rfl, SliceC.nil, SliceC.nil, SliceC.nil, hBZ⟩)

end Go.Proofs.YtihnjndnkgnmaaaGreat
