import Derived.Test.YtihnjndnkgnmaaaGreatJ4
import Derived.Test.YtihnjndnkgnmaaaGreatJ50
namespace Go.Proofs.YtihnjndnkgnmaaaGreat
open Go.RowKit

theorem iszL_Flt : (Tryz.prog.info? 26).map (·.size) = some 4 := by kernel_rfl
theorem iszL_Evt : (Tryz.prog.info? 34).map (·.size) = some 21 := by kernel_rfl
theorem range_lt {w : World} {g : Nat} {v : Value} {l : List Value} (h : w.rangeAt g 0 (v :: l)) : g < w.heap.size := block_lt_of_cell (h 0 v rfl)
theorem range_next {w w' : World} {g : Nat} {v : Value} {l : List Value} (h : w.rangeAt g 0 (v :: l)) (hb : Below w.heap.size w w') : w'.rangeAt g 0 (v :: l) := range_belowV h hb (range_lt h)
theorem range_keeps {w w' : World} {g H : Nat} {l : List Value} (h : w.rangeAt g 0 l) (hk : Keeps H w w') (hH : H ≤ g) : w'.rangeAt g 0 l := fun j v hj => (hk.2 g (0 + j) hH (block_lt_of_cell (h j v hj))).1.trans (h j v hj)

set_option maxHeartbeats 32000000 in
set_option maxRecDepth 100000 in
theorem law_any (x : Flt) (a1 : Option Addr) (c1 : Nat) (a2 : Option Addr) (c2 : Nat) (a3 : Option Addr) (c3 : Nat) (v : Evt) (am : Option Addr) (cm : Nat) (al : Option Addr) (cl lo : Nat) (w : World) (n1 : SliceC BrtC 6 lo w a1 x.berths) (n2 : SliceC SvcC 2 lo w a2 x.services) (n3 : SliceC CpyC 12 lo w a3 x.copies) (nm : SliceC StrC 1 lo w am v.berth.marks) (nl : SliceC LikC 2 lo w al v.copy.likes) (z1 : v.berth.name.size ≤ maxLen) (z2 : v.berth.zone.size ≤ maxLen) (z7 : v.copy.name.size ≤ maxLen) (z8 : v.copy.service.size ≤ maxLen) (z13 : v.copy.select.size ≤ maxLen) (z16 : v.copy.near.size ≤ maxLen) (z17 : v.copy.fixed.size ≤ maxLen) (z18 : v.copy.at_.size ≤ maxLen) (z19 : v.name.size ≤ maxLen) (z20 : v.at_.size ≤ maxLen) :
  Calls Tryz.prog 3 #[.agg #[.bool x.pack, .slice a1 x.berths.length c1, .slice a2 x.services.length c2, .slice a3 x.copies.length c3], .agg #[.int .i64 v.kind, .string v.berth.name, .string v.berth.zone, .slice am v.berth.marks.length cm, .int .i64 v.berth.room, .int .i64 v.berth.hold, .bool v.berth.closed, .string v.copy.name, .string v.copy.service, .int .i64 v.copy.rank, .int .i64 v.copy.born, .int .i64 v.copy.room, .int .i64 v.copy.hold, .string v.copy.select, .slice al v.copy.likes.length cl, .int .i64 v.copy.apart, .string v.copy.near, .string v.copy.fixed, .string v.copy.at_, .string v.name, .string v.at_]] w fun e w' => e = .returned (.bool true) ∧ Below w.heap.size w w' := by
 have N1 := iH n1
 have N2 := iH n2
 have N3 := iH n3
 have NM := iH nm
 have NL := iH nl
 have Z1 := iH z1
 have Z2 := iH z2
 have Z7 := iH z7
 have Z8 := iH z8
 have Z13 := iH z13
 have Z16 := iH z16
 have Z17 := iH z17
 have Z18 := iH z18
 have Z19 := iH z19
 have Z20 := iH z20
 clear n1 n2 n3 nm nl z1 z2 z7 z8 z13 z16 z17 z18 z19 z20
 have hb0 : Below (w.alloc (Obj.cells #[.bool x.pack, .slice a1 x.berths.length c1, .slice a2 x.services.length c2, .slice a3 x.copies.length c3] 26)).heap.size (w.alloc (Obj.cells #[.bool x.pack, .slice a1 x.berths.length c1, .slice a2 x.services.length c2, .slice a3 x.copies.length c3] 26)) ((w.alloc (Obj.cells #[.bool x.pack, .slice a1 x.berths.length c1, .slice a2 x.services.length c2, .slice a3 x.copies.length c3] 26)).alloc (Obj.cells #[.int .i64 v.kind, .string v.berth.name, .string v.berth.zone, .slice am v.berth.marks.length cm, .int .i64 v.berth.room, .int .i64 v.berth.hold, .bool v.berth.closed, .string v.copy.name, .string v.copy.service, .int .i64 v.copy.rank, .int .i64 v.copy.born, .int .i64 v.copy.room, .int .i64 v.copy.hold, .string v.copy.select, .slice al v.copy.likes.length cl, .int .i64 v.copy.apart, .string v.copy.near, .string v.copy.fixed, .string v.copy.at_, .string v.name, .string v.at_] 34)) := (Below.refl _ _).alloc nL _
 have HA : Hid (((w.alloc (Obj.cells #[.bool x.pack, .slice a1 x.berths.length c1, .slice a2 x.services.length c2, .slice a3 x.copies.length c3] 26)).alloc (Obj.cells #[.int .i64 v.kind, .string v.berth.name, .string v.berth.zone, .slice am v.berth.marks.length cm, .int .i64 v.berth.room, .int .i64 v.berth.hold, .bool v.berth.closed, .string v.copy.name, .string v.copy.service, .int .i64 v.copy.rank, .int .i64 v.copy.born, .int .i64 v.copy.room, .int .i64 v.copy.hold, .string v.copy.select, .slice al v.copy.likes.length cl, .int .i64 v.copy.apart, .string v.copy.near, .string v.copy.fixed, .string v.copy.at_, .string v.name, .string v.at_] 34)).rangeAt w.heap.size 0 [.bool x.pack, .slice a1 x.berths.length c1, .slice a2 x.services.length c2, .slice a3 x.copies.length c3]) := ((Blk.alloc w #[.bool x.pack, .slice a1 x.berths.length c1, .slice a2 x.services.length c2, .slice a3 x.copies.length c3] 26).below hb0 (Blk.alloc w #[.bool x.pack, .slice a1 x.berths.length c1, .slice a2 x.services.length c2, .slice a3 x.copies.length c3] 26).lt).rangeA
 have HP : Hid (((w.alloc (Obj.cells #[.bool x.pack, .slice a1 x.berths.length c1, .slice a2 x.services.length c2, .slice a3 x.copies.length c3] 26)).alloc (Obj.cells #[.int .i64 v.kind, .string v.berth.name, .string v.berth.zone, .slice am v.berth.marks.length cm, .int .i64 v.berth.room, .int .i64 v.berth.hold, .bool v.berth.closed, .string v.copy.name, .string v.copy.service, .int .i64 v.copy.rank, .int .i64 v.copy.born, .int .i64 v.copy.room, .int .i64 v.copy.hold, .string v.copy.select, .slice al v.copy.likes.length cl, .int .i64 v.copy.apart, .string v.copy.near, .string v.copy.fixed, .string v.copy.at_, .string v.name, .string v.at_] 34)).rangeAt (w.heap.size + 1) 0 [.int .i64 v.kind, .string v.berth.name, .string v.berth.zone, .slice am v.berth.marks.length cm, .int .i64 v.berth.room, .int .i64 v.berth.hold, .bool v.berth.closed, .string v.copy.name, .string v.copy.service, .int .i64 v.copy.rank, .int .i64 v.copy.born, .int .i64 v.copy.room, .int .i64 v.copy.hold, .string v.copy.select, .slice al v.copy.likes.length cl, .int .i64 v.copy.apart, .string v.copy.near, .string v.copy.fixed, .string v.copy.at_, .string v.name, .string v.at_]) := by
  have := Blk.alloc (w.alloc (Obj.cells #[.bool x.pack, .slice a1 x.berths.length c1, .slice a2 x.services.length c2, .slice a3 x.copies.length c3] 26)) #[.int .i64 v.kind, .string v.berth.name, .string v.berth.zone, .slice am v.berth.marks.length cm, .int .i64 v.berth.room, .int .i64 v.berth.hold, .bool v.berth.closed, .string v.copy.name, .string v.copy.service, .int .i64 v.copy.rank, .int .i64 v.copy.born, .int .i64 v.copy.room, .int .i64 v.copy.hold, .string v.copy.select, .slice al v.copy.likes.length cl, .int .i64 v.copy.apart, .string v.copy.near, .string v.copy.fixed, .string v.copy.at_, .string v.name, .string v.at_] 34
  have h9 : Blk (w.heap.size + 1) #[.int .i64 v.kind, .string v.berth.name, .string v.berth.zone, .slice am v.berth.marks.length cm, .int .i64 v.berth.room, .int .i64 v.berth.hold, .bool v.berth.closed, .string v.copy.name, .string v.copy.service, .int .i64 v.copy.rank, .int .i64 v.copy.born, .int .i64 v.copy.room, .int .i64 v.copy.hold, .string v.copy.select, .slice al v.copy.likes.length cl, .int .i64 v.copy.apart, .string v.copy.near, .string v.copy.fixed, .string v.copy.at_, .string v.name, .string v.at_] 34 ((w.alloc (Obj.cells #[.bool x.pack, .slice a1 x.berths.length c1, .slice a2 x.services.length c2, .slice a3 x.copies.length c3] 26)).alloc (Obj.cells #[.int .i64 v.kind, .string v.berth.name, .string v.berth.zone, .slice am v.berth.marks.length cm, .int .i64 v.berth.room, .int .i64 v.berth.hold, .bool v.berth.closed, .string v.copy.name, .string v.copy.service, .int .i64 v.copy.rank, .int .i64 v.copy.born, .int .i64 v.copy.room, .int .i64 v.copy.hold, .string v.copy.select, .slice al v.copy.likes.length cl, .int .i64 v.copy.apart, .string v.copy.near, .string v.copy.fixed, .string v.copy.at_, .string v.name, .string v.at_] 34)) := by simpa using this
  exact h9.rangeA
 have hB : Below w.heap.size w ((w.alloc (Obj.cells #[.bool x.pack, .slice a1 x.berths.length c1, .slice a2 x.services.length c2, .slice a3 x.copies.length c3] 26)).alloc (Obj.cells #[.int .i64 v.kind, .string v.berth.name, .string v.berth.zone, .slice am v.berth.marks.length cm, .int .i64 v.berth.room, .int .i64 v.berth.hold, .bool v.berth.closed, .string v.copy.name, .string v.copy.service, .int .i64 v.copy.rank, .int .i64 v.copy.born, .int .i64 v.copy.room, .int .i64 v.copy.hold, .string v.copy.select, .slice al v.copy.likes.length cl, .int .i64 v.copy.apart, .string v.copy.near, .string v.copy.fixed, .string v.copy.at_, .string v.name, .string v.at_] 34)) := by go_grown
 clear hb0
 go_enter Tryz.func3, Tryz.ntmps3
 go_upto_region 1 with fail
 generalize ((w.alloc (Obj.cells #[.bool x.pack, .slice a1 x.berths.length c1, .slice a2 x.services.length c2, .slice a3 x.copies.length c3] 26)).alloc (Obj.cells #[.int .i64 v.kind, .string v.berth.name, .string v.berth.zone, .slice am v.berth.marks.length cm, .int .i64 v.berth.room, .int .i64 v.berth.hold, .bool v.berth.closed, .string v.copy.name, .string v.copy.service, .int .i64 v.copy.rank, .int .i64 v.copy.born, .int .i64 v.copy.room, .int .i64 v.copy.hold, .string v.copy.select, .slice al v.copy.likes.length cl, .int .i64 v.copy.apart, .string v.copy.near, .string v.copy.fixed, .string v.copy.at_, .string v.name, .string v.at_] 34)) = w0 at *
 go_wp2_with (refine wpList_load_mid rfl 26 _ rfl w.heap.size 0 rfl [.bool x.pack, .slice a1 x.berths.length c1, .slice a2 x.services.length c2, .slice a3 x.copies.length c3] _ HA.out Tryz.underlying26 rfl iszL_Flt ?_)
 refine (szFlt_any x a1 c1 a2 c2 a3 c3 lo 1048576 _ (N1.out.below BrtC.holds (B := w.heap.size) hB nL) (N2.out.below SvcC.holds (B := w.heap.size) hB nL) (N3.out.below CpyC.holds (B := w.heap.size) hB nL) (by omega) (by omega)).mono ?_
 rintro e w1 ⟨rfl, hb⟩
 replace HA : Hid (w1.rangeAt w.heap.size 0 [.bool x.pack, .slice a1 x.berths.length c1, .slice a2 x.services.length c2, .slice a3 x.copies.length c3]) := range_next HA.out hb
 replace HP : Hid (w1.rangeAt (w.heap.size + 1) 0 [.int .i64 v.kind, .string v.berth.name, .string v.berth.zone, .slice am v.berth.marks.length cm, .int .i64 v.berth.room, .int .i64 v.berth.hold, .bool v.berth.closed, .string v.copy.name, .string v.copy.service, .int .i64 v.copy.rank, .int .i64 v.copy.born, .int .i64 v.copy.room, .int .i64 v.copy.hold, .string v.copy.select, .slice al v.copy.likes.length cl, .int .i64 v.copy.apart, .string v.copy.near, .string v.copy.fixed, .string v.copy.at_, .string v.name, .string v.at_]) := range_next HP.out hb
 replace hB : Below w.heap.size w w1 := hB.trans (hb.mono hB.size)
 clear hb
 by_cases hz : ((wFlt x : Nat) : Int) ≤ 1048576
 case neg =>
  rw [szR_neg hz]
  go_wp2_with fail
  go_ret
  exact ⟨rfl, hB⟩
 rw [szR_pos hz]
 have HM : Hid (wFlt x ≤ 1048576) := by show _ ≤ _; omega
 have hz0 : (0 : Int) ≤ 1048576 - (wFlt x : Nat) := by omega
 obtain ⟨R, hR⟩ : ∃ R : Int, R = 1048576 - (wFlt x : Nat) := ⟨_, rfl⟩
 rw [← hR] at hz0 ⊢
 have hR1 : R ≤ 1048576 := by omega
 clear hz hR
 go_wp2_with (refine wpList_load_mid rfl 34 _ rfl (w.heap.size + 1) 0 rfl [.int .i64 v.kind, .string v.berth.name, .string v.berth.zone, .slice am v.berth.marks.length cm, .int .i64 v.berth.room, .int .i64 v.berth.hold, .bool v.berth.closed, .string v.copy.name, .string v.copy.service, .int .i64 v.copy.rank, .int .i64 v.copy.born, .int .i64 v.copy.room, .int .i64 v.copy.hold, .string v.copy.select, .slice al v.copy.likes.length cl, .int .i64 v.copy.apart, .string v.copy.near, .string v.copy.fixed, .string v.copy.at_, .string v.name, .string v.at_] _ HP.out Tryz.underlying34 rfl iszL_Evt ?_)
 refine (szEvt_any v am cm al cl lo R _ Z1.out Z2.out Z7.out Z8.out Z13.out Z16.out Z17.out Z18.out Z19.out Z20.out (NM.out.below StrC.holds (B := w.heap.size) hB nL) (NL.out.below LikC.holds (B := w.heap.size) hB nL) hz0 hR1).mono ?_
 rintro e w2 ⟨rfl, hb⟩
 replace HA : Hid (w2.rangeAt w.heap.size 0 [.bool x.pack, .slice a1 x.berths.length c1, .slice a2 x.services.length c2, .slice a3 x.copies.length c3]) := range_next HA.out hb
 replace HP : Hid (w2.rangeAt (w.heap.size + 1) 0 [.int .i64 v.kind, .string v.berth.name, .string v.berth.zone, .slice am v.berth.marks.length cm, .int .i64 v.berth.room, .int .i64 v.berth.hold, .bool v.berth.closed, .string v.copy.name, .string v.copy.service, .int .i64 v.copy.rank, .int .i64 v.copy.born, .int .i64 v.copy.room, .int .i64 v.copy.hold, .string v.copy.select, .slice al v.copy.likes.length cl, .int .i64 v.copy.apart, .string v.copy.near, .string v.copy.fixed, .string v.copy.at_, .string v.name, .string v.at_]) := range_next HP.out hb
 replace hB : Below w.heap.size w w2 := hB.trans (hb.mono hB.size)
 clear hb
 by_cases hz : ((wEvt v : Nat) : Int) ≤ R
 case neg =>
  rw [szR_neg hz]
  go_wp2_with fail
  go_ret
  exact ⟨rfl, hB⟩
 rw [szR_pos hz]
 have HMQ : Hid (wEvt v ≤ 1048576) := by show _ ≤ _; omega
 have hz1 : (0 : Int) ≤ R - (wEvt v : Nat) := by omega
 clear hz
 generalize R - (wEvt v : Nat) = R2 at *
 obtain ⟨⟨y, cd⟩, hy⟩ : ∃ p, hapR x v = p := ⟨_, rfl⟩
 have HY := iH hy
 have HMY : Hid (wFlt y ≤ 1048576) := by have h9 := hapR_small x v; rw [hy] at h9; exact h9
 clear hy
 go_upto_region 8 with fail
 clear hz0 hz1 hR1
 have zA : w.heap.size < w2.heap.size := range_lt HA.out
 have zP : w.heap.size + 1 < w2.heap.size := range_lt HP.out
 go_cut [6, 7] (fun v0 u0 wz => ∃ (ga : Nat) (b1 : Option Addr) (q1 : Nat) (b2 : Option Addr) (q2 : Nat) (b3 : Option Addr) (q3 : Nat), v0 = .pointer (some ⟨ga, 0, none⟩) ∧ u0 = .int .i64 cd ∧ Hid (wz.rangeAt ga 0 [.bool y.pack, .slice b1 y.berths.length q1, .slice b2 y.services.length q2, .slice b3 y.copies.length q3]) ∧ Hid (SliceC BrtC 6 0 wz b1 y.berths) ∧ Hid (SliceC SvcC 2 0 wz b2 y.services) ∧ Hid (SliceC CpyC 12 0 wz b3 y.copies) ∧ Hid (Below w2.heap.size w2 wz))
 case first =>
  as_aux_lemma =>
   refine wp_region_held_drew (S := fun wy => wy.rangeAt w.heap.size 0 [.bool x.pack, .slice a1 x.berths.length c1, .slice a2 x.services.length c2, .slice a3 x.copies.length c3] ∧ wy.rangeAt (w.heap.size + 1) 0 [.int .i64 v.kind, .string v.berth.name, .string v.berth.zone, .slice am v.berth.marks.length cm, .int .i64 v.berth.room, .int .i64 v.berth.hold, .bool v.berth.closed, .string v.copy.name, .string v.copy.service, .int .i64 v.copy.rank, .int .i64 v.copy.born, .int .i64 v.copy.room, .int .i64 v.copy.hold, .string v.copy.select, .slice al v.copy.likes.length cl, .int .i64 v.copy.apart, .string v.copy.near, .string v.copy.fixed, .string v.copy.at_, .string v.name, .string v.at_]) (by kernel_rfl) ⟨range_drew HA.out, range_drew HP.out⟩ (fun hS => ?_)
   have HB : Hid (Below w2.heap.size w2 w2.drew) := (Below.refl _ _).drew
   generalize w2.drew = wb at *
   refine tm 0 28 w.heap.size 0 [.bool x.pack, .slice a1 x.berths.length c1, .slice a2 x.services.length c2, .slice a3 x.copies.length c3] rfl (fun _ h => h.1) Tryz.underlying26 iszL_Flt hS ?_
   simp only [pA,pB,pC,pD]
   refine tk 2 ⟨some 30, _, _, _, _, none⟩ (.agg #[.int .i64 v.kind, .string v.berth.name, .string v.berth.zone, .slice am v.berth.marks.length cm, .int .i64 v.berth.room, .int .i64 v.berth.hold, .bool v.berth.closed, .string v.copy.name, .string v.copy.service, .int .i64 v.copy.rank, .int .i64 v.copy.born, .int .i64 v.copy.room, .int .i64 v.copy.hold, .string v.copy.select, .slice al v.copy.likes.length cl, .int .i64 v.copy.apart, .string v.copy.near, .string v.copy.fixed, .string v.copy.at_, .string v.name, .string v.at_]) rfl (yieldsIf_load_mid (by rfl) _ _ rfl (w.heap.size + 1) (0) rfl [.int .i64 v.kind, .string v.berth.name, .string v.berth.zone, .slice am v.berth.marks.length cm, .int .i64 v.berth.room, .int .i64 v.berth.hold, .bool v.berth.closed, .string v.copy.name, .string v.copy.service, .int .i64 v.copy.rank, .int .i64 v.copy.born, .int .i64 v.copy.room, .int .i64 v.copy.hold, .string v.copy.select, .slice al v.copy.likes.length cl, .int .i64 v.copy.apart, .string v.copy.near, .string v.copy.fixed, .string v.copy.at_, .string v.name, .string v.at_] _ (fun _ h => h.2) Tryz.underlying34 rfl iszL_Evt) hS ?_
   simp only [pA,pB,pC,pD]
   refine wpAnyH_ready (rs := [1, 8]) (by kernel_rfl) (by simp) (AllReadyH.cons (o := ⟨some 29, _, _, _, _, none⟩) rfl (fun K hK => ?_) (AllReadyH.cons (o := ⟨some 6, _, _, _, _, none⟩) rfl (fun K hK => ?_) AllReadyH.nil))
   ·skip
    have hBc := hB.trans (HB.out.mono hB.size)
    go_simp
    refine (toFlt_any x a1 c1 a2 c2 a3 c3 lo _ (N1.out.below BrtC.holds (B := w.heap.size) hBc nL) (N2.out.below SvcC.holds (B := w.heap.size) hBc nL) (N3.out.below CpyC.holds (B := w.heap.size) hBc nL) HM.out).mono ?_
    rintro e wbm ⟨g1, g2, g3, rfl, p1, p2, p3, hb⟩
    replace HB := iH (HB.out.trans (hb.mono HB.out.size))
    have P1 := iH p1
    have P2 := iH p2
    have P3 := iH p3
    refine hK.out _ _ ⟨range_belowV HA.out HB.out zA, range_belowV HP.out HB.out zP⟩ (fun hS => ?_)
    clear hK K hb hBc p1 p2 p3
    refine wpAnyH_ready (rs := [3, 8]) (by kernel_rfl) (by simp) (AllReadyH.cons (o := ⟨some 31, _, _, _, _, none⟩) rfl (fun K hK => ?_) (AllReadyH.cons (o := ⟨some 6, _, _, _, _, none⟩) rfl (fun K hK => ?_) AllReadyH.nil))
    ·skip
     have hBc := hB.trans (HB.out.mono hB.size)
     go_simp
     refine (toEvt_any v am cm al cl lo _ (NM.out.below StrC.holds (B := w.heap.size) hBc nL) (NL.out.below LikC.holds (B := w.heap.size) hBc nL) HMQ.out).mono ?_
     rintro e wbmp ⟨gm, gl, rfl, pm, pl, hb⟩
     replace HB := iH (HB.out.trans (hb.mono HB.out.size))
     replace P1 := iH (P1.out.below BrtC.holds hb nL)
     replace P2 := iH (P2.out.below SvcC.holds hb nL)
     replace P3 := iH (P3.out.below CpyC.holds hb nL)
     have PM := iH pm
     have PL := iH pl
     refine hK.out _ _ ⟨range_belowV HA.out HB.out zA, range_belowV HP.out HB.out zP⟩ (fun hS => ?_)
     clear hK K hb hBc pm pl
     refine wpAnyH_ready (rs := [4, 8]) (by kernel_rfl) (by simp) (AllReadyH.cons (o := ⟨some 32, _, _, _, _, none⟩) rfl (fun K hK => ?_) (AllReadyH.cons (o := ⟨some 6, _, _, _, _, none⟩) rfl (fun K hK => ?_) AllReadyH.nil))
     ·skip
      go_simp
      refine (specH HY.out HM.out HMQ.out g1 g2 g3 gm gl 0 _ (P1.out.keep BrtC.holds (Keeps.refl _ _) (Nat.zero_le _)) (P2.out.keep SvcC.holds (Keeps.refl _ _) (Nat.zero_le _)) (P3.out.keep CpyC.holds (Keeps.refl _ _) (Nat.zero_le _)) (PM.out.keep StrC.holds (Keeps.refl _ _) (Nat.zero_le _)) (PL.out.keep LikC.holds (Keeps.refl _ _) (Nat.zero_le _))).mono ?_
      rintro e wbmpc ⟨b1, q1, b2, q2, b3, q3, rfl, o1, o2, o3, hb⟩
      replace HB := iH (HB.out.trans (hb.mono HB.out.size))
      have O1 := iH o1
      have O2 := iH o2
      have O3 := iH o3
      refine hK.out _ _ ⟨range_belowV HA.out HB.out zA, range_belowV HP.out HB.out zP⟩ (fun hS => ?_)
      clear hK K hb o1 o2 o3 P1 P2 P3 PM PL
      refine tz 5 27 (.tuple #[.agg #[.bool y.pack, .slice b1 y.berths.length q1, .slice b2 y.services.length q2, .slice b3 y.copies.length q3], .int .i64 cd]) rfl hS ?_
      simp only [pA,pB,pC,pD]
      refine tz 6 33 (.agg #[.bool y.pack, .slice b1 y.berths.length q1, .slice b2 y.services.length q2, .slice b3 y.copies.length q3]) rfl hS ?_
      simp only [pA,pB,pC,pD]
      refine tz 7 34 (.int .i64 cd) rfl hS ?_
      simp only [pA,pB,pC,pD]
      refine rd1 8 ⟨some 6, _, _, _, _, none⟩ rfl (fun K hK => ?_)
      go_simp
      have HG := iH (Blk.alloc wbmpc #[.bool false, .slice none 0 0, .slice none 0 0, .slice none 0 0] 41)
      have hb : Below wbmpc.heap.size wbmpc (wbmpc.alloc (Obj.cells #[.bool false, .slice none 0 0, .slice none 0 0, .slice none 0 0] 41)) := (Below.refl _ _).alloc nL _
      have hga : w2.heap.size ≤ wbmpc.heap.size := HB.out.size
      replace HB := iH (HB.out.trans (hb.mono HB.out.size))
      have hbA := iH hb
      refine hK.out _ _ ⟨range_belowV HA.out HB.out zA, range_belowV HP.out HB.out zP⟩ (fun hS => ?_)
      clear hK K hb
      generalize wbmpc.alloc (Obj.cells #[.bool false, .slice none 0 0, .slice none 0 0, .slice none 0 0] 41) = wbmpca at *
      refine rd1 9 ⟨none, _, _, _, _, none⟩ rfl (fun K hK => ?_)
      rw [if_pos (by rfl)]
      refine wp_store_mid 41 (.tmp 6) (.tmp 33) (by rfl) (wbmpc.heap.size) 0 #[.bool y.pack, .slice b1 y.berths.length q1, .slice b2 y.services.length q2, .slice b3 y.copies.length q3] (by rfl) (by rfl) HG.out.there isz_Flt (by simp [Value.oneCell']) ?_
      have HR : Hid ((wbmpca.setCells wbmpc.heap.size 0 [.bool y.pack, .slice b1 y.berths.length q1, .slice b2 y.services.length q2, .slice b3 y.copies.length q3]).rangeAt (wbmpc.heap.size) 0 [.bool y.pack, .slice b1 y.berths.length q1, .slice b2 y.services.length q2, .slice b3 y.copies.length q3]) := (HG.out.setAll #[.bool y.pack, .slice b1 y.berths.length q1, .slice b2 y.services.length q2, .slice b3 y.copies.length q3] rfl).rangeA
      replace O1 : Hid (SliceC BrtC 6 0 (wbmpca.setCells wbmpc.heap.size 0 [.bool y.pack, .slice b1 y.berths.length q1, .slice b2 y.services.length q2, .slice b3 y.copies.length q3]) b1 y.berths) := (O1.out.below BrtC.holds (below_setCells nL _ _ _ hbA.out) nL).keep BrtC.holds (Keeps.refl _ _) (Nat.zero_le _)
      replace O2 : Hid (SliceC SvcC 2 0 (wbmpca.setCells wbmpc.heap.size 0 [.bool y.pack, .slice b1 y.berths.length q1, .slice b2 y.services.length q2, .slice b3 y.copies.length q3]) b2 y.services) := (O2.out.below SvcC.holds (below_setCells nL _ _ _ hbA.out) nL).keep SvcC.holds (Keeps.refl _ _) (Nat.zero_le _)
      replace O3 : Hid (SliceC CpyC 12 0 (wbmpca.setCells wbmpc.heap.size 0 [.bool y.pack, .slice b1 y.berths.length q1, .slice b2 y.services.length q2, .slice b3 y.copies.length q3]) b3 y.copies) := (O3.out.below CpyC.holds (below_setCells nL _ _ _ hbA.out) nL).keep CpyC.holds (Keeps.refl _ _) (Nat.zero_le _)
      replace HB : Hid (Below w2.heap.size w2 (wbmpca.setCells wbmpc.heap.size 0 [.bool y.pack, .slice b1 y.berths.length q1, .slice b2 y.services.length q2, .slice b3 y.copies.length q3])) := below_setCells (show w2.heap.size ≤ wbmpc.heap.size by omega) _ _ _ HB.out
      refine hK.out _ _ ⟨range_belowV HA.out HB.out zA, range_belowV HP.out HB.out zP⟩ (fun hS => ?_)
      clear hK K
      generalize (wbmpca.setCells wbmpc.heap.size 0 [.bool y.pack, .slice b1 y.berths.length q1, .slice b2 y.services.length q2, .slice b3 y.copies.length q3]) = wz at *
      refine tz 10 7 (.int .i64 cd) rfl hS ?_
      simp only [Act.put, List.setIfInBounds_toArray, List.set_cons_zero, List.set_cons_succ]
      refine td ?_
      go_wp2_with fail
      go_meet
      exact ⟨wbmpc.heap.size, b1, q1, b2, q2, b3, q3, rfl, rfl, HR, O1, O2, O3, HB⟩
     ·skip
      go_simp
      have HG := iH (Blk.alloc wbmp #[.bool false, .slice none 0 0, .slice none 0 0, .slice none 0 0] 41)
      have hb : Below wbmp.heap.size wbmp (wbmp.alloc (Obj.cells #[.bool false, .slice none 0 0, .slice none 0 0, .slice none 0 0] 41)) := (Below.refl _ _).alloc nL _
      have hga : w2.heap.size ≤ wbmp.heap.size := HB.out.size
      replace HB := iH (HB.out.trans (hb.mono HB.out.size))
      replace P1 := iH (P1.out.below BrtC.holds hb nL)
      replace P2 := iH (P2.out.below SvcC.holds hb nL)
      replace P3 := iH (P3.out.below CpyC.holds hb nL)
      replace PM := iH (PM.out.below StrC.holds hb nL)
      replace PL := iH (PL.out.below LikC.holds hb nL)
      refine hK.out _ _ ⟨range_belowV HA.out HB.out zA, range_belowV HP.out HB.out zP⟩ (fun hS => ?_)
      clear hK K hb
      generalize wbmp.alloc (Obj.cells #[.bool false, .slice none 0 0, .slice none 0 0, .slice none 0 0] 41) = wbmpa at *
      refine rd1 4 ⟨some 32, _, _, _, _, none⟩ rfl (fun K hK => ?_)
      have hgl : wbmp.heap.size < wbmpa.heap.size := HG.out.lt
      go_simp
      refine (specH HY.out HM.out HMQ.out g1 g2 g3 gm gl 0 _ (P1.out.keep BrtC.holds (Keeps.refl _ _) (Nat.zero_le _)) (P2.out.keep SvcC.holds (Keeps.refl _ _) (Nat.zero_le _)) (P3.out.keep CpyC.holds (Keeps.refl _ _) (Nat.zero_le _)) (PM.out.keep StrC.holds (Keeps.refl _ _) (Nat.zero_le _)) (PL.out.keep LikC.holds (Keeps.refl _ _) (Nat.zero_le _))).mono ?_
      rintro e wbmpac ⟨b1, q1, b2, q2, b3, q3, rfl, o1, o2, o3, hb⟩
      replace HB := iH (HB.out.trans (hb.mono HB.out.size))
      replace HG := iH (HG.out.below hb HG.out.lt)
      have O1 := iH o1
      have O2 := iH o2
      have O3 := iH o3
      refine hK.out _ _ ⟨range_belowV HA.out HB.out zA, range_belowV HP.out HB.out zP⟩ (fun hS => ?_)
      clear hK K hb o1 o2 o3 P1 P2 P3 PM PL
      refine tz 5 27 (.tuple #[.agg #[.bool y.pack, .slice b1 y.berths.length q1, .slice b2 y.services.length q2, .slice b3 y.copies.length q3], .int .i64 cd]) rfl hS ?_
      simp only [pA,pB,pC,pD]
      refine tz 6 33 (.agg #[.bool y.pack, .slice b1 y.berths.length q1, .slice b2 y.services.length q2, .slice b3 y.copies.length q3]) rfl hS ?_
      simp only [pA,pB,pC,pD]
      refine tz 7 34 (.int .i64 cd) rfl hS ?_
      simp only [pA,pB,pC,pD]
      refine rd1 9 ⟨none, _, _, _, _, none⟩ rfl (fun K hK => ?_)
      rw [if_pos (by rfl)]
      refine wp_store_mid 41 (.tmp 6) (.tmp 33) (by rfl) (wbmp.heap.size) 0 #[.bool y.pack, .slice b1 y.berths.length q1, .slice b2 y.services.length q2, .slice b3 y.copies.length q3] (by rfl) (by rfl) HG.out.there isz_Flt (by simp [Value.oneCell']) ?_
      have HR : Hid ((wbmpac.setCells wbmp.heap.size 0 [.bool y.pack, .slice b1 y.berths.length q1, .slice b2 y.services.length q2, .slice b3 y.copies.length q3]).rangeAt (wbmp.heap.size) 0 [.bool y.pack, .slice b1 y.berths.length q1, .slice b2 y.services.length q2, .slice b3 y.copies.length q3]) := (HG.out.setAll #[.bool y.pack, .slice b1 y.berths.length q1, .slice b2 y.services.length q2, .slice b3 y.copies.length q3] rfl).rangeA
      replace O1 : Hid (SliceC BrtC 6 0 (wbmpac.setCells wbmp.heap.size 0 [.bool y.pack, .slice b1 y.berths.length q1, .slice b2 y.services.length q2, .slice b3 y.copies.length q3]) b1 y.berths) := O1.out.keep BrtC.holds (Keeps.setCells (show wbmp.heap.size < wbmpa.heap.size by omega) _ _ _) (Nat.zero_le _)
      replace O2 : Hid (SliceC SvcC 2 0 (wbmpac.setCells wbmp.heap.size 0 [.bool y.pack, .slice b1 y.berths.length q1, .slice b2 y.services.length q2, .slice b3 y.copies.length q3]) b2 y.services) := O2.out.keep SvcC.holds (Keeps.setCells (show wbmp.heap.size < wbmpa.heap.size by omega) _ _ _) (Nat.zero_le _)
      replace O3 : Hid (SliceC CpyC 12 0 (wbmpac.setCells wbmp.heap.size 0 [.bool y.pack, .slice b1 y.berths.length q1, .slice b2 y.services.length q2, .slice b3 y.copies.length q3]) b3 y.copies) := O3.out.keep CpyC.holds (Keeps.setCells (show wbmp.heap.size < wbmpa.heap.size by omega) _ _ _) (Nat.zero_le _)
      replace HB : Hid (Below w2.heap.size w2 (wbmpac.setCells wbmp.heap.size 0 [.bool y.pack, .slice b1 y.berths.length q1, .slice b2 y.services.length q2, .slice b3 y.copies.length q3])) := below_setCells (show w2.heap.size ≤ wbmp.heap.size by omega) _ _ _ HB.out
      refine hK.out _ _ ⟨range_belowV HA.out HB.out zA, range_belowV HP.out HB.out zP⟩ (fun hS => ?_)
      clear hK K
      generalize (wbmpac.setCells wbmp.heap.size 0 [.bool y.pack, .slice b1 y.berths.length q1, .slice b2 y.services.length q2, .slice b3 y.copies.length q3]) = wz at *
      refine tz 10 7 (.int .i64 cd) rfl hS ?_
      simp only [Act.put, List.setIfInBounds_toArray, List.set_cons_zero, List.set_cons_succ]
      refine td ?_
      go_wp2_with fail
      go_meet
      exact ⟨wbmp.heap.size, b1, q1, b2, q2, b3, q3, rfl, rfl, HR, O1, O2, O3, HB⟩
    ·skip
     go_simp
     have HG := iH (Blk.alloc wbm #[.bool false, .slice none 0 0, .slice none 0 0, .slice none 0 0] 41)
     have hb : Below wbm.heap.size wbm (wbm.alloc (Obj.cells #[.bool false, .slice none 0 0, .slice none 0 0, .slice none 0 0] 41)) := (Below.refl _ _).alloc nL _
     have hga : w2.heap.size ≤ wbm.heap.size := HB.out.size
     replace HB := iH (HB.out.trans (hb.mono HB.out.size))
     replace P1 := iH (P1.out.below BrtC.holds hb nL)
     replace P2 := iH (P2.out.below SvcC.holds hb nL)
     replace P3 := iH (P3.out.below CpyC.holds hb nL)
     refine hK.out _ _ ⟨range_belowV HA.out HB.out zA, range_belowV HP.out HB.out zP⟩ (fun hS => ?_)
     clear hK K hb
     generalize wbm.alloc (Obj.cells #[.bool false, .slice none 0 0, .slice none 0 0, .slice none 0 0] 41) = wbma at *
     refine rd1 3 ⟨some 31, _, _, _, _, none⟩ rfl (fun K hK => ?_)
     have hBc := hB.trans (HB.out.mono hB.size)
     go_simp
     refine (toEvt_any v am cm al cl lo _ (NM.out.below StrC.holds (B := w.heap.size) hBc nL) (NL.out.below LikC.holds (B := w.heap.size) hBc nL) HMQ.out).mono ?_
     rintro e wbmap ⟨gm, gl, rfl, pm, pl, hb⟩
     replace HB := iH (HB.out.trans (hb.mono HB.out.size))
     replace P1 := iH (P1.out.below BrtC.holds hb nL)
     replace P2 := iH (P2.out.below SvcC.holds hb nL)
     replace P3 := iH (P3.out.below CpyC.holds hb nL)
     replace HG := iH (HG.out.below hb HG.out.lt)
     have PM := iH pm
     have PL := iH pl
     refine hK.out _ _ ⟨range_belowV HA.out HB.out zA, range_belowV HP.out HB.out zP⟩ (fun hS => ?_)
     clear hK K hb hBc pm pl
     refine rd1 4 ⟨some 32, _, _, _, _, none⟩ rfl (fun K hK => ?_)
     have hgl : wbm.heap.size < wbmap.heap.size := HG.out.lt
     go_simp
     refine (specH HY.out HM.out HMQ.out g1 g2 g3 gm gl 0 _ (P1.out.keep BrtC.holds (Keeps.refl _ _) (Nat.zero_le _)) (P2.out.keep SvcC.holds (Keeps.refl _ _) (Nat.zero_le _)) (P3.out.keep CpyC.holds (Keeps.refl _ _) (Nat.zero_le _)) (PM.out.keep StrC.holds (Keeps.refl _ _) (Nat.zero_le _)) (PL.out.keep LikC.holds (Keeps.refl _ _) (Nat.zero_le _))).mono ?_
     rintro e wbmapc ⟨b1, q1, b2, q2, b3, q3, rfl, o1, o2, o3, hb⟩
     replace HB := iH (HB.out.trans (hb.mono HB.out.size))
     replace HG := iH (HG.out.below hb HG.out.lt)
     have O1 := iH o1
     have O2 := iH o2
     have O3 := iH o3
     refine hK.out _ _ ⟨range_belowV HA.out HB.out zA, range_belowV HP.out HB.out zP⟩ (fun hS => ?_)
     clear hK K hb o1 o2 o3 P1 P2 P3 PM PL
     refine tz 5 27 (.tuple #[.agg #[.bool y.pack, .slice b1 y.berths.length q1, .slice b2 y.services.length q2, .slice b3 y.copies.length q3], .int .i64 cd]) rfl hS ?_
     simp only [pA,pB,pC,pD]
     refine tz 6 33 (.agg #[.bool y.pack, .slice b1 y.berths.length q1, .slice b2 y.services.length q2, .slice b3 y.copies.length q3]) rfl hS ?_
     simp only [pA,pB,pC,pD]
     refine tz 7 34 (.int .i64 cd) rfl hS ?_
     simp only [pA,pB,pC,pD]
     refine rd1 9 ⟨none, _, _, _, _, none⟩ rfl (fun K hK => ?_)
     rw [if_pos (by rfl)]
     refine wp_store_mid 41 (.tmp 6) (.tmp 33) (by rfl) (wbm.heap.size) 0 #[.bool y.pack, .slice b1 y.berths.length q1, .slice b2 y.services.length q2, .slice b3 y.copies.length q3] (by rfl) (by rfl) HG.out.there isz_Flt (by simp [Value.oneCell']) ?_
     have HR : Hid ((wbmapc.setCells wbm.heap.size 0 [.bool y.pack, .slice b1 y.berths.length q1, .slice b2 y.services.length q2, .slice b3 y.copies.length q3]).rangeAt (wbm.heap.size) 0 [.bool y.pack, .slice b1 y.berths.length q1, .slice b2 y.services.length q2, .slice b3 y.copies.length q3]) := (HG.out.setAll #[.bool y.pack, .slice b1 y.berths.length q1, .slice b2 y.services.length q2, .slice b3 y.copies.length q3] rfl).rangeA
     replace O1 : Hid (SliceC BrtC 6 0 (wbmapc.setCells wbm.heap.size 0 [.bool y.pack, .slice b1 y.berths.length q1, .slice b2 y.services.length q2, .slice b3 y.copies.length q3]) b1 y.berths) := O1.out.keep BrtC.holds (Keeps.setCells (show wbm.heap.size < wbmap.heap.size by omega) _ _ _) (Nat.zero_le _)
     replace O2 : Hid (SliceC SvcC 2 0 (wbmapc.setCells wbm.heap.size 0 [.bool y.pack, .slice b1 y.berths.length q1, .slice b2 y.services.length q2, .slice b3 y.copies.length q3]) b2 y.services) := O2.out.keep SvcC.holds (Keeps.setCells (show wbm.heap.size < wbmap.heap.size by omega) _ _ _) (Nat.zero_le _)
     replace O3 : Hid (SliceC CpyC 12 0 (wbmapc.setCells wbm.heap.size 0 [.bool y.pack, .slice b1 y.berths.length q1, .slice b2 y.services.length q2, .slice b3 y.copies.length q3]) b3 y.copies) := O3.out.keep CpyC.holds (Keeps.setCells (show wbm.heap.size < wbmap.heap.size by omega) _ _ _) (Nat.zero_le _)
     replace HB : Hid (Below w2.heap.size w2 (wbmapc.setCells wbm.heap.size 0 [.bool y.pack, .slice b1 y.berths.length q1, .slice b2 y.services.length q2, .slice b3 y.copies.length q3])) := below_setCells (show w2.heap.size ≤ wbm.heap.size by omega) _ _ _ HB.out
     refine hK.out _ _ ⟨range_belowV HA.out HB.out zA, range_belowV HP.out HB.out zP⟩ (fun hS => ?_)
     clear hK K
     generalize (wbmapc.setCells wbm.heap.size 0 [.bool y.pack, .slice b1 y.berths.length q1, .slice b2 y.services.length q2, .slice b3 y.copies.length q3]) = wz at *
     refine tz 10 7 (.int .i64 cd) rfl hS ?_
     simp only [Act.put, List.setIfInBounds_toArray, List.set_cons_zero, List.set_cons_succ]
     refine td ?_
     go_wp2_with fail
     go_meet
     exact ⟨wbm.heap.size, b1, q1, b2, q2, b3, q3, rfl, rfl, HR, O1, O2, O3, HB⟩
   ·skip
    go_simp
    have HG := iH (Blk.alloc wb #[.bool false, .slice none 0 0, .slice none 0 0, .slice none 0 0] 41)
    have hb : Below wb.heap.size wb (wb.alloc (Obj.cells #[.bool false, .slice none 0 0, .slice none 0 0, .slice none 0 0] 41)) := (Below.refl _ _).alloc nL _
    have hga : w2.heap.size ≤ wb.heap.size := HB.out.size
    replace HB := iH (HB.out.trans (hb.mono HB.out.size))
    refine hK.out _ _ ⟨range_belowV HA.out HB.out zA, range_belowV HP.out HB.out zP⟩ (fun hS => ?_)
    clear hK K hb
    generalize wb.alloc (Obj.cells #[.bool false, .slice none 0 0, .slice none 0 0, .slice none 0 0] 41) = wba at *
    refine rd1 1 ⟨some 29, _, _, _, _, none⟩ rfl (fun K hK => ?_)
    have hBc := hB.trans (HB.out.mono hB.size)
    go_simp
    refine (toFlt_any x a1 c1 a2 c2 a3 c3 lo _ (N1.out.below BrtC.holds (B := w.heap.size) hBc nL) (N2.out.below SvcC.holds (B := w.heap.size) hBc nL) (N3.out.below CpyC.holds (B := w.heap.size) hBc nL) HM.out).mono ?_
    rintro e wbam ⟨g1, g2, g3, rfl, p1, p2, p3, hb⟩
    replace HB := iH (HB.out.trans (hb.mono HB.out.size))
    replace HG := iH (HG.out.below hb HG.out.lt)
    have P1 := iH p1
    have P2 := iH p2
    have P3 := iH p3
    refine hK.out _ _ ⟨range_belowV HA.out HB.out zA, range_belowV HP.out HB.out zP⟩ (fun hS => ?_)
    clear hK K hb hBc p1 p2 p3
    refine rd1 3 ⟨some 31, _, _, _, _, none⟩ rfl (fun K hK => ?_)
    have hBc := hB.trans (HB.out.mono hB.size)
    go_simp
    refine (toEvt_any v am cm al cl lo _ (NM.out.below StrC.holds (B := w.heap.size) hBc nL) (NL.out.below LikC.holds (B := w.heap.size) hBc nL) HMQ.out).mono ?_
    rintro e wbamp ⟨gm, gl, rfl, pm, pl, hb⟩
    replace HB := iH (HB.out.trans (hb.mono HB.out.size))
    replace P1 := iH (P1.out.below BrtC.holds hb nL)
    replace P2 := iH (P2.out.below SvcC.holds hb nL)
    replace P3 := iH (P3.out.below CpyC.holds hb nL)
    replace HG := iH (HG.out.below hb HG.out.lt)
    have PM := iH pm
    have PL := iH pl
    refine hK.out _ _ ⟨range_belowV HA.out HB.out zA, range_belowV HP.out HB.out zP⟩ (fun hS => ?_)
    clear hK K hb hBc pm pl
    refine rd1 4 ⟨some 32, _, _, _, _, none⟩ rfl (fun K hK => ?_)
    have hgl : wb.heap.size < wbamp.heap.size := HG.out.lt
    go_simp
    refine (specH HY.out HM.out HMQ.out g1 g2 g3 gm gl 0 _ (P1.out.keep BrtC.holds (Keeps.refl _ _) (Nat.zero_le _)) (P2.out.keep SvcC.holds (Keeps.refl _ _) (Nat.zero_le _)) (P3.out.keep CpyC.holds (Keeps.refl _ _) (Nat.zero_le _)) (PM.out.keep StrC.holds (Keeps.refl _ _) (Nat.zero_le _)) (PL.out.keep LikC.holds (Keeps.refl _ _) (Nat.zero_le _))).mono ?_
    rintro e wbampc ⟨b1, q1, b2, q2, b3, q3, rfl, o1, o2, o3, hb⟩
    replace HB := iH (HB.out.trans (hb.mono HB.out.size))
    replace HG := iH (HG.out.below hb HG.out.lt)
    have O1 := iH o1
    have O2 := iH o2
    have O3 := iH o3
    refine hK.out _ _ ⟨range_belowV HA.out HB.out zA, range_belowV HP.out HB.out zP⟩ (fun hS => ?_)
    clear hK K hb o1 o2 o3 P1 P2 P3 PM PL
    refine tz 5 27 (.tuple #[.agg #[.bool y.pack, .slice b1 y.berths.length q1, .slice b2 y.services.length q2, .slice b3 y.copies.length q3], .int .i64 cd]) rfl hS ?_
    simp only [pA,pB,pC,pD]
    refine tz 6 33 (.agg #[.bool y.pack, .slice b1 y.berths.length q1, .slice b2 y.services.length q2, .slice b3 y.copies.length q3]) rfl hS ?_
    simp only [pA,pB,pC,pD]
    refine tz 7 34 (.int .i64 cd) rfl hS ?_
    simp only [pA,pB,pC,pD]
    refine rd1 9 ⟨none, _, _, _, _, none⟩ rfl (fun K hK => ?_)
    rw [if_pos (by rfl)]
    refine wp_store_mid 41 (.tmp 6) (.tmp 33) (by rfl) (wb.heap.size) 0 #[.bool y.pack, .slice b1 y.berths.length q1, .slice b2 y.services.length q2, .slice b3 y.copies.length q3] (by rfl) (by rfl) HG.out.there isz_Flt (by simp [Value.oneCell']) ?_
    have HR : Hid ((wbampc.setCells wb.heap.size 0 [.bool y.pack, .slice b1 y.berths.length q1, .slice b2 y.services.length q2, .slice b3 y.copies.length q3]).rangeAt (wb.heap.size) 0 [.bool y.pack, .slice b1 y.berths.length q1, .slice b2 y.services.length q2, .slice b3 y.copies.length q3]) := (HG.out.setAll #[.bool y.pack, .slice b1 y.berths.length q1, .slice b2 y.services.length q2, .slice b3 y.copies.length q3] rfl).rangeA
    replace O1 : Hid (SliceC BrtC 6 0 (wbampc.setCells wb.heap.size 0 [.bool y.pack, .slice b1 y.berths.length q1, .slice b2 y.services.length q2, .slice b3 y.copies.length q3]) b1 y.berths) := O1.out.keep BrtC.holds (Keeps.setCells (show wb.heap.size < wbamp.heap.size by omega) _ _ _) (Nat.zero_le _)
    replace O2 : Hid (SliceC SvcC 2 0 (wbampc.setCells wb.heap.size 0 [.bool y.pack, .slice b1 y.berths.length q1, .slice b2 y.services.length q2, .slice b3 y.copies.length q3]) b2 y.services) := O2.out.keep SvcC.holds (Keeps.setCells (show wb.heap.size < wbamp.heap.size by omega) _ _ _) (Nat.zero_le _)
    replace O3 : Hid (SliceC CpyC 12 0 (wbampc.setCells wb.heap.size 0 [.bool y.pack, .slice b1 y.berths.length q1, .slice b2 y.services.length q2, .slice b3 y.copies.length q3]) b3 y.copies) := O3.out.keep CpyC.holds (Keeps.setCells (show wb.heap.size < wbamp.heap.size by omega) _ _ _) (Nat.zero_le _)
    replace HB : Hid (Below w2.heap.size w2 (wbampc.setCells wb.heap.size 0 [.bool y.pack, .slice b1 y.berths.length q1, .slice b2 y.services.length q2, .slice b3 y.copies.length q3])) := below_setCells (show w2.heap.size ≤ wb.heap.size by omega) _ _ _ HB.out
    refine hK.out _ _ ⟨range_belowV HA.out HB.out zA, range_belowV HP.out HB.out zP⟩ (fun hS => ?_)
    clear hK K
    generalize (wbampc.setCells wb.heap.size 0 [.bool y.pack, .slice b1 y.berths.length q1, .slice b2 y.services.length q2, .slice b3 y.copies.length q3]) = wz at *
    refine tz 10 7 (.int .i64 cd) rfl hS ?_
    simp only [Act.put, List.setIfInBounds_toArray, List.set_cons_zero, List.set_cons_succ]
    refine td ?_
    go_wp2_with fail
    go_meet
    exact ⟨wb.heap.size, b1, q1, b2, q2, b3, q3, rfl, rfl, HR, O1, O2, O3, HB⟩
 case rest =>
  as_aux_lemma =>
   obtain ⟨ga, b1, q1, b2, q2, b3, q3, rfl, rfl, H4, PO1, PO2, PO3, hbz⟩ := hcut
   have hb := hbz.out
   generalize wc = w4 at *
   replace HA : Hid (w4.rangeAt w.heap.size 0 [.bool x.pack, .slice a1 x.berths.length c1, .slice a2 x.services.length c2, .slice a3 x.copies.length c3]) := range_next HA.out hb
   replace HP : Hid (w4.rangeAt (w.heap.size + 1) 0 [.int .i64 v.kind, .string v.berth.name, .string v.berth.zone, .slice am v.berth.marks.length cm, .int .i64 v.berth.room, .int .i64 v.berth.hold, .bool v.berth.closed, .string v.copy.name, .string v.copy.service, .int .i64 v.copy.rank, .int .i64 v.copy.born, .int .i64 v.copy.room, .int .i64 v.copy.hold, .string v.copy.select, .slice al v.copy.likes.length cl, .int .i64 v.copy.apart, .string v.copy.near, .string v.copy.fixed, .string v.copy.at_, .string v.name, .string v.at_]) := range_next HP.out hb
   replace hB : Below w.heap.size w w4 := hB.trans (hb.mono hB.size)
   have HB3 : Hid (Below w4.heap.size w4 w4) := Below.refl _ _
   have z4 : ga < w4.heap.size := range_lt H4.out
   have zA4 : w.heap.size + 1 < w4.heap.size := range_lt HP.out
   clear hb hbz zA zP
   go_wp2_with (refine wpList_load_mid rfl 26 _ rfl w.heap.size 0 rfl [.bool x.pack, .slice a1 x.berths.length c1, .slice a2 x.services.length c2, .slice a3 x.copies.length c3] _ HA.out Tryz.underlying26 rfl iszL_Flt ?_)
   refine (toFlt_any x a1 c1 a2 c2 a3 c3 lo _ (N1.out.below BrtC.holds (B := w.heap.size) hB nL) (N2.out.below SvcC.holds (B := w.heap.size) hB nL) (N3.out.below CpyC.holds (B := w.heap.size) hB nL) HM.out).mono ?_
   rintro e w5 ⟨g1, g2, g3, rfl, p1, p2, p3, hb⟩
   replace HA : Hid (w5.rangeAt w.heap.size 0 [.bool x.pack, .slice a1 x.berths.length c1, .slice a2 x.services.length c2, .slice a3 x.copies.length c3]) := range_next HA.out hb
   replace HP : Hid (w5.rangeAt (w.heap.size + 1) 0 [.int .i64 v.kind, .string v.berth.name, .string v.berth.zone, .slice am v.berth.marks.length cm, .int .i64 v.berth.room, .int .i64 v.berth.hold, .bool v.berth.closed, .string v.copy.name, .string v.copy.service, .int .i64 v.copy.rank, .int .i64 v.copy.born, .int .i64 v.copy.room, .int .i64 v.copy.hold, .string v.copy.select, .slice al v.copy.likes.length cl, .int .i64 v.copy.apart, .string v.copy.near, .string v.copy.fixed, .string v.copy.at_, .string v.name, .string v.at_]) := range_next HP.out hb
   replace H4 : Hid (w5.rangeAt ga 0 [.bool y.pack, .slice b1 y.berths.length q1, .slice b2 y.services.length q2, .slice b3 y.copies.length q3]) := range_next H4.out hb
   replace HB3 : Hid (Below w4.heap.size w4 w5) := HB3.out.trans (hb.mono HB3.out.size)
   replace hB : Below w.heap.size w w5 := hB.trans (hb.mono hB.size)
   have z5 := hb.size
   have Q1 := iH p1
   have Q2 := iH p2
   have Q3 := iH p3
   clear hb p1 p2 p3
   as_aux_lemma =>
    have hb : Below w5.heap.size w5 (w5.alloc (Obj.cells #[.bool x.pack, .slice (some ⟨g1, 0, none⟩) x.berths.length x.berths.length, .slice (some ⟨g2, 0, none⟩) x.services.length x.services.length, .slice (some ⟨g3, 0, none⟩) x.copies.length x.copies.length] 41)) := (Below.refl _ _).alloc nL _
    have H5 : Hid ((w5.alloc (Obj.cells #[.bool x.pack, .slice (some ⟨g1, 0, none⟩) x.berths.length x.berths.length, .slice (some ⟨g2, 0, none⟩) x.services.length x.services.length, .slice (some ⟨g3, 0, none⟩) x.copies.length x.copies.length] 41)).rangeAt w5.heap.size 0 [.bool x.pack, .slice (some ⟨g1, 0, none⟩) x.berths.length x.berths.length, .slice (some ⟨g2, 0, none⟩) x.services.length x.services.length, .slice (some ⟨g3, 0, none⟩) x.copies.length x.copies.length]) := (Blk.alloc w5 _ _).rangeA
    have HB5 : Hid (Below w5.heap.size w5 (w5.alloc (Obj.cells #[.bool x.pack, .slice (some ⟨g1, 0, none⟩) x.berths.length x.berths.length, .slice (some ⟨g2, 0, none⟩) x.services.length x.services.length, .slice (some ⟨g3, 0, none⟩) x.copies.length x.copies.length] 41))) := hb
    replace HA : Hid ((w5.alloc (Obj.cells #[.bool x.pack, .slice (some ⟨g1, 0, none⟩) x.berths.length x.berths.length, .slice (some ⟨g2, 0, none⟩) x.services.length x.services.length, .slice (some ⟨g3, 0, none⟩) x.copies.length x.copies.length] 41)).rangeAt w.heap.size 0 [.bool x.pack, .slice a1 x.berths.length c1, .slice a2 x.services.length c2, .slice a3 x.copies.length c3]) := range_next HA.out hb
    replace HP : Hid ((w5.alloc (Obj.cells #[.bool x.pack, .slice (some ⟨g1, 0, none⟩) x.berths.length x.berths.length, .slice (some ⟨g2, 0, none⟩) x.services.length x.services.length, .slice (some ⟨g3, 0, none⟩) x.copies.length x.copies.length] 41)).rangeAt (w.heap.size + 1) 0 [.int .i64 v.kind, .string v.berth.name, .string v.berth.zone, .slice am v.berth.marks.length cm, .int .i64 v.berth.room, .int .i64 v.berth.hold, .bool v.berth.closed, .string v.copy.name, .string v.copy.service, .int .i64 v.copy.rank, .int .i64 v.copy.born, .int .i64 v.copy.room, .int .i64 v.copy.hold, .string v.copy.select, .slice al v.copy.likes.length cl, .int .i64 v.copy.apart, .string v.copy.near, .string v.copy.fixed, .string v.copy.at_, .string v.name, .string v.at_]) := range_next HP.out hb
    replace H4 : Hid ((w5.alloc (Obj.cells #[.bool x.pack, .slice (some ⟨g1, 0, none⟩) x.berths.length x.berths.length, .slice (some ⟨g2, 0, none⟩) x.services.length x.services.length, .slice (some ⟨g3, 0, none⟩) x.copies.length x.copies.length] 41)).rangeAt ga 0 [.bool y.pack, .slice b1 y.berths.length q1, .slice b2 y.services.length q2, .slice b3 y.copies.length q3]) := range_next H4.out hb
    replace HB3 : Hid (Below w4.heap.size w4 (w5.alloc (Obj.cells #[.bool x.pack, .slice (some ⟨g1, 0, none⟩) x.berths.length x.berths.length, .slice (some ⟨g2, 0, none⟩) x.services.length x.services.length, .slice (some ⟨g3, 0, none⟩) x.copies.length x.copies.length] 41))) := HB3.out.trans (hb.mono HB3.out.size)
    replace hB : Below w.heap.size w (w5.alloc (Obj.cells #[.bool x.pack, .slice (some ⟨g1, 0, none⟩) x.berths.length x.berths.length, .slice (some ⟨g2, 0, none⟩) x.services.length x.services.length, .slice (some ⟨g3, 0, none⟩) x.copies.length x.copies.length] 41)) := hB.trans (hb.mono hB.size)
    clear hb
    go_upto_region 10 with fail
    generalize w5.alloc (Obj.cells #[.bool x.pack, .slice (some ⟨g1, 0, none⟩) x.berths.length x.berths.length, .slice (some ⟨g2, 0, none⟩) x.services.length x.services.length, .slice (some ⟨g3, 0, none⟩) x.copies.length x.copies.length] 41) = w6 at *
    have z6 : w5.heap.size < w6.heap.size := range_lt H5.out
    as_aux_lemma =>
     go_wp2_with (refine wpList_load_mid rfl 34 _ rfl (w.heap.size + 1) 0 rfl [.int .i64 v.kind, .string v.berth.name, .string v.berth.zone, .slice am v.berth.marks.length cm, .int .i64 v.berth.room, .int .i64 v.berth.hold, .bool v.berth.closed, .string v.copy.name, .string v.copy.service, .int .i64 v.copy.rank, .int .i64 v.copy.born, .int .i64 v.copy.room, .int .i64 v.copy.hold, .string v.copy.select, .slice al v.copy.likes.length cl, .int .i64 v.copy.apart, .string v.copy.near, .string v.copy.fixed, .string v.copy.at_, .string v.name, .string v.at_] _ HP.out Tryz.underlying34 rfl iszL_Evt ?_)
     refine (toEvt_any v am cm al cl lo _ (NM.out.below StrC.holds (B := w.heap.size) hB nL) (NL.out.below LikC.holds (B := w.heap.size) hB nL) HMQ.out).mono ?_
     rintro e w7 ⟨xm, xl, rfl, pm, pl, hb⟩
     replace HA : Hid (w7.rangeAt w.heap.size 0 [.bool x.pack, .slice a1 x.berths.length c1, .slice a2 x.services.length c2, .slice a3 x.copies.length c3]) := range_next HA.out hb
     replace HP : Hid (w7.rangeAt (w.heap.size + 1) 0 [.int .i64 v.kind, .string v.berth.name, .string v.berth.zone, .slice am v.berth.marks.length cm, .int .i64 v.berth.room, .int .i64 v.berth.hold, .bool v.berth.closed, .string v.copy.name, .string v.copy.service, .int .i64 v.copy.rank, .int .i64 v.copy.born, .int .i64 v.copy.room, .int .i64 v.copy.hold, .string v.copy.select, .slice al v.copy.likes.length cl, .int .i64 v.copy.apart, .string v.copy.near, .string v.copy.fixed, .string v.copy.at_, .string v.name, .string v.at_]) := range_next HP.out hb
     replace H4 : Hid (w7.rangeAt ga 0 [.bool y.pack, .slice b1 y.berths.length q1, .slice b2 y.services.length q2, .slice b3 y.copies.length q3]) := range_next H4.out hb
     replace H5 : Hid (w7.rangeAt w5.heap.size 0 [.bool x.pack, .slice (some ⟨g1, 0, none⟩) x.berths.length x.berths.length, .slice (some ⟨g2, 0, none⟩) x.services.length x.services.length, .slice (some ⟨g3, 0, none⟩) x.copies.length x.copies.length]) := range_next H5.out hb
     replace HB3 : Hid (Below w4.heap.size w4 w7) := HB3.out.trans (hb.mono HB3.out.size)
     replace HB5 : Hid (Below w5.heap.size w5 w7) := HB5.out.trans (hb.mono HB5.out.size)
     replace hB : Below w.heap.size w w7 := hB.trans (hb.mono hB.size)
     have z7 := hb.size
     have QM0 := iH pm
     have QL0 := iH pl
     clear hb pm pl
     as_aux_lemma =>
      have hza : Blk w7.heap.size #[.int .i64 0, .string ⟨#[]⟩, .string ⟨#[]⟩, .slice none 0 0, .int .i64 0, .int .i64 0, .bool false, .string ⟨#[]⟩, .string ⟨#[]⟩, .int .i64 0, .int .i64 0, .int .i64 0, .int .i64 0, .string ⟨#[]⟩, .slice none 0 0, .int .i64 0, .string ⟨#[]⟩, .string ⟨#[]⟩, .string ⟨#[]⟩, .string ⟨#[]⟩, .string ⟨#[]⟩] 50 (w7.alloc (Obj.cells #[.int .i64 0, .string ⟨#[]⟩, .string ⟨#[]⟩, .slice none 0 0, .int .i64 0, .int .i64 0, .bool false, .string ⟨#[]⟩, .string ⟨#[]⟩, .int .i64 0, .int .i64 0, .int .i64 0, .int .i64 0, .string ⟨#[]⟩, .slice none 0 0, .int .i64 0, .string ⟨#[]⟩, .string ⟨#[]⟩, .string ⟨#[]⟩, .string ⟨#[]⟩, .string ⟨#[]⟩] 50)) := Blk.alloc _ _ _
      have HTS : Hid ((w7.alloc (Obj.cells #[.int .i64 0, .string ⟨#[]⟩, .string ⟨#[]⟩, .slice none 0 0, .int .i64 0, .int .i64 0, .bool false, .string ⟨#[]⟩, .string ⟨#[]⟩, .int .i64 0, .int .i64 0, .int .i64 0, .int .i64 0, .string ⟨#[]⟩, .slice none 0 0, .int .i64 0, .string ⟨#[]⟩, .string ⟨#[]⟩, .string ⟨#[]⟩, .string ⟨#[]⟩, .string ⟨#[]⟩] 50)).there w7.heap.size 0 21) := hza.there
      obtain ⟨w8, HW8⟩ : ∃ w8, Hid (w8 = (w7.alloc (Obj.cells #[.int .i64 0, .string ⟨#[]⟩, .string ⟨#[]⟩, .slice none 0 0, .int .i64 0, .int .i64 0, .bool false, .string ⟨#[]⟩, .string ⟨#[]⟩, .int .i64 0, .int .i64 0, .int .i64 0, .int .i64 0, .string ⟨#[]⟩, .slice none 0 0, .int .i64 0, .string ⟨#[]⟩, .string ⟨#[]⟩, .string ⟨#[]⟩, .string ⟨#[]⟩, .string ⟨#[]⟩] 50)).setCells w7.heap.size 0 [.int .i64 v.kind, .string v.berth.name, .string v.berth.zone, .slice (some ⟨xm, 0, none⟩) v.berth.marks.length v.berth.marks.length, .int .i64 v.berth.room, .int .i64 v.berth.hold, .bool v.berth.closed, .string v.copy.name, .string v.copy.service, .int .i64 v.copy.rank, .int .i64 v.copy.born, .int .i64 v.copy.room, .int .i64 v.copy.hold, .string v.copy.select, .slice (some ⟨xl, 0, none⟩) v.copy.likes.length v.copy.likes.length, .int .i64 v.copy.apart, .string v.copy.near, .string v.copy.fixed, .string v.copy.at_, .string v.name, .string v.at_]) := ⟨_, rfl⟩
      have hb : Below w7.heap.size w7 w8 := by
       rw [HW8.out]
       exact below_setCells nL _ _ _ ((Below.refl _ w7).alloc nL _)
      have H8 : Hid (w8.rangeAt w7.heap.size 0 [.int .i64 v.kind, .string v.berth.name, .string v.berth.zone, .slice (some ⟨xm, 0, none⟩) v.berth.marks.length v.berth.marks.length, .int .i64 v.berth.room, .int .i64 v.berth.hold, .bool v.berth.closed, .string v.copy.name, .string v.copy.service, .int .i64 v.copy.rank, .int .i64 v.copy.born, .int .i64 v.copy.room, .int .i64 v.copy.hold, .string v.copy.select, .slice (some ⟨xl, 0, none⟩) v.copy.likes.length v.copy.likes.length, .int .i64 v.copy.apart, .string v.copy.near, .string v.copy.fixed, .string v.copy.at_, .string v.name, .string v.at_]) := by
       show World.rangeAt _ _ _ _
       rw [HW8.out]
       exact (hza.setAll #[.int .i64 v.kind, .string v.berth.name, .string v.berth.zone, .slice (some ⟨xm, 0, none⟩) v.berth.marks.length v.berth.marks.length, .int .i64 v.berth.room, .int .i64 v.berth.hold, .bool v.berth.closed, .string v.copy.name, .string v.copy.service, .int .i64 v.copy.rank, .int .i64 v.copy.born, .int .i64 v.copy.room, .int .i64 v.copy.hold, .string v.copy.select, .slice (some ⟨xl, 0, none⟩) v.copy.likes.length v.copy.likes.length, .int .i64 v.copy.apart, .string v.copy.near, .string v.copy.fixed, .string v.copy.at_, .string v.name, .string v.at_] rfl).rangeA
      have HB7 : Hid (Below w7.heap.size w7 w8) := hb
      replace HA : Hid (w8.rangeAt w.heap.size 0 [.bool x.pack, .slice a1 x.berths.length c1, .slice a2 x.services.length c2, .slice a3 x.copies.length c3]) := range_next HA.out hb
      replace HP : Hid (w8.rangeAt (w.heap.size + 1) 0 [.int .i64 v.kind, .string v.berth.name, .string v.berth.zone, .slice am v.berth.marks.length cm, .int .i64 v.berth.room, .int .i64 v.berth.hold, .bool v.berth.closed, .string v.copy.name, .string v.copy.service, .int .i64 v.copy.rank, .int .i64 v.copy.born, .int .i64 v.copy.room, .int .i64 v.copy.hold, .string v.copy.select, .slice al v.copy.likes.length cl, .int .i64 v.copy.apart, .string v.copy.near, .string v.copy.fixed, .string v.copy.at_, .string v.name, .string v.at_]) := range_next HP.out hb
      replace H4 : Hid (w8.rangeAt ga 0 [.bool y.pack, .slice b1 y.berths.length q1, .slice b2 y.services.length q2, .slice b3 y.copies.length q3]) := range_next H4.out hb
      replace H5 : Hid (w8.rangeAt w5.heap.size 0 [.bool x.pack, .slice (some ⟨g1, 0, none⟩) x.berths.length x.berths.length, .slice (some ⟨g2, 0, none⟩) x.services.length x.services.length, .slice (some ⟨g3, 0, none⟩) x.copies.length x.copies.length]) := range_next H5.out hb
      replace HB3 : Hid (Below w4.heap.size w4 w8) := HB3.out.trans (hb.mono HB3.out.size)
      replace HB5 : Hid (Below w5.heap.size w5 w8) := HB5.out.trans (hb.mono HB5.out.size)
      replace hB : Below w.heap.size w w8 := hB.trans (hb.mono hB.size)
      clear hb hza
      go_upto_region 11 with (refine wpList_store_to rfl 50 _ _ rfl w7.heap.size 0 #[.int .i64 v.kind, .string v.berth.name, .string v.berth.zone, .slice (some ⟨xm, 0, none⟩) v.berth.marks.length v.berth.marks.length, .int .i64 v.berth.room, .int .i64 v.berth.hold, .bool v.berth.closed, .string v.copy.name, .string v.copy.service, .int .i64 v.copy.rank, .int .i64 v.copy.born, .int .i64 v.copy.room, .int .i64 v.copy.hold, .string v.copy.select, .slice (some ⟨xl, 0, none⟩) v.copy.likes.length v.copy.likes.length, .int .i64 v.copy.apart, .string v.copy.near, .string v.copy.fixed, .string v.copy.at_, .string v.name, .string v.at_] rfl rfl HTS.out isz_Evt (by simp [Value.oneCell']) w8 HW8.out ?_)
      clear HTS HW8
      have z8 : w7.heap.size < w8.heap.size := range_lt H8.out
      as_aux_lemma =>
       go_wp2_with (first | (refine wpList_load_mid rfl 41 _ rfl w5.heap.size 0 rfl [.bool x.pack, .slice (some ⟨g1, 0, none⟩) x.berths.length x.berths.length, .slice (some ⟨g2, 0, none⟩) x.services.length x.services.length, .slice (some ⟨g3, 0, none⟩) x.copies.length x.copies.length] _ H5.out Tryz.underlying41 rfl isz_Flt ?_) | (refine wpList_load_mid rfl 50 _ rfl w7.heap.size 0 rfl [.int .i64 v.kind, .string v.berth.name, .string v.berth.zone, .slice (some ⟨xm, 0, none⟩) v.berth.marks.length v.berth.marks.length, .int .i64 v.berth.room, .int .i64 v.berth.hold, .bool v.berth.closed, .string v.copy.name, .string v.copy.service, .int .i64 v.copy.rank, .int .i64 v.copy.born, .int .i64 v.copy.room, .int .i64 v.copy.hold, .string v.copy.select, .slice (some ⟨xl, 0, none⟩) v.copy.likes.length v.copy.likes.length, .int .i64 v.copy.apart, .string v.copy.near, .string v.copy.fixed, .string v.copy.at_, .string v.name, .string v.at_] _ H8.out Tryz.underlying50 rfl isz_Evt ?_))
       refine (implH HY.out HM.out HMQ.out g1 g2 g3 xm xl 0 _ ((Q1.out.below BrtC.holds HB5.out nL).keep BrtC.holds (Keeps.refl _ _) (Nat.zero_le _)) ((Q2.out.below SvcC.holds HB5.out nL).keep SvcC.holds (Keeps.refl _ _) (Nat.zero_le _)) ((Q3.out.below CpyC.holds HB5.out nL).keep CpyC.holds (Keeps.refl _ _) (Nat.zero_le _)) ((QM0.out.below StrC.holds HB7.out nL).keep StrC.holds (Keeps.refl _ _) (Nat.zero_le _)) ((QL0.out.below LikC.holds HB7.out nL).keep LikC.holds (Keeps.refl _ _) (Nat.zero_le _)) (Nat.zero_le _)).mono ?_
       rintro e w9 ⟨d1, r1, d2, r2, d3, r3, B, len, rfl, hB8, hB9, hlen, hla, o1, o2, o3, hb⟩
       replace HA : Hid (w9.rangeAt w.heap.size 0 [.bool x.pack, .slice a1 x.berths.length c1, .slice a2 x.services.length c2, .slice a3 x.copies.length c3]) := range_next HA.out hb
       replace HP : Hid (w9.rangeAt (w.heap.size + 1) 0 [.int .i64 v.kind, .string v.berth.name, .string v.berth.zone, .slice am v.berth.marks.length cm, .int .i64 v.berth.room, .int .i64 v.berth.hold, .bool v.berth.closed, .string v.copy.name, .string v.copy.service, .int .i64 v.copy.rank, .int .i64 v.copy.born, .int .i64 v.copy.room, .int .i64 v.copy.hold, .string v.copy.select, .slice al v.copy.likes.length cl, .int .i64 v.copy.apart, .string v.copy.near, .string v.copy.fixed, .string v.copy.at_, .string v.name, .string v.at_]) := range_next HP.out hb
       replace H4 : Hid (w9.rangeAt ga 0 [.bool y.pack, .slice b1 y.berths.length q1, .slice b2 y.services.length q2, .slice b3 y.copies.length q3]) := range_next H4.out hb
       replace H5 : Hid (w9.rangeAt w5.heap.size 0 [.bool x.pack, .slice (some ⟨g1, 0, none⟩) x.berths.length x.berths.length, .slice (some ⟨g2, 0, none⟩) x.services.length x.services.length, .slice (some ⟨g3, 0, none⟩) x.copies.length x.copies.length]) := range_next H5.out hb
       replace HB3 : Hid (Below w4.heap.size w4 w9) := HB3.out.trans (hb.mono HB3.out.size)
       replace HB5 : Hid (Below w5.heap.size w5 w9) := HB5.out.trans (hb.mono HB5.out.size)
       replace H8 : Hid (w9.rangeAt w7.heap.size 0 [.int .i64 v.kind, .string v.berth.name, .string v.berth.zone, .slice (some ⟨xm, 0, none⟩) v.berth.marks.length v.berth.marks.length, .int .i64 v.berth.room, .int .i64 v.berth.hold, .bool v.berth.closed, .string v.copy.name, .string v.copy.service, .int .i64 v.copy.rank, .int .i64 v.copy.born, .int .i64 v.copy.room, .int .i64 v.copy.hold, .string v.copy.select, .slice (some ⟨xl, 0, none⟩) v.copy.likes.length v.copy.likes.length, .int .i64 v.copy.apart, .string v.copy.near, .string v.copy.fixed, .string v.copy.at_, .string v.name, .string v.at_]) := range_next H8.out hb
       replace HB7 : Hid (Below w7.heap.size w7 w9) := HB7.out.trans (hb.mono HB7.out.size)
       replace hB : Below w.heap.size w w9 := hB.trans (hb.mono hB.size)
       have z9 := hb.size
       have GS : Hid ((SliceC BrtC 6 w8.heap.size w9 d1 y.berths ∧ SliceC SvcC 2 w8.heap.size w9 d2 y.services ∧ SliceC CpyC 12 w8.heap.size w9 d3 y.copies)) := ⟨o1, o2, o3⟩
       have LW : Hid (LA 12 14 (.agg #[.bool y.pack, .slice d1 y.berths.length r1, .slice d2 y.services.length r2, .slice d3 y.copies.length r3]) w9 B w9.heap.size len) := hla
       have HLEN : Hid (1 + len ≤ 1073741824) := by have h9 := HMY.out; show _ ≤ _; omega
       clear hb hla o1 o2 o3 hlen
       as_aux_lemma =>
        have hb : Below w9.heap.size w9 (w9.alloc (Obj.cells #[.bool y.pack, .slice d1 y.berths.length r1, .slice d2 y.services.length r2, .slice d3 y.copies.length r3] 41)) := (Below.refl _ _).alloc nL _
        have H6 : Hid ((w9.alloc (Obj.cells #[.bool y.pack, .slice d1 y.berths.length r1, .slice d2 y.services.length r2, .slice d3 y.copies.length r3] 41)).rangeAt w9.heap.size 0 [.bool y.pack, .slice d1 y.berths.length r1, .slice d2 y.services.length r2, .slice d3 y.copies.length r3]) := (Blk.alloc w9 _ _).rangeA
        replace HA : Hid ((w9.alloc (Obj.cells #[.bool y.pack, .slice d1 y.berths.length r1, .slice d2 y.services.length r2, .slice d3 y.copies.length r3] 41)).rangeAt w.heap.size 0 [.bool x.pack, .slice a1 x.berths.length c1, .slice a2 x.services.length c2, .slice a3 x.copies.length c3]) := range_next HA.out hb
        replace HP : Hid ((w9.alloc (Obj.cells #[.bool y.pack, .slice d1 y.berths.length r1, .slice d2 y.services.length r2, .slice d3 y.copies.length r3] 41)).rangeAt (w.heap.size + 1) 0 [.int .i64 v.kind, .string v.berth.name, .string v.berth.zone, .slice am v.berth.marks.length cm, .int .i64 v.berth.room, .int .i64 v.berth.hold, .bool v.berth.closed, .string v.copy.name, .string v.copy.service, .int .i64 v.copy.rank, .int .i64 v.copy.born, .int .i64 v.copy.room, .int .i64 v.copy.hold, .string v.copy.select, .slice al v.copy.likes.length cl, .int .i64 v.copy.apart, .string v.copy.near, .string v.copy.fixed, .string v.copy.at_, .string v.name, .string v.at_]) := range_next HP.out hb
        replace H4 : Hid ((w9.alloc (Obj.cells #[.bool y.pack, .slice d1 y.berths.length r1, .slice d2 y.services.length r2, .slice d3 y.copies.length r3] 41)).rangeAt ga 0 [.bool y.pack, .slice b1 y.berths.length q1, .slice b2 y.services.length q2, .slice b3 y.copies.length q3]) := range_next H4.out hb
        replace H5 : Hid ((w9.alloc (Obj.cells #[.bool y.pack, .slice d1 y.berths.length r1, .slice d2 y.services.length r2, .slice d3 y.copies.length r3] 41)).rangeAt w5.heap.size 0 [.bool x.pack, .slice (some ⟨g1, 0, none⟩) x.berths.length x.berths.length, .slice (some ⟨g2, 0, none⟩) x.services.length x.services.length, .slice (some ⟨g3, 0, none⟩) x.copies.length x.copies.length]) := range_next H5.out hb
        replace HB3 : Hid (Below w4.heap.size w4 (w9.alloc (Obj.cells #[.bool y.pack, .slice d1 y.berths.length r1, .slice d2 y.services.length r2, .slice d3 y.copies.length r3] 41))) := HB3.out.trans (hb.mono HB3.out.size)
        replace HB5 : Hid (Below w5.heap.size w5 (w9.alloc (Obj.cells #[.bool y.pack, .slice d1 y.berths.length r1, .slice d2 y.services.length r2, .slice d3 y.copies.length r3] 41))) := HB5.out.trans (hb.mono HB5.out.size)
        replace H8 : Hid ((w9.alloc (Obj.cells #[.bool y.pack, .slice d1 y.berths.length r1, .slice d2 y.services.length r2, .slice d3 y.copies.length r3] 41)).rangeAt w7.heap.size 0 [.int .i64 v.kind, .string v.berth.name, .string v.berth.zone, .slice (some ⟨xm, 0, none⟩) v.berth.marks.length v.berth.marks.length, .int .i64 v.berth.room, .int .i64 v.berth.hold, .bool v.berth.closed, .string v.copy.name, .string v.copy.service, .int .i64 v.copy.rank, .int .i64 v.copy.born, .int .i64 v.copy.room, .int .i64 v.copy.hold, .string v.copy.select, .slice (some ⟨xl, 0, none⟩) v.copy.likes.length v.copy.likes.length, .int .i64 v.copy.apart, .string v.copy.near, .string v.copy.fixed, .string v.copy.at_, .string v.name, .string v.at_]) := range_next H8.out hb
        replace HB7 : Hid (Below w7.heap.size w7 (w9.alloc (Obj.cells #[.bool y.pack, .slice d1 y.berths.length r1, .slice d2 y.services.length r2, .slice d3 y.copies.length r3] 41))) := HB7.out.trans (hb.mono HB7.out.size)
        replace GS : Hid ((SliceC BrtC 6 w8.heap.size (w9.alloc (Obj.cells #[.bool y.pack, .slice d1 y.berths.length r1, .slice d2 y.services.length r2, .slice d3 y.copies.length r3] 41)) d1 y.berths ∧ SliceC SvcC 2 w8.heap.size (w9.alloc (Obj.cells #[.bool y.pack, .slice d1 y.berths.length r1, .slice d2 y.services.length r2, .slice d3 y.copies.length r3] 41)) d2 y.services ∧ SliceC CpyC 12 w8.heap.size (w9.alloc (Obj.cells #[.bool y.pack, .slice d1 y.berths.length r1, .slice d2 y.services.length r2, .slice d3 y.copies.length r3] 41)) d3 y.copies)) := ⟨GS.out.1.below BrtC.holds hb nL, GS.out.2.1.below SvcC.holds hb nL, GS.out.2.2.below CpyC.holds hb nL⟩
        replace LW : Hid (LA 12 14 (.agg #[.bool y.pack, .slice d1 y.berths.length r1, .slice d2 y.services.length r2, .slice d3 y.copies.length r3]) (w9.alloc (Obj.cells #[.bool y.pack, .slice d1 y.berths.length r1, .slice d2 y.services.length r2, .slice d3 y.copies.length r3] 41)) B w9.heap.size len) := LW.out.at (KpI.below hb)
        replace hB : Below w.heap.size w (w9.alloc (Obj.cells #[.bool y.pack, .slice d1 y.berths.length r1, .slice d2 y.services.length r2, .slice d3 y.copies.length r3] 41)) := hB.trans (hb.mono hB.size)
        clear hb
        go_upto_region 12 with fail
        generalize w9.alloc (Obj.cells #[.bool y.pack, .slice d1 y.berths.length r1, .slice d2 y.services.length r2, .slice d3 y.copies.length r3] 41) = w10 at *
        have zA : w.heap.size < w10.heap.size := range_lt HA.out
        as_aux_lemma =>
         go_wp2_with (first | (refine wpList_load_mid rfl 41 _ rfl w9.heap.size 0 rfl [.bool y.pack, .slice d1 y.berths.length r1, .slice d2 y.services.length r2, .slice d3 y.copies.length r3] _ H6.out Tryz.underlying41 rfl isz_Flt ?_) | (refine wpList_load_mid rfl 41 _ rfl ga 0 rfl [.bool y.pack, .slice b1 y.berths.length q1, .slice b2 y.services.length q2, .slice b3 y.copies.length q3] _ H4.out Tryz.underlying41 rfl isz_Flt ?_))
         refine (eqFlt_any y d1 r1 d2 r2 d3 r3 b1 q1 b2 q2 b3 q3 _ _ _ GS.out.1 GS.out.2.1 GS.out.2.2 (PO1.out.below BrtC.holds HB3.out nL) (PO2.out.below SvcC.holds HB3.out nL) (PO3.out.below CpyC.holds HB3.out nL) HMY.out).mono ?_
         rintro e w11 ⟨rfl, hb⟩
         replace HA : Hid (w11.rangeAt w.heap.size 0 [.bool x.pack, .slice a1 x.berths.length c1, .slice a2 x.services.length c2, .slice a3 x.copies.length c3]) := range_next HA.out hb
         replace HP : Hid (w11.rangeAt (w.heap.size + 1) 0 [.int .i64 v.kind, .string v.berth.name, .string v.berth.zone, .slice am v.berth.marks.length cm, .int .i64 v.berth.room, .int .i64 v.berth.hold, .bool v.berth.closed, .string v.copy.name, .string v.copy.service, .int .i64 v.copy.rank, .int .i64 v.copy.born, .int .i64 v.copy.room, .int .i64 v.copy.hold, .string v.copy.select, .slice al v.copy.likes.length cl, .int .i64 v.copy.apart, .string v.copy.near, .string v.copy.fixed, .string v.copy.at_, .string v.name, .string v.at_]) := range_next HP.out hb
         replace H4 : Hid (w11.rangeAt ga 0 [.bool y.pack, .slice b1 y.berths.length q1, .slice b2 y.services.length q2, .slice b3 y.copies.length q3]) := range_next H4.out hb
         replace H5 : Hid (w11.rangeAt w5.heap.size 0 [.bool x.pack, .slice (some ⟨g1, 0, none⟩) x.berths.length x.berths.length, .slice (some ⟨g2, 0, none⟩) x.services.length x.services.length, .slice (some ⟨g3, 0, none⟩) x.copies.length x.copies.length]) := range_next H5.out hb
         replace HB3 : Hid (Below w4.heap.size w4 w11) := HB3.out.trans (hb.mono HB3.out.size)
         replace HB5 : Hid (Below w5.heap.size w5 w11) := HB5.out.trans (hb.mono HB5.out.size)
         replace H8 : Hid (w11.rangeAt w7.heap.size 0 [.int .i64 v.kind, .string v.berth.name, .string v.berth.zone, .slice (some ⟨xm, 0, none⟩) v.berth.marks.length v.berth.marks.length, .int .i64 v.berth.room, .int .i64 v.berth.hold, .bool v.berth.closed, .string v.copy.name, .string v.copy.service, .int .i64 v.copy.rank, .int .i64 v.copy.born, .int .i64 v.copy.room, .int .i64 v.copy.hold, .string v.copy.select, .slice (some ⟨xl, 0, none⟩) v.copy.likes.length v.copy.likes.length, .int .i64 v.copy.apart, .string v.copy.near, .string v.copy.fixed, .string v.copy.at_, .string v.name, .string v.at_]) := range_next H8.out hb
         replace HB7 : Hid (Below w7.heap.size w7 w11) := HB7.out.trans (hb.mono HB7.out.size)
         replace GS : Hid ((SliceC BrtC 6 w8.heap.size w11 d1 y.berths ∧ SliceC SvcC 2 w8.heap.size w11 d2 y.services ∧ SliceC CpyC 12 w8.heap.size w11 d3 y.copies)) := ⟨GS.out.1.below BrtC.holds hb nL, GS.out.2.1.below SvcC.holds hb nL, GS.out.2.2.below CpyC.holds hb nL⟩
         replace LW : Hid (LA 12 14 (.agg #[.bool y.pack, .slice d1 y.berths.length r1, .slice d2 y.services.length r2, .slice d3 y.copies.length r3]) w11 B w9.heap.size len) := LW.out.at (KpI.below hb)
         replace H6 : Hid (w11.rangeAt w9.heap.size 0 [.bool y.pack, .slice d1 y.berths.length r1, .slice d2 y.services.length r2, .slice d3 y.copies.length r3]) := range_next H6.out hb
         replace hB : Below w.heap.size w w11 := hB.trans (hb.mono hB.size)
         clear hb
         as_aux_lemma =>
          go_upto_region 14 with fail
          refine wp_region_held_drew (S := fun wy => wy.rangeAt w5.heap.size 0 [.bool x.pack, .slice (some ⟨g1, 0, none⟩) x.berths.length x.berths.length, .slice (some ⟨g2, 0, none⟩) x.services.length x.services.length, .slice (some ⟨g3, 0, none⟩) x.copies.length x.copies.length] ∧ wy.rangeAt w.heap.size 0 [.bool x.pack, .slice a1 x.berths.length c1, .slice a2 x.services.length c2, .slice a3 x.copies.length c3]) (by kernel_rfl) ⟨range_drew H5.out, range_drew HA.out⟩ (fun hS => ?_)
          have hb : Below w11.heap.size w11 w11.drew := (Below.refl _ _).drew
          replace HA : Hid (w11.drew.rangeAt w.heap.size 0 [.bool x.pack, .slice a1 x.berths.length c1, .slice a2 x.services.length c2, .slice a3 x.copies.length c3]) := range_next HA.out hb
          replace HP : Hid (w11.drew.rangeAt (w.heap.size + 1) 0 [.int .i64 v.kind, .string v.berth.name, .string v.berth.zone, .slice am v.berth.marks.length cm, .int .i64 v.berth.room, .int .i64 v.berth.hold, .bool v.berth.closed, .string v.copy.name, .string v.copy.service, .int .i64 v.copy.rank, .int .i64 v.copy.born, .int .i64 v.copy.room, .int .i64 v.copy.hold, .string v.copy.select, .slice al v.copy.likes.length cl, .int .i64 v.copy.apart, .string v.copy.near, .string v.copy.fixed, .string v.copy.at_, .string v.name, .string v.at_]) := range_next HP.out hb
          replace H4 : Hid (w11.drew.rangeAt ga 0 [.bool y.pack, .slice b1 y.berths.length q1, .slice b2 y.services.length q2, .slice b3 y.copies.length q3]) := range_next H4.out hb
          replace H5 : Hid (w11.drew.rangeAt w5.heap.size 0 [.bool x.pack, .slice (some ⟨g1, 0, none⟩) x.berths.length x.berths.length, .slice (some ⟨g2, 0, none⟩) x.services.length x.services.length, .slice (some ⟨g3, 0, none⟩) x.copies.length x.copies.length]) := range_next H5.out hb
          replace HB3 : Hid (Below w4.heap.size w4 w11.drew) := HB3.out.trans (hb.mono HB3.out.size)
          replace HB5 : Hid (Below w5.heap.size w5 w11.drew) := HB5.out.trans (hb.mono HB5.out.size)
          replace H8 : Hid (w11.drew.rangeAt w7.heap.size 0 [.int .i64 v.kind, .string v.berth.name, .string v.berth.zone, .slice (some ⟨xm, 0, none⟩) v.berth.marks.length v.berth.marks.length, .int .i64 v.berth.room, .int .i64 v.berth.hold, .bool v.berth.closed, .string v.copy.name, .string v.copy.service, .int .i64 v.copy.rank, .int .i64 v.copy.born, .int .i64 v.copy.room, .int .i64 v.copy.hold, .string v.copy.select, .slice (some ⟨xl, 0, none⟩) v.copy.likes.length v.copy.likes.length, .int .i64 v.copy.apart, .string v.copy.near, .string v.copy.fixed, .string v.copy.at_, .string v.name, .string v.at_]) := range_next H8.out hb
          replace HB7 : Hid (Below w7.heap.size w7 w11.drew) := HB7.out.trans (hb.mono HB7.out.size)
          replace GS : Hid ((SliceC BrtC 6 w8.heap.size w11.drew d1 y.berths ∧ SliceC SvcC 2 w8.heap.size w11.drew d2 y.services ∧ SliceC CpyC 12 w8.heap.size w11.drew d3 y.copies)) := ⟨GS.out.1.below BrtC.holds hb nL, GS.out.2.1.below SvcC.holds hb nL, GS.out.2.2.below CpyC.holds hb nL⟩
          replace LW : Hid (LA 12 14 (.agg #[.bool y.pack, .slice d1 y.berths.length r1, .slice d2 y.services.length r2, .slice d3 y.copies.length r3]) w11.drew B w9.heap.size len) := LW.out.at (KpI.below hb)
          replace H6 : Hid (w11.drew.rangeAt w9.heap.size 0 [.bool y.pack, .slice d1 y.berths.length r1, .slice d2 y.services.length r2, .slice d3 y.copies.length r3]) := range_next H6.out hb
          replace hB : Below w.heap.size w w11.drew := hB.trans (hb.mono hB.size)
          clear hb
          generalize w11.drew = w12 at *
          refine tm 0 54 w5.heap.size 0 [.bool x.pack, .slice (some ⟨g1, 0, none⟩) x.berths.length x.berths.length, .slice (some ⟨g2, 0, none⟩) x.services.length x.services.length, .slice (some ⟨g3, 0, none⟩) x.copies.length x.copies.length] rfl (fun _ h => h.1) Tryz.underlying41 isz_Flt hS ?_
          simp only [pA,pB,pC,pD]
          refine tm 1 55 w.heap.size 0 [.bool x.pack, .slice a1 x.berths.length c1, .slice a2 x.services.length c2, .slice a3 x.copies.length c3] rfl (fun _ h => h.2) Tryz.underlying26 iszL_Flt hS ?_
          simp only [pA,pB,pC,pD]
          refine rd1 2 ⟨some 56, _, _, _, _, none⟩ rfl (fun K hK => ?_)
          go_simp
          refine (toFlt_any x a1 c1 a2 c2 a3 c3 lo _ (N1.out.below BrtC.holds (B := w.heap.size) hB nL) (N2.out.below SvcC.holds (B := w.heap.size) hB nL) (N3.out.below CpyC.holds (B := w.heap.size) hB nL) HM.out).mono ?_
          rintro e w13 ⟨h1, h2, h3, rfl, p1, p2, p3, hb⟩
          replace HA : Hid (w13.rangeAt w.heap.size 0 [.bool x.pack, .slice a1 x.berths.length c1, .slice a2 x.services.length c2, .slice a3 x.copies.length c3]) := range_next HA.out hb
          replace HP : Hid (w13.rangeAt (w.heap.size + 1) 0 [.int .i64 v.kind, .string v.berth.name, .string v.berth.zone, .slice am v.berth.marks.length cm, .int .i64 v.berth.room, .int .i64 v.berth.hold, .bool v.berth.closed, .string v.copy.name, .string v.copy.service, .int .i64 v.copy.rank, .int .i64 v.copy.born, .int .i64 v.copy.room, .int .i64 v.copy.hold, .string v.copy.select, .slice al v.copy.likes.length cl, .int .i64 v.copy.apart, .string v.copy.near, .string v.copy.fixed, .string v.copy.at_, .string v.name, .string v.at_]) := range_next HP.out hb
          replace H4 : Hid (w13.rangeAt ga 0 [.bool y.pack, .slice b1 y.berths.length q1, .slice b2 y.services.length q2, .slice b3 y.copies.length q3]) := range_next H4.out hb
          replace H5 : Hid (w13.rangeAt w5.heap.size 0 [.bool x.pack, .slice (some ⟨g1, 0, none⟩) x.berths.length x.berths.length, .slice (some ⟨g2, 0, none⟩) x.services.length x.services.length, .slice (some ⟨g3, 0, none⟩) x.copies.length x.copies.length]) := range_next H5.out hb
          replace HB3 : Hid (Below w4.heap.size w4 w13) := HB3.out.trans (hb.mono HB3.out.size)
          replace HB5 : Hid (Below w5.heap.size w5 w13) := HB5.out.trans (hb.mono HB5.out.size)
          replace H8 : Hid (w13.rangeAt w7.heap.size 0 [.int .i64 v.kind, .string v.berth.name, .string v.berth.zone, .slice (some ⟨xm, 0, none⟩) v.berth.marks.length v.berth.marks.length, .int .i64 v.berth.room, .int .i64 v.berth.hold, .bool v.berth.closed, .string v.copy.name, .string v.copy.service, .int .i64 v.copy.rank, .int .i64 v.copy.born, .int .i64 v.copy.room, .int .i64 v.copy.hold, .string v.copy.select, .slice (some ⟨xl, 0, none⟩) v.copy.likes.length v.copy.likes.length, .int .i64 v.copy.apart, .string v.copy.near, .string v.copy.fixed, .string v.copy.at_, .string v.name, .string v.at_]) := range_next H8.out hb
          replace HB7 : Hid (Below w7.heap.size w7 w13) := HB7.out.trans (hb.mono HB7.out.size)
          replace GS : Hid ((SliceC BrtC 6 w8.heap.size w13 d1 y.berths ∧ SliceC SvcC 2 w8.heap.size w13 d2 y.services ∧ SliceC CpyC 12 w8.heap.size w13 d3 y.copies)) := ⟨GS.out.1.below BrtC.holds hb nL, GS.out.2.1.below SvcC.holds hb nL, GS.out.2.2.below CpyC.holds hb nL⟩
          replace LW : Hid (LA 12 14 (.agg #[.bool y.pack, .slice d1 y.berths.length r1, .slice d2 y.services.length r2, .slice d3 y.copies.length r3]) w13 B w9.heap.size len) := LW.out.at (KpI.below hb)
          replace H6 : Hid (w13.rangeAt w9.heap.size 0 [.bool y.pack, .slice d1 y.berths.length r1, .slice d2 y.services.length r2, .slice d3 y.copies.length r3]) := range_next H6.out hb
          replace hB : Below w.heap.size w w13 := hB.trans (hb.mono hB.size)
          refine hK.out _ _ ⟨H5.out, HA.out⟩ (fun hS => ?_)
          clear hK K hb
          have T1 := iH p1
          have T2 := iH p2
          have T3 := iH p3
          clear p1 p2 p3
          refine rd1 3 ⟨some 57, _, _, _, _, none⟩ rfl (fun K hK => ?_)
          go_simp
          refine (eqFlt_any x (some ⟨g1, 0, none⟩) x.berths.length (some ⟨g2, 0, none⟩) x.services.length (some ⟨g3, 0, none⟩) x.copies.length (some ⟨h1, 0, none⟩) x.berths.length (some ⟨h2, 0, none⟩) x.services.length (some ⟨h3, 0, none⟩) x.copies.length _ _ _ (Q1.out.below BrtC.holds HB5.out nL) (Q2.out.below SvcC.holds HB5.out nL) (Q3.out.below CpyC.holds HB5.out nL) T1.out T2.out T3.out HM.out).mono ?_
          rintro e w14 ⟨rfl, hb⟩
          replace HA : Hid (w14.rangeAt w.heap.size 0 [.bool x.pack, .slice a1 x.berths.length c1, .slice a2 x.services.length c2, .slice a3 x.copies.length c3]) := range_next HA.out hb
          replace HP : Hid (w14.rangeAt (w.heap.size + 1) 0 [.int .i64 v.kind, .string v.berth.name, .string v.berth.zone, .slice am v.berth.marks.length cm, .int .i64 v.berth.room, .int .i64 v.berth.hold, .bool v.berth.closed, .string v.copy.name, .string v.copy.service, .int .i64 v.copy.rank, .int .i64 v.copy.born, .int .i64 v.copy.room, .int .i64 v.copy.hold, .string v.copy.select, .slice al v.copy.likes.length cl, .int .i64 v.copy.apart, .string v.copy.near, .string v.copy.fixed, .string v.copy.at_, .string v.name, .string v.at_]) := range_next HP.out hb
          replace H4 : Hid (w14.rangeAt ga 0 [.bool y.pack, .slice b1 y.berths.length q1, .slice b2 y.services.length q2, .slice b3 y.copies.length q3]) := range_next H4.out hb
          replace H5 : Hid (w14.rangeAt w5.heap.size 0 [.bool x.pack, .slice (some ⟨g1, 0, none⟩) x.berths.length x.berths.length, .slice (some ⟨g2, 0, none⟩) x.services.length x.services.length, .slice (some ⟨g3, 0, none⟩) x.copies.length x.copies.length]) := range_next H5.out hb
          replace HB3 : Hid (Below w4.heap.size w4 w14) := HB3.out.trans (hb.mono HB3.out.size)
          replace HB5 : Hid (Below w5.heap.size w5 w14) := HB5.out.trans (hb.mono HB5.out.size)
          replace H8 : Hid (w14.rangeAt w7.heap.size 0 [.int .i64 v.kind, .string v.berth.name, .string v.berth.zone, .slice (some ⟨xm, 0, none⟩) v.berth.marks.length v.berth.marks.length, .int .i64 v.berth.room, .int .i64 v.berth.hold, .bool v.berth.closed, .string v.copy.name, .string v.copy.service, .int .i64 v.copy.rank, .int .i64 v.copy.born, .int .i64 v.copy.room, .int .i64 v.copy.hold, .string v.copy.select, .slice (some ⟨xl, 0, none⟩) v.copy.likes.length v.copy.likes.length, .int .i64 v.copy.apart, .string v.copy.near, .string v.copy.fixed, .string v.copy.at_, .string v.name, .string v.at_]) := range_next H8.out hb
          replace HB7 : Hid (Below w7.heap.size w7 w14) := HB7.out.trans (hb.mono HB7.out.size)
          replace GS : Hid ((SliceC BrtC 6 w8.heap.size w14 d1 y.berths ∧ SliceC SvcC 2 w8.heap.size w14 d2 y.services ∧ SliceC CpyC 12 w8.heap.size w14 d3 y.copies)) := ⟨GS.out.1.below BrtC.holds hb nL, GS.out.2.1.below SvcC.holds hb nL, GS.out.2.2.below CpyC.holds hb nL⟩
          replace LW : Hid (LA 12 14 (.agg #[.bool y.pack, .slice d1 y.berths.length r1, .slice d2 y.services.length r2, .slice d3 y.copies.length r3]) w14 B w9.heap.size len) := LW.out.at (KpI.below hb)
          replace H6 : Hid (w14.rangeAt w9.heap.size 0 [.bool y.pack, .slice d1 y.berths.length r1, .slice d2 y.services.length r2, .slice d3 y.copies.length r3]) := range_next H6.out hb
          replace hB : Below w.heap.size w w14 := hB.trans (hb.mono hB.size)
          refine hK.out _ _ ⟨H5.out, HA.out⟩ (fun hS => ?_)
          clear hK K hb T1 T2 T3
          refine tz 4 58 (.bool false) rfl hS ?_
          simp only [pA,pB,pC,pD]
          refine td ?_
          clear hS
          as_aux_lemma =>
           go_upto_region 16 with fail
           refine wp_region_held_drew (S := fun wy => wy.rangeAt w7.heap.size 0 [.int .i64 v.kind, .string v.berth.name, .string v.berth.zone, .slice (some ⟨xm, 0, none⟩) v.berth.marks.length v.berth.marks.length, .int .i64 v.berth.room, .int .i64 v.berth.hold, .bool v.berth.closed, .string v.copy.name, .string v.copy.service, .int .i64 v.copy.rank, .int .i64 v.copy.born, .int .i64 v.copy.room, .int .i64 v.copy.hold, .string v.copy.select, .slice (some ⟨xl, 0, none⟩) v.copy.likes.length v.copy.likes.length, .int .i64 v.copy.apart, .string v.copy.near, .string v.copy.fixed, .string v.copy.at_, .string v.name, .string v.at_] ∧ wy.rangeAt (w.heap.size + 1) 0 [.int .i64 v.kind, .string v.berth.name, .string v.berth.zone, .slice am v.berth.marks.length cm, .int .i64 v.berth.room, .int .i64 v.berth.hold, .bool v.berth.closed, .string v.copy.name, .string v.copy.service, .int .i64 v.copy.rank, .int .i64 v.copy.born, .int .i64 v.copy.room, .int .i64 v.copy.hold, .string v.copy.select, .slice al v.copy.likes.length cl, .int .i64 v.copy.apart, .string v.copy.near, .string v.copy.fixed, .string v.copy.at_, .string v.name, .string v.at_]) (by kernel_rfl) ⟨range_drew H8.out, range_drew HP.out⟩ (fun hS => ?_)
           have hb : Below w14.heap.size w14 w14.drew := (Below.refl _ _).drew
           replace HA : Hid (w14.drew.rangeAt w.heap.size 0 [.bool x.pack, .slice a1 x.berths.length c1, .slice a2 x.services.length c2, .slice a3 x.copies.length c3]) := range_next HA.out hb
           replace HP : Hid (w14.drew.rangeAt (w.heap.size + 1) 0 [.int .i64 v.kind, .string v.berth.name, .string v.berth.zone, .slice am v.berth.marks.length cm, .int .i64 v.berth.room, .int .i64 v.berth.hold, .bool v.berth.closed, .string v.copy.name, .string v.copy.service, .int .i64 v.copy.rank, .int .i64 v.copy.born, .int .i64 v.copy.room, .int .i64 v.copy.hold, .string v.copy.select, .slice al v.copy.likes.length cl, .int .i64 v.copy.apart, .string v.copy.near, .string v.copy.fixed, .string v.copy.at_, .string v.name, .string v.at_]) := range_next HP.out hb
           replace H4 : Hid (w14.drew.rangeAt ga 0 [.bool y.pack, .slice b1 y.berths.length q1, .slice b2 y.services.length q2, .slice b3 y.copies.length q3]) := range_next H4.out hb
           replace H5 : Hid (w14.drew.rangeAt w5.heap.size 0 [.bool x.pack, .slice (some ⟨g1, 0, none⟩) x.berths.length x.berths.length, .slice (some ⟨g2, 0, none⟩) x.services.length x.services.length, .slice (some ⟨g3, 0, none⟩) x.copies.length x.copies.length]) := range_next H5.out hb
           replace HB3 : Hid (Below w4.heap.size w4 w14.drew) := HB3.out.trans (hb.mono HB3.out.size)
           replace HB5 : Hid (Below w5.heap.size w5 w14.drew) := HB5.out.trans (hb.mono HB5.out.size)
           replace H8 : Hid (w14.drew.rangeAt w7.heap.size 0 [.int .i64 v.kind, .string v.berth.name, .string v.berth.zone, .slice (some ⟨xm, 0, none⟩) v.berth.marks.length v.berth.marks.length, .int .i64 v.berth.room, .int .i64 v.berth.hold, .bool v.berth.closed, .string v.copy.name, .string v.copy.service, .int .i64 v.copy.rank, .int .i64 v.copy.born, .int .i64 v.copy.room, .int .i64 v.copy.hold, .string v.copy.select, .slice (some ⟨xl, 0, none⟩) v.copy.likes.length v.copy.likes.length, .int .i64 v.copy.apart, .string v.copy.near, .string v.copy.fixed, .string v.copy.at_, .string v.name, .string v.at_]) := range_next H8.out hb
           replace HB7 : Hid (Below w7.heap.size w7 w14.drew) := HB7.out.trans (hb.mono HB7.out.size)
           replace GS : Hid ((SliceC BrtC 6 w8.heap.size w14.drew d1 y.berths ∧ SliceC SvcC 2 w8.heap.size w14.drew d2 y.services ∧ SliceC CpyC 12 w8.heap.size w14.drew d3 y.copies)) := ⟨GS.out.1.below BrtC.holds hb nL, GS.out.2.1.below SvcC.holds hb nL, GS.out.2.2.below CpyC.holds hb nL⟩
           replace LW : Hid (LA 12 14 (.agg #[.bool y.pack, .slice d1 y.berths.length r1, .slice d2 y.services.length r2, .slice d3 y.copies.length r3]) w14.drew B w9.heap.size len) := LW.out.at (KpI.below hb)
           replace H6 : Hid (w14.drew.rangeAt w9.heap.size 0 [.bool y.pack, .slice d1 y.berths.length r1, .slice d2 y.services.length r2, .slice d3 y.copies.length r3]) := range_next H6.out hb
           replace hB : Below w.heap.size w w14.drew := hB.trans (hb.mono hB.size)
           clear hb
           generalize w14.drew = w15 at *
           refine tm 0 59 w7.heap.size 0 [.int .i64 v.kind, .string v.berth.name, .string v.berth.zone, .slice (some ⟨xm, 0, none⟩) v.berth.marks.length v.berth.marks.length, .int .i64 v.berth.room, .int .i64 v.berth.hold, .bool v.berth.closed, .string v.copy.name, .string v.copy.service, .int .i64 v.copy.rank, .int .i64 v.copy.born, .int .i64 v.copy.room, .int .i64 v.copy.hold, .string v.copy.select, .slice (some ⟨xl, 0, none⟩) v.copy.likes.length v.copy.likes.length, .int .i64 v.copy.apart, .string v.copy.near, .string v.copy.fixed, .string v.copy.at_, .string v.name, .string v.at_] rfl (fun _ h => h.1) Tryz.underlying50 isz_Evt hS ?_
           simp only [pA,pB,pC,pD]
           refine tk 1 ⟨some 60, _, _, _, _, none⟩ (.agg #[.int .i64 v.kind, .string v.berth.name, .string v.berth.zone, .slice am v.berth.marks.length cm, .int .i64 v.berth.room, .int .i64 v.berth.hold, .bool v.berth.closed, .string v.copy.name, .string v.copy.service, .int .i64 v.copy.rank, .int .i64 v.copy.born, .int .i64 v.copy.room, .int .i64 v.copy.hold, .string v.copy.select, .slice al v.copy.likes.length cl, .int .i64 v.copy.apart, .string v.copy.near, .string v.copy.fixed, .string v.copy.at_, .string v.name, .string v.at_]) rfl (yieldsIf_load_mid (by rfl) _ _ rfl (w.heap.size + 1) (0) rfl [.int .i64 v.kind, .string v.berth.name, .string v.berth.zone, .slice am v.berth.marks.length cm, .int .i64 v.berth.room, .int .i64 v.berth.hold, .bool v.berth.closed, .string v.copy.name, .string v.copy.service, .int .i64 v.copy.rank, .int .i64 v.copy.born, .int .i64 v.copy.room, .int .i64 v.copy.hold, .string v.copy.select, .slice al v.copy.likes.length cl, .int .i64 v.copy.apart, .string v.copy.near, .string v.copy.fixed, .string v.copy.at_, .string v.name, .string v.at_] _ (fun _ h => h.2) Tryz.underlying34 rfl iszL_Evt) hS ?_
           simp only [pA,pB,pC,pD]
           refine rd1 2 ⟨some 61, _, _, _, _, none⟩ rfl (fun K hK => ?_)
           go_simp
           refine (toEvt_any v am cm al cl lo _ (NM.out.below StrC.holds (B := w.heap.size) hB nL) (NL.out.below LikC.holds (B := w.heap.size) hB nL) HMQ.out).mono ?_
           rintro e w16 ⟨hm_, hl_, rfl, pm, pl, hb⟩
           replace HA : Hid (w16.rangeAt w.heap.size 0 [.bool x.pack, .slice a1 x.berths.length c1, .slice a2 x.services.length c2, .slice a3 x.copies.length c3]) := range_next HA.out hb
           replace HP : Hid (w16.rangeAt (w.heap.size + 1) 0 [.int .i64 v.kind, .string v.berth.name, .string v.berth.zone, .slice am v.berth.marks.length cm, .int .i64 v.berth.room, .int .i64 v.berth.hold, .bool v.berth.closed, .string v.copy.name, .string v.copy.service, .int .i64 v.copy.rank, .int .i64 v.copy.born, .int .i64 v.copy.room, .int .i64 v.copy.hold, .string v.copy.select, .slice al v.copy.likes.length cl, .int .i64 v.copy.apart, .string v.copy.near, .string v.copy.fixed, .string v.copy.at_, .string v.name, .string v.at_]) := range_next HP.out hb
           replace H4 : Hid (w16.rangeAt ga 0 [.bool y.pack, .slice b1 y.berths.length q1, .slice b2 y.services.length q2, .slice b3 y.copies.length q3]) := range_next H4.out hb
           replace H5 : Hid (w16.rangeAt w5.heap.size 0 [.bool x.pack, .slice (some ⟨g1, 0, none⟩) x.berths.length x.berths.length, .slice (some ⟨g2, 0, none⟩) x.services.length x.services.length, .slice (some ⟨g3, 0, none⟩) x.copies.length x.copies.length]) := range_next H5.out hb
           replace HB3 : Hid (Below w4.heap.size w4 w16) := HB3.out.trans (hb.mono HB3.out.size)
           replace HB5 : Hid (Below w5.heap.size w5 w16) := HB5.out.trans (hb.mono HB5.out.size)
           replace H8 : Hid (w16.rangeAt w7.heap.size 0 [.int .i64 v.kind, .string v.berth.name, .string v.berth.zone, .slice (some ⟨xm, 0, none⟩) v.berth.marks.length v.berth.marks.length, .int .i64 v.berth.room, .int .i64 v.berth.hold, .bool v.berth.closed, .string v.copy.name, .string v.copy.service, .int .i64 v.copy.rank, .int .i64 v.copy.born, .int .i64 v.copy.room, .int .i64 v.copy.hold, .string v.copy.select, .slice (some ⟨xl, 0, none⟩) v.copy.likes.length v.copy.likes.length, .int .i64 v.copy.apart, .string v.copy.near, .string v.copy.fixed, .string v.copy.at_, .string v.name, .string v.at_]) := range_next H8.out hb
           replace HB7 : Hid (Below w7.heap.size w7 w16) := HB7.out.trans (hb.mono HB7.out.size)
           replace GS : Hid ((SliceC BrtC 6 w8.heap.size w16 d1 y.berths ∧ SliceC SvcC 2 w8.heap.size w16 d2 y.services ∧ SliceC CpyC 12 w8.heap.size w16 d3 y.copies)) := ⟨GS.out.1.below BrtC.holds hb nL, GS.out.2.1.below SvcC.holds hb nL, GS.out.2.2.below CpyC.holds hb nL⟩
           replace LW : Hid (LA 12 14 (.agg #[.bool y.pack, .slice d1 y.berths.length r1, .slice d2 y.services.length r2, .slice d3 y.copies.length r3]) w16 B w9.heap.size len) := LW.out.at (KpI.below hb)
           replace H6 : Hid (w16.rangeAt w9.heap.size 0 [.bool y.pack, .slice d1 y.berths.length r1, .slice d2 y.services.length r2, .slice d3 y.copies.length r3]) := range_next H6.out hb
           replace hB : Below w.heap.size w w16 := hB.trans (hb.mono hB.size)
           refine hK.out _ _ ⟨H8.out, HP.out⟩ (fun hS => ?_)
           clear hK K hb
           have TM := iH pm
           have TL := iH pl
           clear pm pl
           refine rd1 3 ⟨some 62, _, _, _, _, none⟩ rfl (fun K hK => ?_)
           go_simp
           refine (eqEvt_any v (some ⟨xm, 0, none⟩) v.berth.marks.length (some ⟨xl, 0, none⟩) v.copy.likes.length (some ⟨hm_, 0, none⟩) v.berth.marks.length (some ⟨hl_, 0, none⟩) v.copy.likes.length _ _ _ (QM0.out.below StrC.holds HB7.out nL) (QL0.out.below LikC.holds HB7.out nL) TM.out TL.out HMQ.out).mono ?_
           rintro e wg ⟨rfl, hb⟩
           replace HA : Hid (wg.rangeAt w.heap.size 0 [.bool x.pack, .slice a1 x.berths.length c1, .slice a2 x.services.length c2, .slice a3 x.copies.length c3]) := range_next HA.out hb
           replace HP : Hid (wg.rangeAt (w.heap.size + 1) 0 [.int .i64 v.kind, .string v.berth.name, .string v.berth.zone, .slice am v.berth.marks.length cm, .int .i64 v.berth.room, .int .i64 v.berth.hold, .bool v.berth.closed, .string v.copy.name, .string v.copy.service, .int .i64 v.copy.rank, .int .i64 v.copy.born, .int .i64 v.copy.room, .int .i64 v.copy.hold, .string v.copy.select, .slice al v.copy.likes.length cl, .int .i64 v.copy.apart, .string v.copy.near, .string v.copy.fixed, .string v.copy.at_, .string v.name, .string v.at_]) := range_next HP.out hb
           replace H4 : Hid (wg.rangeAt ga 0 [.bool y.pack, .slice b1 y.berths.length q1, .slice b2 y.services.length q2, .slice b3 y.copies.length q3]) := range_next H4.out hb
           replace H5 : Hid (wg.rangeAt w5.heap.size 0 [.bool x.pack, .slice (some ⟨g1, 0, none⟩) x.berths.length x.berths.length, .slice (some ⟨g2, 0, none⟩) x.services.length x.services.length, .slice (some ⟨g3, 0, none⟩) x.copies.length x.copies.length]) := range_next H5.out hb
           replace HB3 : Hid (Below w4.heap.size w4 wg) := HB3.out.trans (hb.mono HB3.out.size)
           replace HB5 : Hid (Below w5.heap.size w5 wg) := HB5.out.trans (hb.mono HB5.out.size)
           replace H8 : Hid (wg.rangeAt w7.heap.size 0 [.int .i64 v.kind, .string v.berth.name, .string v.berth.zone, .slice (some ⟨xm, 0, none⟩) v.berth.marks.length v.berth.marks.length, .int .i64 v.berth.room, .int .i64 v.berth.hold, .bool v.berth.closed, .string v.copy.name, .string v.copy.service, .int .i64 v.copy.rank, .int .i64 v.copy.born, .int .i64 v.copy.room, .int .i64 v.copy.hold, .string v.copy.select, .slice (some ⟨xl, 0, none⟩) v.copy.likes.length v.copy.likes.length, .int .i64 v.copy.apart, .string v.copy.near, .string v.copy.fixed, .string v.copy.at_, .string v.name, .string v.at_]) := range_next H8.out hb
           replace HB7 : Hid (Below w7.heap.size w7 wg) := HB7.out.trans (hb.mono HB7.out.size)
           replace GS : Hid ((SliceC BrtC 6 w8.heap.size wg d1 y.berths ∧ SliceC SvcC 2 w8.heap.size wg d2 y.services ∧ SliceC CpyC 12 w8.heap.size wg d3 y.copies)) := ⟨GS.out.1.below BrtC.holds hb nL, GS.out.2.1.below SvcC.holds hb nL, GS.out.2.2.below CpyC.holds hb nL⟩
           replace LW : Hid (LA 12 14 (.agg #[.bool y.pack, .slice d1 y.berths.length r1, .slice d2 y.services.length r2, .slice d3 y.copies.length r3]) wg B w9.heap.size len) := LW.out.at (KpI.below hb)
           replace H6 : Hid (wg.rangeAt w9.heap.size 0 [.bool y.pack, .slice d1 y.berths.length r1, .slice d2 y.services.length r2, .slice d3 y.copies.length r3]) := range_next H6.out hb
           replace hB : Below w.heap.size w wg := hB.trans (hb.mono hB.size)
           refine hK.out _ _ ⟨H8.out, HP.out⟩ (fun hS => ?_)
           clear hK K hb TM TL
           refine tz 4 63 (.bool false) rfl hS ?_
           simp only [pA,pB,pC,pD]
           refine td ?_
           clear hS
           as_aux_lemma =>
            have QM : Hid (SliceC StrC 1 w6.heap.size wg (some ⟨xm, 0, none⟩) v.berth.marks) := QM0.out.below StrC.holds HB7.out nL
            have QL : Hid (SliceC LikC 2 w6.heap.size wg (some ⟨xl, 0, none⟩) v.copy.likes) := QL0.out.below LikC.holds HB7.out nL
            go_wp2_with (refine wpList_load_mid rfl 41 _ rfl w5.heap.size 0 rfl [.bool x.pack, .slice (some ⟨g1, 0, none⟩) x.berths.length x.berths.length, .slice (some ⟨g2, 0, none⟩) x.services.length x.services.length, .slice (some ⟨g3, 0, none⟩) x.copies.length x.copies.length] _ H5.out Tryz.underlying41 rfl isz_Flt ?_)
            refine (markFlt_any x (some ⟨g1, 0, none⟩) x.berths.length (some ⟨g2, 0, none⟩) x.services.length (some ⟨g3, 0, none⟩) x.copies.length w4.heap.size 1 w5 wg wg Q1.out Q2.out Q3.out (by omega) (Mkd.start HB5.out z5) (by omega) (by have h9 := HM.out; omega)).mono ?_
            rintro e wh ⟨zx, rfl, hzx1, hzx2, hm⟩
            have hk : Keeps w5.heap.size wg wh := hm.keepsE nL
            replace HA : Hid (wh.rangeAt w.heap.size 0 [.bool x.pack, .slice a1 x.berths.length c1, .slice a2 x.services.length c2, .slice a3 x.copies.length c3]) := range_belowV HA.out hm.bel (by omega)
            replace HP : Hid (wh.rangeAt (w.heap.size + 1) 0 [.int .i64 v.kind, .string v.berth.name, .string v.berth.zone, .slice am v.berth.marks.length cm, .int .i64 v.berth.room, .int .i64 v.berth.hold, .bool v.berth.closed, .string v.copy.name, .string v.copy.service, .int .i64 v.copy.rank, .int .i64 v.copy.born, .int .i64 v.copy.room, .int .i64 v.copy.hold, .string v.copy.select, .slice al v.copy.likes.length cl, .int .i64 v.copy.apart, .string v.copy.near, .string v.copy.fixed, .string v.copy.at_, .string v.name, .string v.at_]) := range_belowV HP.out hm.bel (by omega)
            replace H4 : Hid (wh.rangeAt ga 0 [.bool y.pack, .slice b1 y.berths.length q1, .slice b2 y.services.length q2, .slice b3 y.copies.length q3]) := range_belowV H4.out hm.bel (by omega)
            replace HB3 : Hid (Below w4.heap.size w4 wh) := HB3.out.trans (hm.bel.mono (by omega))
            replace hB : Below w.heap.size w wh := hB.trans (hm.bel.mono (by omega))
            replace H6 : Hid (wh.rangeAt w9.heap.size 0 [.bool y.pack, .slice d1 y.berths.length r1, .slice d2 y.services.length r2, .slice d3 y.copies.length r3]) := range_keeps H6.out hk (by omega)
            replace GS : Hid ((SliceC BrtC 6 w8.heap.size wh d1 y.berths ∧ SliceC SvcC 2 w8.heap.size wh d2 y.services ∧ SliceC CpyC 12 w8.heap.size wh d3 y.copies)) := ⟨GS.out.1.keep BrtC.holds (hk.up (by omega)) nL, GS.out.2.1.keep SvcC.holds (hk.up (by omega)) nL, GS.out.2.2.keep CpyC.holds (hk.up (by omega)) nL⟩
            replace LW : Hid (LA 12 14 (.agg #[.bool y.pack, .slice d1 y.berths.length r1, .slice d2 y.services.length r2, .slice d3 y.copies.length r3]) wh B w9.heap.size len) := LW.out.at (KpI.keeps hk (by omega))
            replace H8 : Hid (wh.rangeAt w7.heap.size 0 [.int .i64 v.kind, .string v.berth.name, .string v.berth.zone, .slice (some ⟨xm, 0, none⟩) v.berth.marks.length v.berth.marks.length, .int .i64 v.berth.room, .int .i64 v.berth.hold, .bool v.berth.closed, .string v.copy.name, .string v.copy.service, .int .i64 v.copy.rank, .int .i64 v.copy.born, .int .i64 v.copy.room, .int .i64 v.copy.hold, .string v.copy.select, .slice (some ⟨xl, 0, none⟩) v.copy.likes.length v.copy.likes.length, .int .i64 v.copy.apart, .string v.copy.near, .string v.copy.fixed, .string v.copy.at_, .string v.name, .string v.at_]) := range_keeps H8.out hk (by omega)
            replace QM : Hid (SliceC StrC 1 w6.heap.size wh (some ⟨xm, 0, none⟩) v.berth.marks) := QM.out.keep StrC.holds (hk.up (by omega)) nL
            replace QL : Hid (SliceC LikC 2 w6.heap.size wh (some ⟨xl, 0, none⟩) v.copy.likes) := QL.out.keep LikC.holds (hk.up (by omega)) nL
            have z78 : w7.heap.size < wh.heap.size := range_lt H8.out
            clear hm hk H5 HB5 Q1 Q2 Q3
            go_wp2_with (refine wpList_load_mid rfl 50 _ rfl w7.heap.size 0 rfl [.int .i64 v.kind, .string v.berth.name, .string v.berth.zone, .slice (some ⟨xm, 0, none⟩) v.berth.marks.length v.berth.marks.length, .int .i64 v.berth.room, .int .i64 v.berth.hold, .bool v.berth.closed, .string v.copy.name, .string v.copy.service, .int .i64 v.copy.rank, .int .i64 v.copy.born, .int .i64 v.copy.room, .int .i64 v.copy.hold, .string v.copy.select, .slice (some ⟨xl, 0, none⟩) v.copy.likes.length v.copy.likes.length, .int .i64 v.copy.apart, .string v.copy.near, .string v.copy.fixed, .string v.copy.at_, .string v.name, .string v.at_] _ H8.out Tryz.underlying50 rfl isz_Evt ?_)
            refine (markEvt_any v (some ⟨xm, 0, none⟩) v.berth.marks.length (some ⟨xl, 0, none⟩) v.copy.likes.length w6.heap.size zx (truncE wh w7.heap.size) wh wh (truncE_str QM0.out nL QM.out (by omega)) (truncE_lik QL0.out nL QL.out (by omega)) (by omega) (Mkd.cutE (by omega) (by omega)) (by omega) (by have h9 := HM.out; have h8 := HMQ.out; omega)).mono ?_
            rintro e wi ⟨zy, rfl, hzy1, hzy2, hm⟩
            have hk : Keeps w7.heap.size wh wi := hm.keepsE (by rw [truncE_size (by omega)]; exact Nat.le_refl _)
            replace HA : Hid (wi.rangeAt w.heap.size 0 [.bool x.pack, .slice a1 x.berths.length c1, .slice a2 x.services.length c2, .slice a3 x.copies.length c3]) := range_belowV HA.out hm.bel (by omega)
            replace HP : Hid (wi.rangeAt (w.heap.size + 1) 0 [.int .i64 v.kind, .string v.berth.name, .string v.berth.zone, .slice am v.berth.marks.length cm, .int .i64 v.berth.room, .int .i64 v.berth.hold, .bool v.berth.closed, .string v.copy.name, .string v.copy.service, .int .i64 v.copy.rank, .int .i64 v.copy.born, .int .i64 v.copy.room, .int .i64 v.copy.hold, .string v.copy.select, .slice al v.copy.likes.length cl, .int .i64 v.copy.apart, .string v.copy.near, .string v.copy.fixed, .string v.copy.at_, .string v.name, .string v.at_]) := range_belowV HP.out hm.bel (by omega)
            replace H4 : Hid (wi.rangeAt ga 0 [.bool y.pack, .slice b1 y.berths.length q1, .slice b2 y.services.length q2, .slice b3 y.copies.length q3]) := range_belowV H4.out hm.bel (by omega)
            replace HB3 : Hid (Below w4.heap.size w4 wi) := HB3.out.trans (hm.bel.mono (by omega))
            replace hB : Below w.heap.size w wi := hB.trans (hm.bel.mono (by omega))
            replace H6 : Hid (wi.rangeAt w9.heap.size 0 [.bool y.pack, .slice d1 y.berths.length r1, .slice d2 y.services.length r2, .slice d3 y.copies.length r3]) := range_keeps H6.out hk (by omega)
            replace GS : Hid ((SliceC BrtC 6 w8.heap.size wi d1 y.berths ∧ SliceC SvcC 2 w8.heap.size wi d2 y.services ∧ SliceC CpyC 12 w8.heap.size wi d3 y.copies)) := ⟨GS.out.1.keep BrtC.holds (hk.up (by omega)) nL, GS.out.2.1.keep SvcC.holds (hk.up (by omega)) nL, GS.out.2.2.keep CpyC.holds (hk.up (by omega)) nL⟩
            replace LW : Hid (LA 12 14 (.agg #[.bool y.pack, .slice d1 y.berths.length r1, .slice d2 y.services.length r2, .slice d3 y.copies.length r3]) wi B w9.heap.size len) := LW.out.at (KpI.keeps hk (by omega))
            have hzn : ¬ zy < 0 := by omega
            clear hm hk H8 HB7 QM QL QM0 QL0 z78 hzx1 hzx2 hzy1 hzy2
            have k0 : wi.cell? ⟨w9.heap.size, 0, none⟩ = some (.bool y.pack) := H6.out 0 _ rfl
            have k1 : wi.cell? ⟨w9.heap.size, 1, none⟩ = some (.slice d1 y.berths.length r1) := H6.out 1 _ rfl
            have k2 : wi.cell? ⟨w9.heap.size, 2, none⟩ = some (.slice d2 y.services.length r2) := H6.out 2 _ rfl
            have k3 : wi.cell? ⟨w9.heap.size, 3, none⟩ = some (.slice d3 y.copies.length r3) := H6.out 3 _ rfl
            have l0 : wi.cell? ⟨ga, 0, none⟩ = some (.bool y.pack) := H4.out 0 _ rfl
            have l1 : wi.cell? ⟨ga, 1, none⟩ = some (.slice b1 y.berths.length q1) := H4.out 1 _ rfl
            have l2 : wi.cell? ⟨ga, 2, none⟩ = some (.slice b2 y.services.length q2) := H4.out 2 _ rfl
            have l3 : wi.cell? ⟨ga, 3, none⟩ = some (.slice b3 y.copies.length q3) := H4.out 3 _ rfl
            go_wp2_with fail
            clear k0 l0 k1 l1 k2 l2 k3 l3
            refine (eqFlt_any y d1 r1 d2 r2 d3 r3 b1 q1 b2 q2 b3 q3 _ _ _ GS.out.1 GS.out.2.1 GS.out.2.2 (PO1.out.below BrtC.holds HB3.out nL) (PO2.out.below SvcC.holds HB3.out nL) (PO3.out.below CpyC.holds HB3.out nL) HMY.out).mono ?_
            rintro e wj ⟨rfl, hb⟩
            replace HA : Hid (wj.rangeAt w.heap.size 0 [.bool x.pack, .slice a1 x.berths.length c1, .slice a2 x.services.length c2, .slice a3 x.copies.length c3]) := range_next HA.out hb
            replace HP : Hid (wj.rangeAt (w.heap.size + 1) 0 [.int .i64 v.kind, .string v.berth.name, .string v.berth.zone, .slice am v.berth.marks.length cm, .int .i64 v.berth.room, .int .i64 v.berth.hold, .bool v.berth.closed, .string v.copy.name, .string v.copy.service, .int .i64 v.copy.rank, .int .i64 v.copy.born, .int .i64 v.copy.room, .int .i64 v.copy.hold, .string v.copy.select, .slice al v.copy.likes.length cl, .int .i64 v.copy.apart, .string v.copy.near, .string v.copy.fixed, .string v.copy.at_, .string v.name, .string v.at_]) := range_next HP.out hb
            replace H4 : Hid (wj.rangeAt ga 0 [.bool y.pack, .slice b1 y.berths.length q1, .slice b2 y.services.length q2, .slice b3 y.copies.length q3]) := range_next H4.out hb
            replace HB3 : Hid (Below w4.heap.size w4 wj) := HB3.out.trans (hb.mono HB3.out.size)
            replace GS : Hid ((SliceC BrtC 6 w8.heap.size wj d1 y.berths ∧ SliceC SvcC 2 w8.heap.size wj d2 y.services ∧ SliceC CpyC 12 w8.heap.size wj d3 y.copies)) := ⟨GS.out.1.below BrtC.holds hb nL, GS.out.2.1.below SvcC.holds hb nL, GS.out.2.2.below CpyC.holds hb nL⟩
            replace LW : Hid (LA 12 14 (.agg #[.bool y.pack, .slice d1 y.berths.length r1, .slice d2 y.services.length r2, .slice d3 y.copies.length r3]) wj B w9.heap.size len) := LW.out.at (KpI.below hb)
            replace H6 : Hid (wj.rangeAt w9.heap.size 0 [.bool y.pack, .slice d1 y.berths.length r1, .slice d2 y.services.length r2, .slice d3 y.copies.length r3]) := range_next H6.out hb
            replace hB : Below w.heap.size w wj := hB.trans (hb.mono hB.size)
            clear hb
            as_aux_lemma =>
             have hBj : B ≤ wj.heap.size := by have h9 := range_lt H6.out; omega
             go_wp2_with (refine wpList_load_mid rfl 41 _ rfl w9.heap.size 0 rfl [.bool y.pack, .slice d1 y.berths.length r1, .slice d2 y.services.length r2, .slice d3 y.copies.length r3] _ H6.out Tryz.underlying41 rfl isz_Flt ?_)
             refine (LW.out wj 1 (KpI.refl _ _ _) (by omega) HLEN.out).mono ?_
             rintro e wk ⟨rfl, ho, hd⟩
             have HD := iH hd
             have hbl : Below B wj wk := ho.bel hBj
             replace HA : Hid (wk.rangeAt w.heap.size 0 [.bool x.pack, .slice a1 x.berths.length c1, .slice a2 x.services.length c2, .slice a3 x.copies.length c3]) := range_belowV HA.out hbl (by omega)
             replace HP : Hid (wk.rangeAt (w.heap.size + 1) 0 [.int .i64 v.kind, .string v.berth.name, .string v.berth.zone, .slice am v.berth.marks.length cm, .int .i64 v.berth.room, .int .i64 v.berth.hold, .bool v.berth.closed, .string v.copy.name, .string v.copy.service, .int .i64 v.copy.rank, .int .i64 v.copy.born, .int .i64 v.copy.room, .int .i64 v.copy.hold, .string v.copy.select, .slice al v.copy.likes.length cl, .int .i64 v.copy.apart, .string v.copy.near, .string v.copy.fixed, .string v.copy.at_, .string v.name, .string v.at_]) := range_belowV HP.out hbl (by omega)
             replace H4 : Hid (wk.rangeAt ga 0 [.bool y.pack, .slice b1 y.berths.length q1, .slice b2 y.services.length q2, .slice b3 y.copies.length q3]) := range_belowV H4.out hbl (by omega)
             replace HB3 : Hid (Below w4.heap.size w4 wk) := HB3.out.trans (hbl.mono (by omega))
             replace hB : Below w.heap.size w wk := hB.trans (hbl.mono (by omega))
             replace H6 : Hid (wk.rangeAt w9.heap.size 0 [.bool y.pack, .slice d1 y.berths.length r1, .slice d2 y.services.length r2, .slice d3 y.copies.length r3]) := fun j u hj => ((ho.kpi (lo' := w9.heap.size) (hi' := wj.heap.size) (.inl nL)).cell nL (range_lt H6.out) (range_lt H6.out)).trans (H6.out j u hj)
             have KK : Hid (KpI B w9.heap.size wk wk) := KpI.refl _ _ _
             clear hd ho hbl GS LW
             obtain ⟨TY, HTY⟩ : ∃ T : Nat, Hid (T = 1 + len) := ⟨_, rfl⟩
             rw [← HTY.out]
             have hTY : (0 : Int) ≤ (TY : Int) := by omega
             go_wp2_with (refine wpList_load_mid rfl 41 _ rfl w9.heap.size 0 rfl [.bool y.pack, .slice d1 y.berths.length r1, .slice d2 y.services.length r2, .slice d3 y.copies.length r3] _ H6.out Tryz.underlying41 rfl isz_Flt ?_)
             refine (HD.out _ KK.out).mono ?_
             rintro e wl ⟨rfl, hb⟩
             replace HA : Hid (wl.rangeAt w.heap.size 0 [.bool x.pack, .slice a1 x.berths.length c1, .slice a2 x.services.length c2, .slice a3 x.copies.length c3]) := range_next HA.out hb
             replace HP : Hid (wl.rangeAt (w.heap.size + 1) 0 [.int .i64 v.kind, .string v.berth.name, .string v.berth.zone, .slice am v.berth.marks.length cm, .int .i64 v.berth.room, .int .i64 v.berth.hold, .bool v.berth.closed, .string v.copy.name, .string v.copy.service, .int .i64 v.copy.rank, .int .i64 v.copy.born, .int .i64 v.copy.room, .int .i64 v.copy.hold, .string v.copy.select, .slice al v.copy.likes.length cl, .int .i64 v.copy.apart, .string v.copy.near, .string v.copy.fixed, .string v.copy.at_, .string v.name, .string v.at_]) := range_next HP.out hb
             replace H4 : Hid (wl.rangeAt ga 0 [.bool y.pack, .slice b1 y.berths.length q1, .slice b2 y.services.length q2, .slice b3 y.copies.length q3]) := range_next H4.out hb
             replace HB3 : Hid (Below w4.heap.size w4 wl) := HB3.out.trans (hb.mono HB3.out.size)
             replace H6 : Hid (wl.rangeAt w9.heap.size 0 [.bool y.pack, .slice d1 y.berths.length r1, .slice d2 y.services.length r2, .slice d3 y.copies.length r3]) := range_next H6.out hb
             replace KK : Hid (KpI B w9.heap.size wk wl) := KK.out.trans (KpI.below hb)
             replace hB : Below w.heap.size w wl := hB.trans (hb.mono hB.size)
             clear hb
             rw [← HTY.out]
             go_upto_region 31 with fail
             clear zA
             have zA : w.heap.size < wl.heap.size := range_lt HA.out
             have zP : w.heap.size + 1 < wl.heap.size := range_lt HP.out
             go_cut [15, 16] (fun v0 u0 wz => ∃ (gd : Nat) (s1 : Option Addr) (t1 : Nat) (s2 : Option Addr) (t2 : Nat) (s3 : Option Addr) (t3 : Nat), v0 = .pointer (some ⟨gd, 0, none⟩) ∧ u0 = .int .i64 cd ∧ Hid (wz.rangeAt gd 0 [.bool y.pack, .slice s1 y.berths.length t1, .slice s2 y.services.length t2, .slice s3 y.copies.length t3]) ∧ Hid (SliceC BrtC 6 0 wz s1 y.berths) ∧ Hid (SliceC SvcC 2 0 wz s2 y.services) ∧ Hid (SliceC CpyC 12 0 wz s3 y.copies) ∧ Hid (Below wl.heap.size wl wz))
             case first =>
              as_aux_lemma =>
               refine wp_region_held_drew (S := fun wy => wy.rangeAt w.heap.size 0 [.bool x.pack, .slice a1 x.berths.length c1, .slice a2 x.services.length c2, .slice a3 x.copies.length c3] ∧ wy.rangeAt (w.heap.size + 1) 0 [.int .i64 v.kind, .string v.berth.name, .string v.berth.zone, .slice am v.berth.marks.length cm, .int .i64 v.berth.room, .int .i64 v.berth.hold, .bool v.berth.closed, .string v.copy.name, .string v.copy.service, .int .i64 v.copy.rank, .int .i64 v.copy.born, .int .i64 v.copy.room, .int .i64 v.copy.hold, .string v.copy.select, .slice al v.copy.likes.length cl, .int .i64 v.copy.apart, .string v.copy.near, .string v.copy.fixed, .string v.copy.at_, .string v.name, .string v.at_]) (by kernel_rfl) ⟨range_drew HA.out, range_drew HP.out⟩ (fun hS => ?_)
               have HB : Hid (Below wl.heap.size wl wl.drew) := (Below.refl _ _).drew
               generalize wl.drew = wb at *
               refine tm 0 95 w.heap.size 0 [.bool x.pack, .slice a1 x.berths.length c1, .slice a2 x.services.length c2, .slice a3 x.copies.length c3] rfl (fun _ h => h.1) Tryz.underlying26 iszL_Flt hS ?_
               simp only [pA,pB,pC,pD]
               refine tk 2 ⟨some 97, _, _, _, _, none⟩ (.agg #[.int .i64 v.kind, .string v.berth.name, .string v.berth.zone, .slice am v.berth.marks.length cm, .int .i64 v.berth.room, .int .i64 v.berth.hold, .bool v.berth.closed, .string v.copy.name, .string v.copy.service, .int .i64 v.copy.rank, .int .i64 v.copy.born, .int .i64 v.copy.room, .int .i64 v.copy.hold, .string v.copy.select, .slice al v.copy.likes.length cl, .int .i64 v.copy.apart, .string v.copy.near, .string v.copy.fixed, .string v.copy.at_, .string v.name, .string v.at_]) rfl (yieldsIf_load_mid (by rfl) _ _ rfl (w.heap.size + 1) (0) rfl [.int .i64 v.kind, .string v.berth.name, .string v.berth.zone, .slice am v.berth.marks.length cm, .int .i64 v.berth.room, .int .i64 v.berth.hold, .bool v.berth.closed, .string v.copy.name, .string v.copy.service, .int .i64 v.copy.rank, .int .i64 v.copy.born, .int .i64 v.copy.room, .int .i64 v.copy.hold, .string v.copy.select, .slice al v.copy.likes.length cl, .int .i64 v.copy.apart, .string v.copy.near, .string v.copy.fixed, .string v.copy.at_, .string v.name, .string v.at_] _ (fun _ h => h.2) Tryz.underlying34 rfl iszL_Evt) hS ?_
               simp only [pA,pB,pC,pD]
               refine wpAnyH_ready (rs := [1, 8]) (by kernel_rfl) (by simp) (AllReadyH.cons (o := ⟨some 96, _, _, _, _, none⟩) rfl (fun K hK => ?_) (AllReadyH.cons (o := ⟨some 15, _, _, _, _, none⟩) rfl (fun K hK => ?_) AllReadyH.nil))
               ·skip
                have hBc := hB.trans (HB.out.mono hB.size)
                go_simp
                refine (toFlt_any x a1 c1 a2 c2 a3 c3 lo _ (N1.out.below BrtC.holds (B := w.heap.size) hBc nL) (N2.out.below SvcC.holds (B := w.heap.size) hBc nL) (N3.out.below CpyC.holds (B := w.heap.size) hBc nL) HM.out).mono ?_
                rintro e wbm ⟨g1, g2, g3, rfl, p1, p2, p3, hb⟩
                replace HB := iH (HB.out.trans (hb.mono HB.out.size))
                have P1 := iH p1
                have P2 := iH p2
                have P3 := iH p3
                refine hK.out _ _ ⟨range_belowV HA.out HB.out zA, range_belowV HP.out HB.out zP⟩ (fun hS => ?_)
                clear hK K hb hBc p1 p2 p3
                refine wpAnyH_ready (rs := [3, 8]) (by kernel_rfl) (by simp) (AllReadyH.cons (o := ⟨some 98, _, _, _, _, none⟩) rfl (fun K hK => ?_) (AllReadyH.cons (o := ⟨some 15, _, _, _, _, none⟩) rfl (fun K hK => ?_) AllReadyH.nil))
                ·skip
                 have hBc := hB.trans (HB.out.mono hB.size)
                 go_simp
                 refine (toEvt_any v am cm al cl lo _ (NM.out.below StrC.holds (B := w.heap.size) hBc nL) (NL.out.below LikC.holds (B := w.heap.size) hBc nL) HMQ.out).mono ?_
                 rintro e wbmp ⟨gm, gl, rfl, pm, pl, hb⟩
                 replace HB := iH (HB.out.trans (hb.mono HB.out.size))
                 replace P1 := iH (P1.out.below BrtC.holds hb nL)
                 replace P2 := iH (P2.out.below SvcC.holds hb nL)
                 replace P3 := iH (P3.out.below CpyC.holds hb nL)
                 have PM := iH pm
                 have PL := iH pl
                 refine hK.out _ _ ⟨range_belowV HA.out HB.out zA, range_belowV HP.out HB.out zP⟩ (fun hS => ?_)
                 clear hK K hb hBc pm pl
                 refine wpAnyH_ready (rs := [4, 8]) (by kernel_rfl) (by simp) (AllReadyH.cons (o := ⟨some 99, _, _, _, _, none⟩) rfl (fun K hK => ?_) (AllReadyH.cons (o := ⟨some 15, _, _, _, _, none⟩) rfl (fun K hK => ?_) AllReadyH.nil))
                 ·skip
                  go_simp
                  refine (implH HY.out HM.out HMQ.out g1 g2 g3 gm gl 0 _ (P1.out.keep BrtC.holds (Keeps.refl _ _) (Nat.zero_le _)) (P2.out.keep SvcC.holds (Keeps.refl _ _) (Nat.zero_le _)) (P3.out.keep CpyC.holds (Keeps.refl _ _) (Nat.zero_le _)) (PM.out.keep StrC.holds (Keeps.refl _ _) (Nat.zero_le _)) (PL.out.keep LikC.holds (Keeps.refl _ _) (Nat.zero_le _)) (Nat.zero_le _)).mono ?_
                  rintro e wbmpc ⟨s1, t1, s2, t2, s3, t3, B9, len9, rfl, _, _, _, _, o1, o2, o3, hb⟩
                  replace HB := iH (HB.out.trans (hb.mono HB.out.size))
                  have O1 := iH o1
                  have O2 := iH o2
                  have O3 := iH o3
                  refine hK.out _ _ ⟨range_belowV HA.out HB.out zA, range_belowV HP.out HB.out zP⟩ (fun hS => ?_)
                  clear hK K hb o1 o2 o3 P1 P2 P3 PM PL
                  refine tz 5 94 (.tuple #[.agg #[.bool y.pack, .slice s1 y.berths.length t1, .slice s2 y.services.length t2, .slice s3 y.copies.length t3], .int .i64 cd]) rfl hS ?_
                  simp only [pA,pB,pC,pD]
                  refine tz 6 100 (.agg #[.bool y.pack, .slice s1 y.berths.length t1, .slice s2 y.services.length t2, .slice s3 y.copies.length t3]) rfl hS ?_
                  simp only [pA,pB,pC,pD]
                  refine tz 7 101 (.int .i64 cd) rfl hS ?_
                  simp only [pA,pB,pC,pD]
                  refine rd1 8 ⟨some 15, _, _, _, _, none⟩ rfl (fun K hK => ?_)
                  go_simp
                  have HG := iH (Blk.alloc wbmpc #[.bool false, .slice none 0 0, .slice none 0 0, .slice none 0 0] 41)
                  have hb : Below wbmpc.heap.size wbmpc (wbmpc.alloc (Obj.cells #[.bool false, .slice none 0 0, .slice none 0 0, .slice none 0 0] 41)) := (Below.refl _ _).alloc nL _
                  have hga : wl.heap.size ≤ wbmpc.heap.size := HB.out.size
                  replace HB := iH (HB.out.trans (hb.mono HB.out.size))
                  have hbA := iH hb
                  refine hK.out _ _ ⟨range_belowV HA.out HB.out zA, range_belowV HP.out HB.out zP⟩ (fun hS => ?_)
                  clear hK K hb
                  generalize wbmpc.alloc (Obj.cells #[.bool false, .slice none 0 0, .slice none 0 0, .slice none 0 0] 41) = wbmpca at *
                  refine rd1 9 ⟨none, _, _, _, _, none⟩ rfl (fun K hK => ?_)
                  rw [if_pos (by rfl)]
                  refine wp_store_mid 41 (.tmp 15) (.tmp 100) (by rfl) (wbmpc.heap.size) 0 #[.bool y.pack, .slice s1 y.berths.length t1, .slice s2 y.services.length t2, .slice s3 y.copies.length t3] (by rfl) (by rfl) HG.out.there isz_Flt (by simp [Value.oneCell']) ?_
                  have HR : Hid ((wbmpca.setCells wbmpc.heap.size 0 [.bool y.pack, .slice s1 y.berths.length t1, .slice s2 y.services.length t2, .slice s3 y.copies.length t3]).rangeAt (wbmpc.heap.size) 0 [.bool y.pack, .slice s1 y.berths.length t1, .slice s2 y.services.length t2, .slice s3 y.copies.length t3]) := (HG.out.setAll #[.bool y.pack, .slice s1 y.berths.length t1, .slice s2 y.services.length t2, .slice s3 y.copies.length t3] rfl).rangeA
                  replace O1 : Hid (SliceC BrtC 6 0 (wbmpca.setCells wbmpc.heap.size 0 [.bool y.pack, .slice s1 y.berths.length t1, .slice s2 y.services.length t2, .slice s3 y.copies.length t3]) s1 y.berths) := (O1.out.below BrtC.holds (below_setCells nL _ _ _ hbA.out) nL).keep BrtC.holds (Keeps.refl _ _) (Nat.zero_le _)
                  replace O2 : Hid (SliceC SvcC 2 0 (wbmpca.setCells wbmpc.heap.size 0 [.bool y.pack, .slice s1 y.berths.length t1, .slice s2 y.services.length t2, .slice s3 y.copies.length t3]) s2 y.services) := (O2.out.below SvcC.holds (below_setCells nL _ _ _ hbA.out) nL).keep SvcC.holds (Keeps.refl _ _) (Nat.zero_le _)
                  replace O3 : Hid (SliceC CpyC 12 0 (wbmpca.setCells wbmpc.heap.size 0 [.bool y.pack, .slice s1 y.berths.length t1, .slice s2 y.services.length t2, .slice s3 y.copies.length t3]) s3 y.copies) := (O3.out.below CpyC.holds (below_setCells nL _ _ _ hbA.out) nL).keep CpyC.holds (Keeps.refl _ _) (Nat.zero_le _)
                  replace HB : Hid (Below wl.heap.size wl (wbmpca.setCells wbmpc.heap.size 0 [.bool y.pack, .slice s1 y.berths.length t1, .slice s2 y.services.length t2, .slice s3 y.copies.length t3])) := below_setCells (show wl.heap.size ≤ wbmpc.heap.size by omega) _ _ _ HB.out
                  refine hK.out _ _ ⟨range_belowV HA.out HB.out zA, range_belowV HP.out HB.out zP⟩ (fun hS => ?_)
                  clear hK K
                  generalize (wbmpca.setCells wbmpc.heap.size 0 [.bool y.pack, .slice s1 y.berths.length t1, .slice s2 y.services.length t2, .slice s3 y.copies.length t3]) = wz at *
                  refine tz 10 16 (.int .i64 cd) rfl hS ?_
                  simp only [Act.put, List.setIfInBounds_toArray, List.set_cons_zero, List.set_cons_succ]
                  refine td ?_
                  go_wp2_with fail
                  go_meet
                  exact ⟨wbmpc.heap.size, s1, t1, s2, t2, s3, t3, rfl, rfl, HR, O1, O2, O3, HB⟩
                 ·skip
                  go_simp
                  have HG := iH (Blk.alloc wbmp #[.bool false, .slice none 0 0, .slice none 0 0, .slice none 0 0] 41)
                  have hb : Below wbmp.heap.size wbmp (wbmp.alloc (Obj.cells #[.bool false, .slice none 0 0, .slice none 0 0, .slice none 0 0] 41)) := (Below.refl _ _).alloc nL _
                  have hga : wl.heap.size ≤ wbmp.heap.size := HB.out.size
                  replace HB := iH (HB.out.trans (hb.mono HB.out.size))
                  replace P1 := iH (P1.out.below BrtC.holds hb nL)
                  replace P2 := iH (P2.out.below SvcC.holds hb nL)
                  replace P3 := iH (P3.out.below CpyC.holds hb nL)
                  replace PM := iH (PM.out.below StrC.holds hb nL)
                  replace PL := iH (PL.out.below LikC.holds hb nL)
                  refine hK.out _ _ ⟨range_belowV HA.out HB.out zA, range_belowV HP.out HB.out zP⟩ (fun hS => ?_)
                  clear hK K hb
                  generalize wbmp.alloc (Obj.cells #[.bool false, .slice none 0 0, .slice none 0 0, .slice none 0 0] 41) = wbmpa at *
                  refine rd1 4 ⟨some 99, _, _, _, _, none⟩ rfl (fun K hK => ?_)
                  have hgl : wbmp.heap.size < wbmpa.heap.size := HG.out.lt
                  go_simp
                  refine (implH HY.out HM.out HMQ.out g1 g2 g3 gm gl 0 _ (P1.out.keep BrtC.holds (Keeps.refl _ _) (Nat.zero_le _)) (P2.out.keep SvcC.holds (Keeps.refl _ _) (Nat.zero_le _)) (P3.out.keep CpyC.holds (Keeps.refl _ _) (Nat.zero_le _)) (PM.out.keep StrC.holds (Keeps.refl _ _) (Nat.zero_le _)) (PL.out.keep LikC.holds (Keeps.refl _ _) (Nat.zero_le _)) (Nat.zero_le _)).mono ?_
                  rintro e wbmpac ⟨s1, t1, s2, t2, s3, t3, B9, len9, rfl, _, _, _, _, o1, o2, o3, hb⟩
                  replace HB := iH (HB.out.trans (hb.mono HB.out.size))
                  replace HG := iH (HG.out.below hb HG.out.lt)
                  have O1 := iH o1
                  have O2 := iH o2
                  have O3 := iH o3
                  refine hK.out _ _ ⟨range_belowV HA.out HB.out zA, range_belowV HP.out HB.out zP⟩ (fun hS => ?_)
                  clear hK K hb o1 o2 o3 P1 P2 P3 PM PL
                  refine tz 5 94 (.tuple #[.agg #[.bool y.pack, .slice s1 y.berths.length t1, .slice s2 y.services.length t2, .slice s3 y.copies.length t3], .int .i64 cd]) rfl hS ?_
                  simp only [pA,pB,pC,pD]
                  refine tz 6 100 (.agg #[.bool y.pack, .slice s1 y.berths.length t1, .slice s2 y.services.length t2, .slice s3 y.copies.length t3]) rfl hS ?_
                  simp only [pA,pB,pC,pD]
                  refine tz 7 101 (.int .i64 cd) rfl hS ?_
                  simp only [pA,pB,pC,pD]
                  refine rd1 9 ⟨none, _, _, _, _, none⟩ rfl (fun K hK => ?_)
                  rw [if_pos (by rfl)]
                  refine wp_store_mid 41 (.tmp 15) (.tmp 100) (by rfl) (wbmp.heap.size) 0 #[.bool y.pack, .slice s1 y.berths.length t1, .slice s2 y.services.length t2, .slice s3 y.copies.length t3] (by rfl) (by rfl) HG.out.there isz_Flt (by simp [Value.oneCell']) ?_
                  have HR : Hid ((wbmpac.setCells wbmp.heap.size 0 [.bool y.pack, .slice s1 y.berths.length t1, .slice s2 y.services.length t2, .slice s3 y.copies.length t3]).rangeAt (wbmp.heap.size) 0 [.bool y.pack, .slice s1 y.berths.length t1, .slice s2 y.services.length t2, .slice s3 y.copies.length t3]) := (HG.out.setAll #[.bool y.pack, .slice s1 y.berths.length t1, .slice s2 y.services.length t2, .slice s3 y.copies.length t3] rfl).rangeA
                  replace O1 : Hid (SliceC BrtC 6 0 (wbmpac.setCells wbmp.heap.size 0 [.bool y.pack, .slice s1 y.berths.length t1, .slice s2 y.services.length t2, .slice s3 y.copies.length t3]) s1 y.berths) := O1.out.keep BrtC.holds (Keeps.setCells (show wbmp.heap.size < wbmpa.heap.size by omega) _ _ _) (Nat.zero_le _)
                  replace O2 : Hid (SliceC SvcC 2 0 (wbmpac.setCells wbmp.heap.size 0 [.bool y.pack, .slice s1 y.berths.length t1, .slice s2 y.services.length t2, .slice s3 y.copies.length t3]) s2 y.services) := O2.out.keep SvcC.holds (Keeps.setCells (show wbmp.heap.size < wbmpa.heap.size by omega) _ _ _) (Nat.zero_le _)
                  replace O3 : Hid (SliceC CpyC 12 0 (wbmpac.setCells wbmp.heap.size 0 [.bool y.pack, .slice s1 y.berths.length t1, .slice s2 y.services.length t2, .slice s3 y.copies.length t3]) s3 y.copies) := O3.out.keep CpyC.holds (Keeps.setCells (show wbmp.heap.size < wbmpa.heap.size by omega) _ _ _) (Nat.zero_le _)
                  replace HB : Hid (Below wl.heap.size wl (wbmpac.setCells wbmp.heap.size 0 [.bool y.pack, .slice s1 y.berths.length t1, .slice s2 y.services.length t2, .slice s3 y.copies.length t3])) := below_setCells (show wl.heap.size ≤ wbmp.heap.size by omega) _ _ _ HB.out
                  refine hK.out _ _ ⟨range_belowV HA.out HB.out zA, range_belowV HP.out HB.out zP⟩ (fun hS => ?_)
                  clear hK K
                  generalize (wbmpac.setCells wbmp.heap.size 0 [.bool y.pack, .slice s1 y.berths.length t1, .slice s2 y.services.length t2, .slice s3 y.copies.length t3]) = wz at *
                  refine tz 10 16 (.int .i64 cd) rfl hS ?_
                  simp only [Act.put, List.setIfInBounds_toArray, List.set_cons_zero, List.set_cons_succ]
                  refine td ?_
                  go_wp2_with fail
                  go_meet
                  exact ⟨wbmp.heap.size, s1, t1, s2, t2, s3, t3, rfl, rfl, HR, O1, O2, O3, HB⟩
                ·skip
                 go_simp
                 have HG := iH (Blk.alloc wbm #[.bool false, .slice none 0 0, .slice none 0 0, .slice none 0 0] 41)
                 have hb : Below wbm.heap.size wbm (wbm.alloc (Obj.cells #[.bool false, .slice none 0 0, .slice none 0 0, .slice none 0 0] 41)) := (Below.refl _ _).alloc nL _
                 have hga : wl.heap.size ≤ wbm.heap.size := HB.out.size
                 replace HB := iH (HB.out.trans (hb.mono HB.out.size))
                 replace P1 := iH (P1.out.below BrtC.holds hb nL)
                 replace P2 := iH (P2.out.below SvcC.holds hb nL)
                 replace P3 := iH (P3.out.below CpyC.holds hb nL)
                 refine hK.out _ _ ⟨range_belowV HA.out HB.out zA, range_belowV HP.out HB.out zP⟩ (fun hS => ?_)
                 clear hK K hb
                 generalize wbm.alloc (Obj.cells #[.bool false, .slice none 0 0, .slice none 0 0, .slice none 0 0] 41) = wbma at *
                 refine rd1 3 ⟨some 98, _, _, _, _, none⟩ rfl (fun K hK => ?_)
                 have hBc := hB.trans (HB.out.mono hB.size)
                 go_simp
                 refine (toEvt_any v am cm al cl lo _ (NM.out.below StrC.holds (B := w.heap.size) hBc nL) (NL.out.below LikC.holds (B := w.heap.size) hBc nL) HMQ.out).mono ?_
                 rintro e wbmap ⟨gm, gl, rfl, pm, pl, hb⟩
                 replace HB := iH (HB.out.trans (hb.mono HB.out.size))
                 replace P1 := iH (P1.out.below BrtC.holds hb nL)
                 replace P2 := iH (P2.out.below SvcC.holds hb nL)
                 replace P3 := iH (P3.out.below CpyC.holds hb nL)
                 replace HG := iH (HG.out.below hb HG.out.lt)
                 have PM := iH pm
                 have PL := iH pl
                 refine hK.out _ _ ⟨range_belowV HA.out HB.out zA, range_belowV HP.out HB.out zP⟩ (fun hS => ?_)
                 clear hK K hb hBc pm pl
                 refine rd1 4 ⟨some 99, _, _, _, _, none⟩ rfl (fun K hK => ?_)
                 have hgl : wbm.heap.size < wbmap.heap.size := HG.out.lt
                 go_simp
                 refine (implH HY.out HM.out HMQ.out g1 g2 g3 gm gl 0 _ (P1.out.keep BrtC.holds (Keeps.refl _ _) (Nat.zero_le _)) (P2.out.keep SvcC.holds (Keeps.refl _ _) (Nat.zero_le _)) (P3.out.keep CpyC.holds (Keeps.refl _ _) (Nat.zero_le _)) (PM.out.keep StrC.holds (Keeps.refl _ _) (Nat.zero_le _)) (PL.out.keep LikC.holds (Keeps.refl _ _) (Nat.zero_le _)) (Nat.zero_le _)).mono ?_
                 rintro e wbmapc ⟨s1, t1, s2, t2, s3, t3, B9, len9, rfl, _, _, _, _, o1, o2, o3, hb⟩
                 replace HB := iH (HB.out.trans (hb.mono HB.out.size))
                 replace HG := iH (HG.out.below hb HG.out.lt)
                 have O1 := iH o1
                 have O2 := iH o2
                 have O3 := iH o3
                 refine hK.out _ _ ⟨range_belowV HA.out HB.out zA, range_belowV HP.out HB.out zP⟩ (fun hS => ?_)
                 clear hK K hb o1 o2 o3 P1 P2 P3 PM PL
                 refine tz 5 94 (.tuple #[.agg #[.bool y.pack, .slice s1 y.berths.length t1, .slice s2 y.services.length t2, .slice s3 y.copies.length t3], .int .i64 cd]) rfl hS ?_
                 simp only [pA,pB,pC,pD]
                 refine tz 6 100 (.agg #[.bool y.pack, .slice s1 y.berths.length t1, .slice s2 y.services.length t2, .slice s3 y.copies.length t3]) rfl hS ?_
                 simp only [pA,pB,pC,pD]
                 refine tz 7 101 (.int .i64 cd) rfl hS ?_
                 simp only [pA,pB,pC,pD]
                 refine rd1 9 ⟨none, _, _, _, _, none⟩ rfl (fun K hK => ?_)
                 rw [if_pos (by rfl)]
                 refine wp_store_mid 41 (.tmp 15) (.tmp 100) (by rfl) (wbm.heap.size) 0 #[.bool y.pack, .slice s1 y.berths.length t1, .slice s2 y.services.length t2, .slice s3 y.copies.length t3] (by rfl) (by rfl) HG.out.there isz_Flt (by simp [Value.oneCell']) ?_
                 have HR : Hid ((wbmapc.setCells wbm.heap.size 0 [.bool y.pack, .slice s1 y.berths.length t1, .slice s2 y.services.length t2, .slice s3 y.copies.length t3]).rangeAt (wbm.heap.size) 0 [.bool y.pack, .slice s1 y.berths.length t1, .slice s2 y.services.length t2, .slice s3 y.copies.length t3]) := (HG.out.setAll #[.bool y.pack, .slice s1 y.berths.length t1, .slice s2 y.services.length t2, .slice s3 y.copies.length t3] rfl).rangeA
                 replace O1 : Hid (SliceC BrtC 6 0 (wbmapc.setCells wbm.heap.size 0 [.bool y.pack, .slice s1 y.berths.length t1, .slice s2 y.services.length t2, .slice s3 y.copies.length t3]) s1 y.berths) := O1.out.keep BrtC.holds (Keeps.setCells (show wbm.heap.size < wbmap.heap.size by omega) _ _ _) (Nat.zero_le _)
                 replace O2 : Hid (SliceC SvcC 2 0 (wbmapc.setCells wbm.heap.size 0 [.bool y.pack, .slice s1 y.berths.length t1, .slice s2 y.services.length t2, .slice s3 y.copies.length t3]) s2 y.services) := O2.out.keep SvcC.holds (Keeps.setCells (show wbm.heap.size < wbmap.heap.size by omega) _ _ _) (Nat.zero_le _)
                 replace O3 : Hid (SliceC CpyC 12 0 (wbmapc.setCells wbm.heap.size 0 [.bool y.pack, .slice s1 y.berths.length t1, .slice s2 y.services.length t2, .slice s3 y.copies.length t3]) s3 y.copies) := O3.out.keep CpyC.holds (Keeps.setCells (show wbm.heap.size < wbmap.heap.size by omega) _ _ _) (Nat.zero_le _)
                 replace HB : Hid (Below wl.heap.size wl (wbmapc.setCells wbm.heap.size 0 [.bool y.pack, .slice s1 y.berths.length t1, .slice s2 y.services.length t2, .slice s3 y.copies.length t3])) := below_setCells (show wl.heap.size ≤ wbm.heap.size by omega) _ _ _ HB.out
                 refine hK.out _ _ ⟨range_belowV HA.out HB.out zA, range_belowV HP.out HB.out zP⟩ (fun hS => ?_)
                 clear hK K
                 generalize (wbmapc.setCells wbm.heap.size 0 [.bool y.pack, .slice s1 y.berths.length t1, .slice s2 y.services.length t2, .slice s3 y.copies.length t3]) = wz at *
                 refine tz 10 16 (.int .i64 cd) rfl hS ?_
                 simp only [Act.put, List.setIfInBounds_toArray, List.set_cons_zero, List.set_cons_succ]
                 refine td ?_
                 go_wp2_with fail
                 go_meet
                 exact ⟨wbm.heap.size, s1, t1, s2, t2, s3, t3, rfl, rfl, HR, O1, O2, O3, HB⟩
               ·skip
                go_simp
                have HG := iH (Blk.alloc wb #[.bool false, .slice none 0 0, .slice none 0 0, .slice none 0 0] 41)
                have hb : Below wb.heap.size wb (wb.alloc (Obj.cells #[.bool false, .slice none 0 0, .slice none 0 0, .slice none 0 0] 41)) := (Below.refl _ _).alloc nL _
                have hga : wl.heap.size ≤ wb.heap.size := HB.out.size
                replace HB := iH (HB.out.trans (hb.mono HB.out.size))
                refine hK.out _ _ ⟨range_belowV HA.out HB.out zA, range_belowV HP.out HB.out zP⟩ (fun hS => ?_)
                clear hK K hb
                generalize wb.alloc (Obj.cells #[.bool false, .slice none 0 0, .slice none 0 0, .slice none 0 0] 41) = wba at *
                refine rd1 1 ⟨some 96, _, _, _, _, none⟩ rfl (fun K hK => ?_)
                have hBc := hB.trans (HB.out.mono hB.size)
                go_simp
                refine (toFlt_any x a1 c1 a2 c2 a3 c3 lo _ (N1.out.below BrtC.holds (B := w.heap.size) hBc nL) (N2.out.below SvcC.holds (B := w.heap.size) hBc nL) (N3.out.below CpyC.holds (B := w.heap.size) hBc nL) HM.out).mono ?_
                rintro e wbam ⟨g1, g2, g3, rfl, p1, p2, p3, hb⟩
                replace HB := iH (HB.out.trans (hb.mono HB.out.size))
                replace HG := iH (HG.out.below hb HG.out.lt)
                have P1 := iH p1
                have P2 := iH p2
                have P3 := iH p3
                refine hK.out _ _ ⟨range_belowV HA.out HB.out zA, range_belowV HP.out HB.out zP⟩ (fun hS => ?_)
                clear hK K hb hBc p1 p2 p3
                refine rd1 3 ⟨some 98, _, _, _, _, none⟩ rfl (fun K hK => ?_)
                have hBc := hB.trans (HB.out.mono hB.size)
                go_simp
                refine (toEvt_any v am cm al cl lo _ (NM.out.below StrC.holds (B := w.heap.size) hBc nL) (NL.out.below LikC.holds (B := w.heap.size) hBc nL) HMQ.out).mono ?_
                rintro e wbamp ⟨gm, gl, rfl, pm, pl, hb⟩
                replace HB := iH (HB.out.trans (hb.mono HB.out.size))
                replace P1 := iH (P1.out.below BrtC.holds hb nL)
                replace P2 := iH (P2.out.below SvcC.holds hb nL)
                replace P3 := iH (P3.out.below CpyC.holds hb nL)
                replace HG := iH (HG.out.below hb HG.out.lt)
                have PM := iH pm
                have PL := iH pl
                refine hK.out _ _ ⟨range_belowV HA.out HB.out zA, range_belowV HP.out HB.out zP⟩ (fun hS => ?_)
                clear hK K hb hBc pm pl
                refine rd1 4 ⟨some 99, _, _, _, _, none⟩ rfl (fun K hK => ?_)
                have hgl : wb.heap.size < wbamp.heap.size := HG.out.lt
                go_simp
                refine (implH HY.out HM.out HMQ.out g1 g2 g3 gm gl 0 _ (P1.out.keep BrtC.holds (Keeps.refl _ _) (Nat.zero_le _)) (P2.out.keep SvcC.holds (Keeps.refl _ _) (Nat.zero_le _)) (P3.out.keep CpyC.holds (Keeps.refl _ _) (Nat.zero_le _)) (PM.out.keep StrC.holds (Keeps.refl _ _) (Nat.zero_le _)) (PL.out.keep LikC.holds (Keeps.refl _ _) (Nat.zero_le _)) (Nat.zero_le _)).mono ?_
                rintro e wbampc ⟨s1, t1, s2, t2, s3, t3, B9, len9, rfl, _, _, _, _, o1, o2, o3, hb⟩
                replace HB := iH (HB.out.trans (hb.mono HB.out.size))
                replace HG := iH (HG.out.below hb HG.out.lt)
                have O1 := iH o1
                have O2 := iH o2
                have O3 := iH o3
                refine hK.out _ _ ⟨range_belowV HA.out HB.out zA, range_belowV HP.out HB.out zP⟩ (fun hS => ?_)
                clear hK K hb o1 o2 o3 P1 P2 P3 PM PL
                refine tz 5 94 (.tuple #[.agg #[.bool y.pack, .slice s1 y.berths.length t1, .slice s2 y.services.length t2, .slice s3 y.copies.length t3], .int .i64 cd]) rfl hS ?_
                simp only [pA,pB,pC,pD]
                refine tz 6 100 (.agg #[.bool y.pack, .slice s1 y.berths.length t1, .slice s2 y.services.length t2, .slice s3 y.copies.length t3]) rfl hS ?_
                simp only [pA,pB,pC,pD]
                refine tz 7 101 (.int .i64 cd) rfl hS ?_
                simp only [pA,pB,pC,pD]
                refine rd1 9 ⟨none, _, _, _, _, none⟩ rfl (fun K hK => ?_)
                rw [if_pos (by rfl)]
                refine wp_store_mid 41 (.tmp 15) (.tmp 100) (by rfl) (wb.heap.size) 0 #[.bool y.pack, .slice s1 y.berths.length t1, .slice s2 y.services.length t2, .slice s3 y.copies.length t3] (by rfl) (by rfl) HG.out.there isz_Flt (by simp [Value.oneCell']) ?_
                have HR : Hid ((wbampc.setCells wb.heap.size 0 [.bool y.pack, .slice s1 y.berths.length t1, .slice s2 y.services.length t2, .slice s3 y.copies.length t3]).rangeAt (wb.heap.size) 0 [.bool y.pack, .slice s1 y.berths.length t1, .slice s2 y.services.length t2, .slice s3 y.copies.length t3]) := (HG.out.setAll #[.bool y.pack, .slice s1 y.berths.length t1, .slice s2 y.services.length t2, .slice s3 y.copies.length t3] rfl).rangeA
                replace O1 : Hid (SliceC BrtC 6 0 (wbampc.setCells wb.heap.size 0 [.bool y.pack, .slice s1 y.berths.length t1, .slice s2 y.services.length t2, .slice s3 y.copies.length t3]) s1 y.berths) := O1.out.keep BrtC.holds (Keeps.setCells (show wb.heap.size < wbamp.heap.size by omega) _ _ _) (Nat.zero_le _)
                replace O2 : Hid (SliceC SvcC 2 0 (wbampc.setCells wb.heap.size 0 [.bool y.pack, .slice s1 y.berths.length t1, .slice s2 y.services.length t2, .slice s3 y.copies.length t3]) s2 y.services) := O2.out.keep SvcC.holds (Keeps.setCells (show wb.heap.size < wbamp.heap.size by omega) _ _ _) (Nat.zero_le _)
                replace O3 : Hid (SliceC CpyC 12 0 (wbampc.setCells wb.heap.size 0 [.bool y.pack, .slice s1 y.berths.length t1, .slice s2 y.services.length t2, .slice s3 y.copies.length t3]) s3 y.copies) := O3.out.keep CpyC.holds (Keeps.setCells (show wb.heap.size < wbamp.heap.size by omega) _ _ _) (Nat.zero_le _)
                replace HB : Hid (Below wl.heap.size wl (wbampc.setCells wb.heap.size 0 [.bool y.pack, .slice s1 y.berths.length t1, .slice s2 y.services.length t2, .slice s3 y.copies.length t3])) := below_setCells (show wl.heap.size ≤ wb.heap.size by omega) _ _ _ HB.out
                refine hK.out _ _ ⟨range_belowV HA.out HB.out zA, range_belowV HP.out HB.out zP⟩ (fun hS => ?_)
                clear hK K
                generalize (wbampc.setCells wb.heap.size 0 [.bool y.pack, .slice s1 y.berths.length t1, .slice s2 y.services.length t2, .slice s3 y.copies.length t3]) = wz at *
                refine tz 10 16 (.int .i64 cd) rfl hS ?_
                simp only [Act.put, List.setIfInBounds_toArray, List.set_cons_zero, List.set_cons_succ]
                refine td ?_
                go_wp2_with fail
                go_meet
                exact ⟨wb.heap.size, s1, t1, s2, t2, s3, t3, rfl, rfl, HR, O1, O2, O3, HB⟩
             case rest =>
              as_aux_lemma =>
               obtain ⟨gd, s1, t1, s2, t2, s3, t3, rfl, rfl, H7, RO1, RO2, RO3, hbz⟩ := hcut
               have hb := hbz.out
               generalize wc = wn at *
               replace HA : Hid (wn.rangeAt w.heap.size 0 [.bool x.pack, .slice a1 x.berths.length c1, .slice a2 x.services.length c2, .slice a3 x.copies.length c3]) := range_next HA.out hb
               replace HP : Hid (wn.rangeAt (w.heap.size + 1) 0 [.int .i64 v.kind, .string v.berth.name, .string v.berth.zone, .slice am v.berth.marks.length cm, .int .i64 v.berth.room, .int .i64 v.berth.hold, .bool v.berth.closed, .string v.copy.name, .string v.copy.service, .int .i64 v.copy.rank, .int .i64 v.copy.born, .int .i64 v.copy.room, .int .i64 v.copy.hold, .string v.copy.select, .slice al v.copy.likes.length cl, .int .i64 v.copy.apart, .string v.copy.near, .string v.copy.fixed, .string v.copy.at_, .string v.name, .string v.at_]) := range_next HP.out hb
               replace H4 : Hid (wn.rangeAt ga 0 [.bool y.pack, .slice b1 y.berths.length q1, .slice b2 y.services.length q2, .slice b3 y.copies.length q3]) := range_next H4.out hb
               replace HB3 : Hid (Below w4.heap.size w4 wn) := HB3.out.trans (hb.mono HB3.out.size)
               replace H6 : Hid (wn.rangeAt w9.heap.size 0 [.bool y.pack, .slice d1 y.berths.length r1, .slice d2 y.services.length r2, .slice d3 y.copies.length r3]) := range_next H6.out hb
               replace KK : Hid (KpI B w9.heap.size wk wn) := KK.out.trans (KpI.below hb)
               replace hB : Below w.heap.size w wn := hB.trans (hb.mono hB.size)
               clear hb hbz zA zP
               go_wp2_with (first | (refine wpList_load_mid rfl 41 _ rfl gd 0 rfl [.bool y.pack, .slice s1 y.berths.length t1, .slice s2 y.services.length t2, .slice s3 y.copies.length t3] _ H7.out Tryz.underlying41 rfl isz_Flt ?_) | (refine wpList_load_mid rfl 41 _ rfl ga 0 rfl [.bool y.pack, .slice b1 y.berths.length q1, .slice b2 y.services.length q2, .slice b3 y.copies.length q3] _ H4.out Tryz.underlying41 rfl isz_Flt ?_))
               refine (eqFlt_any y s1 t1 s2 t2 s3 t3 b1 q1 b2 q2 b3 q3 _ _ _ RO1.out RO2.out RO3.out (PO1.out.below BrtC.holds HB3.out nL) (PO2.out.below SvcC.holds HB3.out nL) (PO3.out.below CpyC.holds HB3.out nL) HMY.out).mono ?_
               rintro e wo ⟨rfl, hb⟩
               replace HA : Hid (wo.rangeAt w.heap.size 0 [.bool x.pack, .slice a1 x.berths.length c1, .slice a2 x.services.length c2, .slice a3 x.copies.length c3]) := range_next HA.out hb
               replace HP : Hid (wo.rangeAt (w.heap.size + 1) 0 [.int .i64 v.kind, .string v.berth.name, .string v.berth.zone, .slice am v.berth.marks.length cm, .int .i64 v.berth.room, .int .i64 v.berth.hold, .bool v.berth.closed, .string v.copy.name, .string v.copy.service, .int .i64 v.copy.rank, .int .i64 v.copy.born, .int .i64 v.copy.room, .int .i64 v.copy.hold, .string v.copy.select, .slice al v.copy.likes.length cl, .int .i64 v.copy.apart, .string v.copy.near, .string v.copy.fixed, .string v.copy.at_, .string v.name, .string v.at_]) := range_next HP.out hb
               replace H4 : Hid (wo.rangeAt ga 0 [.bool y.pack, .slice b1 y.berths.length q1, .slice b2 y.services.length q2, .slice b3 y.copies.length q3]) := range_next H4.out hb
               replace HB3 : Hid (Below w4.heap.size w4 wo) := HB3.out.trans (hb.mono HB3.out.size)
               replace H6 : Hid (wo.rangeAt w9.heap.size 0 [.bool y.pack, .slice d1 y.berths.length r1, .slice d2 y.services.length r2, .slice d3 y.copies.length r3]) := range_next H6.out hb
               replace KK : Hid (KpI B w9.heap.size wk wo) := KK.out.trans (KpI.below hb)
               replace hB : Below w.heap.size w wo := hB.trans (hb.mono hB.size)
               clear hb H7 RO1 RO2 RO3
               go_wp2_with (refine wpList_load_mid rfl 41 _ rfl w9.heap.size 0 rfl [.bool y.pack, .slice d1 y.berths.length r1, .slice d2 y.services.length r2, .slice d3 y.copies.length r3] _ H6.out Tryz.underlying41 rfl isz_Flt ?_)
               refine (HD.out _ KK.out).mono ?_
               rintro e wq ⟨rfl, hb⟩
               replace HA : Hid (wq.rangeAt w.heap.size 0 [.bool x.pack, .slice a1 x.berths.length c1, .slice a2 x.services.length c2, .slice a3 x.copies.length c3]) := range_next HA.out hb
               replace HP : Hid (wq.rangeAt (w.heap.size + 1) 0 [.int .i64 v.kind, .string v.berth.name, .string v.berth.zone, .slice am v.berth.marks.length cm, .int .i64 v.berth.room, .int .i64 v.berth.hold, .bool v.berth.closed, .string v.copy.name, .string v.copy.service, .int .i64 v.copy.rank, .int .i64 v.copy.born, .int .i64 v.copy.room, .int .i64 v.copy.hold, .string v.copy.select, .slice al v.copy.likes.length cl, .int .i64 v.copy.apart, .string v.copy.near, .string v.copy.fixed, .string v.copy.at_, .string v.name, .string v.at_]) := range_next HP.out hb
               replace H4 : Hid (wq.rangeAt ga 0 [.bool y.pack, .slice b1 y.berths.length q1, .slice b2 y.services.length q2, .slice b3 y.copies.length q3]) := range_next H4.out hb
               replace HB3 : Hid (Below w4.heap.size w4 wq) := HB3.out.trans (hb.mono HB3.out.size)
               replace H6 : Hid (wq.rangeAt w9.heap.size 0 [.bool y.pack, .slice d1 y.berths.length r1, .slice d2 y.services.length r2, .slice d3 y.copies.length r3]) := range_next H6.out hb
               replace KK : Hid (KpI B w9.heap.size wk wq) := KK.out.trans (KpI.below hb)
               replace hB : Below w.heap.size w wq := hB.trans (hb.mono hB.size)
               clear hb
               rw [← HTY.out]
               go_wp2_with fail
               go_ret
               exact ⟨rfl, hB⟩

end Go.Proofs.YtihnjndnkgnmaaaGreat
