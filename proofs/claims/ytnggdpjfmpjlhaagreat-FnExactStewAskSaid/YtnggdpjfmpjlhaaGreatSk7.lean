import Derived.Test.YtnggdpjfmpjlhaaGreatTkw
import Derived.Test.YtnggdpjfmpjlhaaGreatSk6
namespace Go.Proofs.YtnggdpjfmpjlhaaGreat
open Go.RowKit

theorem some_len {x : Sbk} (h : x.copies.length ≤ 200) (v : Ssv) (k : Int) : (someL x v k).length ≤ 200 := by
 have h1 := live_small h v.name
 have h2 := List.length_filter_le (fun i => someB x v k (cAt x i)) (liveL x v.name)
 unfold someL
 omega

set_option maxHeartbeats 16000000 in
set_option maxRecDepth 100000 in
theorem counter_any (x : Sbk) (a1 : Option Addr) (c1 : Nat) (a2 : Option Addr) (c2 : Nat) (a3 : Option Addr) (c3 : Nat) (lo : Nat) (v : Ssv) (w : World) (n1 : SliceC SsvC 13 lo w a1 x.services) (n2 : SliceC ScpC 7 lo w a2 x.copies) (n3 : SliceC SbtC 2 lo w a3 x.berths) (hv : SWk x) (hl3 : x.berths.length ≤ 1048576) (hn : SvNum v) :
  Calls Tryz.prog 47 #[.agg #[.int .i64 x.now, .slice a1 x.services.length c1, .slice a2 x.copies.length c2, .slice a3 x.berths.length c3], .agg #[.string v.name, .int .i64 v.version, .bool v.gone, .int .i64 v.image, .int .i64 v.want, .int .i64 v.down, .int .i64 v.over, .int .i64 v.next, .int .i64 v.per, .int .i64 v.least, .int .i64 v.most, .int .i64 v.load, .int .i64 v.cool], .agg #[.string v.name, .int .i64 v.version, .int .i64 0, .int .i64 0, .int .i64 0, .bool false, .slice none 0 0, .bool false]] w fun e w' => AcRes (cuA x v) w e w' := by
 have HN1 := Hid.intro n1
 have HN2 := Hid.intro n2
 have HN3 := Hid.intro n3
 have HW := Hid.intro hv
 have hl2 := hv.l2
 clear n1 n2 n3 hv
 obtain ⟨_, _, hwt, hov, _⟩ := hn
 have hls := live_small hl2 v.name
 have h1 : Blk w.heap.size #[.int .i64 x.now, .slice a1 x.services.length c1, .slice a2 x.copies.length c2, .slice a3 x.berths.length c3] 34 (w.alloc (Obj.cells #[.int .i64 x.now, .slice a1 x.services.length c1, .slice a2 x.copies.length c2, .slice a3 x.berths.length c3] 34)) := Blk.alloc _ _ _
 have h2 : Blk w.heap.size #[.int .i64 x.now, .slice a1 x.services.length c1, .slice a2 x.copies.length c2, .slice a3 x.berths.length c3] 34 ((w.alloc (Obj.cells #[.int .i64 x.now, .slice a1 x.services.length c1, .slice a2 x.copies.length c2, .slice a3 x.berths.length c3] 34)).alloc (Obj.cells #[.string v.name, .int .i64 v.version, .bool v.gone, .int .i64 v.image, .int .i64 v.want, .int .i64 v.down, .int .i64 v.over, .int .i64 v.next, .int .i64 v.per, .int .i64 v.least, .int .i64 v.most, .int .i64 v.load, .int .i64 v.cool] 50)) := h1.below ((Below.refl _ _).alloc (Nat.le_refl _) _) h1.lt
 have h3 : Blk w.heap.size #[.int .i64 x.now, .slice a1 x.services.length c1, .slice a2 x.copies.length c2, .slice a3 x.berths.length c3] 34 (((w.alloc (Obj.cells #[.int .i64 x.now, .slice a1 x.services.length c1, .slice a2 x.copies.length c2, .slice a3 x.berths.length c3] 34)).alloc (Obj.cells #[.string v.name, .int .i64 v.version, .bool v.gone, .int .i64 v.image, .int .i64 v.want, .int .i64 v.down, .int .i64 v.over, .int .i64 v.next, .int .i64 v.per, .int .i64 v.least, .int .i64 v.most, .int .i64 v.load, .int .i64 v.cool] 50)).alloc (Obj.cells #[.string v.name, .int .i64 v.version, .int .i64 0, .int .i64 0, .int .i64 0, .bool false, .slice none 0 0, .bool false] 47)) := h2.below ((Below.refl _ _).alloc (Nat.le_refl _) _) h2.lt
 have HB4 : Hid (Blk w.heap.size #[.int .i64 x.now, .slice a1 x.services.length c1, .slice a2 x.copies.length c2, .slice a3 x.berths.length c3] 34 ((((w.alloc (Obj.cells #[.int .i64 x.now, .slice a1 x.services.length c1, .slice a2 x.copies.length c2, .slice a3 x.berths.length c3] 34)).alloc (Obj.cells #[.string v.name, .int .i64 v.version, .bool v.gone, .int .i64 v.image, .int .i64 v.want, .int .i64 v.down, .int .i64 v.over, .int .i64 v.next, .int .i64 v.per, .int .i64 v.least, .int .i64 v.most, .int .i64 v.load, .int .i64 v.cool] 50)).alloc (Obj.cells #[.string v.name, .int .i64 v.version, .int .i64 0, .int .i64 0, .int .i64 0, .bool false, .slice none 0 0, .bool false] 47)).alloc (Obj.cells #[.string ⟨#[]⟩, .int .i64 0, .int .i64 0, .int .i64 0, .int .i64 0, .bool false, .slice none 0 0, .bool false] 47))) := h3.below ((Below.refl _ _).alloc (Nat.le_refl _) _) h3.lt
 have v2 : Blk (w.heap.size + 1) #[.string v.name, .int .i64 v.version, .bool v.gone, .int .i64 v.image, .int .i64 v.want, .int .i64 v.down, .int .i64 v.over, .int .i64 v.next, .int .i64 v.per, .int .i64 v.least, .int .i64 v.most, .int .i64 v.load, .int .i64 v.cool] 50 ((w.alloc (Obj.cells #[.int .i64 x.now, .slice a1 x.services.length c1, .slice a2 x.copies.length c2, .slice a3 x.berths.length c3] 34)).alloc (Obj.cells #[.string v.name, .int .i64 v.version, .bool v.gone, .int .i64 v.image, .int .i64 v.want, .int .i64 v.down, .int .i64 v.over, .int .i64 v.next, .int .i64 v.per, .int .i64 v.least, .int .i64 v.most, .int .i64 v.load, .int .i64 v.cool] 50)) := by
  have := Blk.alloc (w.alloc (Obj.cells #[.int .i64 x.now, .slice a1 x.services.length c1, .slice a2 x.copies.length c2, .slice a3 x.berths.length c3] 34)) #[.string v.name, .int .i64 v.version, .bool v.gone, .int .i64 v.image, .int .i64 v.want, .int .i64 v.down, .int .i64 v.over, .int .i64 v.next, .int .i64 v.per, .int .i64 v.least, .int .i64 v.most, .int .i64 v.load, .int .i64 v.cool] 50
  simpa using this
 have v3 : Blk (w.heap.size + 1) #[.string v.name, .int .i64 v.version, .bool v.gone, .int .i64 v.image, .int .i64 v.want, .int .i64 v.down, .int .i64 v.over, .int .i64 v.next, .int .i64 v.per, .int .i64 v.least, .int .i64 v.most, .int .i64 v.load, .int .i64 v.cool] 50 (((w.alloc (Obj.cells #[.int .i64 x.now, .slice a1 x.services.length c1, .slice a2 x.copies.length c2, .slice a3 x.berths.length c3] 34)).alloc (Obj.cells #[.string v.name, .int .i64 v.version, .bool v.gone, .int .i64 v.image, .int .i64 v.want, .int .i64 v.down, .int .i64 v.over, .int .i64 v.next, .int .i64 v.per, .int .i64 v.least, .int .i64 v.most, .int .i64 v.load, .int .i64 v.cool] 50)).alloc (Obj.cells #[.string v.name, .int .i64 v.version, .int .i64 0, .int .i64 0, .int .i64 0, .bool false, .slice none 0 0, .bool false] 47)) := v2.below ((Below.refl _ _).alloc (Nat.le_refl _) _) v2.lt
 have HV4 : Hid (Blk (w.heap.size + 1) #[.string v.name, .int .i64 v.version, .bool v.gone, .int .i64 v.image, .int .i64 v.want, .int .i64 v.down, .int .i64 v.over, .int .i64 v.next, .int .i64 v.per, .int .i64 v.least, .int .i64 v.most, .int .i64 v.load, .int .i64 v.cool] 50 ((((w.alloc (Obj.cells #[.int .i64 x.now, .slice a1 x.services.length c1, .slice a2 x.copies.length c2, .slice a3 x.berths.length c3] 34)).alloc (Obj.cells #[.string v.name, .int .i64 v.version, .bool v.gone, .int .i64 v.image, .int .i64 v.want, .int .i64 v.down, .int .i64 v.over, .int .i64 v.next, .int .i64 v.per, .int .i64 v.least, .int .i64 v.most, .int .i64 v.load, .int .i64 v.cool] 50)).alloc (Obj.cells #[.string v.name, .int .i64 v.version, .int .i64 0, .int .i64 0, .int .i64 0, .bool false, .slice none 0 0, .bool false] 47)).alloc (Obj.cells #[.string ⟨#[]⟩, .int .i64 0, .int .i64 0, .int .i64 0, .int .i64 0, .bool false, .slice none 0 0, .bool false] 47))) := v3.below ((Below.refl _ _).alloc (Nat.le_refl _) _) v3.lt
 have q3 : Blk (w.heap.size + 1 + 1) #[.string v.name, .int .i64 v.version, .int .i64 0, .int .i64 0, .int .i64 0, .bool false, .slice none 0 0, .bool false] 47 (((w.alloc (Obj.cells #[.int .i64 x.now, .slice a1 x.services.length c1, .slice a2 x.copies.length c2, .slice a3 x.berths.length c3] 34)).alloc (Obj.cells #[.string v.name, .int .i64 v.version, .bool v.gone, .int .i64 v.image, .int .i64 v.want, .int .i64 v.down, .int .i64 v.over, .int .i64 v.next, .int .i64 v.per, .int .i64 v.least, .int .i64 v.most, .int .i64 v.load, .int .i64 v.cool] 50)).alloc (Obj.cells #[.string v.name, .int .i64 v.version, .int .i64 0, .int .i64 0, .int .i64 0, .bool false, .slice none 0 0, .bool false] 47)) := by
  have := Blk.alloc ((w.alloc (Obj.cells #[.int .i64 x.now, .slice a1 x.services.length c1, .slice a2 x.copies.length c2, .slice a3 x.berths.length c3] 34)).alloc (Obj.cells #[.string v.name, .int .i64 v.version, .bool v.gone, .int .i64 v.image, .int .i64 v.want, .int .i64 v.down, .int .i64 v.over, .int .i64 v.next, .int .i64 v.per, .int .i64 v.least, .int .i64 v.most, .int .i64 v.load, .int .i64 v.cool] 50)) #[.string v.name, .int .i64 v.version, .int .i64 0, .int .i64 0, .int .i64 0, .bool false, .slice none 0 0, .bool false] 47
  simpa using this
 have HA4 : Hid (Blk (w.heap.size + 1 + 1) #[.string v.name, .int .i64 v.version, .int .i64 0, .int .i64 0, .int .i64 0, .bool false, .slice none 0 0, .bool false] 47 ((((w.alloc (Obj.cells #[.int .i64 x.now, .slice a1 x.services.length c1, .slice a2 x.copies.length c2, .slice a3 x.berths.length c3] 34)).alloc (Obj.cells #[.string v.name, .int .i64 v.version, .bool v.gone, .int .i64 v.image, .int .i64 v.want, .int .i64 v.down, .int .i64 v.over, .int .i64 v.next, .int .i64 v.per, .int .i64 v.least, .int .i64 v.most, .int .i64 v.load, .int .i64 v.cool] 50)).alloc (Obj.cells #[.string v.name, .int .i64 v.version, .int .i64 0, .int .i64 0, .int .i64 0, .bool false, .slice none 0 0, .bool false] 47)).alloc (Obj.cells #[.string ⟨#[]⟩, .int .i64 0, .int .i64 0, .int .i64 0, .int .i64 0, .bool false, .slice none 0 0, .bool false] 47))) := q3.below ((Below.refl _ _).alloc (Nat.le_refl _) _) q3.lt
 have HR4 : Hid (Blk (w.heap.size + 1 + 1 + 1) #[.string ⟨#[]⟩, .int .i64 0, .int .i64 0, .int .i64 0, .int .i64 0, .bool false, .slice none 0 0, .bool false] 47 ((((w.alloc (Obj.cells #[.int .i64 x.now, .slice a1 x.services.length c1, .slice a2 x.copies.length c2, .slice a3 x.berths.length c3] 34)).alloc (Obj.cells #[.string v.name, .int .i64 v.version, .bool v.gone, .int .i64 v.image, .int .i64 v.want, .int .i64 v.down, .int .i64 v.over, .int .i64 v.next, .int .i64 v.per, .int .i64 v.least, .int .i64 v.most, .int .i64 v.load, .int .i64 v.cool] 50)).alloc (Obj.cells #[.string v.name, .int .i64 v.version, .int .i64 0, .int .i64 0, .int .i64 0, .bool false, .slice none 0 0, .bool false] 47)).alloc (Obj.cells #[.string ⟨#[]⟩, .int .i64 0, .int .i64 0, .int .i64 0, .int .i64 0, .bool false, .slice none 0 0, .bool false] 47))) := by
  have := Blk.alloc (((w.alloc (Obj.cells #[.int .i64 x.now, .slice a1 x.services.length c1, .slice a2 x.copies.length c2, .slice a3 x.berths.length c3] 34)).alloc (Obj.cells #[.string v.name, .int .i64 v.version, .bool v.gone, .int .i64 v.image, .int .i64 v.want, .int .i64 v.down, .int .i64 v.over, .int .i64 v.next, .int .i64 v.per, .int .i64 v.least, .int .i64 v.most, .int .i64 v.load, .int .i64 v.cool] 50)).alloc (Obj.cells #[.string v.name, .int .i64 v.version, .int .i64 0, .int .i64 0, .int .i64 0, .bool false, .slice none 0 0, .bool false] 47)) #[.string ⟨#[]⟩, .int .i64 0, .int .i64 0, .int .i64 0, .int .i64 0, .bool false, .slice none 0 0, .bool false] 47
  show Blk _ _ _ _
  simpa using this
 have hB4 : Below w.heap.size w ((((w.alloc (Obj.cells #[.int .i64 x.now, .slice a1 x.services.length c1, .slice a2 x.copies.length c2, .slice a3 x.berths.length c3] 34)).alloc (Obj.cells #[.string v.name, .int .i64 v.version, .bool v.gone, .int .i64 v.image, .int .i64 v.want, .int .i64 v.down, .int .i64 v.over, .int .i64 v.next, .int .i64 v.per, .int .i64 v.least, .int .i64 v.most, .int .i64 v.load, .int .i64 v.cool] 50)).alloc (Obj.cells #[.string v.name, .int .i64 v.version, .int .i64 0, .int .i64 0, .int .i64 0, .bool false, .slice none 0 0, .bool false] 47)).alloc (Obj.cells #[.string ⟨#[]⟩, .int .i64 0, .int .i64 0, .int .i64 0, .int .i64 0, .bool false, .slice none 0 0, .bool false] 47)) := by go_grown
 clear h1 h2 h3 v2 v3 q3
 go_enter Tryz.func47, Tryz.ntmps47
 go_upto_region 1 with fail
 generalize (((w.alloc (Obj.cells #[.int .i64 x.now, .slice a1 x.services.length c1, .slice a2 x.copies.length c2, .slice a3 x.berths.length c3] 34)).alloc (Obj.cells #[.string v.name, .int .i64 v.version, .bool v.gone, .int .i64 v.image, .int .i64 v.want, .int .i64 v.down, .int .i64 v.over, .int .i64 v.next, .int .i64 v.per, .int .i64 v.least, .int .i64 v.most, .int .i64 v.load, .int .i64 v.cool] 50)).alloc (Obj.cells #[.string v.name, .int .i64 v.version, .int .i64 0, .int .i64 0, .int .i64 0, .bool false, .slice none 0 0, .bool false] 47)).alloc (Obj.cells #[.string ⟨#[]⟩, .int .i64 0, .int .i64 0, .int .i64 0, .int .i64 0, .bool false, .slice none 0 0, .bool false] 47) = w4 at *
 have hgg : w.heap.size < w.heap.size + 1 ∧ w.heap.size + 1 < w.heap.size + 1 + 1 ∧ w.heap.size + 1 + 1 < w.heap.size + 1 + 1 + 1 := by omega
 generalize w.heap.size + 1 + 1 + 1 = gr at *
 generalize w.heap.size + 1 + 1 = ga at *
 generalize w.heap.size + 1 = gv at *
 have k_name : w4.cell? ⟨gv, 0, none⟩ = some (.string v.name) := HV4.out.cell rfl
 go_wp2_with (refine wpList_load_mid rfl 34 _ rfl w.heap.size 0 rfl [.int .i64 x.now, .slice a1 x.services.length c1, .slice a2 x.copies.length c2, .slice a3 x.berths.length c3] _ HB4.out.rangeA Tryz.underlying34 rfl isz_Sbk ?_)
 refine (live22_any x a1 c1 a2 c2 a3 c3 lo v.name _ (HN2.out.below ScpC.holds hB4 (Nat.le_refl _)) (by omega)).mono ?_
 rintro e w5 ⟨gl, ql, rfl, hpl, hb⟩
 have HB5 := Hid.intro (HB4.out.below hb HB4.out.lt)
 have HV5 := Hid.intro (HV4.out.below hb HV4.out.lt)
 have HA5 := Hid.intro (HA4.out.below hb HA4.out.lt)
 have HR5 := Hid.intro (HR4.out.below hb HR4.out.lt)
 have hB5 := hB4.trans (hb.mono hB4.size)
 clear HB4 HV4 HA4 HR4 hB4
 have HP5 := Hid.intro hpl
 clear hb k_name hpl
 have HIN : Hid (∀ i ∈ liveL x v.name, i < x.copies.length) := fun i hi => plTo_lt hi
 obtain ⟨l, hl⟩ : ∃ l, l = liveL x v.name := ⟨_, rfl⟩
 rw [← hl] at hls HP5 HIN ⊢
 have HCU : Hid (cuA x v = if (l.length : Int) < v.want then ⟨v.name, v.version, v.want - l.length, 0, 0, false, [], false⟩ else if v.want < (l.length : Int) ∧ (calmB x v = true ∨ v.want + v.over < (l.length : Int)) ∧ mayB x v.name (bestF x v.image l).number = true then ⟨v.name, v.version, 0, 0, 0, false, firstL x v.image l, false⟩ else ⟨v.name, v.version, 0, 0, 0, false, [], false⟩) := by show _ = _; rw [hl]; rfl
 clear hl
 have k_want : w5.cell? ⟨gv, 4, none⟩ = some (.int .i64 v.want) := HV5.out.cell rfl
 by_cases h1 : (l.length : Int) < v.want
 ·skip
  have HSC : Hid (cuA x v = ⟨v.name, v.version, v.want - l.length, 0, 0, false, [], false⟩) := by show _ = _; rw [HCU.out, if_pos h1]
  clear HCU HP5 HIN
  have HWR : IntKind.i64.wrap (v.want - (l.length : Int)) = v.want - (l.length : Int) := by rw [IntKind.wrap_i64]; omega
  have ka2 : w5.cell? ⟨ga, 2, none⟩ = some (.int .i64 0) := HA5.out.cell rfl
  have fz2 : w5.frozen? ⟨ga, 2, none⟩ = false := HA5.out.frozen 2
  go_upto_region 4 with fail
  clear ka2 fz2 k_want
  have HB6 := Hid.intro (HB5.out.other (a := ⟨ga, 2, none⟩) (by show _ ≠ ga; omega) (.int .i64 (v.want - (l.length : Int))))
  have HV6 := Hid.intro (HV5.out.other (a := ⟨ga, 2, none⟩) (by show _ ≠ ga; omega) (.int .i64 (v.want - (l.length : Int))))
  have HR6 := Hid.intro (HR5.out.other (a := ⟨ga, 2, none⟩) (by show _ ≠ ga; omega) (.int .i64 (v.want - (l.length : Int))))
  have HA6 : Hid (Blk ga #[.string v.name, .int .i64 v.version, .int .i64 (v.want - (l.length : Int)), .int .i64 0, .int .i64 0, .bool false, .slice none 0 0, .bool false] 47 (w5.setCell ⟨ga, 2, none⟩ (.int .i64 (v.want - (l.length : Int))))) := HA5.out.set 2 (.int .i64 (v.want - (l.length : Int)))
  have hB6 : Below w.heap.size w (w5.setCell ⟨ga, 2, none⟩ (.int .i64 (v.want - (l.length : Int)))) := hB5.setCell (by show w.heap.size ≤ ga; omega) _
  clear HB5 HV5 HA5 HR5 hB5
  generalize w5.setCell ⟨ga, 2, none⟩ (.int .i64 (v.want - (l.length : Int))) = w6 at *
  have HTS := Hid.intro HR6.out.there
  obtain ⟨wf, HE⟩ : ∃ wf, Hid (wf = w6.setCells gr 0 [.string v.name, .int .i64 v.version, .int .i64 (v.want - (l.length : Int)), .int .i64 0, .int .i64 0, .bool false, .slice none 0 0, .bool false]) := ⟨_, rfl⟩
  have HRf : Hid (wf.rangeAt gr 0 [.string v.name, .int .i64 v.version, .int .i64 (v.want - (l.length : Int)), .int .i64 0, .int .i64 0, .bool false, .slice none 0 0, .bool false]) := by
   show World.rangeAt _ _ _ _
   rw [HE.out]
   exact World.rangeAt_setCells_same _ _ _ _ HTS.out
  have HBf : Hid (Below w.heap.size w wf) := by
   show Below _ _ _
   rw [HE.out]
   exact below_setCells (by omega) _ _ _ hB6
  go_wp2_with (first | (refine wpList_load_mid rfl 47 _ rfl ga 0 rfl [.string v.name, .int .i64 v.version, .int .i64 (v.want - (l.length : Int)), .int .i64 0, .int .i64 0, .bool false, .slice none 0 0, .bool false] _ HA6.out.rangeA Tryz.underlying47 rfl isz_Sac ?_) | (refine wpList_store_to rfl 47 _ _ rfl gr 0 #[.string v.name, .int .i64 v.version, .int .i64 (v.want - (l.length : Int)), .int .i64 0, .int .i64 0, .bool false, .slice none 0 0, .bool false] (by first | rfl | (simp [go_sem]; done)) rfl HTS.out isz_Sac (by simp [Value.oneCell']) wf HE.out ?_))
  refine bodyPost_ret (results_cell_mid rfl _ _ gr [.string v.name, .int .i64 v.version, .int .i64 (v.want - (l.length : Int)), .int .i64 0, .int .i64 0, .bool false, .slice none 0 0, .bool false] _ rfl HRf.out Tryz.underlying47 rfl isz_Sac) rfl ?_
  rw [HSC.out]
  exact ⟨none, 0, rfl, SliceC.nil, HBf.out⟩
 have h1' : v.want ≤ (l.length : Int) := by omega
 rw [if_neg h1] at HCU
 go_upto_region 5 with fail
 clear k_want
 go_cut [8] (fun p wz => p = .bool (calmB x v) ∧ Below w5.heap.size w5 wz)
 case first =>
  have hs2 := some_len hl2 v 2
  have hs6 := some_len hl2 v 6
  go_wp2_with (first | (refine wpList_load_mid rfl 34 _ rfl w.heap.size 0 rfl [.int .i64 x.now, .slice a1 x.services.length c1, .slice a2 x.copies.length c2, .slice a3 x.berths.length c3] _ HB5.out.rangeA Tryz.underlying34 rfl isz_Sbk ?_) | (refine wpList_load_mid rfl 50 _ rfl gv 0 rfl [.string v.name, .int .i64 v.version, .bool v.gone, .int .i64 v.image, .int .i64 v.want, .int .i64 v.down, .int .i64 v.over, .int .i64 v.next, .int .i64 v.per, .int .i64 v.least, .int .i64 v.most, .int .i64 v.load, .int .i64 v.cool] _ HV5.out.rangeA Tryz.underlying50 rfl isz_Ssv ?_))
  refine (some_any x a1 c1 a2 c2 a3 c3 lo v 2 _ (HN2.out.below ScpC.holds hB5 (Nat.le_refl _)) (HN3.out.below SbtC.holds hB5 (Nat.le_refl _)) (by omega) hl3 (.inl rfl)).mono ?_
  rintro e w6 ⟨g2, q2, rfl, _, hb6⟩
  have HB6 := Hid.intro (HB5.out.below hb6 HB5.out.lt)
  have HV6 := Hid.intro (HV5.out.below hb6 HV5.out.lt)
  have hB6 := hB5.trans (hb6.mono hB5.size)
  obtain ⟨M, hM⟩ : ∃ M, M = (someL x v 2).length := ⟨_, rfl⟩
  rw [← hM] at hs2 ⊢
  by_cases hz : M = 0
  ·have hzb : ((M : Int) == 0) = true := by rw [hz]; rfl
   have HC : Hid (calmB x v = ((someL x v 6).length == 0)) := by show _ = _; unfold calmB; rw [← hM, hz]; rfl
   clear hM
   have kb0 : w6.cell? ⟨w.heap.size, 0, none⟩ = some (.int .i64 x.now) := HB6.out.cell rfl
   have kb1 : w6.cell? ⟨w.heap.size, 1, none⟩ = some (.slice a1 x.services.length c1) := HB6.out.cell rfl
   have kb2 : w6.cell? ⟨w.heap.size, 2, none⟩ = some (.slice a2 x.copies.length c2) := HB6.out.cell rfl
   have kb3 : w6.cell? ⟨w.heap.size, 3, none⟩ = some (.slice a3 x.berths.length c3) := HB6.out.cell rfl
   have k_name : w6.cell? ⟨gv, 0, none⟩ = some (.string v.name) := HV6.out.cell rfl
   have k_version : w6.cell? ⟨gv, 1, none⟩ = some (.int .i64 v.version) := HV6.out.cell rfl
   have k_gone : w6.cell? ⟨gv, 2, none⟩ = some (.bool v.gone) := HV6.out.cell rfl
   have k_image : w6.cell? ⟨gv, 3, none⟩ = some (.int .i64 v.image) := HV6.out.cell rfl
   have k_want : w6.cell? ⟨gv, 4, none⟩ = some (.int .i64 v.want) := HV6.out.cell rfl
   have k_down : w6.cell? ⟨gv, 5, none⟩ = some (.int .i64 v.down) := HV6.out.cell rfl
   have k_over : w6.cell? ⟨gv, 6, none⟩ = some (.int .i64 v.over) := HV6.out.cell rfl
   have k_next : w6.cell? ⟨gv, 7, none⟩ = some (.int .i64 v.next) := HV6.out.cell rfl
   have k_per : w6.cell? ⟨gv, 8, none⟩ = some (.int .i64 v.per) := HV6.out.cell rfl
   have k_least : w6.cell? ⟨gv, 9, none⟩ = some (.int .i64 v.least) := HV6.out.cell rfl
   have k_most : w6.cell? ⟨gv, 10, none⟩ = some (.int .i64 v.most) := HV6.out.cell rfl
   have k_load : w6.cell? ⟨gv, 11, none⟩ = some (.int .i64 v.load) := HV6.out.cell rfl
   have k_cool : w6.cell? ⟨gv, 12, none⟩ = some (.int .i64 v.cool) := HV6.out.cell rfl
   go_wp2_with fail
   refine (some_any x a1 c1 a2 c2 a3 c3 lo v 6 _ (HN2.out.below ScpC.holds hB6 (Nat.le_refl _)) (HN3.out.below SbtC.holds hB6 (Nat.le_refl _)) (by omega) hl3 (.inr (.inr rfl))).mono ?_
   rintro e w7 ⟨g3, q3, rfl, _, hb7⟩
   clear kb0 kb1 kb2 kb3
   clear k_name k_version k_gone k_image k_want k_down k_over k_next k_per k_least k_most k_load k_cool
   obtain ⟨P, hP⟩ : ∃ P, P = (someL x v 6).length := ⟨_, rfl⟩
   rw [← hP] at hs6 HC ⊢
   clear hP
   have hpb : ((P : Int) == 0) = (P == 0) := by cases P with | zero => rfl | succ n => simp; omega
   cases hq : (P == 0) with
   | true =>
    rw [hq] at hpb HC
    go_wp2_with fail
    go_meet
    exact ⟨by rw [HC.out], hb6.trans (hb7.mono hb6.size)⟩
   | false =>
    rw [hq] at hpb HC
    go_wp2_with fail
    go_meet
    exact ⟨by rw [HC.out], hb6.trans (hb7.mono hb6.size)⟩
  ·have hzb : ((M : Int) == 0) = false := by simpa using hz
   have HC : Hid (calmB x v = false) := by show _ = _; unfold calmB; rw [← hM, show (M == 0) = false from by simpa using hz]; rfl
   clear hM
   go_wp2_with fail
   go_meet
   exact ⟨by rw [HC.out], hb6⟩
 case rest =>
  obtain ⟨rfl, hb⟩ := hcut
  generalize wc = w6 at *
  have HB6 := Hid.intro (HB5.out.below hb HB5.out.lt)
  have HV6 := Hid.intro (HV5.out.below hb HV5.out.lt)
  have HA6 := Hid.intro (HA5.out.below hb HA5.out.lt)
  have HR6 := Hid.intro (HR5.out.below hb HR5.out.lt)
  have hB6 := hB5.trans (hb.mono hB5.size)
  clear HB5 HV5 HA5 HR5 hB5
  have HP6 := Hid.intro (HP5.out.below IntC.holds hb (Nat.le_refl _))
  clear hb HP5
  obtain ⟨Q, hQ⟩ : ∃ Q, Q = calmB x v := ⟨_, rfl⟩
  rw [← hQ] at HCU ⊢
  clear hQ
  go_upto_region 6 with fail
  have HWR : IntKind.i64.wrap (v.want + v.over) = v.want + v.over := by rw [IntKind.wrap_i64]; omega
  have k_want : w6.cell? ⟨gv, 4, none⟩ = some (.int .i64 v.want) := HV6.out.cell rfl
  have k_over : w6.cell? ⟨gv, 6, none⟩ = some (.int .i64 v.over) := HV6.out.cell rfl
  go_cut [55] (fun p wz => p = .bool (decide (v.want < (l.length : Int)) && (Q || decide (v.want + v.over < (l.length : Int)))) ∧ wz = w6)
  case first =>
   by_cases h2 : v.want < (l.length : Int)
   ·cases Q with
    | true =>
     go_wp2_with fail
     go_meet
     exact ⟨by rw [decide_eq_true h2]; rfl, rfl⟩
    | false =>
     by_cases h3 : v.want + v.over < (l.length : Int)
     ·go_wp2_with fail
      go_meet
      exact ⟨by rw [decide_eq_true h2, decide_eq_true h3]; rfl, rfl⟩
     ·have h3' : (l.length : Int) ≤ v.want + v.over := by omega
      go_wp2_with fail
      go_meet
      exact ⟨by rw [decide_eq_true h2, decide_eq_false (show ¬ v.want + v.over < (l.length : Int) by omega)]; rfl, rfl⟩
   ·have h2' : (l.length : Int) ≤ v.want := by omega
    go_wp2_with fail
    go_meet
    exact ⟨by rw [decide_eq_false (show ¬ v.want < (l.length : Int) by omega)]; rfl, rfl⟩
  case rest =>
   obtain ⟨rfl, hwc⟩ := hcut
   rw [hwc]
   clear hwc
   clear k_want k_over
   have HCQ : Hid ((decide (v.want < (l.length : Int)) && (Q || decide (v.want + v.over < (l.length : Int)))) = true ↔ v.want < (l.length : Int) ∧ (Q = true ∨ v.want + v.over < (l.length : Int))) := by show _ ↔ _; simp
   cases hcq : (decide (v.want < (l.length : Int)) && (Q || decide (v.want + v.over < (l.length : Int)))) with
   | false =>
    have HSC : Hid (cuA x v = ⟨v.name, v.version, 0, 0, 0, false, [], false⟩) := by
     show _ = _
     rw [HCU.out, if_neg]
     rintro ⟨p1, p2, _⟩
     have := HCQ.out.2 ⟨p1, p2⟩
     rw [hcq] at this
     cases this
    clear HCU HCQ hcq HP6 HIN
    have HTS := Hid.intro HR6.out.there
    obtain ⟨wf, HE⟩ : ∃ wf, Hid (wf = w6.setCells gr 0 [.string v.name, .int .i64 v.version, .int .i64 0, .int .i64 0, .int .i64 0, .bool false, .slice none 0 0, .bool false]) := ⟨_, rfl⟩
    have HRf : Hid (wf.rangeAt gr 0 [.string v.name, .int .i64 v.version, .int .i64 0, .int .i64 0, .int .i64 0, .bool false, .slice none 0 0, .bool false]) := by
     show World.rangeAt _ _ _ _
     rw [HE.out]
     exact World.rangeAt_setCells_same _ _ _ _ HTS.out
    have HBf : Hid (Below w.heap.size w wf) := by
     show Below _ _ _
     rw [HE.out]
     exact below_setCells (by omega) _ _ _ hB6
    go_wp2_with (first | (refine wpList_load_mid rfl 47 _ rfl ga 0 rfl [.string v.name, .int .i64 v.version, .int .i64 0, .int .i64 0, .int .i64 0, .bool false, .slice none 0 0, .bool false] _ HA6.out.rangeA Tryz.underlying47 rfl isz_Sac ?_) | (refine wpList_store_to rfl 47 _ _ rfl gr 0 #[.string v.name, .int .i64 v.version, .int .i64 0, .int .i64 0, .int .i64 0, .bool false, .slice none 0 0, .bool false] (by first | rfl | (simp [go_sem]; done)) rfl HTS.out isz_Sac (by simp [Value.oneCell']) wf HE.out ?_))
    refine bodyPost_ret (results_cell_mid rfl _ _ gr [.string v.name, .int .i64 v.version, .int .i64 0, .int .i64 0, .int .i64 0, .bool false, .slice none 0 0, .bool false] _ rfl HRf.out Tryz.underlying47 rfl isz_Sac) rfl ?_
    rw [HSC.out]
    exact ⟨none, 0, rfl, SliceC.nil, HBf.out⟩
   | true =>
    obtain ⟨hp1, hp2⟩ := HCQ.out.1 hcq
    have HCU2 : Hid (cuA x v = if mayB x v.name (bestF x v.image l).number = true then ⟨v.name, v.version, 0, 0, 0, false, firstL x v.image l, false⟩ else ⟨v.name, v.version, 0, 0, 0, false, [], false⟩) := by
     show _ = _
     rw [HCU.out]
     by_cases hm : mayB x v.name (bestF x v.image l).number = true
     ·rw [if_pos hm, if_pos ⟨hp1, hp2, hm⟩]
     ·rw [if_neg hm, if_neg (fun h => hm h.2.2)]
    have HFE : Hid (firstL x v.image l = [enC (bestF x v.image l)]) := by
     show _ = _
     cases l with
     | nil => simp at hp1; omega
     | cons i r => rfl
    clear HCU HCQ hcq hp1 hp2
    go_wp2_with (first | (refine wpList_load_mid rfl 34 _ rfl w.heap.size 0 rfl [.int .i64 x.now, .slice a1 x.services.length c1, .slice a2 x.copies.length c2, .slice a3 x.berths.length c3] _ HB6.out.rangeA Tryz.underlying34 rfl isz_Sbk ?_) | (refine wpList_load_mid rfl 50 _ rfl gv 0 rfl [.string v.name, .int .i64 v.version, .bool v.gone, .int .i64 v.image, .int .i64 v.want, .int .i64 v.down, .int .i64 v.over, .int .i64 v.next, .int .i64 v.per, .int .i64 v.least, .int .i64 v.most, .int .i64 v.load, .int .i64 v.cool] _ HV6.out.rangeA Tryz.underlying50 rfl isz_Ssv ?_))
    refine (first_any x a1 c1 a2 c2 a3 c3 lo _ v l _ ql _ (HN2.out.below ScpC.holds hB6 (Nat.le_refl _)) (HN3.out.below SbtC.holds hB6 (Nat.le_refl _)) hl3 HP6.out HIN.out (by omega)).mono ?_
    rintro e w7 ⟨ge, qe, rfl, hen, hb⟩
    have hga6 : ga < w6.heap.size := HA6.out.lt
    have hgr6 : gr < w6.heap.size := HR6.out.lt
    have h6w : w.heap.size ≤ w6.heap.size := hB6.size
    have HB7 := Hid.intro (HB6.out.below hb HB6.out.lt)
    have HV7 := Hid.intro (HV6.out.below hb HV6.out.lt)
    have HA7 := Hid.intro (HA6.out.below hb HA6.out.lt)
    have HR7 := Hid.intro (HR6.out.below hb HR6.out.lt)
    have hB7 := hB6.trans (hb.mono hB6.size)
    clear HB6 HV6 HA6 HR6 hB6
    clear hb HP6 HIN
    obtain ⟨B, hB⟩ : ∃ B, B = bestF x v.image l := ⟨_, rfl⟩
    rw [HFE.out, ← hB] at hen HCU2 ⊢
    clear hB HFE
    have HEN7 := Hid.intro hen
    have kn : w7.cell? ⟨ge, 0, none⟩ = some (.int .i64 B.number) := by
     obtain ⟨b, o, ea, _, _, hc⟩ := hen.at (show ([enC B] : List Sen)[0]? = some (enC B) from rfl)
     cases ea
     simpa [enC] using hc.1
    clear hen
    go_upto_region 8 with fail
    refine wp_region_held_drew (S := fun wy => Blk w.heap.size #[.int .i64 x.now, .slice a1 x.services.length c1, .slice a2 x.copies.length c2, .slice a3 x.berths.length c3] 34 wy ∧ Blk gv #[.string v.name, .int .i64 v.version, .bool v.gone, .int .i64 v.image, .int .i64 v.want, .int .i64 v.down, .int .i64 v.over, .int .i64 v.next, .int .i64 v.per, .int .i64 v.least, .int .i64 v.most, .int .i64 v.load, .int .i64 v.cool] 50 wy ∧ wy.cell? ⟨ge, 0, none⟩ = some (.int .i64 B.number)) (by kernel_rfl) ⟨HB7.out.drew, HV7.out.drew, kn⟩ (fun hS => ?_)
    have hbd : Below w7.heap.size w7 w7.drew := (Below.refl _ _).drew
    have HB8 := Hid.intro (HB7.out.below hbd HB7.out.lt)
    have HV8 := Hid.intro (HV7.out.below hbd HV7.out.lt)
    have HA8 := Hid.intro (HA7.out.below hbd HA7.out.lt)
    have HR8 := Hid.intro (HR7.out.below hbd HR7.out.lt)
    have hB8 := hB7.trans (hbd.mono hB7.size)
    clear HB7 HV7 HA7 HR7 hB7
    have HEN8 := Hid.intro (HEN7.out.below SenC.holds hbd (Nat.le_refl _))
    clear hbd HEN7 kn
    generalize w7.drew = w8 at *
    refine tm 0 60 w.heap.size 0 [.int .i64 x.now, .slice a1 x.services.length c1, .slice a2 x.copies.length c2, .slice a3 x.berths.length c3] rfl (fun _ h => h.1.rangeA) Tryz.underlying34 isz_Sbk hS ?_
    simp only [pA,pB,pC,pD]
    refine tz 1 61 (.pointer (some ⟨gv, 0, none⟩)) rfl hS ?_
    simp only [pA,pB,pC,pD]
    refine ty 2 ⟨some 62, _, _, _, _, none⟩ (.string v.name) rfl (by rfl) ?_ hS ?_
    ·intro wy hy
     have h0 := hy.2.1.cell (o := 0) rfl
     clear hy
     go_simp
    simp only [pA,pB,pC,pD]
    refine tz 3 63 (.slice (some ⟨ge, 0, none⟩) 1 qe) rfl hS ?_
    simp only [pA,pB,pC,pD]
    refine tz 4 64 (.pointer (some ⟨ge, 0, none⟩)) rfl hS ?_
    simp only [pA,pB,pC,pD]
    refine tz 5 65 (.pointer (some ⟨ge, 0, none⟩)) rfl hS ?_
    simp only [pA,pB,pC,pD]
    refine ty 6 ⟨some 66, _, _, _, _, none⟩ (.int .i64 B.number) rfl (by rfl) ?_ hS ?_
    ·intro wy hy
     have h0 := hy.2.2
     clear hy
     go_simp
    simp only [pA,pB,pC,pD]
    refine rd1 7 ⟨some 67, _, _, _, _, none⟩ rfl (fun KK hKK => ?_)
    go_simp
    refine (mayEnd20_any x a1 c1 a2 c2 a3 c3 lo v.name B.number _ (HN1.out.below SsvC.holds hB8 (Nat.le_refl _)) (HN2.out.below ScpC.holds hB8 (Nat.le_refl _)) HW.out).mono ?_
    rintro e w9 ⟨rfl, hb⟩
    have HB9 := Hid.intro (HB8.out.below hb HB8.out.lt)
    have HV9 := Hid.intro (HV8.out.below hb HV8.out.lt)
    have HA9 := Hid.intro (HA8.out.below hb HA8.out.lt)
    have HR9 := Hid.intro (HR8.out.below hb HR8.out.lt)
    have hB9 := hB8.trans (hb.mono hB8.size)
    clear HB8 HV8 HA8 HR8 hB8
    have HEN9 := Hid.intro (HEN8.out.below SenC.holds hb (Nat.le_refl _))
    refine hKK.out _ _ ⟨HB9.out, HV9.out, (hb.cell (p := ⟨ge, 0, none⟩) (block_lt_of_cell hS.2.2)).trans hS.2.2⟩ (fun hS => ?_)
    clear hKK KK hb HEN8
    refine wpAnyH_done (by kernel_rfl) ?_ _
    clear hS
    cases hm : mayB x v.name B.number with
    | false =>
     have HSC : Hid (cuA x v = ⟨v.name, v.version, 0, 0, 0, false, [], false⟩) := by show _ = _; rw [HCU2.out, hm]; rfl
     clear HCU2 hm HEN9
     have HTS := Hid.intro HR9.out.there
     obtain ⟨wf, HE⟩ : ∃ wf, Hid (wf = w9.setCells gr 0 [.string v.name, .int .i64 v.version, .int .i64 0, .int .i64 0, .int .i64 0, .bool false, .slice none 0 0, .bool false]) := ⟨_, rfl⟩
     have HRf : Hid (wf.rangeAt gr 0 [.string v.name, .int .i64 v.version, .int .i64 0, .int .i64 0, .int .i64 0, .bool false, .slice none 0 0, .bool false]) := by
      show World.rangeAt _ _ _ _
      rw [HE.out]
      exact World.rangeAt_setCells_same _ _ _ _ HTS.out
     have HBf : Hid (Below w.heap.size w wf) := by
      show Below _ _ _
      rw [HE.out]
      exact below_setCells (by omega) _ _ _ hB9
     go_wp2_with (first | (refine wpList_load_mid rfl 47 _ rfl ga 0 rfl [.string v.name, .int .i64 v.version, .int .i64 0, .int .i64 0, .int .i64 0, .bool false, .slice none 0 0, .bool false] _ HA9.out.rangeA Tryz.underlying47 rfl isz_Sac ?_) | (refine wpList_store_to rfl 47 _ _ rfl gr 0 #[.string v.name, .int .i64 v.version, .int .i64 0, .int .i64 0, .int .i64 0, .bool false, .slice none 0 0, .bool false] (by first | rfl | (simp [go_sem]; done)) rfl HTS.out isz_Sac (by simp [Value.oneCell']) wf HE.out ?_))
     refine bodyPost_ret (results_cell_mid rfl _ _ gr [.string v.name, .int .i64 v.version, .int .i64 0, .int .i64 0, .int .i64 0, .bool false, .slice none 0 0, .bool false] _ rfl HRf.out Tryz.underlying47 rfl isz_Sac) rfl ?_
     rw [HSC.out]
     exact ⟨none, 0, rfl, SliceC.nil, HBf.out⟩
    | true =>
     have HSC : Hid (cuA x v = ⟨v.name, v.version, 0, 0, 0, false, [enC B], false⟩) := by show _ = _; rw [HCU2.out, hm]; rfl
     clear HCU2 hm
     have ka6 : w9.cell? ⟨ga, 6, none⟩ = some (.slice none 0 0) := HA9.out.cell rfl
     have fz6 : w9.frozen? ⟨ga, 6, none⟩ = false := HA9.out.frozen 6
     go_upto_region 10 with fail
     clear ka6 fz6
     have HB10 := Hid.intro (HB9.out.other (a := ⟨ga, 6, none⟩) (by show _ ≠ ga; omega) (.slice (some ⟨ge, 0, none⟩) 1 qe))
     have HV10 := Hid.intro (HV9.out.other (a := ⟨ga, 6, none⟩) (by show _ ≠ ga; omega) (.slice (some ⟨ge, 0, none⟩) 1 qe))
     have HR10 := Hid.intro (HR9.out.other (a := ⟨ga, 6, none⟩) (by show _ ≠ ga; omega) (.slice (some ⟨ge, 0, none⟩) 1 qe))
     have HA10 : Hid (Blk ga #[.string v.name, .int .i64 v.version, .int .i64 0, .int .i64 0, .int .i64 0, .bool false, .slice (some ⟨ge, 0, none⟩) 1 qe, .bool false] 47 (w9.setCell ⟨ga, 6, none⟩ (.slice (some ⟨ge, 0, none⟩) 1 qe))) := HA9.out.set 6 (.slice (some ⟨ge, 0, none⟩) 1 qe)
     have hB10 : Below w.heap.size w (w9.setCell ⟨ga, 6, none⟩ (.slice (some ⟨ge, 0, none⟩) 1 qe)) := hB9.setCell (by show w.heap.size ≤ ga; omega) _
     have HEN10 : Hid (SliceC SenC 2 w6.heap.size (w9.setCell ⟨ga, 6, none⟩ (.slice (some ⟨ge, 0, none⟩) 1 qe)) (some ⟨ge, 0, none⟩) [enC B]) := HEN9.out.keep SenC.holds (Keeps.set (show (⟨ga, 6, none⟩ : Addr).block < w6.heap.size from hga6) _) (Nat.le_refl _)
     clear HB9 HV9 HA9 HR9 hB9
     generalize w9.setCell ⟨ga, 6, none⟩ (.slice (some ⟨ge, 0, none⟩) 1 qe) = w10 at *
     clear HEN9
     have HTS := Hid.intro HR10.out.there
     obtain ⟨wf, HE⟩ : ∃ wf, Hid (wf = w10.setCells gr 0 [.string v.name, .int .i64 v.version, .int .i64 0, .int .i64 0, .int .i64 0, .bool false, .slice (some ⟨ge, 0, none⟩) 1 qe, .bool false]) := ⟨_, rfl⟩
     have HRf : Hid (wf.rangeAt gr 0 [.string v.name, .int .i64 v.version, .int .i64 0, .int .i64 0, .int .i64 0, .bool false, .slice (some ⟨ge, 0, none⟩) 1 qe, .bool false]) := by
      show World.rangeAt _ _ _ _
      rw [HE.out]
      exact World.rangeAt_setCells_same _ _ _ _ HTS.out
     have HBf : Hid (Below w.heap.size w wf) := by
      show Below _ _ _
      rw [HE.out]
      exact below_setCells (by omega) _ _ _ hB10
     have HENf : Hid (SliceC SenC 2 w6.heap.size wf (some ⟨ge, 0, none⟩) [enC B]) := by
      show SliceC _ _ _ _ _ _
      rw [HE.out]
      exact HEN10.out.keep SenC.holds (Keeps.setCells (by omega) _ _ _) (Nat.le_refl _)
     go_wp2_with (first | (refine wpList_load_mid rfl 47 _ rfl ga 0 rfl [.string v.name, .int .i64 v.version, .int .i64 0, .int .i64 0, .int .i64 0, .bool false, .slice (some ⟨ge, 0, none⟩) 1 qe, .bool false] _ HA10.out.rangeA Tryz.underlying47 rfl isz_Sac ?_) | (refine wpList_store_to rfl 47 _ _ rfl gr 0 #[.string v.name, .int .i64 v.version, .int .i64 0, .int .i64 0, .int .i64 0, .bool false, .slice (some ⟨ge, 0, none⟩) 1 qe, .bool false] (by first | rfl | (simp [go_sem]; done)) rfl HTS.out isz_Sac (by simp [Value.oneCell']) wf HE.out ?_))
     refine bodyPost_ret (results_cell_mid rfl _ _ gr [.string v.name, .int .i64 v.version, .int .i64 0, .int .i64 0, .int .i64 0, .bool false, .slice (some ⟨ge, 0, none⟩) 1 qe, .bool false] _ rfl HRf.out Tryz.underlying47 rfl isz_Sac) rfl ?_
     rw [HSC.out]
     exact ⟨_, qe, rfl, HENf.out.keep SenC.holds (Keeps.refl _ _) h6w, HBf.out⟩

end Go.Proofs.YtnggdpjfmpjlhaaGreat
