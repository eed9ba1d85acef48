import Derived.Test.YtnggdpjfmpjlhaaGreatTkw
import Derived.Test.YtnggdpjfmpjlhaaGreatSk5
namespace Go.Proofs.YtnggdpjfmpjlhaaGreat
open Go.RowKit

def calmB (x : Sbk) (v : Ssv) : Bool := ((someL x v 2).length == 0) && ((someL x v 6).length == 0)

def cuA (x : Sbk) (v : Ssv) : Sac :=
 if ((liveL x v.name).length : Int) < v.want then ⟨v.name, v.version, v.want - (liveL x v.name).length, 0, 0, false, [], false⟩
 else if v.want < ((liveL x v.name).length : Int) ∧ (calmB x v = true ∨ v.want + v.over < ((liveL x v.name).length : Int)) ∧ mayB x v.name (bestF x v.image (liveL x v.name)).number = true then ⟨v.name, v.version, 0, 0, 0, false, firstL x v.image (liveL x v.name), false⟩
 else ⟨v.name, v.version, 0, 0, 0, false, [], false⟩

def reA (x : Sbk) (v : Ssv) (l : List Nat) : Sac :=
 if l.length = 0 ∨ ((liveL x v.name).length : Int) < v.want then ⟨v.name, v.version, 0, 0, 0, false, [], false⟩
 else if ((liveL x v.name).length : Int) < v.want + v.over then ⟨v.name, v.version, 1, 0, 0, false, [], false⟩
 else ⟨v.name, v.version, 0, 0, 0, false, firstL x v.image (l.filter (fun i => mayB x (cAt x i).service (cAt x i).number)), false⟩

theorem live_small {x : Sbk} (h : x.copies.length ≤ 200) (s : ByteArray) : (liveL x s).length ≤ 200 := by
 have := plTo_len (fun i => lvB s (cAt x i)) x.copies.length
 unfold liveL
 omega

set_option maxHeartbeats 16000000 in
set_option maxRecDepth 100000 in
theorem replace_any (x : Sbk) (a1 : Option Addr) (c1 : Nat) (a2 : Option Addr) (c2 : Nat) (a3 : Option Addr) (c3 : Nat) (lo : Nat) (v : Ssv) (lp : Nat) (l : List Nat) (al : Option Addr) (cl : Nat) (w : World) (n1 : SliceC SsvC 13 lo w a1 x.services) (n2 : SliceC ScpC 7 lo w a2 x.copies) (n3 : SliceC SbtC 2 lo w a3 x.berths) (hv : SWk x) (hl3 : x.berths.length ≤ 1048576) (hn : SvNum v) (hp : Pls lp w al l) (hin : ∀ i ∈ l, i < x.copies.length) (hll : l.length ≤ 1048576) :
  Calls Tryz.prog 48 #[.agg #[.int .i64 x.now, .slice a1 x.services.length c1, .slice a2 x.copies.length c2, .slice a3 x.berths.length c3], .agg #[.string v.name, .int .i64 v.version, .bool v.gone, .int .i64 v.image, .int .i64 v.want, .int .i64 v.down, .int .i64 v.over, .int .i64 v.next, .int .i64 v.per, .int .i64 v.least, .int .i64 v.most, .int .i64 v.load, .int .i64 v.cool], .agg #[.string v.name, .int .i64 v.version, .int .i64 0, .int .i64 0, .int .i64 0, .bool false, .slice none 0 0, .bool false], .slice al l.length cl] w fun e w' => AcRes (reA x v l) w e w' := by
 have HN1 := Hid.intro n1
 have HN2 := Hid.intro n2
 have HN3 := Hid.intro n3
 have HW := Hid.intro hv
 have hl2 := hv.l2
 clear n1 n2 n3 hv
 obtain ⟨_, _, hwt, hov, _⟩ := hn
 have hls := live_small hl2 v.name
 have HP := Hid.intro hp
 have HIN := Hid.intro hin
 clear hp hin
 have h1 : Blk w.heap.size #[.int .i64 x.now, .slice a1 x.services.length c1, .slice a2 x.copies.length c2, .slice a3 x.berths.length c3] 34 (w.alloc (Obj.cells #[.int .i64 x.now, .slice a1 x.services.length c1, .slice a2 x.copies.length c2, .slice a3 x.berths.length c3] 34)) := Blk.alloc _ _ _
 have h2 : Blk w.heap.size #[.int .i64 x.now, .slice a1 x.services.length c1, .slice a2 x.copies.length c2, .slice a3 x.berths.length c3] 34 ((w.alloc (Obj.cells #[.int .i64 x.now, .slice a1 x.services.length c1, .slice a2 x.copies.length c2, .slice a3 x.berths.length c3] 34)).alloc (Obj.cells #[.string v.name, .int .i64 v.version, .bool v.gone, .int .i64 v.image, .int .i64 v.want, .int .i64 v.down, .int .i64 v.over, .int .i64 v.next, .int .i64 v.per, .int .i64 v.least, .int .i64 v.most, .int .i64 v.load, .int .i64 v.cool] 50)) := h1.below ((Below.refl _ _).alloc (Nat.le_refl _) _) h1.lt
 have h3 : Blk w.heap.size #[.int .i64 x.now, .slice a1 x.services.length c1, .slice a2 x.copies.length c2, .slice a3 x.berths.length c3] 34 (((w.alloc (Obj.cells #[.int .i64 x.now, .slice a1 x.services.length c1, .slice a2 x.copies.length c2, .slice a3 x.berths.length c3] 34)).alloc (Obj.cells #[.string v.name, .int .i64 v.version, .bool v.gone, .int .i64 v.image, .int .i64 v.want, .int .i64 v.down, .int .i64 v.over, .int .i64 v.next, .int .i64 v.per, .int .i64 v.least, .int .i64 v.most, .int .i64 v.load, .int .i64 v.cool] 50)).alloc (Obj.cells #[.string v.name, .int .i64 v.version, .int .i64 0, .int .i64 0, .int .i64 0, .bool false, .slice none 0 0, .bool false] 47)) := h2.below ((Below.refl _ _).alloc (Nat.le_refl _) _) h2.lt
 have HB4 : Hid (Blk w.heap.size #[.int .i64 x.now, .slice a1 x.services.length c1, .slice a2 x.copies.length c2, .slice a3 x.berths.length c3] 34 ((((w.alloc (Obj.cells #[.int .i64 x.now, .slice a1 x.services.length c1, .slice a2 x.copies.length c2, .slice a3 x.berths.length c3] 34)).alloc (Obj.cells #[.string v.name, .int .i64 v.version, .bool v.gone, .int .i64 v.image, .int .i64 v.want, .int .i64 v.down, .int .i64 v.over, .int .i64 v.next, .int .i64 v.per, .int .i64 v.least, .int .i64 v.most, .int .i64 v.load, .int .i64 v.cool] 50)).alloc (Obj.cells #[.string v.name, .int .i64 v.version, .int .i64 0, .int .i64 0, .int .i64 0, .bool false, .slice none 0 0, .bool false] 47)).alloc (Obj.cells #[.string ⟨#[]⟩, .int .i64 0, .int .i64 0, .int .i64 0, .int .i64 0, .bool false, .slice none 0 0, .bool false] 47))) := h3.below ((Below.refl _ _).alloc (Nat.le_refl _) _) h3.lt
 have v2 : Blk (w.heap.size + 1) #[.string v.name, .int .i64 v.version, .bool v.gone, .int .i64 v.image, .int .i64 v.want, .int .i64 v.down, .int .i64 v.over, .int .i64 v.next, .int .i64 v.per, .int .i64 v.least, .int .i64 v.most, .int .i64 v.load, .int .i64 v.cool] 50 ((w.alloc (Obj.cells #[.int .i64 x.now, .slice a1 x.services.length c1, .slice a2 x.copies.length c2, .slice a3 x.berths.length c3] 34)).alloc (Obj.cells #[.string v.name, .int .i64 v.version, .bool v.gone, .int .i64 v.image, .int .i64 v.want, .int .i64 v.down, .int .i64 v.over, .int .i64 v.next, .int .i64 v.per, .int .i64 v.least, .int .i64 v.most, .int .i64 v.load, .int .i64 v.cool] 50)) := by
  have := Blk.alloc (w.alloc (Obj.cells #[.int .i64 x.now, .slice a1 x.services.length c1, .slice a2 x.copies.length c2, .slice a3 x.berths.length c3] 34)) #[.string v.name, .int .i64 v.version, .bool v.gone, .int .i64 v.image, .int .i64 v.want, .int .i64 v.down, .int .i64 v.over, .int .i64 v.next, .int .i64 v.per, .int .i64 v.least, .int .i64 v.most, .int .i64 v.load, .int .i64 v.cool] 50
  simpa using this
 have v3 : Blk (w.heap.size + 1) #[.string v.name, .int .i64 v.version, .bool v.gone, .int .i64 v.image, .int .i64 v.want, .int .i64 v.down, .int .i64 v.over, .int .i64 v.next, .int .i64 v.per, .int .i64 v.least, .int .i64 v.most, .int .i64 v.load, .int .i64 v.cool] 50 (((w.alloc (Obj.cells #[.int .i64 x.now, .slice a1 x.services.length c1, .slice a2 x.copies.length c2, .slice a3 x.berths.length c3] 34)).alloc (Obj.cells #[.string v.name, .int .i64 v.version, .bool v.gone, .int .i64 v.image, .int .i64 v.want, .int .i64 v.down, .int .i64 v.over, .int .i64 v.next, .int .i64 v.per, .int .i64 v.least, .int .i64 v.most, .int .i64 v.load, .int .i64 v.cool] 50)).alloc (Obj.cells #[.string v.name, .int .i64 v.version, .int .i64 0, .int .i64 0, .int .i64 0, .bool false, .slice none 0 0, .bool false] 47)) := v2.below ((Below.refl _ _).alloc (Nat.le_refl _) _) v2.lt
 have HV4 : Hid (Blk (w.heap.size + 1) #[.string v.name, .int .i64 v.version, .bool v.gone, .int .i64 v.image, .int .i64 v.want, .int .i64 v.down, .int .i64 v.over, .int .i64 v.next, .int .i64 v.per, .int .i64 v.least, .int .i64 v.most, .int .i64 v.load, .int .i64 v.cool] 50 ((((w.alloc (Obj.cells #[.int .i64 x.now, .slice a1 x.services.length c1, .slice a2 x.copies.length c2, .slice a3 x.berths.length c3] 34)).alloc (Obj.cells #[.string v.name, .int .i64 v.version, .bool v.gone, .int .i64 v.image, .int .i64 v.want, .int .i64 v.down, .int .i64 v.over, .int .i64 v.next, .int .i64 v.per, .int .i64 v.least, .int .i64 v.most, .int .i64 v.load, .int .i64 v.cool] 50)).alloc (Obj.cells #[.string v.name, .int .i64 v.version, .int .i64 0, .int .i64 0, .int .i64 0, .bool false, .slice none 0 0, .bool false] 47)).alloc (Obj.cells #[.string ⟨#[]⟩, .int .i64 0, .int .i64 0, .int .i64 0, .int .i64 0, .bool false, .slice none 0 0, .bool false] 47))) := v3.below ((Below.refl _ _).alloc (Nat.le_refl _) _) v3.lt
 have q3 : Blk (w.heap.size + 1 + 1) #[.string v.name, .int .i64 v.version, .int .i64 0, .int .i64 0, .int .i64 0, .bool false, .slice none 0 0, .bool false] 47 (((w.alloc (Obj.cells #[.int .i64 x.now, .slice a1 x.services.length c1, .slice a2 x.copies.length c2, .slice a3 x.berths.length c3] 34)).alloc (Obj.cells #[.string v.name, .int .i64 v.version, .bool v.gone, .int .i64 v.image, .int .i64 v.want, .int .i64 v.down, .int .i64 v.over, .int .i64 v.next, .int .i64 v.per, .int .i64 v.least, .int .i64 v.most, .int .i64 v.load, .int .i64 v.cool] 50)).alloc (Obj.cells #[.string v.name, .int .i64 v.version, .int .i64 0, .int .i64 0, .int .i64 0, .bool false, .slice none 0 0, .bool false] 47)) := by
  have := Blk.alloc ((w.alloc (Obj.cells #[.int .i64 x.now, .slice a1 x.services.length c1, .slice a2 x.copies.length c2, .slice a3 x.berths.length c3] 34)).alloc (Obj.cells #[.string v.name, .int .i64 v.version, .bool v.gone, .int .i64 v.image, .int .i64 v.want, .int .i64 v.down, .int .i64 v.over, .int .i64 v.next, .int .i64 v.per, .int .i64 v.least, .int .i64 v.most, .int .i64 v.load, .int .i64 v.cool] 50)) #[.string v.name, .int .i64 v.version, .int .i64 0, .int .i64 0, .int .i64 0, .bool false, .slice none 0 0, .bool false] 47
  simpa using this
 have HA4 : Hid (Blk (w.heap.size + 1 + 1) #[.string v.name, .int .i64 v.version, .int .i64 0, .int .i64 0, .int .i64 0, .bool false, .slice none 0 0, .bool false] 47 ((((w.alloc (Obj.cells #[.int .i64 x.now, .slice a1 x.services.length c1, .slice a2 x.copies.length c2, .slice a3 x.berths.length c3] 34)).alloc (Obj.cells #[.string v.name, .int .i64 v.version, .bool v.gone, .int .i64 v.image, .int .i64 v.want, .int .i64 v.down, .int .i64 v.over, .int .i64 v.next, .int .i64 v.per, .int .i64 v.least, .int .i64 v.most, .int .i64 v.load, .int .i64 v.cool] 50)).alloc (Obj.cells #[.string v.name, .int .i64 v.version, .int .i64 0, .int .i64 0, .int .i64 0, .bool false, .slice none 0 0, .bool false] 47)).alloc (Obj.cells #[.string ⟨#[]⟩, .int .i64 0, .int .i64 0, .int .i64 0, .int .i64 0, .bool false, .slice none 0 0, .bool false] 47))) := q3.below ((Below.refl _ _).alloc (Nat.le_refl _) _) q3.lt
 have HR4 : Hid (Blk (w.heap.size + 1 + 1 + 1) #[.string ⟨#[]⟩, .int .i64 0, .int .i64 0, .int .i64 0, .int .i64 0, .bool false, .slice none 0 0, .bool false] 47 ((((w.alloc (Obj.cells #[.int .i64 x.now, .slice a1 x.services.length c1, .slice a2 x.copies.length c2, .slice a3 x.berths.length c3] 34)).alloc (Obj.cells #[.string v.name, .int .i64 v.version, .bool v.gone, .int .i64 v.image, .int .i64 v.want, .int .i64 v.down, .int .i64 v.over, .int .i64 v.next, .int .i64 v.per, .int .i64 v.least, .int .i64 v.most, .int .i64 v.load, .int .i64 v.cool] 50)).alloc (Obj.cells #[.string v.name, .int .i64 v.version, .int .i64 0, .int .i64 0, .int .i64 0, .bool false, .slice none 0 0, .bool false] 47)).alloc (Obj.cells #[.string ⟨#[]⟩, .int .i64 0, .int .i64 0, .int .i64 0, .int .i64 0, .bool false, .slice none 0 0, .bool false] 47))) := by
  have := Blk.alloc (((w.alloc (Obj.cells #[.int .i64 x.now, .slice a1 x.services.length c1, .slice a2 x.copies.length c2, .slice a3 x.berths.length c3] 34)).alloc (Obj.cells #[.string v.name, .int .i64 v.version, .bool v.gone, .int .i64 v.image, .int .i64 v.want, .int .i64 v.down, .int .i64 v.over, .int .i64 v.next, .int .i64 v.per, .int .i64 v.least, .int .i64 v.most, .int .i64 v.load, .int .i64 v.cool] 50)).alloc (Obj.cells #[.string v.name, .int .i64 v.version, .int .i64 0, .int .i64 0, .int .i64 0, .bool false, .slice none 0 0, .bool false] 47)) #[.string ⟨#[]⟩, .int .i64 0, .int .i64 0, .int .i64 0, .int .i64 0, .bool false, .slice none 0 0, .bool false] 47
  show Blk _ _ _ _
  simpa using this
 have hB4 : Below w.heap.size w ((((w.alloc (Obj.cells #[.int .i64 x.now, .slice a1 x.services.length c1, .slice a2 x.copies.length c2, .slice a3 x.berths.length c3] 34)).alloc (Obj.cells #[.string v.name, .int .i64 v.version, .bool v.gone, .int .i64 v.image, .int .i64 v.want, .int .i64 v.down, .int .i64 v.over, .int .i64 v.next, .int .i64 v.per, .int .i64 v.least, .int .i64 v.most, .int .i64 v.load, .int .i64 v.cool] 50)).alloc (Obj.cells #[.string v.name, .int .i64 v.version, .int .i64 0, .int .i64 0, .int .i64 0, .bool false, .slice none 0 0, .bool false] 47)).alloc (Obj.cells #[.string ⟨#[]⟩, .int .i64 0, .int .i64 0, .int .i64 0, .int .i64 0, .bool false, .slice none 0 0, .bool false] 47)) := by go_grown
 clear h1 h2 h3 v2 v3 q3
 go_enter Tryz.func48, Tryz.ntmps48
 go_upto_region 1 with fail
 generalize (((w.alloc (Obj.cells #[.int .i64 x.now, .slice a1 x.services.length c1, .slice a2 x.copies.length c2, .slice a3 x.berths.length c3] 34)).alloc (Obj.cells #[.string v.name, .int .i64 v.version, .bool v.gone, .int .i64 v.image, .int .i64 v.want, .int .i64 v.down, .int .i64 v.over, .int .i64 v.next, .int .i64 v.per, .int .i64 v.least, .int .i64 v.most, .int .i64 v.load, .int .i64 v.cool] 50)).alloc (Obj.cells #[.string v.name, .int .i64 v.version, .int .i64 0, .int .i64 0, .int .i64 0, .bool false, .slice none 0 0, .bool false] 47)).alloc (Obj.cells #[.string ⟨#[]⟩, .int .i64 0, .int .i64 0, .int .i64 0, .int .i64 0, .bool false, .slice none 0 0, .bool false] 47) = w4 at *
 have hgg : w.heap.size < w.heap.size + 1 ∧ w.heap.size + 1 < w.heap.size + 1 + 1 ∧ w.heap.size + 1 + 1 < w.heap.size + 1 + 1 + 1 := by omega
 generalize w.heap.size + 1 + 1 + 1 = gr at *
 generalize w.heap.size + 1 + 1 = ga at *
 generalize w.heap.size + 1 = gv at *
 have k_name : w4.cell? ⟨gv, 0, none⟩ = some (.string v.name) := HV4.out.cell rfl
 go_wp2_with (refine wpList_load_mid rfl 34 _ rfl w.heap.size 0 rfl [.int .i64 x.now, .slice a1 x.services.length c1, .slice a2 x.copies.length c2, .slice a3 x.berths.length c3] _ HB4.out.rangeA Tryz.underlying34 rfl isz_Sbk ?_)
 refine (live22_any x a1 c1 a2 c2 a3 c3 lo v.name _ (HN2.out.below ScpC.holds hB4 (Nat.le_refl _)) (by omega)).mono ?_
 rintro e w5 ⟨gl, ql, rfl, _, hb⟩
 have HB5 := Hid.intro (HB4.out.below hb HB4.out.lt)
 have HV5 := Hid.intro (HV4.out.below hb HV4.out.lt)
 have HA5 := Hid.intro (HA4.out.below hb HA4.out.lt)
 have HR5 := Hid.intro (HR4.out.below hb HR4.out.lt)
 have hB5 := hB4.trans (hb.mono hB4.size)
 clear HB4 HV4 HA4 HR4 hB4
 clear hb k_name
 obtain ⟨L, hL⟩ : ∃ L, L = (liveL x v.name).length := ⟨_, rfl⟩
 rw [← hL] at hls ⊢
 have k_want : w5.cell? ⟨gv, 4, none⟩ = some (.int .i64 v.want) := HV5.out.cell rfl
 have k_over : w5.cell? ⟨gv, 6, none⟩ = some (.int .i64 v.over) := HV5.out.cell rfl
 by_cases h1 : l.length = 0 ∨ (L : Int) < v.want
 ·skip
  have HSC : Hid (reA x v l = ⟨v.name, v.version, 0, 0, 0, false, [], false⟩) := by show _ = _; unfold reA; rw [← hL, if_pos h1]
  clear hL
  go_upto_region 2 with fail
  go_cut [23] (fun p wz => p = .bool true ∧ wz = w5)
  case first =>
   by_cases h0 : l.length = 0
   ·have h0b : ((l.length : Int) == 0) = true := by rw [h0]; rfl
    go_wp2_with fail
    go_meet
    exact ⟨rfl, rfl⟩
   ·have h0b : ((l.length : Int) == 0) = false := by simpa using h0
    have h2 : (L : Int) < v.want := by rcases h1 with h | h; exact absurd h h0; exact h
    go_wp2_with fail
    go_meet
    exact ⟨rfl, rfl⟩
  case rest =>
   obtain ⟨rfl, hwc⟩ := hcut
   rw [hwc]
   clear hwc h1
   clear k_want k_over
   have HTS := Hid.intro HR5.out.there
   obtain ⟨wf, HE⟩ : ∃ wf, Hid (wf = w5.setCells gr 0 [.string v.name, .int .i64 v.version, .int .i64 0, .int .i64 0, .int .i64 0, .bool false, .slice none 0 0, .bool false]) := ⟨_, rfl⟩
   have HRf : Hid (wf.rangeAt gr 0 [.string v.name, .int .i64 v.version, .int .i64 0, .int .i64 0, .int .i64 0, .bool false, .slice none 0 0, .bool false]) := by
    show World.rangeAt _ _ _ _
    rw [HE.out]
    exact World.rangeAt_setCells_same _ _ _ _ HTS.out
   have HBf : Hid (Below w.heap.size w wf) := by
    show Below _ _ _
    rw [HE.out]
    exact below_setCells (by omega) _ _ _ hB5
   go_wp2_with (first | (refine wpList_load_mid rfl 47 _ rfl ga 0 rfl [.string v.name, .int .i64 v.version, .int .i64 0, .int .i64 0, .int .i64 0, .bool false, .slice none 0 0, .bool false] _ HA5.out.rangeA Tryz.underlying47 rfl isz_Sac ?_) | (refine wpList_store_to rfl 47 _ _ rfl gr 0 #[.string v.name, .int .i64 v.version, .int .i64 0, .int .i64 0, .int .i64 0, .bool false, .slice none 0 0, .bool false] (by first | rfl | (simp [go_sem]; done)) rfl HTS.out isz_Sac (by simp [Value.oneCell']) wf HE.out ?_))
   refine bodyPost_ret (results_cell_mid rfl _ _ gr [.string v.name, .int .i64 v.version, .int .i64 0, .int .i64 0, .int .i64 0, .bool false, .slice none 0 0, .bool false] _ rfl HRf.out Tryz.underlying47 rfl isz_Sac) rfl ?_
   rw [HSC.out]
   exact ⟨none, 0, rfl, SliceC.nil, HBf.out⟩
 have h0 : ¬ l.length = 0 := fun h => h1 (.inl h)
 have h0b : ((l.length : Int) == 0) = false := by simpa using h0
 have h2 : v.want ≤ (L : Int) := by have := fun h => h1 (.inr h); omega
 have HWR : IntKind.i64.wrap (v.want + v.over) = v.want + v.over := by rw [IntKind.wrap_i64]; omega
 by_cases h3 : (L : Int) < v.want + v.over
 ·skip
  have HSC : Hid (reA x v l = ⟨v.name, v.version, 1, 0, 0, false, [], false⟩) := by show _ = _; unfold reA; rw [← hL, if_neg h1, if_pos h3]
  clear hL
  have ka2 : w5.cell? ⟨ga, 2, none⟩ = some (.int .i64 0) := HA5.out.cell rfl
  have fz2 : w5.frozen? ⟨ga, 2, none⟩ = false := HA5.out.frozen 2
  go_upto_region 6 with fail
  clear ka2 fz2
  clear k_want k_over
  have HB6 := Hid.intro (HB5.out.other (a := ⟨ga, 2, none⟩) (by show _ ≠ ga; omega) (.int .i64 1))
  have HV6 := Hid.intro (HV5.out.other (a := ⟨ga, 2, none⟩) (by show _ ≠ ga; omega) (.int .i64 1))
  have HR6 := Hid.intro (HR5.out.other (a := ⟨ga, 2, none⟩) (by show _ ≠ ga; omega) (.int .i64 1))
  have HA6 : Hid (Blk ga #[.string v.name, .int .i64 v.version, .int .i64 1, .int .i64 0, .int .i64 0, .bool false, .slice none 0 0, .bool false] 47 (w5.setCell ⟨ga, 2, none⟩ (.int .i64 1))) := HA5.out.set 2 (.int .i64 1)
  have hB6 : Below w.heap.size w (w5.setCell ⟨ga, 2, none⟩ (.int .i64 1)) := hB5.setCell (by show w.heap.size ≤ ga; omega) _
  clear HB5 HV5 HA5 HR5 hB5
  generalize w5.setCell ⟨ga, 2, none⟩ (.int .i64 1) = w6 at *
  have HTS := Hid.intro HR6.out.there
  obtain ⟨wf, HE⟩ : ∃ wf, Hid (wf = w6.setCells gr 0 [.string v.name, .int .i64 v.version, .int .i64 1, .int .i64 0, .int .i64 0, .bool false, .slice none 0 0, .bool false]) := ⟨_, rfl⟩
  have HRf : Hid (wf.rangeAt gr 0 [.string v.name, .int .i64 v.version, .int .i64 1, .int .i64 0, .int .i64 0, .bool false, .slice none 0 0, .bool false]) := by
   show World.rangeAt _ _ _ _
   rw [HE.out]
   exact World.rangeAt_setCells_same _ _ _ _ HTS.out
  have HBf : Hid (Below w.heap.size w wf) := by
   show Below _ _ _
   rw [HE.out]
   exact below_setCells (by omega) _ _ _ hB6
  go_wp2_with (first | (refine wpList_load_mid rfl 47 _ rfl ga 0 rfl [.string v.name, .int .i64 v.version, .int .i64 1, .int .i64 0, .int .i64 0, .bool false, .slice none 0 0, .bool false] _ HA6.out.rangeA Tryz.underlying47 rfl isz_Sac ?_) | (refine wpList_store_to rfl 47 _ _ rfl gr 0 #[.string v.name, .int .i64 v.version, .int .i64 1, .int .i64 0, .int .i64 0, .bool false, .slice none 0 0, .bool false] (by first | rfl | (simp [go_sem]; done)) rfl HTS.out isz_Sac (by simp [Value.oneCell']) wf HE.out ?_))
  refine bodyPost_ret (results_cell_mid rfl _ _ gr [.string v.name, .int .i64 v.version, .int .i64 1, .int .i64 0, .int .i64 0, .bool false, .slice none 0 0, .bool false] _ rfl HRf.out Tryz.underlying47 rfl isz_Sac) rfl ?_
  rw [HSC.out]
  exact ⟨none, 0, rfl, SliceC.nil, HBf.out⟩
 have h3' : v.want + v.over ≤ (L : Int) := by omega
 have HSC : Hid (reA x v l = ⟨v.name, v.version, 0, 0, 0, false, firstL x v.image (l.filter (fun i => mayB x (cAt x i).service (cAt x i).number)), false⟩) := by show _ = _; unfold reA; rw [← hL, if_neg h1, if_neg h3]
 clear hL
 obtain ⟨M, HM⟩ : ∃ M, Hid (M = l.filter (fun i => mayB x (cAt x i).service (cAt x i).number)) := ⟨_, rfl⟩
 rw [← HM.out] at HSC
 go_upto_region 7 with fail
 clear k_want k_over
 refine wp_region_held_drew (S := fun wy => Blk w.heap.size #[.int .i64 x.now, .slice a1 x.services.length c1, .slice a2 x.copies.length c2, .slice a3 x.berths.length c3] 34 wy ∧ Blk gv #[.string v.name, .int .i64 v.version, .bool v.gone, .int .i64 v.image, .int .i64 v.want, .int .i64 v.down, .int .i64 v.over, .int .i64 v.next, .int .i64 v.per, .int .i64 v.least, .int .i64 v.most, .int .i64 v.load, .int .i64 v.cool] 50 wy) (by kernel_rfl) ⟨HB5.out.drew, HV5.out.drew⟩ (fun hS => ?_)
 have hbd : Below w5.heap.size w5 w5.drew := (Below.refl _ _).drew
 have HB6 := Hid.intro (HB5.out.below hbd HB5.out.lt)
 have HV6 := Hid.intro (HV5.out.below hbd HV5.out.lt)
 have HA6 := Hid.intro (HA5.out.below hbd HA5.out.lt)
 have HR6 := Hid.intro (HR5.out.below hbd HR5.out.lt)
 have hB6 := hB5.trans (hbd.mono hB5.size)
 clear HB5 HV5 HA5 HR5 hB5
 clear hbd
 generalize w5.drew = w6 at *
 refine tm 0 34 w.heap.size 0 [.int .i64 x.now, .slice a1 x.services.length c1, .slice a2 x.copies.length c2, .slice a3 x.berths.length c3] rfl (fun _ h => h.1.rangeA) Tryz.underlying34 isz_Sbk hS ?_
 simp only [pA,pB,pC,pD]
 refine tm 1 35 gv 0 [.string v.name, .int .i64 v.version, .bool v.gone, .int .i64 v.image, .int .i64 v.want, .int .i64 v.down, .int .i64 v.over, .int .i64 v.next, .int .i64 v.per, .int .i64 v.least, .int .i64 v.most, .int .i64 v.load, .int .i64 v.cool] rfl (fun _ h => h.2.rangeA) Tryz.underlying50 isz_Ssv hS ?_
 simp only [pA,pB,pC,pD]
 refine tm 2 36 w.heap.size 0 [.int .i64 x.now, .slice a1 x.services.length c1, .slice a2 x.copies.length c2, .slice a3 x.berths.length c3] rfl (fun _ h => h.1.rangeA) Tryz.underlying34 isz_Sbk hS ?_
 simp only [pA,pB,pC,pD]
 refine tz 3 37 (.slice al l.length cl) rfl hS ?_
 simp only [pA,pB,pC,pD]
 refine rd1 4 ⟨some 38, _, _, _, _, none⟩ rfl (fun KK hKK => ?_)
 go_simp
 refine (may22_any x a1 c1 a2 c2 a3 c3 lo lp l al cl _ (HN1.out.below SsvC.holds hB6 (Nat.le_refl _)) (HN2.out.below ScpC.holds hB6 (Nat.le_refl _)) HW.out (HP.out.below IntC.holds hB6 (Nat.le_refl _)) HIN.out hll).mono ?_
 rintro e w7 ⟨gm, qm, rfl, hpm, hb⟩
 have HB7 := Hid.intro (HB6.out.below hb HB6.out.lt)
 have HV7 := Hid.intro (HV6.out.below hb HV6.out.lt)
 have HA7 := Hid.intro (HA6.out.below hb HA6.out.lt)
 have HR7 := Hid.intro (HR6.out.below hb HR6.out.lt)
 have hB7 := hB6.trans (hb.mono hB6.size)
 clear HB6 HV6 HA6 HR6 hB6
 have hga7 : ga < w7.heap.size := HA7.out.lt
 have hgr7 : gr < w7.heap.size := HR7.out.lt
 have h7w : w.heap.size ≤ w7.heap.size := hB7.size
 refine hKK.out _ _ ⟨HB7.out, HV7.out⟩ (fun hS => ?_)
 clear hKK KK hb
 rw [← HM.out] at hpm ⊢
 have HPM := Hid.intro hpm
 clear hpm
 have HMI : Hid (∀ i ∈ M, i < x.copies.length) := by
  intro i hi
  rw [HM.out] at hi
  exact HIN.out i (List.mem_filter.1 hi).1
 have hml : M.length ≤ 1048576 := by rw [HM.out]; exact Nat.le_trans (List.length_filter_le _ _) hll
 clear HM
 refine rd1 5 ⟨some 39, _, _, _, _, none⟩ rfl (fun KK hKK => ?_)
 go_simp
 refine (first_any x a1 c1 a2 c2 a3 c3 lo _ v M _ qm _ (HN2.out.below ScpC.holds hB7 (Nat.le_refl _)) (HN3.out.below SbtC.holds hB7 (Nat.le_refl _)) hl3 HPM.out HMI.out hml).mono ?_
 rintro e w8 ⟨ge, qe, rfl, hen, hb⟩
 have HB8 := Hid.intro (HB7.out.below hb HB7.out.lt)
 have HV8 := Hid.intro (HV7.out.below hb HV7.out.lt)
 have HA8 := Hid.intro (HA7.out.below hb HA7.out.lt)
 have HR8 := Hid.intro (HR7.out.below hb HR7.out.lt)
 have hB8 := hB7.trans (hb.mono hB7.size)
 clear HB7 HV7 HA7 HR7 hB7
 refine hKK.out _ _ ⟨HB8.out, HV8.out⟩ (fun hS => ?_)
 clear hKK KK hb HPM
 have HEN := Hid.intro hen
 clear hen
 obtain ⟨E, hE⟩ : ∃ E, E = firstL x v.image M := ⟨_, rfl⟩
 rw [← hE] at HSC HEN ⊢
 clear hE
 have ka6 : w8.cell? ⟨ga, 6, none⟩ = some (.slice none 0 0) := HA8.out.cell rfl
 have fz6 : w8.frozen? ⟨ga, 6, none⟩ = false := HA8.out.frozen 6
 refine tz 6 40 (.pointer (some ⟨ga, 6, none⟩)) rfl hS ?_
 simp only [pA,pB,pC,pD]
 refine rd1 7 ⟨none, _, _, _, _, none⟩ rfl (fun KK hKK => ?_)
 go_simp
 clear ka6 fz6
 have HB9 := Hid.intro (HB8.out.other (a := ⟨ga, 6, none⟩) (by show _ ≠ ga; omega) (.slice (some ⟨ge, 0, none⟩) E.length qe))
 have HV9 := Hid.intro (HV8.out.other (a := ⟨ga, 6, none⟩) (by show _ ≠ ga; omega) (.slice (some ⟨ge, 0, none⟩) E.length qe))
 have HR9 := Hid.intro (HR8.out.other (a := ⟨ga, 6, none⟩) (by show _ ≠ ga; omega) (.slice (some ⟨ge, 0, none⟩) E.length qe))
 have HA9 : Hid (Blk ga #[.string v.name, .int .i64 v.version, .int .i64 0, .int .i64 0, .int .i64 0, .bool false, .slice (some ⟨ge, 0, none⟩) E.length qe, .bool false] 47 (w8.setCell ⟨ga, 6, none⟩ (.slice (some ⟨ge, 0, none⟩) E.length qe))) := HA8.out.set 6 (.slice (some ⟨ge, 0, none⟩) E.length qe)
 have hB9 : Below w.heap.size w (w8.setCell ⟨ga, 6, none⟩ (.slice (some ⟨ge, 0, none⟩) E.length qe)) := hB8.setCell (by show w.heap.size ≤ ga; omega) _
 have HEN9 : Hid (SliceC SenC 2 w7.heap.size (w8.setCell ⟨ga, 6, none⟩ (.slice (some ⟨ge, 0, none⟩) E.length qe)) (some ⟨ge, 0, none⟩) E) := HEN.out.keep SenC.holds (Keeps.set (show (⟨ga, 6, none⟩ : Addr).block < w7.heap.size from hga7) _) (Nat.le_refl _)
 clear HB8 HV8 HA8 HR8 hB8
 generalize w8.setCell ⟨ga, 6, none⟩ (.slice (some ⟨ge, 0, none⟩) E.length qe) = w9 at *
 refine hKK.out _ _ ⟨HB9.out, HV9.out⟩ (fun hS => ?_)
 clear hKK KK HEN
 refine wpAnyH_done (by kernel_rfl) ?_ _
 clear hS
 have HTS := Hid.intro HR9.out.there
 obtain ⟨wf, HE⟩ : ∃ wf, Hid (wf = w9.setCells gr 0 [.string v.name, .int .i64 v.version, .int .i64 0, .int .i64 0, .int .i64 0, .bool false, .slice (some ⟨ge, 0, none⟩) E.length qe, .bool false]) := ⟨_, rfl⟩
 have HRf : Hid (wf.rangeAt gr 0 [.string v.name, .int .i64 v.version, .int .i64 0, .int .i64 0, .int .i64 0, .bool false, .slice (some ⟨ge, 0, none⟩) E.length qe, .bool false]) := by
  show World.rangeAt _ _ _ _
  rw [HE.out]
  exact World.rangeAt_setCells_same _ _ _ _ HTS.out
 have HBf : Hid (Below w.heap.size w wf) := by
  show Below _ _ _
  rw [HE.out]
  exact below_setCells (by omega) _ _ _ hB9
 have HENf : Hid (SliceC SenC 2 w7.heap.size wf (some ⟨ge, 0, none⟩) E) := by
  show SliceC _ _ _ _ _ _
  rw [HE.out]
  exact HEN9.out.keep SenC.holds (Keeps.setCells (by omega) _ _ _) (Nat.le_refl _)
 go_wp2_with (first | (refine wpList_load_mid rfl 47 _ rfl ga 0 rfl [.string v.name, .int .i64 v.version, .int .i64 0, .int .i64 0, .int .i64 0, .bool false, .slice (some ⟨ge, 0, none⟩) E.length qe, .bool false] _ HA9.out.rangeA Tryz.underlying47 rfl isz_Sac ?_) | (refine wpList_store_to rfl 47 _ _ rfl gr 0 #[.string v.name, .int .i64 v.version, .int .i64 0, .int .i64 0, .int .i64 0, .bool false, .slice (some ⟨ge, 0, none⟩) E.length qe, .bool false] (by first | rfl | (simp [go_sem]; done)) rfl HTS.out isz_Sac (by simp [Value.oneCell']) wf HE.out ?_))
 refine bodyPost_ret (results_cell_mid rfl _ _ gr [.string v.name, .int .i64 v.version, .int .i64 0, .int .i64 0, .int .i64 0, .bool false, .slice (some ⟨ge, 0, none⟩) E.length qe, .bool false] _ rfl HRf.out Tryz.underlying47 rfl isz_Sac) rfl ?_
 rw [HSC.out]
 exact ⟨_, qe, rfl, HENf.out.keep SenC.holds (Keeps.refl _ _) h7w, HBf.out⟩

end Go.Proofs.YtnggdpjfmpjlhaaGreat
