import Derived.Test.YtnggdpjfmpjlhaaGreatTkw
import Derived.Test.YtnggdpjfmpjlhaaGreatSt4
import Derived.Test.YtnggdpjfmpjlhaaGreatSct
namespace Go.Proofs.YtnggdpjfmpjlhaaGreat
open Go.RowKit

def stp (t : Sct) (c : Scp) (s : ByteArray) (im : Int) : Sct :=
 if c.service = s then
  (if c.ending = true then { t with ending := t.ending + 1 }
   else ⟨t.live + 1, (if c.state = 3 then t.ready + 1 else t.ready), (if c.image = im then t.old else t.old + 1), (if c.state = 4 then t.failed + 1 else t.failed), t.ending⟩)
 else t

def cntL (l : List Scp) (s : ByteArray) (im : Int) : Sct := l.foldl (fun t c => stp t c s im) ⟨0, 0, 0, 0, 0⟩

def BndT (t : Sct) (k : Nat) : Prop := 0 ≤ t.live ∧ t.live ≤ (k : Int) ∧ 0 ≤ t.ready ∧ t.ready ≤ (k : Int) ∧ 0 ≤ t.old ∧ t.old ≤ (k : Int) ∧ 0 ≤ t.failed ∧ t.failed ≤ (k : Int) ∧ 0 ≤ t.ending ∧ t.ending ≤ (k : Int)

def cntS (x : Sbk) (s : ByteArray) : Sct :=
 match x.services.find? (fun b => decide (b.name = s)) with
 | some v => cntL x.copies s v.image
 | none => ⟨0, 0, 0, 0, 0⟩

set_option maxHeartbeats 16000000 in
set_option maxRecDepth 100000 in
theorem count19_any (x : Sbk) (a1 : Option Addr) (c1 : Nat) (a2 : Option Addr) (c2 : Nat) (a3 : Option Addr) (c3 : Nat) (lo : Nat) (s : ByteArray) (w : World) (n1 : SliceC SsvC 13 lo w a1 x.services) (n2 : SliceC ScpC 7 lo w a2 x.copies) (l1 : x.services.length ≤ 1048576) (l2 : x.copies.length ≤ 1048576) :
  Calls Tryz.prog 46 #[.agg #[.int .i64 x.now, .slice a1 x.services.length c1, .slice a2 x.copies.length c2, .slice a3 x.berths.length c3], .string s] w fun e w' => e = .returned (.agg #[.int .i64 (cntS x s).live, .int .i64 (cntS x s).ready, .int .i64 (cntS x s).old, .int .i64 (cntS x s).failed, .int .i64 (cntS x s).ending]) ∧ Below w.heap.size w w' := by
 have HN1 := Hid.intro n1
 have HN2 := Hid.intro n2
 clear n1 n2
 have HBa : Blk w.heap.size #[.int .i64 x.now, .slice a1 x.services.length c1, .slice a2 x.copies.length c2, .slice a3 x.berths.length c3] 34 (w.alloc (.cells #[.int .i64 x.now, .slice a1 x.services.length c1, .slice a2 x.copies.length c2, .slice a3 x.berths.length c3] 34)) := Blk.alloc _ _ _
 have HZb : Blk (w.heap.size + 1) #[.int .i64 0, .int .i64 0, .int .i64 0, .int .i64 0, .int .i64 0] 94 ((w.alloc (.cells #[.int .i64 x.now, .slice a1 x.services.length c1, .slice a2 x.copies.length c2, .slice a3 x.berths.length c3] 34)).alloc (.cells #[.int .i64 0, .int .i64 0, .int .i64 0, .int .i64 0, .int .i64 0] 94)) := by
  have := Blk.alloc (w.alloc (.cells #[.int .i64 x.now, .slice a1 x.services.length c1, .slice a2 x.copies.length c2, .slice a3 x.berths.length c3] 34)) #[.int .i64 0, .int .i64 0, .int .i64 0, .int .i64 0, .int .i64 0] 94
  simpa using this
 have HO3 : Hid (Blk (w.heap.size + 2) #[.int .i64 0, .int .i64 0, .int .i64 0, .int .i64 0, .int .i64 0] 94 (((w.alloc (.cells #[.int .i64 x.now, .slice a1 x.services.length c1, .slice a2 x.copies.length c2, .slice a3 x.berths.length c3] 34)).alloc (.cells #[.int .i64 0, .int .i64 0, .int .i64 0, .int .i64 0, .int .i64 0] 94)).alloc (.cells #[.int .i64 0, .int .i64 0, .int .i64 0, .int .i64 0, .int .i64 0] 94))) := by
  have := Blk.alloc ((w.alloc (.cells #[.int .i64 x.now, .slice a1 x.services.length c1, .slice a2 x.copies.length c2, .slice a3 x.berths.length c3] 34)).alloc (.cells #[.int .i64 0, .int .i64 0, .int .i64 0, .int .i64 0, .int .i64 0] 94)) #[.int .i64 0, .int .i64 0, .int .i64 0, .int .i64 0, .int .i64 0] 94
  show Blk _ _ _ _
  simpa using this
 have HB3 : Hid (Blk w.heap.size #[.int .i64 x.now, .slice a1 x.services.length c1, .slice a2 x.copies.length c2, .slice a3 x.berths.length c3] 34 (((w.alloc (.cells #[.int .i64 x.now, .slice a1 x.services.length c1, .slice a2 x.copies.length c2, .slice a3 x.berths.length c3] 34)).alloc (.cells #[.int .i64 0, .int .i64 0, .int .i64 0, .int .i64 0, .int .i64 0] 94)).alloc (.cells #[.int .i64 0, .int .i64 0, .int .i64 0, .int .i64 0, .int .i64 0] 94))) := (HBa.below ((Below.refl _ _).alloc (Nat.le_refl _) _) HBa.lt).below ((Below.refl _ _).alloc (Nat.le_refl _) _) (by simp; omega)
 have HZ3 : Hid (Blk (w.heap.size + 1) #[.int .i64 0, .int .i64 0, .int .i64 0, .int .i64 0, .int .i64 0] 94 (((w.alloc (.cells #[.int .i64 x.now, .slice a1 x.services.length c1, .slice a2 x.copies.length c2, .slice a3 x.berths.length c3] 34)).alloc (.cells #[.int .i64 0, .int .i64 0, .int .i64 0, .int .i64 0, .int .i64 0] 94)).alloc (.cells #[.int .i64 0, .int .i64 0, .int .i64 0, .int .i64 0, .int .i64 0] 94))) := HZb.below ((Below.refl _ _).alloc (Nat.le_refl _) _) HZb.lt
 have hB3 : Below w.heap.size w (((w.alloc (.cells #[.int .i64 x.now, .slice a1 x.services.length c1, .slice a2 x.copies.length c2, .slice a3 x.berths.length c3] 34)).alloc (.cells #[.int .i64 0, .int .i64 0, .int .i64 0, .int .i64 0, .int .i64 0] 94)).alloc (.cells #[.int .i64 0, .int .i64 0, .int .i64 0, .int .i64 0, .int .i64 0] 94)) := by go_grown
 clear HBa HZb
 go_enter Tryz.func46, Tryz.ntmps46
 go_upto_region 2 with fail
 generalize ((w.alloc (Obj.cells #[.int .i64 x.now, .slice a1 x.services.length c1, .slice a2 x.copies.length c2, .slice a3 x.berths.length c3] 34)).alloc (Obj.cells #[.int .i64 0, .int .i64 0, .int .i64 0, .int .i64 0, .int .i64 0] 94)).alloc (Obj.cells #[.int .i64 0, .int .i64 0, .int .i64 0, .int .i64 0, .int .i64 0] 94) = w3 at *
 have hr1 : w.heap.size + 1 ≠ w.heap.size := by omega
 have hr2 : w.heap.size + 2 ≠ w.heap.size + 1 := by omega
 have hr3 : w.heap.size + 2 ≠ w.heap.size := by omega
 have hr4 : w.heap.size ≤ w.heap.size + 1 := by omega
 have hr5 : w.heap.size ≤ w.heap.size + 2 := by omega
 generalize w.heap.size + 2 = po at *
 generalize w.heap.size + 1 = pr at *
 go_wp2_with (refine wpList_load_mid rfl 34 _ rfl w.heap.size 0 rfl [.int .i64 x.now, .slice a1 x.services.length c1, .slice a2 x.copies.length c2, .slice a3 x.berths.length c3] _ HB3.out.rangeA Tryz.underlying34 rfl isz_Sbk ?_)
 refine (service_at x a1 c1 a2 c2 a3 c3 lo s _ (HN1.out.below SsvC.holds hB3 (Nat.le_refl _)) l1).mono ?_
 rintro e w4 ⟨rfl, hb⟩
 have HB4 := Hid.intro (HB3.out.below hb HB3.out.lt)
 have HZ4 := Hid.intro (HZ3.out.below hb HZ3.out.lt)
 have HO4 := Hid.intro (HO3.out.below hb HO3.out.lt)
 have hB4 := hB3.trans (hb.mono hB3.size)
 clear hb HB3 HZ3 HO3 hB3
 rcases idxV_cases x.services s with ⟨hi, hn⟩ | ⟨ks, v, hi, hk, hf⟩
 ·rw [hi]
  have HE0 : Hid (cntS x s = ⟨0, 0, 0, 0, 0⟩) := by show _ = _; unfold cntS; rw [hn]
  clear hi hn
  have k2 : w4.cell? ⟨w.heap.size, 2, none⟩ = some (.slice a2 x.copies.length c2) := HB4.out.cell rfl
  go_wp2_with fail
  go_loopw [7] (fun i wr => i = .int .i64 0 ∧ wr = w4) (fun _ _ => 0)
  case atStart => exact ⟨rfl, rfl⟩
  case round =>
   obtain ⟨rfl, rfl⟩ := hrel
   by_cases h0 : x.copies.length = 0
   ·have e0 : (x.copies.length : Int) = 0 := by omega
    go_upto_region 17 with fail
    have HRf : Hid ((wr.setCells pr 0 [.int .i64 0, .int .i64 0, .int .i64 0, .int .i64 0, .int .i64 0]).rangeAt pr 0 [.int .i64 0, .int .i64 0, .int .i64 0, .int .i64 0, .int .i64 0]) := World.rangeAt_setCells_same wr pr 0 _ HZ4.out.there
    have HBf : Hid (Below w.heap.size w (wr.setCells pr 0 [.int .i64 0, .int .i64 0, .int .i64 0, .int .i64 0, .int .i64 0])) := below_setCells hr4 _ _ _ hB4
    obtain ⟨wf, HE⟩ : ∃ wf, Hid (wf = wr.setCells pr 0 [.int .i64 0, .int .i64 0, .int .i64 0, .int .i64 0, .int .i64 0]) := ⟨_, rfl⟩
    rw [← HE.out] at HRf HBf
    have HTS := Hid.intro HZ4.out.there
    go_wp2_with (first | (refine wpList_load_mid rfl 94 _ rfl po 0 rfl [.int .i64 0, .int .i64 0, .int .i64 0, .int .i64 0, .int .i64 0] _ HO4.out.rangeA Tryz.underlying94 rfl isz_Sct ?_) | (refine wpList_store_to rfl 94 _ _ rfl pr 0 #[.int .i64 0, .int .i64 0, .int .i64 0, .int .i64 0, .int .i64 0] rfl rfl HTS.out isz_Sct (by simp [Value.oneCell']) wf HE.out ?_))
    exact bodyPost_ret (results_cell_mid rfl _ _ pr [.int .i64 0, .int .i64 0, .int .i64 0, .int .i64 0, .int .i64 0] _ rfl HRf.out Tryz.underlying94 rfl isz_Sct) rfl ⟨by rw [HE0.out], HBf.out⟩
   ·have e0 : (0 : Int) < (x.copies.length : Int) := by omega
    go_upto_region 17 with fail
    have HRf : Hid ((wr.setCells pr 0 [.int .i64 0, .int .i64 0, .int .i64 0, .int .i64 0, .int .i64 0]).rangeAt pr 0 [.int .i64 0, .int .i64 0, .int .i64 0, .int .i64 0, .int .i64 0]) := World.rangeAt_setCells_same wr pr 0 _ HZ4.out.there
    have HBf : Hid (Below w.heap.size w (wr.setCells pr 0 [.int .i64 0, .int .i64 0, .int .i64 0, .int .i64 0, .int .i64 0])) := below_setCells hr4 _ _ _ hB4
    obtain ⟨wf, HE⟩ : ∃ wf, Hid (wf = wr.setCells pr 0 [.int .i64 0, .int .i64 0, .int .i64 0, .int .i64 0, .int .i64 0]) := ⟨_, rfl⟩
    rw [← HE.out] at HRf HBf
    have HTS := Hid.intro HZ4.out.there
    go_wp2_with (first | (refine wpList_load_mid rfl 94 _ rfl po 0 rfl [.int .i64 0, .int .i64 0, .int .i64 0, .int .i64 0, .int .i64 0] _ HO4.out.rangeA Tryz.underlying94 rfl isz_Sct ?_) | (refine wpList_store_to rfl 94 _ _ rfl pr 0 #[.int .i64 0, .int .i64 0, .int .i64 0, .int .i64 0, .int .i64 0] rfl rfl HTS.out isz_Sct (by simp [Value.oneCell']) wf HE.out ?_))
    exact bodyPost_ret (results_cell_mid rfl _ _ pr [.int .i64 0, .int .i64 0, .int .i64 0, .int .i64 0, .int .i64 0] _ rfl HRf.out Tryz.underlying94 rfl isz_Sct) rfl ⟨by rw [HE0.out], HBf.out⟩
 ·rw [hi]
  have hkl : ks < x.services.length := (List.getElem?_eq_some_iff.1 hk).1
  have HE0 : Hid (cntS x s = cntL x.copies s v.image) := by show _ = _; unfold cntS; rw [hf]
  obtain ⟨bb, ob, ea, _, hbb, hcl⟩ := HN1.out.at hk
  subst ea
  obtain ⟨q0, q1, q2, q3, q4, q5, q6, q7, q8, q9, q10, q11, q12, z0⟩ := hcl
  have HIM : Hid (w.cell? ⟨bb, ob + ks * 13 + 3, none⟩ = some (.int .i64 v.image)) := q3
  clear hi hf hk q0 q1 q2 q3 q4 q5 q6 q7 q8 q9 q10 q11 q12 z0
  go_wp2_with fail
  go_loopw [7] (fun i wr => ∃ (k : Nat) (t : Sct), k ≤ x.copies.length ∧ i = .int .i64 k ∧ Hid (t = cntL (x.copies.take k) s v.image) ∧ BndT t k ∧ Hid (Blk w.heap.size #[.int .i64 x.now, .slice (some ⟨bb, ob, none⟩) x.services.length c1, .slice a2 x.copies.length c2, .slice a3 x.berths.length c3] 34 wr) ∧ Hid (Blk pr #[.int .i64 0, .int .i64 0, .int .i64 0, .int .i64 0, .int .i64 0] 94 wr) ∧ Hid (Blk po #[.int .i64 t.live, .int .i64 t.ready, .int .i64 t.old, .int .i64 t.failed, .int .i64 t.ending] 94 wr) ∧ Below w.heap.size w wr) (fun i _ => x.copies.length - (intOf i).toNat)
  case atStart => exact ⟨0, ⟨0, 0, 0, 0, 0⟩, Nat.zero_le _, rfl, Hid.intro rfl, ⟨by decide, by decide, by decide, by decide, by decide, by decide, by decide, by decide, by decide, by decide⟩, HB4, HZ4, HO4, hB4⟩
  case round =>
   clear HB4 HZ4 HO4 hB4
   obtain ⟨k, t, hk, rfl, HT, hbd, HB, HZ, HO, hB⟩ := hrel
   obtain ⟨t0, t1, t2, t3, t4, t5, t6, t7, t8, t9⟩ := hbd
   have k2 : wr.cell? ⟨w.heap.size, 2, none⟩ = some (.slice a2 x.copies.length c2) := HB.out.cell rfl
   have g0 : (0 : Int) ≤ (ks : Int) := by omega
   by_cases hlt : k < x.copies.length
   case neg =>
    have hke : k = x.copies.length := by omega
    have HE9 : Hid (t = cntS x s) := by show _ = _; rw [HT.out, HE0.out, hke, List.take_length]
    clear HT HE0
    go_upto_region 17 with fail
    have HRf : Hid ((wr.setCells pr 0 [.int .i64 t.live, .int .i64 t.ready, .int .i64 t.old, .int .i64 t.failed, .int .i64 t.ending]).rangeAt pr 0 [.int .i64 t.live, .int .i64 t.ready, .int .i64 t.old, .int .i64 t.failed, .int .i64 t.ending]) := World.rangeAt_setCells_same wr pr 0 _ HZ.out.there
    have HBf : Hid (Below w.heap.size w (wr.setCells pr 0 [.int .i64 t.live, .int .i64 t.ready, .int .i64 t.old, .int .i64 t.failed, .int .i64 t.ending])) := below_setCells hr4 _ _ _ hB
    obtain ⟨wf, HE⟩ : ∃ wf, Hid (wf = wr.setCells pr 0 [.int .i64 t.live, .int .i64 t.ready, .int .i64 t.old, .int .i64 t.failed, .int .i64 t.ending]) := ⟨_, rfl⟩
    rw [← HE.out] at HRf HBf
    have HTS := Hid.intro HZ.out.there
    go_wp2_with (first | (refine wpList_load_mid rfl 94 _ rfl po 0 rfl [.int .i64 t.live, .int .i64 t.ready, .int .i64 t.old, .int .i64 t.failed, .int .i64 t.ending] _ HO.out.rangeA Tryz.underlying94 rfl isz_Sct ?_) | (refine wpList_store_to rfl 94 _ _ rfl pr 0 #[.int .i64 t.live, .int .i64 t.ready, .int .i64 t.old, .int .i64 t.failed, .int .i64 t.ending] rfl rfl HTS.out isz_Sct (by simp [Value.oneCell']) wf HE.out ?_))
    exact bodyPost_ret (results_cell_mid rfl _ _ pr [.int .i64 t.live, .int .i64 t.ready, .int .i64 t.old, .int .i64 t.failed, .int .i64 t.ending] _ rfl HRf.out Tryz.underlying94 rfl isz_Sct) rfl ⟨by rw [HE9.out], HBf.out⟩
   obtain ⟨c, hc⟩ : ∃ c, x.copies[k]? = some c := ⟨x.copies[k], List.getElem?_eq_getElem hlt⟩
   have HCC := Hid.intro hc
   obtain ⟨b2, o2, ea, _, hbl, hcl⟩ := (HN2.out.below ScpC.holds hB (Nat.le_refl _)).at hc
   subst ea
   have HRC := Hid.intro (rngScp hcl)
   clear hcl hc
   have hba : Below wr.heap.size wr (wr.alloc (Obj.cells #[.string c.service, .int .i64 c.number, .int .i64 c.version, .int .i64 c.image, .int .i64 c.state, .bool c.ending, .string c.berth] 87)) := (Below.refl _ _).alloc (Nat.le_refl _) _
   have HX5 : Hid (Blk wr.heap.size #[.string c.service, .int .i64 c.number, .int .i64 c.version, .int .i64 c.image, .int .i64 c.state, .bool c.ending, .string c.berth] 87 (wr.alloc (Obj.cells #[.string c.service, .int .i64 c.number, .int .i64 c.version, .int .i64 c.image, .int .i64 c.state, .bool c.ending, .string c.berth] 87))) := Blk.alloc _ _ _
   have HB5 := Hid.intro (HB.out.below hba HB.out.lt)
   have HZ5 := Hid.intro (HZ.out.below hba HZ.out.lt)
   have HO5 := Hid.intro (HO.out.below hba HO.out.lt)
   have hB5 := hB.trans (hba.mono hB.size)
   have hpo : po < wr.heap.size := HO.out.lt
   have HST : Hid (cntL (x.copies.take (k + 1)) s v.image = stp t c s v.image) := by show _ = _; rw [HT.out]; unfold cntL; rw [List.take_add_one, HCC.out, List.foldl_append]; rfl
   clear hba
   go_upto_region 7 with (refine wpList_load_mid rfl 87 _ rfl b2 (o2 + k * 7) (by first | rfl | (simp [go_sem]; done)) [.string c.service, .int .i64 c.number, .int .i64 c.version, .int .i64 c.image, .int .i64 c.state, .bool c.ending, .string c.berth] _ HRC.out Tryz.underlying87 rfl isz_Scp ?_)
   clear k2 HB HZ HO hB HRC
   generalize wr.alloc (Obj.cells #[.string c.service, .int .i64 c.number, .int .i64 c.version, .int .i64 c.image, .int .i64 c.state, .bool c.ending, .string c.berth] 87) = w5 at *
   generalize wr.heap.size = pc at *
   have k0 : w5.cell? ⟨pc, 0, none⟩ = some (.string c.service) := HX5.out.cell rfl
   by_cases hs : c.service = s
   case neg =>
    have e0 : (c.service.toList == s.toList) = false := bt_ne hs
    have HE7 : Hid (stp t c s v.image = t) := if_neg hs
    clear hs
    go_wp2_with fail
    go_roundw
    case rel => first | exact ⟨k + 1, t, by omega, by go_num, Hid.intro (by show t = _; rw [HST.out, HE7.out]), ⟨by show (0 : Int) ≤ t.live; omega, by show t.live ≤ ((k + 1 : Nat) : Int); omega, by show (0 : Int) ≤ t.ready; omega, by show t.ready ≤ ((k + 1 : Nat) : Int); omega, by show (0 : Int) ≤ t.old; omega, by show t.old ≤ ((k + 1 : Nat) : Int); omega, by show (0 : Int) ≤ t.failed; omega, by show t.failed ≤ ((k + 1 : Nat) : Int); omega, by show (0 : Int) ≤ t.ending; omega, by show t.ending ≤ ((k + 1 : Nat) : Int); omega⟩, HB5, HZ5, HO5, hB5⟩ | ((repeat apply Exists.intro); exact ⟨⟨k + 1, t, by omega, by go_num, Hid.intro (by show t = _; rw [HST.out, HE7.out]), ⟨by show (0 : Int) ≤ t.live; omega, by show t.live ≤ ((k + 1 : Nat) : Int); omega, by show (0 : Int) ≤ t.ready; omega, by show t.ready ≤ ((k + 1 : Nat) : Int); omega, by show (0 : Int) ≤ t.old; omega, by show t.old ≤ ((k + 1 : Nat) : Int); omega, by show (0 : Int) ≤ t.failed; omega, by show t.failed ≤ ((k + 1 : Nat) : Int); omega, by show (0 : Int) ≤ t.ending; omega, by show t.ending ≤ ((k + 1 : Nat) : Int); omega⟩, HB5, HZ5, HO5, hB5⟩, rfl⟩)
    case measure => simp [intOf]; omega
   have e0 : (c.service.toList == s.toList) = true := bt_eq hs
   have HS := Hid.intro hs
   clear hs
   have hpp : pc ≠ po := by omega
   cases hen : c.ending with
   | true =>
    have k5 : w5.cell? ⟨pc, 5, none⟩ = some (.bool true) := by rw [← hen]; exact HX5.out.cell rfl
    have ka : w5.cell? ⟨po, 4, none⟩ = some (.int .i64 t.ending) := HO5.out.cell rfl
    have fa : w5.frozen? ⟨po, 4, none⟩ = false := HO5.out.frozen _
    have HE7 : Hid (stp t c s v.image = (⟨t.live, t.ready, t.old, t.failed, t.ending + 1⟩ : Sct)) := by show _ = _; unfold stp; rw [if_pos HS.out, if_pos hen]
    clear hen
    have HO6 : Hid (Blk po #[.int .i64 t.live, .int .i64 t.ready, .int .i64 t.old, .int .i64 t.failed, .int .i64 (t.ending + 1)] 94 (w5.setCell ⟨po, 4, none⟩ (.int .i64 (t.ending + 1)))) := HO5.out.set 4 (.int .i64 (t.ending + 1))
    have HB6 := Hid.intro (HB5.out.other (a := ⟨po, 4, none⟩) (show w.heap.size ≠ po from fun e => hr3 e.symm) (.int .i64 (t.ending + 1)))
    have HZ6 := Hid.intro (HZ5.out.other (a := ⟨po, 4, none⟩) (show pr ≠ po from fun e => hr2 e.symm) (.int .i64 (t.ending + 1)))
    have HX6 := Hid.intro (HX5.out.other (a := ⟨po, 4, none⟩) hpp (.int .i64 (t.ending + 1)))
    have hB6 := hB5.setCell (p := ⟨po, 4, none⟩) hr5 (.int .i64 (t.ending + 1))
    go_wp2_with fail
    go_roundw
    case rel => first | exact ⟨k + 1, (⟨t.live, t.ready, t.old, t.failed, t.ending + 1⟩ : Sct), by omega, by go_num, Hid.intro (by show _ = _; rw [HST.out, HE7.out]), ⟨by show (0 : Int) ≤ t.live; omega, by show t.live ≤ ((k + 1 : Nat) : Int); omega, by show (0 : Int) ≤ t.ready; omega, by show t.ready ≤ ((k + 1 : Nat) : Int); omega, by show (0 : Int) ≤ t.old; omega, by show t.old ≤ ((k + 1 : Nat) : Int); omega, by show (0 : Int) ≤ t.failed; omega, by show t.failed ≤ ((k + 1 : Nat) : Int); omega, by show (0 : Int) ≤ t.ending + 1; omega, by show t.ending + 1 ≤ ((k + 1 : Nat) : Int); omega⟩, HB6, HZ6, HO6, hB6⟩ | ((repeat apply Exists.intro); exact ⟨⟨k + 1, (⟨t.live, t.ready, t.old, t.failed, t.ending + 1⟩ : Sct), by omega, by go_num, Hid.intro (by show _ = _; rw [HST.out, HE7.out]), ⟨by show (0 : Int) ≤ t.live; omega, by show t.live ≤ ((k + 1 : Nat) : Int); omega, by show (0 : Int) ≤ t.ready; omega, by show t.ready ≤ ((k + 1 : Nat) : Int); omega, by show (0 : Int) ≤ t.old; omega, by show t.old ≤ ((k + 1 : Nat) : Int); omega, by show (0 : Int) ≤ t.failed; omega, by show t.failed ≤ ((k + 1 : Nat) : Int); omega, by show (0 : Int) ≤ t.ending + 1; omega, by show t.ending + 1 ≤ ((k + 1 : Nat) : Int); omega⟩, HB6, HZ6, HO6, hB6⟩, rfl⟩)
    case measure => simp [intOf]; omega
   | false =>
    have k5 : w5.cell? ⟨pc, 5, none⟩ = some (.bool false) := by rw [← hen]; exact HX5.out.cell rfl
    have ka : w5.cell? ⟨po, 0, none⟩ = some (.int .i64 t.live) := HO5.out.cell rfl
    have fa : w5.frozen? ⟨po, 0, none⟩ = false := HO5.out.frozen _
    have HEN := Hid.intro hen
    clear hen
    have HO6 : Hid (Blk po #[.int .i64 (t.live + 1), .int .i64 t.ready, .int .i64 t.old, .int .i64 t.failed, .int .i64 t.ending] 94 (w5.setCell ⟨po, 0, none⟩ (.int .i64 (t.live + 1)))) := HO5.out.set 0 (.int .i64 (t.live + 1))
    have HB6 := Hid.intro (HB5.out.other (a := ⟨po, 0, none⟩) (show w.heap.size ≠ po from fun e => hr3 e.symm) (.int .i64 (t.live + 1)))
    have HZ6 := Hid.intro (HZ5.out.other (a := ⟨po, 0, none⟩) (show pr ≠ po from fun e => hr2 e.symm) (.int .i64 (t.live + 1)))
    have HX6 := Hid.intro (HX5.out.other (a := ⟨po, 0, none⟩) hpp (.int .i64 (t.live + 1)))
    have hB6 := hB5.setCell (p := ⟨po, 0, none⟩) hr5 (.int .i64 (t.live + 1))
    go_upto_region 11 with fail
    clear k5 k0 ka fa HB5 HZ5 HO5 HX5 hB5
    generalize w5.setCell ⟨po, 0, none⟩ (.int .i64 (t.live + 1)) = w6 at *
    have k4 : w6.cell? ⟨pc, 4, none⟩ = some (.int .i64 c.state) := HX6.out.cell rfl
    rcases (by omega : c.state = 3 ∨ c.state = 4 ∨ (¬ c.state = 3 ∧ ¬ c.state = 4)) with h3 | h4 | ⟨h3, h4⟩
    ·have g3 : (c.state == 3) = true := by rw [h3]; rfl
     have g4 : (c.state == 4) = false := by rw [h3]; rfl
     have HH := Hid.intro h3
     clear h3
     have ka : w6.cell? ⟨po, 1, none⟩ = some (.int .i64 t.ready) := HO6.out.cell rfl
     have fa : w6.frozen? ⟨po, 1, none⟩ = false := HO6.out.frozen _
     have HO7 : Hid (Blk po #[.int .i64 (t.live + 1), .int .i64 (t.ready + 1), .int .i64 t.old, .int .i64 t.failed, .int .i64 t.ending] 94 (w6.setCell ⟨po, 1, none⟩ (.int .i64 (t.ready + 1)))) := HO6.out.set 1 (.int .i64 (t.ready + 1))
     have HB7 := Hid.intro (HB6.out.other (a := ⟨po, 1, none⟩) (show w.heap.size ≠ po from fun e => hr3 e.symm) (.int .i64 (t.ready + 1)))
     have HZ7 := Hid.intro (HZ6.out.other (a := ⟨po, 1, none⟩) (show pr ≠ po from fun e => hr2 e.symm) (.int .i64 (t.ready + 1)))
     have HX7 := Hid.intro (HX6.out.other (a := ⟨po, 1, none⟩) hpp (.int .i64 (t.ready + 1)))
     have hB7 := hB6.setCell (p := ⟨po, 1, none⟩) hr5 (.int .i64 (t.ready + 1))
     go_upto_region 13 with fail
     clear k4 ka fa HB6 HZ6 HO6 HX6 hB6
     generalize w6.setCell ⟨po, 1, none⟩ (.int .i64 (t.ready + 1)) = w7 at *
     have k4 : w7.cell? ⟨pc, 4, none⟩ = some (.int .i64 c.state) := HX7.out.cell rfl
     go_upto_region 15 with fail
     clear k4
     have HI7 : Hid (w7.cell? ⟨bb, ob + ks * 13 + 3, none⟩ = some (.int .i64 v.image)) := (hB7.cell (p := ⟨bb, ob + ks * 13 + 3, none⟩) hbb).trans HIM.out
     cases him : (c.image == v.image) with
     | true =>
      refine wp_region_held_drew (S := fun wy => Blk pc #[.string c.service, .int .i64 c.number, .int .i64 c.version, .int .i64 c.image, .int .i64 c.state, .bool c.ending, .string c.berth] 87 wy ∧ Blk w.heap.size #[.int .i64 x.now, .slice (some ⟨bb, ob, none⟩) x.services.length c1, .slice (some ⟨b2, o2, none⟩) x.copies.length c2, .slice a3 x.berths.length c3] 34 wy ∧ wy.cell? ⟨bb, ob + ks * 13 + 3, none⟩ = some (.int .i64 v.image)) (by kernel_rfl) ⟨HX7.out.drew, HB7.out.drew, HI7.out⟩ (fun hS => ?_)
      have HB9 := Hid.intro HB7.out.drew
      have HZ9 := Hid.intro HZ7.out.drew
      have HO9 := Hid.intro HO7.out.drew
      have HX9 := Hid.intro HX7.out.drew
      have hB9 := hB7.drew
      clear HB7 HZ7 HO7 HX7 hB7 HI7
      generalize w7.drew = w9 at *
      refine tz 0 57 (.pointer (some ⟨pc, 3, none⟩)) rfl hS ?_
      simp only [pA,pB,pC,pD]
      refine ty 1 ⟨some 58, _, _, _, _, none⟩ (.int .i64 c.image) rfl (by rfl) ?_ hS ?_
      ·intro wy hy
       obtain ⟨y1, y2, y3⟩ := id hy
       have h0 := y1.cell (o := 3) rfl
       clear hy
       go_simp
      simp only [pA,pB,pC,pD]
      refine tz 2 59 (.pointer (some ⟨w.heap.size, 1, none⟩)) rfl hS ?_
      simp only [pA,pB,pC,pD]
      refine ty 3 ⟨some 60, _, _, _, _, none⟩ (.slice (some ⟨bb, ob, none⟩) x.services.length c1) rfl (by rfl) ?_ hS ?_
      ·intro wy hy
       obtain ⟨y1, y2, y3⟩ := id hy
       have h0 := y2.cell (o := 1) rfl
       clear hy
       go_simp
      simp only [pA,pB,pC,pD]
      refine tz 4 61 (.int .i64 (ks : Int)) rfl hS ?_
      simp only [pA,pB,pC,pD]
      refine ty 5 ⟨some 62, _, _, _, _, none⟩ (.pointer (some ⟨bb, ob + ks * 13, none⟩)) rfl (by rfl) ?_ hS ?_
      ·intro wy hy
       clear hy
       first | (go_simp; done) | (go_simp; omega) | (go_simp; intro hh; omega)
      simp only [pA,pB,pC,pD]
      refine tz 6 63 (.pointer (some ⟨bb, ob + ks * 13 + 3, none⟩)) rfl hS ?_
      simp only [pA,pB,pC,pD]
      refine ty 7 ⟨some 64, _, _, _, _, none⟩ (.int .i64 v.image) rfl (by rfl) ?_ hS ?_
      ·intro wy hy
       obtain ⟨y1, y2, y3⟩ := id hy
       clear hy
       go_simp
      simp only [pA,pB,pC,pD]
      refine ty 8 ⟨some 65, _, _, _, _, none⟩ (.bool false) rfl (by rfl) ?_ hS ?_
      ·intro wy hy
       clear hy
       first | (go_simp; done) | (go_simp; simpa using him) | (simp [go_sem, him]; done)
      simp only [pA,pB,pC,pD]
      refine wpAnyH_done (by kernel_rfl) ?_ _
      clear hS
      have HE7 : Hid (stp t c s v.image = (⟨t.live + 1, t.ready + 1, t.old, t.failed, t.ending⟩ : Sct)) := by show _ = _; unfold stp; rw [if_pos HS.out]; simp at him; simp [HEN.out, HH.out, him]
      clear him
      go_wp2_with fail
      go_roundw
      case rel => first | exact ⟨k + 1, (⟨t.live + 1, t.ready + 1, t.old, t.failed, t.ending⟩ : Sct), by omega, by go_num, Hid.intro (by show _ = _; rw [HST.out, HE7.out]), ⟨by show (0 : Int) ≤ t.live + 1; omega, by show t.live + 1 ≤ ((k + 1 : Nat) : Int); omega, by show (0 : Int) ≤ t.ready + 1; omega, by show t.ready + 1 ≤ ((k + 1 : Nat) : Int); omega, by show (0 : Int) ≤ t.old; omega, by show t.old ≤ ((k + 1 : Nat) : Int); omega, by show (0 : Int) ≤ t.failed; omega, by show t.failed ≤ ((k + 1 : Nat) : Int); omega, by show (0 : Int) ≤ t.ending; omega, by show t.ending ≤ ((k + 1 : Nat) : Int); omega⟩, HB9, HZ9, HO9, hB9⟩ | ((repeat apply Exists.intro); exact ⟨⟨k + 1, (⟨t.live + 1, t.ready + 1, t.old, t.failed, t.ending⟩ : Sct), by omega, by go_num, Hid.intro (by show _ = _; rw [HST.out, HE7.out]), ⟨by show (0 : Int) ≤ t.live + 1; omega, by show t.live + 1 ≤ ((k + 1 : Nat) : Int); omega, by show (0 : Int) ≤ t.ready + 1; omega, by show t.ready + 1 ≤ ((k + 1 : Nat) : Int); omega, by show (0 : Int) ≤ t.old; omega, by show t.old ≤ ((k + 1 : Nat) : Int); omega, by show (0 : Int) ≤ t.failed; omega, by show t.failed ≤ ((k + 1 : Nat) : Int); omega, by show (0 : Int) ≤ t.ending; omega, by show t.ending ≤ ((k + 1 : Nat) : Int); omega⟩, HB9, HZ9, HO9, hB9⟩, rfl⟩)
      case measure => simp [intOf]; omega
     | false =>
      refine wp_region_held_drew (S := fun wy => Blk pc #[.string c.service, .int .i64 c.number, .int .i64 c.version, .int .i64 c.image, .int .i64 c.state, .bool c.ending, .string c.berth] 87 wy ∧ Blk w.heap.size #[.int .i64 x.now, .slice (some ⟨bb, ob, none⟩) x.services.length c1, .slice (some ⟨b2, o2, none⟩) x.copies.length c2, .slice a3 x.berths.length c3] 34 wy ∧ wy.cell? ⟨bb, ob + ks * 13 + 3, none⟩ = some (.int .i64 v.image)) (by kernel_rfl) ⟨HX7.out.drew, HB7.out.drew, HI7.out⟩ (fun hS => ?_)
      have HB9 := Hid.intro HB7.out.drew
      have HZ9 := Hid.intro HZ7.out.drew
      have HO9 := Hid.intro HO7.out.drew
      have HX9 := Hid.intro HX7.out.drew
      have hB9 := hB7.drew
      clear HB7 HZ7 HO7 HX7 hB7 HI7
      generalize w7.drew = w9 at *
      refine tz 0 57 (.pointer (some ⟨pc, 3, none⟩)) rfl hS ?_
      simp only [pA,pB,pC,pD]
      refine ty 1 ⟨some 58, _, _, _, _, none⟩ (.int .i64 c.image) rfl (by rfl) ?_ hS ?_
      ·intro wy hy
       obtain ⟨y1, y2, y3⟩ := id hy
       have h0 := y1.cell (o := 3) rfl
       clear hy
       go_simp
      simp only [pA,pB,pC,pD]
      refine tz 2 59 (.pointer (some ⟨w.heap.size, 1, none⟩)) rfl hS ?_
      simp only [pA,pB,pC,pD]
      refine ty 3 ⟨some 60, _, _, _, _, none⟩ (.slice (some ⟨bb, ob, none⟩) x.services.length c1) rfl (by rfl) ?_ hS ?_
      ·intro wy hy
       obtain ⟨y1, y2, y3⟩ := id hy
       have h0 := y2.cell (o := 1) rfl
       clear hy
       go_simp
      simp only [pA,pB,pC,pD]
      refine tz 4 61 (.int .i64 (ks : Int)) rfl hS ?_
      simp only [pA,pB,pC,pD]
      refine ty 5 ⟨some 62, _, _, _, _, none⟩ (.pointer (some ⟨bb, ob + ks * 13, none⟩)) rfl (by rfl) ?_ hS ?_
      ·intro wy hy
       clear hy
       first | (go_simp; done) | (go_simp; omega) | (go_simp; intro hh; omega)
      simp only [pA,pB,pC,pD]
      refine tz 6 63 (.pointer (some ⟨bb, ob + ks * 13 + 3, none⟩)) rfl hS ?_
      simp only [pA,pB,pC,pD]
      refine ty 7 ⟨some 64, _, _, _, _, none⟩ (.int .i64 v.image) rfl (by rfl) ?_ hS ?_
      ·intro wy hy
       obtain ⟨y1, y2, y3⟩ := id hy
       clear hy
       go_simp
      simp only [pA,pB,pC,pD]
      refine ty 8 ⟨some 65, _, _, _, _, none⟩ (.bool true) rfl (by rfl) ?_ hS ?_
      ·intro wy hy
       clear hy
       first | (go_simp; done) | (go_simp; simpa using him) | (simp [go_sem, him]; done)
      simp only [pA,pB,pC,pD]
      refine wpAnyH_done (by kernel_rfl) ?_ _
      clear hS
      have HE7 : Hid (stp t c s v.image = (⟨t.live + 1, t.ready + 1, t.old + 1, t.failed, t.ending⟩ : Sct)) := by show _ = _; unfold stp; rw [if_pos HS.out]; simp at him; simp [HEN.out, HH.out, him]
      clear him
      have ka : w9.cell? ⟨po, 2, none⟩ = some (.int .i64 t.old) := HO9.out.cell rfl
      have fa : w9.frozen? ⟨po, 2, none⟩ = false := HO9.out.frozen _
      have HO10 : Hid (Blk po #[.int .i64 (t.live + 1), .int .i64 (t.ready + 1), .int .i64 (t.old + 1), .int .i64 t.failed, .int .i64 t.ending] 94 (w9.setCell ⟨po, 2, none⟩ (.int .i64 (t.old + 1)))) := HO9.out.set 2 (.int .i64 (t.old + 1))
      have HB10 := Hid.intro (HB9.out.other (a := ⟨po, 2, none⟩) (show w.heap.size ≠ po from fun e => hr3 e.symm) (.int .i64 (t.old + 1)))
      have HZ10 := Hid.intro (HZ9.out.other (a := ⟨po, 2, none⟩) (show pr ≠ po from fun e => hr2 e.symm) (.int .i64 (t.old + 1)))
      have HX10 := Hid.intro (HX9.out.other (a := ⟨po, 2, none⟩) hpp (.int .i64 (t.old + 1)))
      have hB10 := hB9.setCell (p := ⟨po, 2, none⟩) hr5 (.int .i64 (t.old + 1))
      go_wp2_with fail
      go_roundw
      case rel => first | exact ⟨k + 1, (⟨t.live + 1, t.ready + 1, t.old + 1, t.failed, t.ending⟩ : Sct), by omega, by go_num, Hid.intro (by show _ = _; rw [HST.out, HE7.out]), ⟨by show (0 : Int) ≤ t.live + 1; omega, by show t.live + 1 ≤ ((k + 1 : Nat) : Int); omega, by show (0 : Int) ≤ t.ready + 1; omega, by show t.ready + 1 ≤ ((k + 1 : Nat) : Int); omega, by show (0 : Int) ≤ t.old + 1; omega, by show t.old + 1 ≤ ((k + 1 : Nat) : Int); omega, by show (0 : Int) ≤ t.failed; omega, by show t.failed ≤ ((k + 1 : Nat) : Int); omega, by show (0 : Int) ≤ t.ending; omega, by show t.ending ≤ ((k + 1 : Nat) : Int); omega⟩, HB10, HZ10, HO10, hB10⟩ | ((repeat apply Exists.intro); exact ⟨⟨k + 1, (⟨t.live + 1, t.ready + 1, t.old + 1, t.failed, t.ending⟩ : Sct), by omega, by go_num, Hid.intro (by show _ = _; rw [HST.out, HE7.out]), ⟨by show (0 : Int) ≤ t.live + 1; omega, by show t.live + 1 ≤ ((k + 1 : Nat) : Int); omega, by show (0 : Int) ≤ t.ready + 1; omega, by show t.ready + 1 ≤ ((k + 1 : Nat) : Int); omega, by show (0 : Int) ≤ t.old + 1; omega, by show t.old + 1 ≤ ((k + 1 : Nat) : Int); omega, by show (0 : Int) ≤ t.failed; omega, by show t.failed ≤ ((k + 1 : Nat) : Int); omega, by show (0 : Int) ≤ t.ending; omega, by show t.ending ≤ ((k + 1 : Nat) : Int); omega⟩, HB10, HZ10, HO10, hB10⟩, rfl⟩)
      case measure => simp [intOf]; omega
    ·have g3 : (c.state == 3) = false := by rw [h4]; rfl
     have g4 : (c.state == 4) = true := by rw [h4]; rfl
     have HH := Hid.intro h4
     clear h4
     have ka : w6.cell? ⟨po, 3, none⟩ = some (.int .i64 t.failed) := HO6.out.cell rfl
     have fa : w6.frozen? ⟨po, 3, none⟩ = false := HO6.out.frozen _
     have HO7 : Hid (Blk po #[.int .i64 (t.live + 1), .int .i64 t.ready, .int .i64 t.old, .int .i64 (t.failed + 1), .int .i64 t.ending] 94 (w6.setCell ⟨po, 3, none⟩ (.int .i64 (t.failed + 1)))) := HO6.out.set 3 (.int .i64 (t.failed + 1))
     have HB7 := Hid.intro (HB6.out.other (a := ⟨po, 3, none⟩) (show w.heap.size ≠ po from fun e => hr3 e.symm) (.int .i64 (t.failed + 1)))
     have HZ7 := Hid.intro (HZ6.out.other (a := ⟨po, 3, none⟩) (show pr ≠ po from fun e => hr2 e.symm) (.int .i64 (t.failed + 1)))
     have HX7 := Hid.intro (HX6.out.other (a := ⟨po, 3, none⟩) hpp (.int .i64 (t.failed + 1)))
     have hB7 := hB6.setCell (p := ⟨po, 3, none⟩) hr5 (.int .i64 (t.failed + 1))
     go_upto_region 15 with fail
     clear k4 ka fa HB6 HZ6 HO6 HX6 hB6
     generalize w6.setCell ⟨po, 3, none⟩ (.int .i64 (t.failed + 1)) = w7 at *
     have HI7 : Hid (w7.cell? ⟨bb, ob + ks * 13 + 3, none⟩ = some (.int .i64 v.image)) := (hB7.cell (p := ⟨bb, ob + ks * 13 + 3, none⟩) hbb).trans HIM.out
     cases him : (c.image == v.image) with
     | true =>
      refine wp_region_held_drew (S := fun wy => Blk pc #[.string c.service, .int .i64 c.number, .int .i64 c.version, .int .i64 c.image, .int .i64 c.state, .bool c.ending, .string c.berth] 87 wy ∧ Blk w.heap.size #[.int .i64 x.now, .slice (some ⟨bb, ob, none⟩) x.services.length c1, .slice (some ⟨b2, o2, none⟩) x.copies.length c2, .slice a3 x.berths.length c3] 34 wy ∧ wy.cell? ⟨bb, ob + ks * 13 + 3, none⟩ = some (.int .i64 v.image)) (by kernel_rfl) ⟨HX7.out.drew, HB7.out.drew, HI7.out⟩ (fun hS => ?_)
      have HB9 := Hid.intro HB7.out.drew
      have HZ9 := Hid.intro HZ7.out.drew
      have HO9 := Hid.intro HO7.out.drew
      have HX9 := Hid.intro HX7.out.drew
      have hB9 := hB7.drew
      clear HB7 HZ7 HO7 HX7 hB7 HI7
      generalize w7.drew = w9 at *
      refine tz 0 57 (.pointer (some ⟨pc, 3, none⟩)) rfl hS ?_
      simp only [pA,pB,pC,pD]
      refine ty 1 ⟨some 58, _, _, _, _, none⟩ (.int .i64 c.image) rfl (by rfl) ?_ hS ?_
      ·intro wy hy
       obtain ⟨y1, y2, y3⟩ := id hy
       have h0 := y1.cell (o := 3) rfl
       clear hy
       go_simp
      simp only [pA,pB,pC,pD]
      refine tz 2 59 (.pointer (some ⟨w.heap.size, 1, none⟩)) rfl hS ?_
      simp only [pA,pB,pC,pD]
      refine ty 3 ⟨some 60, _, _, _, _, none⟩ (.slice (some ⟨bb, ob, none⟩) x.services.length c1) rfl (by rfl) ?_ hS ?_
      ·intro wy hy
       obtain ⟨y1, y2, y3⟩ := id hy
       have h0 := y2.cell (o := 1) rfl
       clear hy
       go_simp
      simp only [pA,pB,pC,pD]
      refine tz 4 61 (.int .i64 (ks : Int)) rfl hS ?_
      simp only [pA,pB,pC,pD]
      refine ty 5 ⟨some 62, _, _, _, _, none⟩ (.pointer (some ⟨bb, ob + ks * 13, none⟩)) rfl (by rfl) ?_ hS ?_
      ·intro wy hy
       clear hy
       first | (go_simp; done) | (go_simp; omega) | (go_simp; intro hh; omega)
      simp only [pA,pB,pC,pD]
      refine tz 6 63 (.pointer (some ⟨bb, ob + ks * 13 + 3, none⟩)) rfl hS ?_
      simp only [pA,pB,pC,pD]
      refine ty 7 ⟨some 64, _, _, _, _, none⟩ (.int .i64 v.image) rfl (by rfl) ?_ hS ?_
      ·intro wy hy
       obtain ⟨y1, y2, y3⟩ := id hy
       clear hy
       go_simp
      simp only [pA,pB,pC,pD]
      refine ty 8 ⟨some 65, _, _, _, _, none⟩ (.bool false) rfl (by rfl) ?_ hS ?_
      ·intro wy hy
       clear hy
       first | (go_simp; done) | (go_simp; simpa using him) | (simp [go_sem, him]; done)
      simp only [pA,pB,pC,pD]
      refine wpAnyH_done (by kernel_rfl) ?_ _
      clear hS
      have HE7 : Hid (stp t c s v.image = (⟨t.live + 1, t.ready, t.old, t.failed + 1, t.ending⟩ : Sct)) := by show _ = _; unfold stp; rw [if_pos HS.out]; simp at him; simp [HEN.out, HH.out, him]
      clear him
      go_wp2_with fail
      go_roundw
      case rel => first | exact ⟨k + 1, (⟨t.live + 1, t.ready, t.old, t.failed + 1, t.ending⟩ : Sct), by omega, by go_num, Hid.intro (by show _ = _; rw [HST.out, HE7.out]), ⟨by show (0 : Int) ≤ t.live + 1; omega, by show t.live + 1 ≤ ((k + 1 : Nat) : Int); omega, by show (0 : Int) ≤ t.ready; omega, by show t.ready ≤ ((k + 1 : Nat) : Int); omega, by show (0 : Int) ≤ t.old; omega, by show t.old ≤ ((k + 1 : Nat) : Int); omega, by show (0 : Int) ≤ t.failed + 1; omega, by show t.failed + 1 ≤ ((k + 1 : Nat) : Int); omega, by show (0 : Int) ≤ t.ending; omega, by show t.ending ≤ ((k + 1 : Nat) : Int); omega⟩, HB9, HZ9, HO9, hB9⟩ | ((repeat apply Exists.intro); exact ⟨⟨k + 1, (⟨t.live + 1, t.ready, t.old, t.failed + 1, t.ending⟩ : Sct), by omega, by go_num, Hid.intro (by show _ = _; rw [HST.out, HE7.out]), ⟨by show (0 : Int) ≤ t.live + 1; omega, by show t.live + 1 ≤ ((k + 1 : Nat) : Int); omega, by show (0 : Int) ≤ t.ready; omega, by show t.ready ≤ ((k + 1 : Nat) : Int); omega, by show (0 : Int) ≤ t.old; omega, by show t.old ≤ ((k + 1 : Nat) : Int); omega, by show (0 : Int) ≤ t.failed + 1; omega, by show t.failed + 1 ≤ ((k + 1 : Nat) : Int); omega, by show (0 : Int) ≤ t.ending; omega, by show t.ending ≤ ((k + 1 : Nat) : Int); omega⟩, HB9, HZ9, HO9, hB9⟩, rfl⟩)
      case measure => simp [intOf]; omega
     | false =>
      refine wp_region_held_drew (S := fun wy => Blk pc #[.string c.service, .int .i64 c.number, .int .i64 c.version, .int .i64 c.image, .int .i64 c.state, .bool c.ending, .string c.berth] 87 wy ∧ Blk w.heap.size #[.int .i64 x.now, .slice (some ⟨bb, ob, none⟩) x.services.length c1, .slice (some ⟨b2, o2, none⟩) x.copies.length c2, .slice a3 x.berths.length c3] 34 wy ∧ wy.cell? ⟨bb, ob + ks * 13 + 3, none⟩ = some (.int .i64 v.image)) (by kernel_rfl) ⟨HX7.out.drew, HB7.out.drew, HI7.out⟩ (fun hS => ?_)
      have HB9 := Hid.intro HB7.out.drew
      have HZ9 := Hid.intro HZ7.out.drew
      have HO9 := Hid.intro HO7.out.drew
      have HX9 := Hid.intro HX7.out.drew
      have hB9 := hB7.drew
      clear HB7 HZ7 HO7 HX7 hB7 HI7
      generalize w7.drew = w9 at *
      refine tz 0 57 (.pointer (some ⟨pc, 3, none⟩)) rfl hS ?_
      simp only [pA,pB,pC,pD]
      refine ty 1 ⟨some 58, _, _, _, _, none⟩ (.int .i64 c.image) rfl (by rfl) ?_ hS ?_
      ·intro wy hy
       obtain ⟨y1, y2, y3⟩ := id hy
       have h0 := y1.cell (o := 3) rfl
       clear hy
       go_simp
      simp only [pA,pB,pC,pD]
      refine tz 2 59 (.pointer (some ⟨w.heap.size, 1, none⟩)) rfl hS ?_
      simp only [pA,pB,pC,pD]
      refine ty 3 ⟨some 60, _, _, _, _, none⟩ (.slice (some ⟨bb, ob, none⟩) x.services.length c1) rfl (by rfl) ?_ hS ?_
      ·intro wy hy
       obtain ⟨y1, y2, y3⟩ := id hy
       have h0 := y2.cell (o := 1) rfl
       clear hy
       go_simp
      simp only [pA,pB,pC,pD]
      refine tz 4 61 (.int .i64 (ks : Int)) rfl hS ?_
      simp only [pA,pB,pC,pD]
      refine ty 5 ⟨some 62, _, _, _, _, none⟩ (.pointer (some ⟨bb, ob + ks * 13, none⟩)) rfl (by rfl) ?_ hS ?_
      ·intro wy hy
       clear hy
       first | (go_simp; done) | (go_simp; omega) | (go_simp; intro hh; omega)
      simp only [pA,pB,pC,pD]
      refine tz 6 63 (.pointer (some ⟨bb, ob + ks * 13 + 3, none⟩)) rfl hS ?_
      simp only [pA,pB,pC,pD]
      refine ty 7 ⟨some 64, _, _, _, _, none⟩ (.int .i64 v.image) rfl (by rfl) ?_ hS ?_
      ·intro wy hy
       obtain ⟨y1, y2, y3⟩ := id hy
       clear hy
       go_simp
      simp only [pA,pB,pC,pD]
      refine ty 8 ⟨some 65, _, _, _, _, none⟩ (.bool true) rfl (by rfl) ?_ hS ?_
      ·intro wy hy
       clear hy
       first | (go_simp; done) | (go_simp; simpa using him) | (simp [go_sem, him]; done)
      simp only [pA,pB,pC,pD]
      refine wpAnyH_done (by kernel_rfl) ?_ _
      clear hS
      have HE7 : Hid (stp t c s v.image = (⟨t.live + 1, t.ready, t.old + 1, t.failed + 1, t.ending⟩ : Sct)) := by show _ = _; unfold stp; rw [if_pos HS.out]; simp at him; simp [HEN.out, HH.out, him]
      clear him
      have ka : w9.cell? ⟨po, 2, none⟩ = some (.int .i64 t.old) := HO9.out.cell rfl
      have fa : w9.frozen? ⟨po, 2, none⟩ = false := HO9.out.frozen _
      have HO10 : Hid (Blk po #[.int .i64 (t.live + 1), .int .i64 t.ready, .int .i64 (t.old + 1), .int .i64 (t.failed + 1), .int .i64 t.ending] 94 (w9.setCell ⟨po, 2, none⟩ (.int .i64 (t.old + 1)))) := HO9.out.set 2 (.int .i64 (t.old + 1))
      have HB10 := Hid.intro (HB9.out.other (a := ⟨po, 2, none⟩) (show w.heap.size ≠ po from fun e => hr3 e.symm) (.int .i64 (t.old + 1)))
      have HZ10 := Hid.intro (HZ9.out.other (a := ⟨po, 2, none⟩) (show pr ≠ po from fun e => hr2 e.symm) (.int .i64 (t.old + 1)))
      have HX10 := Hid.intro (HX9.out.other (a := ⟨po, 2, none⟩) hpp (.int .i64 (t.old + 1)))
      have hB10 := hB9.setCell (p := ⟨po, 2, none⟩) hr5 (.int .i64 (t.old + 1))
      go_wp2_with fail
      go_roundw
      case rel => first | exact ⟨k + 1, (⟨t.live + 1, t.ready, t.old + 1, t.failed + 1, t.ending⟩ : Sct), by omega, by go_num, Hid.intro (by show _ = _; rw [HST.out, HE7.out]), ⟨by show (0 : Int) ≤ t.live + 1; omega, by show t.live + 1 ≤ ((k + 1 : Nat) : Int); omega, by show (0 : Int) ≤ t.ready; omega, by show t.ready ≤ ((k + 1 : Nat) : Int); omega, by show (0 : Int) ≤ t.old + 1; omega, by show t.old + 1 ≤ ((k + 1 : Nat) : Int); omega, by show (0 : Int) ≤ t.failed + 1; omega, by show t.failed + 1 ≤ ((k + 1 : Nat) : Int); omega, by show (0 : Int) ≤ t.ending; omega, by show t.ending ≤ ((k + 1 : Nat) : Int); omega⟩, HB10, HZ10, HO10, hB10⟩ | ((repeat apply Exists.intro); exact ⟨⟨k + 1, (⟨t.live + 1, t.ready, t.old + 1, t.failed + 1, t.ending⟩ : Sct), by omega, by go_num, Hid.intro (by show _ = _; rw [HST.out, HE7.out]), ⟨by show (0 : Int) ≤ t.live + 1; omega, by show t.live + 1 ≤ ((k + 1 : Nat) : Int); omega, by show (0 : Int) ≤ t.ready; omega, by show t.ready ≤ ((k + 1 : Nat) : Int); omega, by show (0 : Int) ≤ t.old + 1; omega, by show t.old + 1 ≤ ((k + 1 : Nat) : Int); omega, by show (0 : Int) ≤ t.failed + 1; omega, by show t.failed + 1 ≤ ((k + 1 : Nat) : Int); omega, by show (0 : Int) ≤ t.ending; omega, by show t.ending ≤ ((k + 1 : Nat) : Int); omega⟩, HB10, HZ10, HO10, hB10⟩, rfl⟩)
      case measure => simp [intOf]; omega
    ·have g3 : (c.state == 3) = false := by simpa using h3
     have g4 : (c.state == 4) = false := by simpa using h4
     have HH := Hid.intro h3
     have HH4 := Hid.intro h4
     clear h3 h4
     go_upto_region 15 with fail
     clear k4
     have HI7 : Hid (w6.cell? ⟨bb, ob + ks * 13 + 3, none⟩ = some (.int .i64 v.image)) := (hB6.cell (p := ⟨bb, ob + ks * 13 + 3, none⟩) hbb).trans HIM.out
     cases him : (c.image == v.image) with
     | true =>
      refine wp_region_held_drew (S := fun wy => Blk pc #[.string c.service, .int .i64 c.number, .int .i64 c.version, .int .i64 c.image, .int .i64 c.state, .bool c.ending, .string c.berth] 87 wy ∧ Blk w.heap.size #[.int .i64 x.now, .slice (some ⟨bb, ob, none⟩) x.services.length c1, .slice (some ⟨b2, o2, none⟩) x.copies.length c2, .slice a3 x.berths.length c3] 34 wy ∧ wy.cell? ⟨bb, ob + ks * 13 + 3, none⟩ = some (.int .i64 v.image)) (by kernel_rfl) ⟨HX6.out.drew, HB6.out.drew, HI7.out⟩ (fun hS => ?_)
      have HB9 := Hid.intro HB6.out.drew
      have HZ9 := Hid.intro HZ6.out.drew
      have HO9 := Hid.intro HO6.out.drew
      have HX9 := Hid.intro HX6.out.drew
      have hB9 := hB6.drew
      clear HB6 HZ6 HO6 HX6 hB6 HI7
      generalize w6.drew = w9 at *
      refine tz 0 57 (.pointer (some ⟨pc, 3, none⟩)) rfl hS ?_
      simp only [pA,pB,pC,pD]
      refine ty 1 ⟨some 58, _, _, _, _, none⟩ (.int .i64 c.image) rfl (by rfl) ?_ hS ?_
      ·intro wy hy
       obtain ⟨y1, y2, y3⟩ := id hy
       have h0 := y1.cell (o := 3) rfl
       clear hy
       go_simp
      simp only [pA,pB,pC,pD]
      refine tz 2 59 (.pointer (some ⟨w.heap.size, 1, none⟩)) rfl hS ?_
      simp only [pA,pB,pC,pD]
      refine ty 3 ⟨some 60, _, _, _, _, none⟩ (.slice (some ⟨bb, ob, none⟩) x.services.length c1) rfl (by rfl) ?_ hS ?_
      ·intro wy hy
       obtain ⟨y1, y2, y3⟩ := id hy
       have h0 := y2.cell (o := 1) rfl
       clear hy
       go_simp
      simp only [pA,pB,pC,pD]
      refine tz 4 61 (.int .i64 (ks : Int)) rfl hS ?_
      simp only [pA,pB,pC,pD]
      refine ty 5 ⟨some 62, _, _, _, _, none⟩ (.pointer (some ⟨bb, ob + ks * 13, none⟩)) rfl (by rfl) ?_ hS ?_
      ·intro wy hy
       clear hy
       first | (go_simp; done) | (go_simp; omega) | (go_simp; intro hh; omega)
      simp only [pA,pB,pC,pD]
      refine tz 6 63 (.pointer (some ⟨bb, ob + ks * 13 + 3, none⟩)) rfl hS ?_
      simp only [pA,pB,pC,pD]
      refine ty 7 ⟨some 64, _, _, _, _, none⟩ (.int .i64 v.image) rfl (by rfl) ?_ hS ?_
      ·intro wy hy
       obtain ⟨y1, y2, y3⟩ := id hy
       clear hy
       go_simp
      simp only [pA,pB,pC,pD]
      refine ty 8 ⟨some 65, _, _, _, _, none⟩ (.bool false) rfl (by rfl) ?_ hS ?_
      ·intro wy hy
       clear hy
       first | (go_simp; done) | (go_simp; simpa using him) | (simp [go_sem, him]; done)
      simp only [pA,pB,pC,pD]
      refine wpAnyH_done (by kernel_rfl) ?_ _
      clear hS
      have HE7 : Hid (stp t c s v.image = (⟨t.live + 1, t.ready, t.old, t.failed, t.ending⟩ : Sct)) := by show _ = _; unfold stp; rw [if_pos HS.out]; simp at him; simp [HEN.out, HH.out, HH4.out, him]
      clear him
      go_wp2_with fail
      go_roundw
      case rel => first | exact ⟨k + 1, (⟨t.live + 1, t.ready, t.old, t.failed, t.ending⟩ : Sct), by omega, by go_num, Hid.intro (by show _ = _; rw [HST.out, HE7.out]), ⟨by show (0 : Int) ≤ t.live + 1; omega, by show t.live + 1 ≤ ((k + 1 : Nat) : Int); omega, by show (0 : Int) ≤ t.ready; omega, by show t.ready ≤ ((k + 1 : Nat) : Int); omega, by show (0 : Int) ≤ t.old; omega, by show t.old ≤ ((k + 1 : Nat) : Int); omega, by show (0 : Int) ≤ t.failed; omega, by show t.failed ≤ ((k + 1 : Nat) : Int); omega, by show (0 : Int) ≤ t.ending; omega, by show t.ending ≤ ((k + 1 : Nat) : Int); omega⟩, HB9, HZ9, HO9, hB9⟩ | ((repeat apply Exists.intro); exact ⟨⟨k + 1, (⟨t.live + 1, t.ready, t.old, t.failed, t.ending⟩ : Sct), by omega, by go_num, Hid.intro (by show _ = _; rw [HST.out, HE7.out]), ⟨by show (0 : Int) ≤ t.live + 1; omega, by show t.live + 1 ≤ ((k + 1 : Nat) : Int); omega, by show (0 : Int) ≤ t.ready; omega, by show t.ready ≤ ((k + 1 : Nat) : Int); omega, by show (0 : Int) ≤ t.old; omega, by show t.old ≤ ((k + 1 : Nat) : Int); omega, by show (0 : Int) ≤ t.failed; omega, by show t.failed ≤ ((k + 1 : Nat) : Int); omega, by show (0 : Int) ≤ t.ending; omega, by show t.ending ≤ ((k + 1 : Nat) : Int); omega⟩, HB9, HZ9, HO9, hB9⟩, rfl⟩)
      case measure => simp [intOf]; omega
     | false =>
      refine wp_region_held_drew (S := fun wy => Blk pc #[.string c.service, .int .i64 c.number, .int .i64 c.version, .int .i64 c.image, .int .i64 c.state, .bool c.ending, .string c.berth] 87 wy ∧ Blk w.heap.size #[.int .i64 x.now, .slice (some ⟨bb, ob, none⟩) x.services.length c1, .slice (some ⟨b2, o2, none⟩) x.copies.length c2, .slice a3 x.berths.length c3] 34 wy ∧ wy.cell? ⟨bb, ob + ks * 13 + 3, none⟩ = some (.int .i64 v.image)) (by kernel_rfl) ⟨HX6.out.drew, HB6.out.drew, HI7.out⟩ (fun hS => ?_)
      have HB9 := Hid.intro HB6.out.drew
      have HZ9 := Hid.intro HZ6.out.drew
      have HO9 := Hid.intro HO6.out.drew
      have HX9 := Hid.intro HX6.out.drew
      have hB9 := hB6.drew
      clear HB6 HZ6 HO6 HX6 hB6 HI7
      generalize w6.drew = w9 at *
      refine tz 0 57 (.pointer (some ⟨pc, 3, none⟩)) rfl hS ?_
      simp only [pA,pB,pC,pD]
      refine ty 1 ⟨some 58, _, _, _, _, none⟩ (.int .i64 c.image) rfl (by rfl) ?_ hS ?_
      ·intro wy hy
       obtain ⟨y1, y2, y3⟩ := id hy
       have h0 := y1.cell (o := 3) rfl
       clear hy
       go_simp
      simp only [pA,pB,pC,pD]
      refine tz 2 59 (.pointer (some ⟨w.heap.size, 1, none⟩)) rfl hS ?_
      simp only [pA,pB,pC,pD]
      refine ty 3 ⟨some 60, _, _, _, _, none⟩ (.slice (some ⟨bb, ob, none⟩) x.services.length c1) rfl (by rfl) ?_ hS ?_
      ·intro wy hy
       obtain ⟨y1, y2, y3⟩ := id hy
       have h0 := y2.cell (o := 1) rfl
       clear hy
       go_simp
      simp only [pA,pB,pC,pD]
      refine tz 4 61 (.int .i64 (ks : Int)) rfl hS ?_
      simp only [pA,pB,pC,pD]
      refine ty 5 ⟨some 62, _, _, _, _, none⟩ (.pointer (some ⟨bb, ob + ks * 13, none⟩)) rfl (by rfl) ?_ hS ?_
      ·intro wy hy
       clear hy
       first | (go_simp; done) | (go_simp; omega) | (go_simp; intro hh; omega)
      simp only [pA,pB,pC,pD]
      refine tz 6 63 (.pointer (some ⟨bb, ob + ks * 13 + 3, none⟩)) rfl hS ?_
      simp only [pA,pB,pC,pD]
      refine ty 7 ⟨some 64, _, _, _, _, none⟩ (.int .i64 v.image) rfl (by rfl) ?_ hS ?_
      ·intro wy hy
       obtain ⟨y1, y2, y3⟩ := id hy
       clear hy
       go_simp
      simp only [pA,pB,pC,pD]
      refine ty 8 ⟨some 65, _, _, _, _, none⟩ (.bool true) rfl (by rfl) ?_ hS ?_
      ·intro wy hy
       clear hy
       first | (go_simp; done) | (go_simp; simpa using him) | (simp [go_sem, him]; done)
      simp only [pA,pB,pC,pD]
      refine wpAnyH_done (by kernel_rfl) ?_ _
      clear hS
      have HE7 : Hid (stp t c s v.image = (⟨t.live + 1, t.ready, t.old + 1, t.failed, t.ending⟩ : Sct)) := by show _ = _; unfold stp; rw [if_pos HS.out]; simp at him; simp [HEN.out, HH.out, HH4.out, him]
      clear him
      have ka : w9.cell? ⟨po, 2, none⟩ = some (.int .i64 t.old) := HO9.out.cell rfl
      have fa : w9.frozen? ⟨po, 2, none⟩ = false := HO9.out.frozen _
      have HO10 : Hid (Blk po #[.int .i64 (t.live + 1), .int .i64 t.ready, .int .i64 (t.old + 1), .int .i64 t.failed, .int .i64 t.ending] 94 (w9.setCell ⟨po, 2, none⟩ (.int .i64 (t.old + 1)))) := HO9.out.set 2 (.int .i64 (t.old + 1))
      have HB10 := Hid.intro (HB9.out.other (a := ⟨po, 2, none⟩) (show w.heap.size ≠ po from fun e => hr3 e.symm) (.int .i64 (t.old + 1)))
      have HZ10 := Hid.intro (HZ9.out.other (a := ⟨po, 2, none⟩) (show pr ≠ po from fun e => hr2 e.symm) (.int .i64 (t.old + 1)))
      have HX10 := Hid.intro (HX9.out.other (a := ⟨po, 2, none⟩) hpp (.int .i64 (t.old + 1)))
      have hB10 := hB9.setCell (p := ⟨po, 2, none⟩) hr5 (.int .i64 (t.old + 1))
      go_wp2_with fail
      go_roundw
      case rel => first | exact ⟨k + 1, (⟨t.live + 1, t.ready, t.old + 1, t.failed, t.ending⟩ : Sct), by omega, by go_num, Hid.intro (by show _ = _; rw [HST.out, HE7.out]), ⟨by show (0 : Int) ≤ t.live + 1; omega, by show t.live + 1 ≤ ((k + 1 : Nat) : Int); omega, by show (0 : Int) ≤ t.ready; omega, by show t.ready ≤ ((k + 1 : Nat) : Int); omega, by show (0 : Int) ≤ t.old + 1; omega, by show t.old + 1 ≤ ((k + 1 : Nat) : Int); omega, by show (0 : Int) ≤ t.failed; omega, by show t.failed ≤ ((k + 1 : Nat) : Int); omega, by show (0 : Int) ≤ t.ending; omega, by show t.ending ≤ ((k + 1 : Nat) : Int); omega⟩, HB10, HZ10, HO10, hB10⟩ | ((repeat apply Exists.intro); exact ⟨⟨k + 1, (⟨t.live + 1, t.ready, t.old + 1, t.failed, t.ending⟩ : Sct), by omega, by go_num, Hid.intro (by show _ = _; rw [HST.out, HE7.out]), ⟨by show (0 : Int) ≤ t.live + 1; omega, by show t.live + 1 ≤ ((k + 1 : Nat) : Int); omega, by show (0 : Int) ≤ t.ready; omega, by show t.ready ≤ ((k + 1 : Nat) : Int); omega, by show (0 : Int) ≤ t.old + 1; omega, by show t.old + 1 ≤ ((k + 1 : Nat) : Int); omega, by show (0 : Int) ≤ t.failed; omega, by show t.failed ≤ ((k + 1 : Nat) : Int); omega, by show (0 : Int) ≤ t.ending; omega, by show t.ending ≤ ((k + 1 : Nat) : Int); omega⟩, HB10, HZ10, HO10, hB10⟩, rfl⟩)
      case measure => simp [intOf]; omega

end Go.Proofs.YtnggdpjfmpjlhaaGreat
