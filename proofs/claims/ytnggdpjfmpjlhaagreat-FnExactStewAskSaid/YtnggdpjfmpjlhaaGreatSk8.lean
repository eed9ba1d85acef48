import Derived.Test.YtnggdpjfmpjlhaaGreatTkw
import Derived.Test.YtnggdpjfmpjlhaaGreatSk7
namespace Go.Proofs.YtnggdpjfmpjlhaaGreat
open Go.RowKit

def endsL (x : Sbk) (l : List Nat) : List Sen := l.map (fun i => enC (cAt x i))
def noneB (x : Sbk) (v : Ssv) : Bool := ((cntS x v.name).live + (cntS x v.name).ending == 0)

def actA (kd : Int) (x : Sbk) (v : Ssv) : Sac :=
 if kd = 3 then ⟨v.name, v.version, 0, 0, 0, false, endsL x (someL x v 3), false⟩
 else if v.gone = true then (if kd = 5 then ⟨v.name, v.version, 0, 0, 0, false, endsL x (liveL x v.name), noneB x v⟩ else ⟨v.name, v.version, 0, 0, 0, false, [], false⟩)
 else if kd = 1 then cuA x v
 else if kd = 2 then reA x v (someL x v 2)
 else if kd = 6 then (if (someL x v 2).length = 0 then reA x v (someL x v 6) else ⟨v.name, v.version, 0, 0, 0, false, [], false⟩)
 else if kd = 4 then (if 0 < v.per then scA v else ⟨v.name, v.version, 0, 0, 0, false, [], false⟩)
 else ⟨v.name, v.version, 0, 0, 0, false, [], false⟩

theorem some_in {x : Sbk} {v : Ssv} {k : Int} : ∀ i ∈ someL x v k, i < x.copies.length := fun _ hi => plTo_lt (List.mem_filter.1 hi).1

theorem cntL_all (s : ByteArray) (im : Int) : ∀ (l : List Scp) (t : Sct), 0 ≤ t.live → 0 ≤ t.ending → 0 ≤ (l.foldl (fun t c => stp t c s im) t).live ∧ 0 ≤ (l.foldl (fun t c => stp t c s im) t).ending ∧ (l.foldl (fun t c => stp t c s im) t).live + (l.foldl (fun t c => stp t c s im) t).ending ≤ t.live + t.ending + (l.length : Int)
 | [], t, h1, h2 => ⟨h1, h2, by simp⟩
 | c :: l, t, h1, h2 => by
  have h3 : 0 ≤ (stp t c s im).live ∧ 0 ≤ (stp t c s im).ending ∧ (stp t c s im).live + (stp t c s im).ending ≤ t.live + t.ending + 1 := by
   unfold stp
   split
   ·split
    ·simp; omega
    ·simp; omega
   ·omega
  have h4 := cntL_all s im l (stp t c s im) h3.1 h3.2.1
  simp only [List.foldl_cons, List.length_cons]
  refine ⟨h4.1, h4.2.1, ?_⟩
  push_cast
  omega

theorem cntS_sum (x : Sbk) (s : ByteArray) : 0 ≤ (cntS x s).live + (cntS x s).ending ∧ (cntS x s).live + (cntS x s).ending ≤ (x.copies.length : Int) := by
 unfold cntS
 cases hf : x.services.find? (fun b => decide (b.name = s)) with
 | none => simp
 | some v =>
  have h := cntL_all s v.image x.copies ⟨0, 0, 0, 0, 0⟩ (Int.le_refl _) (Int.le_refl _)
  show 0 ≤ (cntL x.copies s v.image).live + (cntL x.copies s v.image).ending ∧ (cntL x.copies s v.image).live + (cntL x.copies s v.image).ending ≤ (x.copies.length : Int)
  unfold cntL
  simp only at h
  omega

set_option maxHeartbeats 32000000 in
set_option maxRecDepth 100000 in
theorem act22_any (x : Sbk) (a1 : Option Addr) (c1 : Nat) (a2 : Option Addr) (c2 : Nat) (a3 : Option Addr) (c3 : Nat) (lo : Nat) (kd : Int) (v : Ssv) (w : World) (n1 : SliceC SsvC 13 lo w a1 x.services) (n2 : SliceC ScpC 7 lo w a2 x.copies) (n3 : SliceC SbtC 2 lo w a3 x.berths) (hv : SWk x) (hl3 : x.berths.length ≤ 1048576) (hn : SvNum v) :
  Calls Tryz.prog 17 #[.int .i64 kd, .agg #[.int .i64 x.now, .slice a1 x.services.length c1, .slice a2 x.copies.length c2, .slice a3 x.berths.length c3], .agg #[.string v.name, .int .i64 v.version, .bool v.gone, .int .i64 v.image, .int .i64 v.want, .int .i64 v.down, .int .i64 v.over, .int .i64 v.next, .int .i64 v.per, .int .i64 v.least, .int .i64 v.most, .int .i64 v.load, .int .i64 v.cool]] w fun e w' => AcRes (actA kd x v) w e w' := by
 have HN1 := Hid.intro n1
 have HN2 := Hid.intro n2
 have HN3 := Hid.intro n3
 have HW := Hid.intro hv
 have HNN := Hid.intro hn
 have hl2 := hv.l2
 clear n1 n2 n3 hv hn
 have h1 : Blk w.heap.size #[.int .i64 x.now, .slice a1 x.services.length c1, .slice a2 x.copies.length c2, .slice a3 x.berths.length c3] 34 (w.alloc (Obj.cells #[.int .i64 x.now, .slice a1 x.services.length c1, .slice a2 x.copies.length c2, .slice a3 x.berths.length c3] 34)) := Blk.alloc _ _ _
 have h2 : Blk w.heap.size #[.int .i64 x.now, .slice a1 x.services.length c1, .slice a2 x.copies.length c2, .slice a3 x.berths.length c3] 34 ((w.alloc (Obj.cells #[.int .i64 x.now, .slice a1 x.services.length c1, .slice a2 x.copies.length c2, .slice a3 x.berths.length c3] 34)).alloc (Obj.cells #[.string v.name, .int .i64 v.version, .bool v.gone, .int .i64 v.image, .int .i64 v.want, .int .i64 v.down, .int .i64 v.over, .int .i64 v.next, .int .i64 v.per, .int .i64 v.least, .int .i64 v.most, .int .i64 v.load, .int .i64 v.cool] 50)) := h1.below ((Below.refl _ _).alloc (Nat.le_refl _) _) h1.lt
 have HB3 : Hid (Blk w.heap.size #[.int .i64 x.now, .slice a1 x.services.length c1, .slice a2 x.copies.length c2, .slice a3 x.berths.length c3] 34 (((w.alloc (Obj.cells #[.int .i64 x.now, .slice a1 x.services.length c1, .slice a2 x.copies.length c2, .slice a3 x.berths.length c3] 34)).alloc (Obj.cells #[.string v.name, .int .i64 v.version, .bool v.gone, .int .i64 v.image, .int .i64 v.want, .int .i64 v.down, .int .i64 v.over, .int .i64 v.next, .int .i64 v.per, .int .i64 v.least, .int .i64 v.most, .int .i64 v.load, .int .i64 v.cool] 50)).alloc (Obj.cells #[.string ⟨#[]⟩, .int .i64 0, .int .i64 0, .int .i64 0, .int .i64 0, .bool false, .slice none 0 0, .bool false] 47))) := h2.below ((Below.refl _ _).alloc (Nat.le_refl _) _) h2.lt
 have v2 : Blk (w.heap.size + 1) #[.string v.name, .int .i64 v.version, .bool v.gone, .int .i64 v.image, .int .i64 v.want, .int .i64 v.down, .int .i64 v.over, .int .i64 v.next, .int .i64 v.per, .int .i64 v.least, .int .i64 v.most, .int .i64 v.load, .int .i64 v.cool] 50 ((w.alloc (Obj.cells #[.int .i64 x.now, .slice a1 x.services.length c1, .slice a2 x.copies.length c2, .slice a3 x.berths.length c3] 34)).alloc (Obj.cells #[.string v.name, .int .i64 v.version, .bool v.gone, .int .i64 v.image, .int .i64 v.want, .int .i64 v.down, .int .i64 v.over, .int .i64 v.next, .int .i64 v.per, .int .i64 v.least, .int .i64 v.most, .int .i64 v.load, .int .i64 v.cool] 50)) := by
  have := Blk.alloc (w.alloc (Obj.cells #[.int .i64 x.now, .slice a1 x.services.length c1, .slice a2 x.copies.length c2, .slice a3 x.berths.length c3] 34)) #[.string v.name, .int .i64 v.version, .bool v.gone, .int .i64 v.image, .int .i64 v.want, .int .i64 v.down, .int .i64 v.over, .int .i64 v.next, .int .i64 v.per, .int .i64 v.least, .int .i64 v.most, .int .i64 v.load, .int .i64 v.cool] 50
  simpa using this
 have HV3 : Hid (Blk (w.heap.size + 1) #[.string v.name, .int .i64 v.version, .bool v.gone, .int .i64 v.image, .int .i64 v.want, .int .i64 v.down, .int .i64 v.over, .int .i64 v.next, .int .i64 v.per, .int .i64 v.least, .int .i64 v.most, .int .i64 v.load, .int .i64 v.cool] 50 (((w.alloc (Obj.cells #[.int .i64 x.now, .slice a1 x.services.length c1, .slice a2 x.copies.length c2, .slice a3 x.berths.length c3] 34)).alloc (Obj.cells #[.string v.name, .int .i64 v.version, .bool v.gone, .int .i64 v.image, .int .i64 v.want, .int .i64 v.down, .int .i64 v.over, .int .i64 v.next, .int .i64 v.per, .int .i64 v.least, .int .i64 v.most, .int .i64 v.load, .int .i64 v.cool] 50)).alloc (Obj.cells #[.string ⟨#[]⟩, .int .i64 0, .int .i64 0, .int .i64 0, .int .i64 0, .bool false, .slice none 0 0, .bool false] 47))) := v2.below ((Below.refl _ _).alloc (Nat.le_refl _) _) v2.lt
 have HR3 : Hid (Blk (w.heap.size + 1 + 1) #[.string ⟨#[]⟩, .int .i64 0, .int .i64 0, .int .i64 0, .int .i64 0, .bool false, .slice none 0 0, .bool false] 47 (((w.alloc (Obj.cells #[.int .i64 x.now, .slice a1 x.services.length c1, .slice a2 x.copies.length c2, .slice a3 x.berths.length c3] 34)).alloc (Obj.cells #[.string v.name, .int .i64 v.version, .bool v.gone, .int .i64 v.image, .int .i64 v.want, .int .i64 v.down, .int .i64 v.over, .int .i64 v.next, .int .i64 v.per, .int .i64 v.least, .int .i64 v.most, .int .i64 v.load, .int .i64 v.cool] 50)).alloc (Obj.cells #[.string ⟨#[]⟩, .int .i64 0, .int .i64 0, .int .i64 0, .int .i64 0, .bool false, .slice none 0 0, .bool false] 47))) := by
  have := Blk.alloc ((w.alloc (Obj.cells #[.int .i64 x.now, .slice a1 x.services.length c1, .slice a2 x.copies.length c2, .slice a3 x.berths.length c3] 34)).alloc (Obj.cells #[.string v.name, .int .i64 v.version, .bool v.gone, .int .i64 v.image, .int .i64 v.want, .int .i64 v.down, .int .i64 v.over, .int .i64 v.next, .int .i64 v.per, .int .i64 v.least, .int .i64 v.most, .int .i64 v.load, .int .i64 v.cool] 50)) #[.string ⟨#[]⟩, .int .i64 0, .int .i64 0, .int .i64 0, .int .i64 0, .bool false, .slice none 0 0, .bool false] 47
  show Blk _ _ _ _
  simpa using this
 have hB3 : Below w.heap.size w (((w.alloc (Obj.cells #[.int .i64 x.now, .slice a1 x.services.length c1, .slice a2 x.copies.length c2, .slice a3 x.berths.length c3] 34)).alloc (Obj.cells #[.string v.name, .int .i64 v.version, .bool v.gone, .int .i64 v.image, .int .i64 v.want, .int .i64 v.down, .int .i64 v.over, .int .i64 v.next, .int .i64 v.per, .int .i64 v.least, .int .i64 v.most, .int .i64 v.load, .int .i64 v.cool] 50)).alloc (Obj.cells #[.string ⟨#[]⟩, .int .i64 0, .int .i64 0, .int .i64 0, .int .i64 0, .bool false, .slice none 0 0, .bool false] 47)) := by go_grown
 clear h1 h2 v2
 go_enter Tryz.func17, Tryz.ntmps17
 go_upto_region 1 with fail
 generalize ((w.alloc (Obj.cells #[.int .i64 x.now, .slice a1 x.services.length c1, .slice a2 x.copies.length c2, .slice a3 x.berths.length c3] 34)).alloc (Obj.cells #[.string v.name, .int .i64 v.version, .bool v.gone, .int .i64 v.image, .int .i64 v.want, .int .i64 v.down, .int .i64 v.over, .int .i64 v.next, .int .i64 v.per, .int .i64 v.least, .int .i64 v.most, .int .i64 v.load, .int .i64 v.cool] 50)).alloc (Obj.cells #[.string ⟨#[]⟩, .int .i64 0, .int .i64 0, .int .i64 0, .int .i64 0, .bool false, .slice none 0 0, .bool false] 47) = w3 at *
 have hgg0 : w.heap.size < w.heap.size + 1 ∧ w.heap.size + 1 < w.heap.size + 1 + 1 := by omega
 generalize w.heap.size + 1 + 1 = gr at *
 generalize w.heap.size + 1 = gv at *
 have k_name : w3.cell? ⟨gv, 0, none⟩ = some (.string v.name) := HV3.out.cell rfl
 have k_version : w3.cell? ⟨gv, 1, none⟩ = some (.int .i64 v.version) := HV3.out.cell rfl
 have hza : Blk w3.heap.size #[.string ⟨#[]⟩, .int .i64 0, .int .i64 0, .int .i64 0, .int .i64 0, .bool false, .slice none 0 0, .bool false] 47 (w3.alloc (Obj.cells #[.string ⟨#[]⟩, .int .i64 0, .int .i64 0, .int .i64 0, .int .i64 0, .bool false, .slice none 0 0, .bool false] 47)) := Blk.alloc _ _ _
 have HTS : Hid ((w3.alloc (Obj.cells #[.string ⟨#[]⟩, .int .i64 0, .int .i64 0, .int .i64 0, .int .i64 0, .bool false, .slice none 0 0, .bool false] 47)).there w3.heap.size 0 8) := hza.there
 obtain ⟨w4, HW4⟩ : ∃ w4, Hid (w4 = (w3.alloc (Obj.cells #[.string ⟨#[]⟩, .int .i64 0, .int .i64 0, .int .i64 0, .int .i64 0, .bool false, .slice none 0 0, .bool false] 47)).setCells w3.heap.size 0 [.string v.name, .int .i64 v.version, .int .i64 0, .int .i64 0, .int .i64 0, .bool false, .slice none 0 0, .bool false]) := ⟨_, rfl⟩
 have HA4 : Hid (Blk w3.heap.size #[.string v.name, .int .i64 v.version, .int .i64 0, .int .i64 0, .int .i64 0, .bool false, .slice none 0 0, .bool false] 47 w4) := by
  show Blk _ _ _ _
  rw [HW4.out]
  exact hza.setAll #[.string v.name, .int .i64 v.version, .int .i64 0, .int .i64 0, .int .i64 0, .bool false, .slice none 0 0, .bool false] rfl
 have hbx : Below w3.heap.size w3 w4 := by
  rw [HW4.out]
  exact below_setCells (Nat.le_refl _) _ _ _ ((Below.refl _ w3).alloc (Nat.le_refl _) _)
 have HB4 := Hid.intro (HB3.out.below hbx HB3.out.lt)
 have HV4 := Hid.intro (HV3.out.below hbx HV3.out.lt)
 have HR4 := Hid.intro (HR3.out.below hbx HR3.out.lt)
 have hB4 := hB3.trans (hbx.mono hB3.size)
 have hgr3 : gr < w3.heap.size := HR3.out.lt
 clear hza hbx HB3 HV3 HR3 hB3
 go_upto_region 2 with (refine wpList_store_to rfl 47 _ _ rfl w3.heap.size 0 #[.string v.name, .int .i64 v.version, .int .i64 0, .int .i64 0, .int .i64 0, .bool false, .slice none 0 0, .bool false] (by first | rfl | (simp [go_sem]; done)) rfl HTS.out isz_Sac (by simp [Value.oneCell']) w4 HW4.out ?_)
 clear HTS HW4 k_name k_version
 generalize w3.heap.size = ga at *
 have hgg : w.heap.size < gv ∧ gv < gr ∧ gr < ga := ⟨hgg0.1, hgg0.2, hgr3⟩
 clear hgg0 hgr3
 by_cases h3 : kd = 3
 ·subst h3
  have HSC : Hid (actA 3 x v = ⟨v.name, v.version, 0, 0, 0, false, endsL x (someL x v 3), false⟩) := if_pos rfl
  go_upto_region 3 with fail
  refine wp_region_held_drew (S := fun wy => Blk w.heap.size #[.int .i64 x.now, .slice a1 x.services.length c1, .slice a2 x.copies.length c2, .slice a3 x.berths.length c3] 34 wy ∧ Blk gv #[.string v.name, .int .i64 v.version, .bool v.gone, .int .i64 v.image, .int .i64 v.want, .int .i64 v.down, .int .i64 v.over, .int .i64 v.next, .int .i64 v.per, .int .i64 v.least, .int .i64 v.most, .int .i64 v.load, .int .i64 v.cool] 50 wy) (by kernel_rfl) ⟨HB4.out.drew, HV4.out.drew⟩ (fun hS => ?_)
  have hbd : Below w4.heap.size w4 w4.drew := (Below.refl _ _).drew
  have HB5 := Hid.intro (HB4.out.below hbd HB4.out.lt)
  have HV5 := Hid.intro (HV4.out.below hbd HV4.out.lt)
  have HA5 := Hid.intro (HA4.out.below hbd HA4.out.lt)
  have HR5 := Hid.intro (HR4.out.below hbd HR4.out.lt)
  have hB5 := hB4.trans (hbd.mono hB4.size)
  clear HB4 HV4 HA4 HR4 hB4
  clear hbd
  generalize w4.drew = w5 at *
  refine tm 0 16 w.heap.size 0 [.int .i64 x.now, .slice a1 x.services.length c1, .slice a2 x.copies.length c2, .slice a3 x.berths.length c3] rfl (fun _ h => h.1.rangeA) Tryz.underlying34 isz_Sbk hS ?_
  simp only [pA,pB,pC,pD]
  refine tm 1 17 w.heap.size 0 [.int .i64 x.now, .slice a1 x.services.length c1, .slice a2 x.copies.length c2, .slice a3 x.berths.length c3] rfl (fun _ h => h.1.rangeA) Tryz.underlying34 isz_Sbk hS ?_
  simp only [pA,pB,pC,pD]
  refine tm 2 18 gv 0 [.string v.name, .int .i64 v.version, .bool v.gone, .int .i64 v.image, .int .i64 v.want, .int .i64 v.down, .int .i64 v.over, .int .i64 v.next, .int .i64 v.per, .int .i64 v.least, .int .i64 v.most, .int .i64 v.load, .int .i64 v.cool] rfl (fun _ h => h.2.rangeA) Tryz.underlying50 isz_Ssv hS ?_
  simp only [pA,pB,pC,pD]
  refine tz 3 19 (.int .i64 3) rfl hS ?_
  simp only [pA,pB,pC,pD]
  refine rd1 4 ⟨some 20, _, _, _, _, none⟩ rfl (fun KK hKK => ?_)
  go_simp
  refine (some_any x a1 c1 a2 c2 a3 c3 lo v 3 _ (HN2.out.below ScpC.holds hB5 (Nat.le_refl _)) (HN3.out.below SbtC.holds hB5 (Nat.le_refl _)) (by omega) hl3 (.inr (.inl rfl))).mono ?_
  rintro e w6 ⟨gp, qp, rfl, hpl, hb⟩
  have hga5 : ga < w5.heap.size := HA5.out.lt
  have hgr5 : gr < w5.heap.size := HR5.out.lt
  have hww5 : w.heap.size ≤ w5.heap.size := hB5.size
  have HB6 := Hid.intro (HB5.out.below hb HB5.out.lt)
  have HV6 := Hid.intro (HV5.out.below hb HV5.out.lt)
  have HA6 := Hid.intro (HA5.out.below hb HA5.out.lt)
  have HR6 := Hid.intro (HR5.out.below hb HR5.out.lt)
  have hB6 := hB5.trans (hb.mono hB5.size)
  clear HB5 HV5 HA5 HR5 hB5
  refine hKK.out _ _ ⟨HB6.out, HV6.out⟩ (fun hS => ?_)
  clear hKK KK hb
  have HPL := Hid.intro hpl
  clear hpl
  obtain ⟨M, hM⟩ : ∃ M, M = someL x v 3 := ⟨_, rfl⟩
  have hml : M.length ≤ 1048576 := by rw [hM]; exact Nat.le_trans (some_len hl2 v 3) (by omega)
  have HMI : Hid (∀ i ∈ M, i < x.copies.length) := by show ∀ i ∈ M, _; rw [hM]; exact some_in
  rw [← hM] at HPL HSC ⊢
  clear hM
  refine rd1 5 ⟨some 21, _, _, _, _, none⟩ rfl (fun KK hKK => ?_)
  go_simp
  refine (ends_any x a1 c1 a2 c2 a3 c3 lo _ M _ qp _ (HN2.out.below ScpC.holds hB6 (Nat.le_refl _)) HPL.out HMI.out hml).mono ?_
  rintro e w7 ⟨ge, qe, rfl, hen, hb⟩
  have hga6 : ga < w6.heap.size := HA6.out.lt
  have hgr6 : gr < w6.heap.size := HR6.out.lt
  have hww6 : w.heap.size ≤ w6.heap.size := hB6.size
  have HB7 := Hid.intro (HB6.out.below hb HB6.out.lt)
  have HV7 := Hid.intro (HV6.out.below hb HV6.out.lt)
  have HA7 := Hid.intro (HA6.out.below hb HA6.out.lt)
  have HR7 := Hid.intro (HR6.out.below hb HR6.out.lt)
  have hB7 := hB6.trans (hb.mono hB6.size)
  clear HB6 HV6 HA6 HR6 hB6
  refine hKK.out _ _ ⟨HB7.out, HV7.out⟩ (fun hS => ?_)
  clear hKK KK hb
  have HEN := Hid.intro hen
  clear hen HPL
  obtain ⟨E, hE⟩ : ∃ E, E = endsL x M := ⟨_, rfl⟩
  rw [show M.map (fun i => enC (cAt x i)) = E from hE.symm] at HEN ⊢
  rw [← hE] at HSC
  clear hE
  refine tz 6 22 (.pointer (some ⟨ga, 6, none⟩)) rfl hS ?_
  simp only [pA,pB,pC,pD]
  have ka6 : w7.cell? ⟨ga, 6, none⟩ = some (.slice none 0 0) := HA7.out.cell rfl
  have fz6 : w7.frozen? ⟨ga, 6, none⟩ = false := HA7.out.frozen 6
  refine rd1 7 ⟨none, _, _, _, _, none⟩ rfl (fun KK hKK => ?_)
  go_simp
  clear ka6 fz6
  have HB8 := Hid.intro (HB7.out.other (a := ⟨ga, 6, none⟩) (by show _ ≠ ga; omega) (.slice (some ⟨ge, 0, none⟩) E.length qe))
  have HV8 := Hid.intro (HV7.out.other (a := ⟨ga, 6, none⟩) (by show _ ≠ ga; omega) (.slice (some ⟨ge, 0, none⟩) E.length qe))
  have HR8 := Hid.intro (HR7.out.other (a := ⟨ga, 6, none⟩) (by show _ ≠ ga; omega) (.slice (some ⟨ge, 0, none⟩) E.length qe))
  have HA8 : Hid (Blk ga #[.string v.name, .int .i64 v.version, .int .i64 0, .int .i64 0, .int .i64 0, .bool false, .slice (some ⟨ge, 0, none⟩) E.length qe, .bool false] 47 (w7.setCell ⟨ga, 6, none⟩ (.slice (some ⟨ge, 0, none⟩) E.length qe))) := HA7.out.set 6 (.slice (some ⟨ge, 0, none⟩) E.length qe)
  have hB8 : Below w.heap.size w (w7.setCell ⟨ga, 6, none⟩ (.slice (some ⟨ge, 0, none⟩) E.length qe)) := hB7.setCell (by show w.heap.size ≤ ga; omega) _
  have HEN2 : Hid (SliceC SenC 2 w6.heap.size (w7.setCell ⟨ga, 6, none⟩ (.slice (some ⟨ge, 0, none⟩) E.length qe)) (some ⟨ge, 0, none⟩) E) := HEN.out.keep SenC.holds (Keeps.set (show (⟨ga, 6, none⟩ : Addr).block < w6.heap.size from hga6) _) (Nat.le_refl _)
  clear HB7 HV7 HA7 HR7 hB7
  generalize w7.setCell ⟨ga, 6, none⟩ (.slice (some ⟨ge, 0, none⟩) E.length qe) = w8 at *
  refine hKK.out _ _ ⟨HB8.out, HV8.out⟩ (fun hS => ?_)
  clear hKK KK HEN
  refine wpAnyH_done (by kernel_rfl) ?_ _
  clear hS
  have HTS := Hid.intro HR8.out.there
  obtain ⟨wf, HE⟩ : ∃ wf, Hid (wf = w8.setCells gr 0 [.string v.name, .int .i64 v.version, .int .i64 0, .int .i64 0, .int .i64 0, .bool false, .slice (some ⟨ge, 0, none⟩) E.length qe, .bool false]) := ⟨_, rfl⟩
  have HRf : Hid (wf.rangeAt gr 0 [.string v.name, .int .i64 v.version, .int .i64 0, .int .i64 0, .int .i64 0, .bool false, .slice (some ⟨ge, 0, none⟩) E.length qe, .bool false]) := by
   show World.rangeAt _ _ _ _
   rw [HE.out]
   exact World.rangeAt_setCells_same _ _ _ _ HTS.out
  have HBf : Hid (Below w.heap.size w wf) := by
   show Below _ _ _
   rw [HE.out]
   exact below_setCells (by omega) _ _ _ hB8
  have HENf : Hid (SliceC SenC 2 w6.heap.size wf (some ⟨ge, 0, none⟩) E) := by
   show SliceC _ _ _ _ _ _
   rw [HE.out]
   exact HEN2.out.keep SenC.holds (Keeps.setCells hgr6 _ _ _) (Nat.le_refl _)
  go_wp2_with (first | (refine wpList_load_mid rfl 47 _ rfl ga 0 rfl [.string v.name, .int .i64 v.version, .int .i64 0, .int .i64 0, .int .i64 0, .bool false, .slice (some ⟨ge, 0, none⟩) E.length qe, .bool false] _ HA8.out.rangeA Tryz.underlying47 rfl isz_Sac ?_) | (refine wpList_store_to rfl 47 _ _ rfl gr 0 #[.string v.name, .int .i64 v.version, .int .i64 0, .int .i64 0, .int .i64 0, .bool false, .slice (some ⟨ge, 0, none⟩) E.length qe, .bool false] (by first | rfl | (simp [go_sem]; done)) rfl HTS.out isz_Sac (by simp [Value.oneCell']) wf HE.out ?_))
  refine bodyPost_ret (results_cell_mid rfl _ _ gr [.string v.name, .int .i64 v.version, .int .i64 0, .int .i64 0, .int .i64 0, .bool false, .slice (some ⟨ge, 0, none⟩) E.length qe, .bool false] _ rfl HRf.out Tryz.underlying47 rfl isz_Sac) rfl ?_
  rw [HSC.out]
  exact ⟨_, qe, rfl, HENf.out.keep SenC.holds (Keeps.refl _ _) hww6, HBf.out⟩
 have h3b : (kd == 3) = false := by simpa using h3
 have hgo : v.gone = true ∨ v.gone = false := by cases v.gone <;> simp
 rcases hgo with hg | hg
 ·skip
  have k_gone : w4.cell? ⟨gv, 2, none⟩ = some (.bool true) := by rw [← hg]; exact HV4.out.cell rfl
  by_cases h5 : kd = 5
  ·subst h5
   have HSC : Hid (actA 5 x v = ⟨v.name, v.version, 0, 0, 0, false, endsL x (liveL x v.name), noneB x v⟩) := by show _ = _; unfold actA; rw [if_neg (by decide), if_pos hg, if_pos rfl]
   clear hg
   go_upto_region 7 with fail
   clear k_gone
   refine wp_region_held_drew (S := fun wy => Blk w.heap.size #[.int .i64 x.now, .slice a1 x.services.length c1, .slice a2 x.copies.length c2, .slice a3 x.berths.length c3] 34 wy ∧ Blk gv #[.string v.name, .int .i64 v.version, .bool v.gone, .int .i64 v.image, .int .i64 v.want, .int .i64 v.down, .int .i64 v.over, .int .i64 v.next, .int .i64 v.per, .int .i64 v.least, .int .i64 v.most, .int .i64 v.load, .int .i64 v.cool] 50 wy) (by kernel_rfl) ⟨HB4.out.drew, HV4.out.drew⟩ (fun hS => ?_)
   have hbd : Below w4.heap.size w4 w4.drew := (Below.refl _ _).drew
   have HB5 := Hid.intro (HB4.out.below hbd HB4.out.lt)
   have HV5 := Hid.intro (HV4.out.below hbd HV4.out.lt)
   have HA5 := Hid.intro (HA4.out.below hbd HA4.out.lt)
   have HR5 := Hid.intro (HR4.out.below hbd HR4.out.lt)
   have hB5 := hB4.trans (hbd.mono hB4.size)
   clear HB4 HV4 HA4 HR4 hB4
   clear hbd
   generalize w4.drew = w5 at *
   refine tm 0 28 w.heap.size 0 [.int .i64 x.now, .slice a1 x.services.length c1, .slice a2 x.copies.length c2, .slice a3 x.berths.length c3] rfl (fun _ h => h.1.rangeA) Tryz.underlying34 isz_Sbk hS ?_
   simp only [pA,pB,pC,pD]
   refine tm 1 29 w.heap.size 0 [.int .i64 x.now, .slice a1 x.services.length c1, .slice a2 x.copies.length c2, .slice a3 x.berths.length c3] rfl (fun _ h => h.1.rangeA) Tryz.underlying34 isz_Sbk hS ?_
   simp only [pA,pB,pC,pD]
   refine tz 2 30 (.pointer (some ⟨gv, 0, none⟩)) rfl hS ?_
   simp only [pA,pB,pC,pD]
   refine ty 3 ⟨some 31, _, _, _, _, none⟩ (.string v.name) rfl (by rfl) ?_ hS ?_
   ·intro wy hy
    have h0 := hy.2.cell (o := 0) rfl
    clear hy
    go_simp
   simp only [pA,pB,pC,pD]
   refine rd1 4 ⟨some 32, _, _, _, _, none⟩ rfl (fun KK hKK => ?_)
   go_simp
   refine (live22_any x a1 c1 a2 c2 a3 c3 lo v.name _ (HN2.out.below ScpC.holds hB5 (Nat.le_refl _)) (by omega)).mono ?_
   rintro e w6 ⟨gp, qp, rfl, hpl, hb⟩
   have hga5 : ga < w5.heap.size := HA5.out.lt
   have hgr5 : gr < w5.heap.size := HR5.out.lt
   have hww5 : w.heap.size ≤ w5.heap.size := hB5.size
   have HB6 := Hid.intro (HB5.out.below hb HB5.out.lt)
   have HV6 := Hid.intro (HV5.out.below hb HV5.out.lt)
   have HA6 := Hid.intro (HA5.out.below hb HA5.out.lt)
   have HR6 := Hid.intro (HR5.out.below hb HR5.out.lt)
   have hB6 := hB5.trans (hb.mono hB5.size)
   clear HB5 HV5 HA5 HR5 hB5
   refine hKK.out _ _ ⟨HB6.out, HV6.out⟩ (fun hS => ?_)
   clear hKK KK hb
   have HPL := Hid.intro hpl
   clear hpl
   obtain ⟨M, hM⟩ : ∃ M, M = liveL x v.name := ⟨_, rfl⟩
   have hml : M.length ≤ 1048576 := by rw [hM]; exact Nat.le_trans (live_small hl2 v.name) (by omega)
   have HMI : Hid (∀ i ∈ M, i < x.copies.length) := by show ∀ i ∈ M, _; rw [hM]; exact (fun i hi => plTo_lt hi)
   rw [← hM] at HPL HSC ⊢
   clear hM
   refine rd1 5 ⟨some 33, _, _, _, _, none⟩ rfl (fun KK hKK => ?_)
   go_simp
   refine (ends_any x a1 c1 a2 c2 a3 c3 lo _ M _ qp _ (HN2.out.below ScpC.holds hB6 (Nat.le_refl _)) HPL.out HMI.out hml).mono ?_
   rintro e w7 ⟨ge, qe, rfl, hen, hb⟩
   have hga6 : ga < w6.heap.size := HA6.out.lt
   have hgr6 : gr < w6.heap.size := HR6.out.lt
   have hww6 : w.heap.size ≤ w6.heap.size := hB6.size
   have HB7 := Hid.intro (HB6.out.below hb HB6.out.lt)
   have HV7 := Hid.intro (HV6.out.below hb HV6.out.lt)
   have HA7 := Hid.intro (HA6.out.below hb HA6.out.lt)
   have HR7 := Hid.intro (HR6.out.below hb HR6.out.lt)
   have hB7 := hB6.trans (hb.mono hB6.size)
   clear HB6 HV6 HA6 HR6 hB6
   refine hKK.out _ _ ⟨HB7.out, HV7.out⟩ (fun hS => ?_)
   clear hKK KK hb
   have HEN := Hid.intro hen
   clear hen HPL
   obtain ⟨E, hE⟩ : ∃ E, E = endsL x M := ⟨_, rfl⟩
   rw [show M.map (fun i => enC (cAt x i)) = E from hE.symm] at HEN ⊢
   rw [← hE] at HSC
   clear hE
   refine tz 6 34 (.pointer (some ⟨ga, 6, none⟩)) rfl hS ?_
   simp only [pA,pB,pC,pD]
   have ka6 : w7.cell? ⟨ga, 6, none⟩ = some (.slice none 0 0) := HA7.out.cell rfl
   have fz6 : w7.frozen? ⟨ga, 6, none⟩ = false := HA7.out.frozen 6
   refine rd1 7 ⟨none, _, _, _, _, none⟩ rfl (fun KK hKK => ?_)
   go_simp
   clear ka6 fz6
   have HB8 := Hid.intro (HB7.out.other (a := ⟨ga, 6, none⟩) (by show _ ≠ ga; omega) (.slice (some ⟨ge, 0, none⟩) E.length qe))
   have HV8 := Hid.intro (HV7.out.other (a := ⟨ga, 6, none⟩) (by show _ ≠ ga; omega) (.slice (some ⟨ge, 0, none⟩) E.length qe))
   have HR8 := Hid.intro (HR7.out.other (a := ⟨ga, 6, none⟩) (by show _ ≠ ga; omega) (.slice (some ⟨ge, 0, none⟩) E.length qe))
   have HA8 : Hid (Blk ga #[.string v.name, .int .i64 v.version, .int .i64 0, .int .i64 0, .int .i64 0, .bool false, .slice (some ⟨ge, 0, none⟩) E.length qe, .bool false] 47 (w7.setCell ⟨ga, 6, none⟩ (.slice (some ⟨ge, 0, none⟩) E.length qe))) := HA7.out.set 6 (.slice (some ⟨ge, 0, none⟩) E.length qe)
   have hB8 : Below w.heap.size w (w7.setCell ⟨ga, 6, none⟩ (.slice (some ⟨ge, 0, none⟩) E.length qe)) := hB7.setCell (by show w.heap.size ≤ ga; omega) _
   have HEN2 : Hid (SliceC SenC 2 w6.heap.size (w7.setCell ⟨ga, 6, none⟩ (.slice (some ⟨ge, 0, none⟩) E.length qe)) (some ⟨ge, 0, none⟩) E) := HEN.out.keep SenC.holds (Keeps.set (show (⟨ga, 6, none⟩ : Addr).block < w6.heap.size from hga6) _) (Nat.le_refl _)
   clear HB7 HV7 HA7 HR7 hB7
   generalize w7.setCell ⟨ga, 6, none⟩ (.slice (some ⟨ge, 0, none⟩) E.length qe) = w8 at *
   refine hKK.out _ _ ⟨HB8.out, HV8.out⟩ (fun hS => ?_)
   clear hKK KK HEN
   refine wpAnyH_done (by kernel_rfl) ?_ _
   clear hS
   have k_name : w8.cell? ⟨gv, 0, none⟩ = some (.string v.name) := HV8.out.cell rfl
   go_wp2_with (refine wpList_load_mid rfl 34 _ rfl w.heap.size 0 rfl [.int .i64 x.now, .slice a1 x.services.length c1, .slice a2 x.copies.length c2, .slice a3 x.berths.length c3] _ HB8.out.rangeA Tryz.underlying34 rfl isz_Sbk ?_)
   refine (count19_any x a1 c1 a2 c2 a3 c3 lo v.name _ (HN1.out.below SsvC.holds hB8 (Nat.le_refl _)) (HN2.out.below ScpC.holds hB8 (Nat.le_refl _)) (by have := HW.out.l1; omega) (by omega)).mono ?_
   rintro e w9 ⟨rfl, hb⟩
   have HB9 := Hid.intro (HB8.out.below hb HB8.out.lt)
   have HV9 := Hid.intro (HV8.out.below hb HV8.out.lt)
   have HA9 := Hid.intro (HA8.out.below hb HA8.out.lt)
   have HR9 := Hid.intro (HR8.out.below hb HR8.out.lt)
   have hB9 := hB8.trans (hb.mono hB8.size)
   clear HB8 HV8 HA8 HR8 hB8
   replace HEN2 := Hid.intro (HEN2.out.below SenC.holds hb (Nat.le_refl _))
   clear hb k_name
   have hsum := cntS_sum x v.name
   obtain ⟨T, hT⟩ : ∃ T, T = cntS x v.name := ⟨_, rfl⟩
   have HNO : Hid (noneB x v = (T.live + T.ending == 0)) := by show _ = _; unfold noneB; rw [hT]
   rw [← hT] at hsum ⊢
   clear hT
   have hza : Blk w9.heap.size #[.int .i64 0, .int .i64 0, .int .i64 0, .int .i64 0, .int .i64 0] 94 (w9.alloc (Obj.cells #[.int .i64 0, .int .i64 0, .int .i64 0, .int .i64 0, .int .i64 0] 94)) := Blk.alloc _ _ _
   have HTS : Hid ((w9.alloc (Obj.cells #[.int .i64 0, .int .i64 0, .int .i64 0, .int .i64 0, .int .i64 0] 94)).there w9.heap.size 0 5) := hza.there
   obtain ⟨w10, HWX⟩ : ∃ wz, Hid (wz = (w9.alloc (Obj.cells #[.int .i64 0, .int .i64 0, .int .i64 0, .int .i64 0, .int .i64 0] 94)).setCells w9.heap.size 0 [.int .i64 T.live, .int .i64 T.ready, .int .i64 T.old, .int .i64 T.failed, .int .i64 T.ending]) := ⟨_, rfl⟩
   have HT10 : Hid (Blk w9.heap.size #[.int .i64 T.live, .int .i64 T.ready, .int .i64 T.old, .int .i64 T.failed, .int .i64 T.ending] 94 w10) := by
    show Blk _ _ _ _
    rw [HWX.out]
    exact hza.setAll #[.int .i64 T.live, .int .i64 T.ready, .int .i64 T.old, .int .i64 T.failed, .int .i64 T.ending] rfl
   have hb : Below w9.heap.size w9 w10 := by
    rw [HWX.out]
    exact below_setCells (Nat.le_refl _) _ _ _ ((Below.refl _ w9).alloc (Nat.le_refl _) _)
   have HB10 := Hid.intro (HB9.out.below hb HB9.out.lt)
   have HV10 := Hid.intro (HV9.out.below hb HV9.out.lt)
   have HA10 := Hid.intro (HA9.out.below hb HA9.out.lt)
   have HR10 := Hid.intro (HR9.out.below hb HR9.out.lt)
   have hB10 := hB9.trans (hb.mono hB9.size)
   clear HB9 HV9 HA9 HR9 hB9
   replace HEN2 := Hid.intro (HEN2.out.below SenC.holds hb (Nat.le_refl _))
   clear hza hb
   go_upto_region 9 with (refine wpList_store_to rfl 94 _ _ rfl w9.heap.size 0 #[.int .i64 T.live, .int .i64 T.ready, .int .i64 T.old, .int .i64 T.failed, .int .i64 T.ending] (by first | rfl | (simp [go_sem]; done)) rfl HTS.out isz_Sct (by simp [Value.oneCell']) w10 HWX.out ?_)
   clear HTS HWX
   generalize w9.heap.size = gt at *
   have kt0 : w10.cell? ⟨gt, 0, none⟩ = some (.int .i64 T.live) := HT10.out.cell rfl
   have kt4 : w10.cell? ⟨gt, 4, none⟩ = some (.int .i64 T.ending) := HT10.out.cell rfl
   have HWR : IntKind.i64.wrap (T.live + T.ending) = T.live + T.ending := by rw [IntKind.wrap_i64]; omega
   have ka7 : w10.cell? ⟨ga, 7, none⟩ = some (.bool false) := HA10.out.cell rfl
   have fz7 : w10.frozen? ⟨ga, 7, none⟩ = false := HA10.out.frozen 7
   go_upto_region 10 with fail
   clear ka7 fz7 kt0 kt4
   rw [HNO.out] at HSC
   clear HNO
   have HB11 := Hid.intro (HB10.out.other (a := ⟨ga, 7, none⟩) (by show _ ≠ ga; omega) (.bool (T.live + T.ending == 0)))
   have HV11 := Hid.intro (HV10.out.other (a := ⟨ga, 7, none⟩) (by show _ ≠ ga; omega) (.bool (T.live + T.ending == 0)))
   have HR11 := Hid.intro (HR10.out.other (a := ⟨ga, 7, none⟩) (by show _ ≠ ga; omega) (.bool (T.live + T.ending == 0)))
   have HA11 : Hid (Blk ga #[.string v.name, .int .i64 v.version, .int .i64 0, .int .i64 0, .int .i64 0, .bool false, .slice (some ⟨ge, 0, none⟩) E.length qe, .bool (T.live + T.ending == 0)] 47 (w10.setCell ⟨ga, 7, none⟩ (.bool (T.live + T.ending == 0)))) := HA10.out.set 7 (.bool (T.live + T.ending == 0))
   have hB11 : Below w.heap.size w (w10.setCell ⟨ga, 7, none⟩ (.bool (T.live + T.ending == 0))) := hB10.setCell (by show w.heap.size ≤ ga; omega) _
   have HEN3 : Hid (SliceC SenC 2 w6.heap.size (w10.setCell ⟨ga, 7, none⟩ (.bool (T.live + T.ending == 0))) (some ⟨ge, 0, none⟩) E) := HEN2.out.keep SenC.holds (Keeps.set (show (⟨ga, 7, none⟩ : Addr).block < w6.heap.size from hga6) _) (Nat.le_refl _)
   clear HB10 HV10 HA10 HR10 hB10
   generalize w10.setCell ⟨ga, 7, none⟩ (.bool (T.live + T.ending == 0)) = w11 at *
   clear HEN2
   have HEN2 := HEN3
   clear HEN3
   have HTS := Hid.intro HR11.out.there
   obtain ⟨wf, HE⟩ : ∃ wf, Hid (wf = w11.setCells gr 0 [.string v.name, .int .i64 v.version, .int .i64 0, .int .i64 0, .int .i64 0, .bool false, .slice (some ⟨ge, 0, none⟩) E.length qe, .bool (T.live + T.ending == 0)]) := ⟨_, rfl⟩
   have HRf : Hid (wf.rangeAt gr 0 [.string v.name, .int .i64 v.version, .int .i64 0, .int .i64 0, .int .i64 0, .bool false, .slice (some ⟨ge, 0, none⟩) E.length qe, .bool (T.live + T.ending == 0)]) := by
    show World.rangeAt _ _ _ _
    rw [HE.out]
    exact World.rangeAt_setCells_same _ _ _ _ HTS.out
   have HBf : Hid (Below w.heap.size w wf) := by
    show Below _ _ _
    rw [HE.out]
    exact below_setCells (by omega) _ _ _ hB11
   have HENf : Hid (SliceC SenC 2 w6.heap.size wf (some ⟨ge, 0, none⟩) E) := by
    show SliceC _ _ _ _ _ _
    rw [HE.out]
    exact HEN2.out.keep SenC.holds (Keeps.setCells hgr6 _ _ _) (Nat.le_refl _)
   go_wp2_with (first | (refine wpList_load_mid rfl 47 _ rfl ga 0 rfl [.string v.name, .int .i64 v.version, .int .i64 0, .int .i64 0, .int .i64 0, .bool false, .slice (some ⟨ge, 0, none⟩) E.length qe, .bool (T.live + T.ending == 0)] _ HA11.out.rangeA Tryz.underlying47 rfl isz_Sac ?_) | (refine wpList_store_to rfl 47 _ _ rfl gr 0 #[.string v.name, .int .i64 v.version, .int .i64 0, .int .i64 0, .int .i64 0, .bool false, .slice (some ⟨ge, 0, none⟩) E.length qe, .bool (T.live + T.ending == 0)] (by first | rfl | (simp [go_sem]; done)) rfl HTS.out isz_Sac (by simp [Value.oneCell']) wf HE.out ?_))
   refine bodyPost_ret (results_cell_mid rfl _ _ gr [.string v.name, .int .i64 v.version, .int .i64 0, .int .i64 0, .int .i64 0, .bool false, .slice (some ⟨ge, 0, none⟩) E.length qe, .bool (T.live + T.ending == 0)] _ rfl HRf.out Tryz.underlying47 rfl isz_Sac) rfl ?_
   rw [HSC.out]
   exact ⟨_, qe, rfl, HENf.out.keep SenC.holds (Keeps.refl _ _) hww6, HBf.out⟩
  ·have h5b : (kd == 5) = false := by simpa using h5
   have HSC : Hid (actA kd x v = ⟨v.name, v.version, 0, 0, 0, false, [], false⟩) := by show _ = _; unfold actA; rw [if_neg h3, if_pos hg, if_neg h5]
   clear hg
   go_upto_region 10 with fail
   clear k_gone
   have HTS := Hid.intro HR4.out.there
   obtain ⟨wf, HE⟩ : ∃ wf, Hid (wf = w4.setCells gr 0 [.string v.name, .int .i64 v.version, .int .i64 0, .int .i64 0, .int .i64 0, .bool false, .slice none 0 0, .bool false]) := ⟨_, rfl⟩
   have HRf : Hid (wf.rangeAt gr 0 [.string v.name, .int .i64 v.version, .int .i64 0, .int .i64 0, .int .i64 0, .bool false, .slice none 0 0, .bool false]) := by
    show World.rangeAt _ _ _ _
    rw [HE.out]
    exact World.rangeAt_setCells_same _ _ _ _ HTS.out
   have HBf : Hid (Below w.heap.size w wf) := by
    show Below _ _ _
    rw [HE.out]
    exact below_setCells (by omega) _ _ _ hB4
   go_wp2_with (first | (refine wpList_load_mid rfl 47 _ rfl ga 0 rfl [.string v.name, .int .i64 v.version, .int .i64 0, .int .i64 0, .int .i64 0, .bool false, .slice none 0 0, .bool false] _ HA4.out.rangeA Tryz.underlying47 rfl isz_Sac ?_) | (refine wpList_store_to rfl 47 _ _ rfl gr 0 #[.string v.name, .int .i64 v.version, .int .i64 0, .int .i64 0, .int .i64 0, .bool false, .slice none 0 0, .bool false] (by first | rfl | (simp [go_sem]; done)) rfl HTS.out isz_Sac (by simp [Value.oneCell']) wf HE.out ?_))
   refine bodyPost_ret (results_cell_mid rfl _ _ gr [.string v.name, .int .i64 v.version, .int .i64 0, .int .i64 0, .int .i64 0, .bool false, .slice none 0 0, .bool false] _ rfl HRf.out Tryz.underlying47 rfl isz_Sac) rfl ?_
   rw [HSC.out]
   exact ⟨none, 0, rfl, SliceC.nil, HBf.out⟩
 have HNG : Hid (¬ v.gone = true) := by show ¬ _; rw [hg]; exact Bool.false_ne_true
 have k_gone : w4.cell? ⟨gv, 2, none⟩ = some (.bool false) := by rw [← hg]; exact HV4.out.cell rfl
 clear hg
 by_cases h1 : kd = 1
 ·subst h1
  have HSC : Hid (actA 1 x v = cuA x v) := by show _ = _; unfold actA; rw [if_neg (by decide), if_neg HNG.out, if_pos rfl]
  go_upto_region 13 with fail
  clear k_gone
  go_wp2_with (first | (refine wpList_load_mid rfl 34 _ rfl w.heap.size 0 rfl [.int .i64 x.now, .slice a1 x.services.length c1, .slice a2 x.copies.length c2, .slice a3 x.berths.length c3] _ HB4.out.rangeA Tryz.underlying34 rfl isz_Sbk ?_) | (refine wpList_load_mid rfl 50 _ rfl gv 0 rfl [.string v.name, .int .i64 v.version, .bool v.gone, .int .i64 v.image, .int .i64 v.want, .int .i64 v.down, .int .i64 v.over, .int .i64 v.next, .int .i64 v.per, .int .i64 v.least, .int .i64 v.most, .int .i64 v.load, .int .i64 v.cool] _ HV4.out.rangeA Tryz.underlying50 rfl isz_Ssv ?_) | (refine wpList_load_mid rfl 47 _ rfl ga 0 rfl [.string v.name, .int .i64 v.version, .int .i64 0, .int .i64 0, .int .i64 0, .bool false, .slice none 0 0, .bool false] _ HA4.out.rangeA Tryz.underlying47 rfl isz_Sac ?_))
  refine (counter_any x a1 c1 a2 c2 a3 c3 lo v _ (HN1.out.below SsvC.holds hB4 (Nat.le_refl _)) (HN2.out.below ScpC.holds hB4 (Nat.le_refl _)) (HN3.out.below SbtC.holds hB4 (Nat.le_refl _)) HW.out hl3 HNN.out).mono ?_
  rintro e w5 ⟨ae, ce, rfl, hen, hb⟩
  have hgr4 : gr < w4.heap.size := HR4.out.lt
  have hww4 : w.heap.size ≤ w4.heap.size := hB4.size
  have HB5 := Hid.intro (HB4.out.below hb HB4.out.lt)
  have HV5 := Hid.intro (HV4.out.below hb HV4.out.lt)
  have HA5 := Hid.intro (HA4.out.below hb HA4.out.lt)
  have HR5 := Hid.intro (HR4.out.below hb HR4.out.lt)
  have hB5 := hB4.trans (hb.mono hB4.size)
  clear HB4 HV4 HA4 HR4 hB4
  have HEN := Hid.intro hen
  clear hen hb
  obtain ⟨ac, hac⟩ : ∃ ac, ac = cuA x v := ⟨_, rfl⟩
  rw [← hac] at HEN HSC ⊢
  clear hac
  have HTS := Hid.intro HR5.out.there
  obtain ⟨wf, HE⟩ : ∃ wf, Hid (wf = w5.setCells gr 0 [.string ac.service, .int .i64 ac.seen, .int .i64 ac.create, .int .i64 ac.want, .int .i64 ac.cool, .bool ac.scale, .slice ae ac.ends.length ce, .bool ac.drop]) := ⟨_, rfl⟩
  have HRf : Hid (wf.rangeAt gr 0 [.string ac.service, .int .i64 ac.seen, .int .i64 ac.create, .int .i64 ac.want, .int .i64 ac.cool, .bool ac.scale, .slice ae ac.ends.length ce, .bool ac.drop]) := by
   show World.rangeAt _ _ _ _
   rw [HE.out]
   exact World.rangeAt_setCells_same _ _ _ _ HTS.out
  have HBf : Hid (Below w.heap.size w wf) := by
   show Below _ _ _
   rw [HE.out]
   exact below_setCells (by omega) _ _ _ hB5
  have HENf : Hid (SliceC SenC 2 w4.heap.size wf ae ac.ends) := by
   show SliceC _ _ _ _ _ _
   rw [HE.out]
   exact HEN.out.keep SenC.holds (Keeps.setCells hgr4 _ _ _) (Nat.le_refl _)
  go_wp2_with (refine wpList_store_to rfl 47 _ _ rfl gr 0 #[.string ac.service, .int .i64 ac.seen, .int .i64 ac.create, .int .i64 ac.want, .int .i64 ac.cool, .bool ac.scale, .slice ae ac.ends.length ce, .bool ac.drop] (by first | rfl | (simp [go_sem]; done)) rfl HTS.out isz_Sac (by simp [Value.oneCell']) wf HE.out ?_)
  refine bodyPost_ret (results_cell_mid rfl _ _ gr [.string ac.service, .int .i64 ac.seen, .int .i64 ac.create, .int .i64 ac.want, .int .i64 ac.cool, .bool ac.scale, .slice ae ac.ends.length ce, .bool ac.drop] _ rfl HRf.out Tryz.underlying47 rfl isz_Sac) rfl ?_
  rw [HSC.out]
  exact ⟨ae, ce, rfl, HENf.out.keep SenC.holds (Keeps.refl _ _) hww4, HBf.out⟩
 have h1b : (kd == 1) = false := by simpa using h1
 by_cases h2 : kd = 2
 ·subst h2
  have HSC : Hid (actA 2 x v = reA x v (someL x v 2)) := by show _ = _; unfold actA; rw [if_neg (by decide), if_neg HNG.out, if_neg (by decide), if_pos rfl]
  go_upto_region 15 with fail
  clear k_gone
  refine wp_region_held_drew (S := fun wy => Blk w.heap.size #[.int .i64 x.now, .slice a1 x.services.length c1, .slice a2 x.copies.length c2, .slice a3 x.berths.length c3] 34 wy ∧ Blk gv #[.string v.name, .int .i64 v.version, .bool v.gone, .int .i64 v.image, .int .i64 v.want, .int .i64 v.down, .int .i64 v.over, .int .i64 v.next, .int .i64 v.per, .int .i64 v.least, .int .i64 v.most, .int .i64 v.load, .int .i64 v.cool] 50 wy ∧ Blk ga #[.string v.name, .int .i64 v.version, .int .i64 0, .int .i64 0, .int .i64 0, .bool false, .slice none 0 0, .bool false] 47 wy) (by kernel_rfl) ⟨HB4.out.drew, HV4.out.drew, HA4.out.drew⟩ (fun hS => ?_)
  have hbd : Below w4.heap.size w4 w4.drew := (Below.refl _ _).drew
  have HB5 := Hid.intro (HB4.out.below hbd HB4.out.lt)
  have HV5 := Hid.intro (HV4.out.below hbd HV4.out.lt)
  have HA5 := Hid.intro (HA4.out.below hbd HA4.out.lt)
  have HR5 := Hid.intro (HR4.out.below hbd HR4.out.lt)
  have hB5 := hB4.trans (hbd.mono hB4.size)
  clear HB4 HV4 HA4 HR4 hB4
  clear hbd
  generalize w4.drew = w5 at *
  refine tm 0 56 w.heap.size 0 [.int .i64 x.now, .slice a1 x.services.length c1, .slice a2 x.copies.length c2, .slice a3 x.berths.length c3] rfl (fun _ h => h.1.rangeA) Tryz.underlying34 isz_Sbk hS ?_
  simp only [pA,pB,pC,pD]
  refine tm 1 57 gv 0 [.string v.name, .int .i64 v.version, .bool v.gone, .int .i64 v.image, .int .i64 v.want, .int .i64 v.down, .int .i64 v.over, .int .i64 v.next, .int .i64 v.per, .int .i64 v.least, .int .i64 v.most, .int .i64 v.load, .int .i64 v.cool] rfl (fun _ h => h.2.1.rangeA) Tryz.underlying50 isz_Ssv hS ?_
  simp only [pA,pB,pC,pD]
  refine tm 2 58 ga 0 [.string v.name, .int .i64 v.version, .int .i64 0, .int .i64 0, .int .i64 0, .bool false, .slice none 0 0, .bool false] rfl (fun _ h => h.2.2.rangeA) Tryz.underlying47 isz_Sac hS ?_
  simp only [pA,pB,pC,pD]
  refine tm 3 59 w.heap.size 0 [.int .i64 x.now, .slice a1 x.services.length c1, .slice a2 x.copies.length c2, .slice a3 x.berths.length c3] rfl (fun _ h => h.1.rangeA) Tryz.underlying34 isz_Sbk hS ?_
  simp only [pA,pB,pC,pD]
  refine tm 4 60 gv 0 [.string v.name, .int .i64 v.version, .bool v.gone, .int .i64 v.image, .int .i64 v.want, .int .i64 v.down, .int .i64 v.over, .int .i64 v.next, .int .i64 v.per, .int .i64 v.least, .int .i64 v.most, .int .i64 v.load, .int .i64 v.cool] rfl (fun _ h => h.2.1.rangeA) Tryz.underlying50 isz_Ssv hS ?_
  simp only [pA,pB,pC,pD]
  refine tz 5 61 (.int .i64 2) rfl hS ?_
  simp only [pA,pB,pC,pD]
  refine rd1 6 ⟨some 62, _, _, _, _, none⟩ rfl (fun KK hKK => ?_)
  go_simp
  refine (some_any x a1 c1 a2 c2 a3 c3 lo v 2 _ (HN2.out.below ScpC.holds hB5 (Nat.le_refl _)) (HN3.out.below SbtC.holds hB5 (Nat.le_refl _)) (by omega) hl3 (.inl rfl)).mono ?_
  rintro e w6 ⟨gp, qp, rfl, hpl, hb⟩
  have hga5 : ga < w5.heap.size := HA5.out.lt
  have hgr5 : gr < w5.heap.size := HR5.out.lt
  have hww5 : w.heap.size ≤ w5.heap.size := hB5.size
  have HB6 := Hid.intro (HB5.out.below hb HB5.out.lt)
  have HV6 := Hid.intro (HV5.out.below hb HV5.out.lt)
  have HA6 := Hid.intro (HA5.out.below hb HA5.out.lt)
  have HR6 := Hid.intro (HR5.out.below hb HR5.out.lt)
  have hB6 := hB5.trans (hb.mono hB5.size)
  clear HB5 HV5 HA5 HR5 hB5
  refine hKK.out _ _ ⟨HB6.out, HV6.out, HA6.out⟩ (fun hS => ?_)
  clear hKK KK hb
  have HPL := Hid.intro hpl
  clear hpl
  refine rd1 7 ⟨some 63, _, _, _, _, none⟩ rfl (fun KK hKK => ?_)
  go_simp
  refine (replace_any x a1 c1 a2 c2 a3 c3 lo v _ (someL x v 2) _ qp _ (HN1.out.below SsvC.holds hB6 (Nat.le_refl _)) (HN2.out.below ScpC.holds hB6 (Nat.le_refl _)) (HN3.out.below SbtC.holds hB6 (Nat.le_refl _)) HW.out hl3 HNN.out HPL.out some_in (Nat.le_trans (some_len hl2 v 2) (by omega))).mono ?_
  rintro e w7 ⟨ae, ce, rfl, hen, hb⟩
  have hga6 : ga < w6.heap.size := HA6.out.lt
  have hgr6 : gr < w6.heap.size := HR6.out.lt
  have hww6 : w.heap.size ≤ w6.heap.size := hB6.size
  have HB7 := Hid.intro (HB6.out.below hb HB6.out.lt)
  have HV7 := Hid.intro (HV6.out.below hb HV6.out.lt)
  have HA7 := Hid.intro (HA6.out.below hb HA6.out.lt)
  have HR7 := Hid.intro (HR6.out.below hb HR6.out.lt)
  have hB7 := hB6.trans (hb.mono hB6.size)
  clear HB6 HV6 HA6 HR6 hB6
  refine hKK.out _ _ ⟨HB7.out, HV7.out, HA7.out⟩ (fun hS => ?_)
  clear hKK KK hb
  have HEN := Hid.intro hen
  clear hen HPL
  obtain ⟨ac, hac⟩ : ∃ ac, ac = reA x v (someL x v 2) := ⟨_, rfl⟩
  rw [← hac] at HEN HSC ⊢
  clear hac
  refine rd1 8 ⟨none, _, _, _, _, none⟩ rfl (fun KK hKK => ?_)
  rw [if_pos (by rfl)]
  refine wp_store_mid 47 (.tmp 6) (.tmp 63) (by rfl) gr 0 #[.string ac.service, .int .i64 ac.seen, .int .i64 ac.create, .int .i64 ac.want, .int .i64 ac.cool, .bool ac.scale, .slice ae ac.ends.length ce, .bool ac.drop] (by rfl) (by rfl) HR7.out.there isz_Sac (by simp [Value.oneCell']) ?_
  have HGf : Hid (Blk gr #[.string ac.service, .int .i64 ac.seen, .int .i64 ac.create, .int .i64 ac.want, .int .i64 ac.cool, .bool ac.scale, .slice ae ac.ends.length ce, .bool ac.drop] 47 (w7.setCells gr 0 [.string ac.service, .int .i64 ac.seen, .int .i64 ac.create, .int .i64 ac.want, .int .i64 ac.cool, .bool ac.scale, .slice ae ac.ends.length ce, .bool ac.drop])) := HR7.out.setAll #[.string ac.service, .int .i64 ac.seen, .int .i64 ac.create, .int .i64 ac.want, .int .i64 ac.cool, .bool ac.scale, .slice ae ac.ends.length ce, .bool ac.drop] rfl
  have HBo : Hid (Blk w.heap.size #[.int .i64 x.now, .slice a1 x.services.length c1, .slice a2 x.copies.length c2, .slice a3 x.berths.length c3] 34 (w7.setCells gr 0 [.string ac.service, .int .i64 ac.seen, .int .i64 ac.create, .int .i64 ac.want, .int .i64 ac.cool, .bool ac.scale, .slice ae ac.ends.length ce, .bool ac.drop])) := blk_setCells_other (by omega) _ _ _ HB7.out
  have HVo : Hid (Blk gv #[.string v.name, .int .i64 v.version, .bool v.gone, .int .i64 v.image, .int .i64 v.want, .int .i64 v.down, .int .i64 v.over, .int .i64 v.next, .int .i64 v.per, .int .i64 v.least, .int .i64 v.most, .int .i64 v.load, .int .i64 v.cool] 50 (w7.setCells gr 0 [.string ac.service, .int .i64 ac.seen, .int .i64 ac.create, .int .i64 ac.want, .int .i64 ac.cool, .bool ac.scale, .slice ae ac.ends.length ce, .bool ac.drop])) := blk_setCells_other (by omega) _ _ _ HV7.out
  have HAo : Hid (Blk ga #[.string v.name, .int .i64 v.version, .int .i64 0, .int .i64 0, .int .i64 0, .bool false, .slice none 0 0, .bool false] 47 (w7.setCells gr 0 [.string ac.service, .int .i64 ac.seen, .int .i64 ac.create, .int .i64 ac.want, .int .i64 ac.cool, .bool ac.scale, .slice ae ac.ends.length ce, .bool ac.drop])) := blk_setCells_other (by omega) _ _ _ HA7.out
  have HBf : Hid (Below w.heap.size w (w7.setCells gr 0 [.string ac.service, .int .i64 ac.seen, .int .i64 ac.create, .int .i64 ac.want, .int .i64 ac.cool, .bool ac.scale, .slice ae ac.ends.length ce, .bool ac.drop])) := below_setCells (by omega) _ _ _ hB7
  have HENf : Hid (SliceC SenC 2 w6.heap.size (w7.setCells gr 0 [.string ac.service, .int .i64 ac.seen, .int .i64 ac.create, .int .i64 ac.want, .int .i64 ac.cool, .bool ac.scale, .slice ae ac.ends.length ce, .bool ac.drop]) ae ac.ends) := HEN.out.keep SenC.holds (Keeps.setCells hgr6 _ _ _) (Nat.le_refl _)
  refine hKK.out _ _ ⟨HBo.out, HVo.out, HAo.out⟩ (fun hS => ?_)
  clear hKK KK hS
  refine wpAnyH_done (by kernel_rfl) ?_ _
  generalize w7.setCells gr 0 [.string ac.service, .int .i64 ac.seen, .int .i64 ac.create, .int .i64 ac.want, .int .i64 ac.cool, .bool ac.scale, .slice ae ac.ends.length ce, .bool ac.drop] = wf at *
  have HRf := Hid.intro HGf.out.rangeA
  go_wp2_with fail
  refine bodyPost_ret (results_cell_mid rfl _ _ gr [.string ac.service, .int .i64 ac.seen, .int .i64 ac.create, .int .i64 ac.want, .int .i64 ac.cool, .bool ac.scale, .slice ae ac.ends.length ce, .bool ac.drop] _ rfl HRf.out Tryz.underlying47 rfl isz_Sac) rfl ?_
  rw [HSC.out]
  exact ⟨ae, ce, rfl, HENf.out.keep SenC.holds (Keeps.refl _ _) hww6, HBf.out⟩
 have h2b : (kd == 2) = false := by simpa using h2
 by_cases h6 : kd = 6
 ·subst h6
  have HSC0 : Hid (actA 6 x v = if (someL x v 2).length = 0 then reA x v (someL x v 6) else ⟨v.name, v.version, 0, 0, 0, false, [], false⟩) := by show _ = _; unfold actA; rw [if_neg (by decide), if_neg HNG.out, if_neg (by decide), if_neg (by decide), if_pos rfl]
  go_upto_region 17 with fail
  clear k_gone
  go_wp2_with (first | (refine wpList_load_mid rfl 34 _ rfl w.heap.size 0 rfl [.int .i64 x.now, .slice a1 x.services.length c1, .slice a2 x.copies.length c2, .slice a3 x.berths.length c3] _ HB4.out.rangeA Tryz.underlying34 rfl isz_Sbk ?_) | (refine wpList_load_mid rfl 50 _ rfl gv 0 rfl [.string v.name, .int .i64 v.version, .bool v.gone, .int .i64 v.image, .int .i64 v.want, .int .i64 v.down, .int .i64 v.over, .int .i64 v.next, .int .i64 v.per, .int .i64 v.least, .int .i64 v.most, .int .i64 v.load, .int .i64 v.cool] _ HV4.out.rangeA Tryz.underlying50 rfl isz_Ssv ?_))
  refine (some_any x a1 c1 a2 c2 a3 c3 lo v 2 _ (HN2.out.below ScpC.holds hB4 (Nat.le_refl _)) (HN3.out.below SbtC.holds hB4 (Nat.le_refl _)) (by omega) hl3 (.inl rfl)).mono ?_
  rintro e w5 ⟨g2, q2, rfl, _, hb⟩
  have HB5 := Hid.intro (HB4.out.below hb HB4.out.lt)
  have HV5 := Hid.intro (HV4.out.below hb HV4.out.lt)
  have HA5 := Hid.intro (HA4.out.below hb HA4.out.lt)
  have HR5 := Hid.intro (HR4.out.below hb HR4.out.lt)
  have hB5 := hB4.trans (hb.mono hB4.size)
  clear HB4 HV4 HA4 HR4 hB4
  clear hb
  obtain ⟨M, hM⟩ : ∃ M, M = (someL x v 2).length := ⟨_, rfl⟩
  rw [← hM] at HSC0 ⊢
  clear hM
  by_cases hz : M = 0
  ·have hzb : ((M : Int) == 0) = true := by rw [hz]; rfl
   have HSC : Hid (actA 6 x v = reA x v (someL x v 6)) := by show _ = _; rw [HSC0.out, if_pos hz]
   clear HSC0
   go_upto_region 18 with fail
   refine wp_region_held_drew (S := fun wy => Blk w.heap.size #[.int .i64 x.now, .slice a1 x.services.length c1, .slice a2 x.copies.length c2, .slice a3 x.berths.length c3] 34 wy ∧ Blk gv #[.string v.name, .int .i64 v.version, .bool v.gone, .int .i64 v.image, .int .i64 v.want, .int .i64 v.down, .int .i64 v.over, .int .i64 v.next, .int .i64 v.per, .int .i64 v.least, .int .i64 v.most, .int .i64 v.load, .int .i64 v.cool] 50 wy ∧ Blk ga #[.string v.name, .int .i64 v.version, .int .i64 0, .int .i64 0, .int .i64 0, .bool false, .slice none 0 0, .bool false] 47 wy) (by kernel_rfl) ⟨HB5.out.drew, HV5.out.drew, HA5.out.drew⟩ (fun hS => ?_)
   have hbd : Below w5.heap.size w5 w5.drew := (Below.refl _ _).drew
   have HB6 := Hid.intro (HB5.out.below hbd HB5.out.lt)
   have HV6 := Hid.intro (HV5.out.below hbd HV5.out.lt)
   have HA6 := Hid.intro (HA5.out.below hbd HA5.out.lt)
   have HR6 := Hid.intro (HR5.out.below hbd HR5.out.lt)
   have hB6 := hB5.trans (hbd.mono hB5.size)
   clear HB5 HV5 HA5 HR5 hB5
   clear hbd
   generalize w5.drew = w6 at *
   refine tm 0 71 w.heap.size 0 [.int .i64 x.now, .slice a1 x.services.length c1, .slice a2 x.copies.length c2, .slice a3 x.berths.length c3] rfl (fun _ h => h.1.rangeA) Tryz.underlying34 isz_Sbk hS ?_
   simp only [pA,pB,pC,pD]
   refine tm 1 72 gv 0 [.string v.name, .int .i64 v.version, .bool v.gone, .int .i64 v.image, .int .i64 v.want, .int .i64 v.down, .int .i64 v.over, .int .i64 v.next, .int .i64 v.per, .int .i64 v.least, .int .i64 v.most, .int .i64 v.load, .int .i64 v.cool] rfl (fun _ h => h.2.1.rangeA) Tryz.underlying50 isz_Ssv hS ?_
   simp only [pA,pB,pC,pD]
   refine tm 2 73 ga 0 [.string v.name, .int .i64 v.version, .int .i64 0, .int .i64 0, .int .i64 0, .bool false, .slice none 0 0, .bool false] rfl (fun _ h => h.2.2.rangeA) Tryz.underlying47 isz_Sac hS ?_
   simp only [pA,pB,pC,pD]
   refine tm 3 74 w.heap.size 0 [.int .i64 x.now, .slice a1 x.services.length c1, .slice a2 x.copies.length c2, .slice a3 x.berths.length c3] rfl (fun _ h => h.1.rangeA) Tryz.underlying34 isz_Sbk hS ?_
   simp only [pA,pB,pC,pD]
   refine tm 4 75 gv 0 [.string v.name, .int .i64 v.version, .bool v.gone, .int .i64 v.image, .int .i64 v.want, .int .i64 v.down, .int .i64 v.over, .int .i64 v.next, .int .i64 v.per, .int .i64 v.least, .int .i64 v.most, .int .i64 v.load, .int .i64 v.cool] rfl (fun _ h => h.2.1.rangeA) Tryz.underlying50 isz_Ssv hS ?_
   simp only [pA,pB,pC,pD]
   refine tz 5 76 (.int .i64 6) rfl hS ?_
   simp only [pA,pB,pC,pD]
   refine rd1 6 ⟨some 77, _, _, _, _, none⟩ rfl (fun KK hKK => ?_)
   go_simp
   refine (some_any x a1 c1 a2 c2 a3 c3 lo v 6 _ (HN2.out.below ScpC.holds hB6 (Nat.le_refl _)) (HN3.out.below SbtC.holds hB6 (Nat.le_refl _)) (by omega) hl3 (.inr (.inr rfl))).mono ?_
   rintro e w7 ⟨gp, qp, rfl, hpl, hb⟩
   have hga6 : ga < w6.heap.size := HA6.out.lt
   have hgr6 : gr < w6.heap.size := HR6.out.lt
   have hww6 : w.heap.size ≤ w6.heap.size := hB6.size
   have HB7 := Hid.intro (HB6.out.below hb HB6.out.lt)
   have HV7 := Hid.intro (HV6.out.below hb HV6.out.lt)
   have HA7 := Hid.intro (HA6.out.below hb HA6.out.lt)
   have HR7 := Hid.intro (HR6.out.below hb HR6.out.lt)
   have hB7 := hB6.trans (hb.mono hB6.size)
   clear HB6 HV6 HA6 HR6 hB6
   refine hKK.out _ _ ⟨HB7.out, HV7.out, HA7.out⟩ (fun hS => ?_)
   clear hKK KK hb
   have HPL := Hid.intro hpl
   clear hpl
   refine rd1 7 ⟨some 78, _, _, _, _, none⟩ rfl (fun KK hKK => ?_)
   go_simp
   refine (replace_any x a1 c1 a2 c2 a3 c3 lo v _ (someL x v 6) _ qp _ (HN1.out.below SsvC.holds hB7 (Nat.le_refl _)) (HN2.out.below ScpC.holds hB7 (Nat.le_refl _)) (HN3.out.below SbtC.holds hB7 (Nat.le_refl _)) HW.out hl3 HNN.out HPL.out some_in (Nat.le_trans (some_len hl2 v 6) (by omega))).mono ?_
   rintro e w8 ⟨ae, ce, rfl, hen, hb⟩
   have hga7 : ga < w7.heap.size := HA7.out.lt
   have hgr7 : gr < w7.heap.size := HR7.out.lt
   have hww7 : w.heap.size ≤ w7.heap.size := hB7.size
   have HB8 := Hid.intro (HB7.out.below hb HB7.out.lt)
   have HV8 := Hid.intro (HV7.out.below hb HV7.out.lt)
   have HA8 := Hid.intro (HA7.out.below hb HA7.out.lt)
   have HR8 := Hid.intro (HR7.out.below hb HR7.out.lt)
   have hB8 := hB7.trans (hb.mono hB7.size)
   clear HB7 HV7 HA7 HR7 hB7
   refine hKK.out _ _ ⟨HB8.out, HV8.out, HA8.out⟩ (fun hS => ?_)
   clear hKK KK hb
   have HEN := Hid.intro hen
   clear hen HPL
   obtain ⟨ac, hac⟩ : ∃ ac, ac = reA x v (someL x v 6) := ⟨_, rfl⟩
   rw [← hac] at HEN HSC ⊢
   clear hac
   refine rd1 8 ⟨none, _, _, _, _, none⟩ rfl (fun KK hKK => ?_)
   rw [if_pos (by rfl)]
   refine wp_store_mid 47 (.tmp 6) (.tmp 78) (by rfl) gr 0 #[.string ac.service, .int .i64 ac.seen, .int .i64 ac.create, .int .i64 ac.want, .int .i64 ac.cool, .bool ac.scale, .slice ae ac.ends.length ce, .bool ac.drop] (by rfl) (by rfl) HR8.out.there isz_Sac (by simp [Value.oneCell']) ?_
   have HGf : Hid (Blk gr #[.string ac.service, .int .i64 ac.seen, .int .i64 ac.create, .int .i64 ac.want, .int .i64 ac.cool, .bool ac.scale, .slice ae ac.ends.length ce, .bool ac.drop] 47 (w8.setCells gr 0 [.string ac.service, .int .i64 ac.seen, .int .i64 ac.create, .int .i64 ac.want, .int .i64 ac.cool, .bool ac.scale, .slice ae ac.ends.length ce, .bool ac.drop])) := HR8.out.setAll #[.string ac.service, .int .i64 ac.seen, .int .i64 ac.create, .int .i64 ac.want, .int .i64 ac.cool, .bool ac.scale, .slice ae ac.ends.length ce, .bool ac.drop] rfl
   have HBo : Hid (Blk w.heap.size #[.int .i64 x.now, .slice a1 x.services.length c1, .slice a2 x.copies.length c2, .slice a3 x.berths.length c3] 34 (w8.setCells gr 0 [.string ac.service, .int .i64 ac.seen, .int .i64 ac.create, .int .i64 ac.want, .int .i64 ac.cool, .bool ac.scale, .slice ae ac.ends.length ce, .bool ac.drop])) := blk_setCells_other (by omega) _ _ _ HB8.out
   have HVo : Hid (Blk gv #[.string v.name, .int .i64 v.version, .bool v.gone, .int .i64 v.image, .int .i64 v.want, .int .i64 v.down, .int .i64 v.over, .int .i64 v.next, .int .i64 v.per, .int .i64 v.least, .int .i64 v.most, .int .i64 v.load, .int .i64 v.cool] 50 (w8.setCells gr 0 [.string ac.service, .int .i64 ac.seen, .int .i64 ac.create, .int .i64 ac.want, .int .i64 ac.cool, .bool ac.scale, .slice ae ac.ends.length ce, .bool ac.drop])) := blk_setCells_other (by omega) _ _ _ HV8.out
   have HAo : Hid (Blk ga #[.string v.name, .int .i64 v.version, .int .i64 0, .int .i64 0, .int .i64 0, .bool false, .slice none 0 0, .bool false] 47 (w8.setCells gr 0 [.string ac.service, .int .i64 ac.seen, .int .i64 ac.create, .int .i64 ac.want, .int .i64 ac.cool, .bool ac.scale, .slice ae ac.ends.length ce, .bool ac.drop])) := blk_setCells_other (by omega) _ _ _ HA8.out
   have HBf : Hid (Below w.heap.size w (w8.setCells gr 0 [.string ac.service, .int .i64 ac.seen, .int .i64 ac.create, .int .i64 ac.want, .int .i64 ac.cool, .bool ac.scale, .slice ae ac.ends.length ce, .bool ac.drop])) := below_setCells (by omega) _ _ _ hB8
   have HENf : Hid (SliceC SenC 2 w7.heap.size (w8.setCells gr 0 [.string ac.service, .int .i64 ac.seen, .int .i64 ac.create, .int .i64 ac.want, .int .i64 ac.cool, .bool ac.scale, .slice ae ac.ends.length ce, .bool ac.drop]) ae ac.ends) := HEN.out.keep SenC.holds (Keeps.setCells hgr7 _ _ _) (Nat.le_refl _)
   refine hKK.out _ _ ⟨HBo.out, HVo.out, HAo.out⟩ (fun hS => ?_)
   clear hKK KK hS
   refine wpAnyH_done (by kernel_rfl) ?_ _
   generalize w8.setCells gr 0 [.string ac.service, .int .i64 ac.seen, .int .i64 ac.create, .int .i64 ac.want, .int .i64 ac.cool, .bool ac.scale, .slice ae ac.ends.length ce, .bool ac.drop] = wf at *
   have HRf := Hid.intro HGf.out.rangeA
   go_wp2_with fail
   refine bodyPost_ret (results_cell_mid rfl _ _ gr [.string ac.service, .int .i64 ac.seen, .int .i64 ac.create, .int .i64 ac.want, .int .i64 ac.cool, .bool ac.scale, .slice ae ac.ends.length ce, .bool ac.drop] _ rfl HRf.out Tryz.underlying47 rfl isz_Sac) rfl ?_
   rw [HSC.out]
   exact ⟨ae, ce, rfl, HENf.out.keep SenC.holds (Keeps.refl _ _) hww7, HBf.out⟩
  ·have hzb : ((M : Int) == 0) = false := by simpa using hz
   have HSC : Hid (actA 6 x v = ⟨v.name, v.version, 0, 0, 0, false, [], false⟩) := by show _ = _; rw [HSC0.out, if_neg hz]
   clear HSC0
   go_upto_region 22 with fail
   have HTS := Hid.intro HR5.out.there
   obtain ⟨wf, HE⟩ : ∃ wf, Hid (wf = w5.setCells gr 0 [.string v.name, .int .i64 v.version, .int .i64 0, .int .i64 0, .int .i64 0, .bool false, .slice none 0 0, .bool false]) := ⟨_, rfl⟩
   have HRf : Hid (wf.rangeAt gr 0 [.string v.name, .int .i64 v.version, .int .i64 0, .int .i64 0, .int .i64 0, .bool false, .slice none 0 0, .bool false]) := by
    show World.rangeAt _ _ _ _
    rw [HE.out]
    exact World.rangeAt_setCells_same _ _ _ _ HTS.out
   have HBf : Hid (Below w.heap.size w wf) := by
    show Below _ _ _
    rw [HE.out]
    exact below_setCells (by omega) _ _ _ hB5
   go_wp2_with (first | (refine wpList_load_mid rfl 47 _ rfl ga 0 rfl [.string v.name, .int .i64 v.version, .int .i64 0, .int .i64 0, .int .i64 0, .bool false, .slice none 0 0, .bool false] _ HA5.out.rangeA Tryz.underlying47 rfl isz_Sac ?_) | (refine wpList_store_to rfl 47 _ _ rfl gr 0 #[.string v.name, .int .i64 v.version, .int .i64 0, .int .i64 0, .int .i64 0, .bool false, .slice none 0 0, .bool false] (by first | rfl | (simp [go_sem]; done)) rfl HTS.out isz_Sac (by simp [Value.oneCell']) wf HE.out ?_))
   refine bodyPost_ret (results_cell_mid rfl _ _ gr [.string v.name, .int .i64 v.version, .int .i64 0, .int .i64 0, .int .i64 0, .bool false, .slice none 0 0, .bool false] _ rfl HRf.out Tryz.underlying47 rfl isz_Sac) rfl ?_
   rw [HSC.out]
   exact ⟨none, 0, rfl, SliceC.nil, HBf.out⟩
 have h6b : (kd == 6) = false := by simpa using h6
 by_cases h4 : kd = 4
 ·subst h4
  have k_per : w4.cell? ⟨gv, 8, none⟩ = some (.int .i64 v.per) := HV4.out.cell rfl
  by_cases hp : 0 < v.per
  ·have HSC : Hid (actA 4 x v = scA v) := by show _ = _; unfold actA; rw [if_neg (by decide), if_neg HNG.out, if_neg (by decide), if_neg (by decide), if_neg (by decide), if_pos rfl, if_pos hp]
   go_upto_region 21 with fail
   clear k_gone k_per
   go_wp2_with (first | (refine wpList_load_mid rfl 50 _ rfl gv 0 rfl [.string v.name, .int .i64 v.version, .bool v.gone, .int .i64 v.image, .int .i64 v.want, .int .i64 v.down, .int .i64 v.over, .int .i64 v.next, .int .i64 v.per, .int .i64 v.least, .int .i64 v.most, .int .i64 v.load, .int .i64 v.cool] _ HV4.out.rangeA Tryz.underlying50 rfl isz_Ssv ?_) | (refine wpList_load_mid rfl 47 _ rfl ga 0 rfl [.string v.name, .int .i64 v.version, .int .i64 0, .int .i64 0, .int .i64 0, .bool false, .slice none 0 0, .bool false] _ HA4.out.rangeA Tryz.underlying47 rfl isz_Sac ?_))
   refine (scaler_any v _ HNN.out hp).mono ?_
   rintro e w5 ⟨ae, ce, rfl, hen, hb⟩
   have hgr4 : gr < w4.heap.size := HR4.out.lt
   have hww4 : w.heap.size ≤ w4.heap.size := hB4.size
   have HB5 := Hid.intro (HB4.out.below hb HB4.out.lt)
   have HV5 := Hid.intro (HV4.out.below hb HV4.out.lt)
   have HA5 := Hid.intro (HA4.out.below hb HA4.out.lt)
   have HR5 := Hid.intro (HR4.out.below hb HR4.out.lt)
   have hB5 := hB4.trans (hb.mono hB4.size)
   clear HB4 HV4 HA4 HR4 hB4
   have HEN := Hid.intro hen
   clear hen hb
   obtain ⟨ac, hac⟩ : ∃ ac, ac = scA v := ⟨_, rfl⟩
   rw [← hac] at HEN HSC ⊢
   clear hac
   have HTS := Hid.intro HR5.out.there
   obtain ⟨wf, HE⟩ : ∃ wf, Hid (wf = w5.setCells gr 0 [.string ac.service, .int .i64 ac.seen, .int .i64 ac.create, .int .i64 ac.want, .int .i64 ac.cool, .bool ac.scale, .slice ae ac.ends.length ce, .bool ac.drop]) := ⟨_, rfl⟩
   have HRf : Hid (wf.rangeAt gr 0 [.string ac.service, .int .i64 ac.seen, .int .i64 ac.create, .int .i64 ac.want, .int .i64 ac.cool, .bool ac.scale, .slice ae ac.ends.length ce, .bool ac.drop]) := by
    show World.rangeAt _ _ _ _
    rw [HE.out]
    exact World.rangeAt_setCells_same _ _ _ _ HTS.out
   have HBf : Hid (Below w.heap.size w wf) := by
    show Below _ _ _
    rw [HE.out]
    exact below_setCells (by omega) _ _ _ hB5
   have HENf : Hid (SliceC SenC 2 w4.heap.size wf ae ac.ends) := by
    show SliceC _ _ _ _ _ _
    rw [HE.out]
    exact HEN.out.keep SenC.holds (Keeps.setCells hgr4 _ _ _) (Nat.le_refl _)
   go_wp2_with (refine wpList_store_to rfl 47 _ _ rfl gr 0 #[.string ac.service, .int .i64 ac.seen, .int .i64 ac.create, .int .i64 ac.want, .int .i64 ac.cool, .bool ac.scale, .slice ae ac.ends.length ce, .bool ac.drop] (by first | rfl | (simp [go_sem]; done)) rfl HTS.out isz_Sac (by simp [Value.oneCell']) wf HE.out ?_)
   refine bodyPost_ret (results_cell_mid rfl _ _ gr [.string ac.service, .int .i64 ac.seen, .int .i64 ac.create, .int .i64 ac.want, .int .i64 ac.cool, .bool ac.scale, .slice ae ac.ends.length ce, .bool ac.drop] _ rfl HRf.out Tryz.underlying47 rfl isz_Sac) rfl ?_
   rw [HSC.out]
   exact ⟨ae, ce, rfl, HENf.out.keep SenC.holds (Keeps.refl _ _) hww4, HBf.out⟩
  ·have HSC : Hid (actA 4 x v = ⟨v.name, v.version, 0, 0, 0, false, [], false⟩) := by show _ = _; unfold actA; rw [if_neg (by decide), if_neg HNG.out, if_neg (by decide), if_neg (by decide), if_neg (by decide), if_pos rfl, if_neg hp]
   have hp' : v.per ≤ 0 := by omega
   go_upto_region 22 with fail
   clear k_gone k_per
   have HTS := Hid.intro HR4.out.there
   obtain ⟨wf, HE⟩ : ∃ wf, Hid (wf = w4.setCells gr 0 [.string v.name, .int .i64 v.version, .int .i64 0, .int .i64 0, .int .i64 0, .bool false, .slice none 0 0, .bool false]) := ⟨_, rfl⟩
   have HRf : Hid (wf.rangeAt gr 0 [.string v.name, .int .i64 v.version, .int .i64 0, .int .i64 0, .int .i64 0, .bool false, .slice none 0 0, .bool false]) := by
    show World.rangeAt _ _ _ _
    rw [HE.out]
    exact World.rangeAt_setCells_same _ _ _ _ HTS.out
   have HBf : Hid (Below w.heap.size w wf) := by
    show Below _ _ _
    rw [HE.out]
    exact below_setCells (by omega) _ _ _ hB4
   go_wp2_with (first | (refine wpList_load_mid rfl 47 _ rfl ga 0 rfl [.string v.name, .int .i64 v.version, .int .i64 0, .int .i64 0, .int .i64 0, .bool false, .slice none 0 0, .bool false] _ HA4.out.rangeA Tryz.underlying47 rfl isz_Sac ?_) | (refine wpList_store_to rfl 47 _ _ rfl gr 0 #[.string v.name, .int .i64 v.version, .int .i64 0, .int .i64 0, .int .i64 0, .bool false, .slice none 0 0, .bool false] (by first | rfl | (simp [go_sem]; done)) rfl HTS.out isz_Sac (by simp [Value.oneCell']) wf HE.out ?_))
   refine bodyPost_ret (results_cell_mid rfl _ _ gr [.string v.name, .int .i64 v.version, .int .i64 0, .int .i64 0, .int .i64 0, .bool false, .slice none 0 0, .bool false] _ rfl HRf.out Tryz.underlying47 rfl isz_Sac) rfl ?_
   rw [HSC.out]
   exact ⟨none, 0, rfl, SliceC.nil, HBf.out⟩
 have h4b : (kd == 4) = false := by simpa using h4
 have HSC : Hid (actA kd x v = ⟨v.name, v.version, 0, 0, 0, false, [], false⟩) := by show _ = _; unfold actA; rw [if_neg h3, if_neg HNG.out, if_neg h1, if_neg h2, if_neg h6, if_neg h4]
 go_upto_region 22 with fail
 clear k_gone
 have HTS := Hid.intro HR4.out.there
 obtain ⟨wf, HE⟩ : ∃ wf, Hid (wf = w4.setCells gr 0 [.string v.name, .int .i64 v.version, .int .i64 0, .int .i64 0, .int .i64 0, .bool false, .slice none 0 0, .bool false]) := ⟨_, rfl⟩
 have HRf : Hid (wf.rangeAt gr 0 [.string v.name, .int .i64 v.version, .int .i64 0, .int .i64 0, .int .i64 0, .bool false, .slice none 0 0, .bool false]) := by
  show World.rangeAt _ _ _ _
  rw [HE.out]
  exact World.rangeAt_setCells_same _ _ _ _ HTS.out
 have HBf : Hid (Below w.heap.size w wf) := by
  show Below _ _ _
  rw [HE.out]
  exact below_setCells (by omega) _ _ _ hB4
 go_wp2_with (first | (refine wpList_load_mid rfl 47 _ rfl ga 0 rfl [.string v.name, .int .i64 v.version, .int .i64 0, .int .i64 0, .int .i64 0, .bool false, .slice none 0 0, .bool false] _ HA4.out.rangeA Tryz.underlying47 rfl isz_Sac ?_) | (refine wpList_store_to rfl 47 _ _ rfl gr 0 #[.string v.name, .int .i64 v.version, .int .i64 0, .int .i64 0, .int .i64 0, .bool false, .slice none 0 0, .bool false] (by first | rfl | (simp [go_sem]; done)) rfl HTS.out isz_Sac (by simp [Value.oneCell']) wf HE.out ?_))
 refine bodyPost_ret (results_cell_mid rfl _ _ gr [.string v.name, .int .i64 v.version, .int .i64 0, .int .i64 0, .int .i64 0, .bool false, .slice none 0 0, .bool false] _ rfl HRf.out Tryz.underlying47 rfl isz_Sac) rfl ?_
 rw [HSC.out]
 exact ⟨none, 0, rfl, SliceC.nil, HBf.out⟩

end Go.Proofs.YtnggdpjfmpjlhaaGreat
