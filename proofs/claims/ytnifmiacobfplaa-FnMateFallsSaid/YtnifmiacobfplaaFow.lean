import Derived.Test.YtnifmiacobfplaaLco
import Derived.Test.YtnifmiacobfplaaJ35
namespace Go.Proofs.Ytnifmiacobfplaa
open Go.RowKit

theorem fallS_few (l : List Rn) (m : Bool) : (fallS l m).length ≤ l.length := by
 unfold fallS
 rw [List.length_map]
 exact List.length_filter_le _ _

theorem fallS_100 {l : List Rn} {m : Bool} (z : SzRn l 100) : SzRn (fallS l m) 100 := by
 intro r hr
 unfold fallS at hr
 obtain ⟨s, hs, rfl⟩ := List.mem_map.1 hr
 have h := z s (List.mem_filter.1 hs).1
 cases m with
 | false => exact h
 | true => exact h

set_option maxHeartbeats 8000000 in
set_option maxRecDepth 100000 in
theorem specFall_own (x : Mte) (a5 : Option Addr) (c5 : Nat) (a6 : Option Addr) (c6 : Nat) (a7 : Option Addr) (c7 : Nat) (a8 : Option Addr) (c8 : Nat) (mach : Bool) (lo : Nat) (w : World) (hL : MkL lo x a5 c5 a6 c6 a7 c7 a8 c8 w) (hf : Few x 1000) :
  Calls Try.prog 8 #[.agg #[.string x.name, .bool x.up, .int .i64 x.clock, .bool x.known, .int .i64 x.seen, .slice a5 x.wants.length c5, .slice a6 x.runs.length c6, .slice a7 x.asks.length c7, .slice a8 x.gives.length c8], .bool mach] w fun e w' => ∃ (y : Mte) (b5 : Option Addr) (q5 : Nat) (b6 : Option Addr) (q6 : Nat) (b7 : Option Addr) (q7 : Nat) (b8 : Option Addr) (q8 : Nat), y = fall x mach ∧ e = .returned (.agg #[.string y.name, .bool y.up, .int .i64 y.clock, .bool y.known, .int .i64 y.seen, .slice b5 y.wants.length q5, .slice b6 y.runs.length q6, .slice b7 y.asks.length q7, .slice b8 y.gives.length q8]) ∧ MkL w.heap.size y b5 q5 b6 q6 b7 q7 b8 q8 w' ∧ Below w.heap.size w w' := by
 obtain ⟨i0, hi, hz0, hz1, hz2⟩ := info_parts info_Rn
 have HI := Hid.intro (hL.sv hf (by omega))
 have HM := Hid.intro (hL.sz hf (by omega))
 have HLL := Hid.intro hL
 have HFF := Hid.intro hf
 clear hL hf
 have HKa : Blk w.heap.size #[.string x.name, .bool x.up, .int .i64 x.clock, .bool x.known, .int .i64 x.seen, .slice a5 x.wants.length c5, .slice a6 x.runs.length c6, .slice a7 x.asks.length c7, .slice a8 x.gives.length c8] 27 (w.alloc (.cells #[.string x.name, .bool x.up, .int .i64 x.clock, .bool x.known, .int .i64 x.seen, .slice a5 x.wants.length c5, .slice a6 x.runs.length c6, .slice a7 x.asks.length c7, .slice a8 x.gives.length c8] 27)) := Blk.alloc _ _ _
 have HZ2 : Hid (Blk (w.heap.size + 1) #[.string ⟨#[]⟩, .bool false, .int .i64 0, .bool false, .int .i64 0, .slice none 0 0, .slice none 0 0, .slice none 0 0, .slice none 0 0] 27 ((w.alloc (.cells #[.string x.name, .bool x.up, .int .i64 x.clock, .bool x.known, .int .i64 x.seen, .slice a5 x.wants.length c5, .slice a6 x.runs.length c6, .slice a7 x.asks.length c7, .slice a8 x.gives.length c8] 27)).alloc (.cells #[.string ⟨#[]⟩, .bool false, .int .i64 0, .bool false, .int .i64 0, .slice none 0 0, .slice none 0 0, .slice none 0 0, .slice none 0 0] 27))) := by
  have := Blk.alloc (w.alloc (.cells #[.string x.name, .bool x.up, .int .i64 x.clock, .bool x.known, .int .i64 x.seen, .slice a5 x.wants.length c5, .slice a6 x.runs.length c6, .slice a7 x.asks.length c7, .slice a8 x.gives.length c8] 27)) #[.string ⟨#[]⟩, .bool false, .int .i64 0, .bool false, .int .i64 0, .slice none 0 0, .slice none 0 0, .slice none 0 0, .slice none 0 0] 27
  show Blk _ _ _ _
  simpa using this
 have HK2 : Hid (Blk w.heap.size #[.string x.name, .bool x.up, .int .i64 x.clock, .bool x.known, .int .i64 x.seen, .slice a5 x.wants.length c5, .slice a6 x.runs.length c6, .slice a7 x.asks.length c7, .slice a8 x.gives.length c8] 27 ((w.alloc (.cells #[.string x.name, .bool x.up, .int .i64 x.clock, .bool x.known, .int .i64 x.seen, .slice a5 x.wants.length c5, .slice a6 x.runs.length c6, .slice a7 x.asks.length c7, .slice a8 x.gives.length c8] 27)).alloc (.cells #[.string ⟨#[]⟩, .bool false, .int .i64 0, .bool false, .int .i64 0, .slice none 0 0, .slice none 0 0, .slice none 0 0, .slice none 0 0] 27))) := HKa.below ((Below.refl _ _).alloc (Nat.le_refl _) _) HKa.lt
 have hB2 : Below w.heap.size w ((w.alloc (.cells #[.string x.name, .bool x.up, .int .i64 x.clock, .bool x.known, .int .i64 x.seen, .slice a5 x.wants.length c5, .slice a6 x.runs.length c6, .slice a7 x.asks.length c7, .slice a8 x.gives.length c8] 27)).alloc (.cells #[.string ⟨#[]⟩, .bool false, .int .i64 0, .bool false, .int .i64 0, .slice none 0 0, .slice none 0 0, .slice none 0 0, .slice none 0 0] 27)) := by go_grown
 clear HKa
 go_enter Try.func8, Try.ntmps8
 go_upto_region 1 with fail
 generalize (w.alloc (Obj.cells #[.string x.name, .bool x.up, .int .i64 x.clock, .bool x.known, .int .i64 x.seen, .slice a5 x.wants.length c5, .slice a6 x.runs.length c6, .slice a7 x.asks.length c7, .slice a8 x.gives.length c8] 27)).alloc (Obj.cells #[.string ⟨#[]⟩, .bool false, .int .i64 0, .bool false, .int .i64 0, .slice none 0 0, .slice none 0 0, .slice none 0 0, .slice none 0 0] 27) = w2 at *
 go_wp2_with (refine wpList_load_mid rfl 27 _ rfl w.heap.size 0 (by first | rfl | (simp [go_sem]; done)) [.string x.name, .bool x.up, .int .i64 x.clock, .bool x.known, .int .i64 x.seen, .slice a5 x.wants.length c5, .slice a6 x.runs.length c6, .slice a7 x.asks.length c7, .slice a8 x.gives.length c8] _ HK2.out.rangeA Try.underlying27 rfl isz_Mte ?_)
 refine (specValid_any x a5 c5 a6 c6 a7 c7 a8 c8 lo _ (ms_all HM.out (HI.out.below hB2 (Nat.le_refl _)))).mono ?_
 rintro e w3 ⟨rfl, hb3⟩
 have HK3 := Hid.intro (HK2.out.below hb3 HK2.out.lt)
 have HZ3 := Hid.intro (HZ2.out.below hb3 HZ2.out.lt)
 have hB3 := hB2.trans (hb3.mono hB2.size)
 clear hb3 HK2 HZ2 hB2
 have HTS := Hid.intro HZ3.out.there
 cases hmv : mvB x with
 | false =>
  have hy : noMte = fall x mach := by unfold fall; rw [hmv]; rfl
  obtain ⟨wf, HE⟩ : ∃ wf, Hid (wf = w3.setCells (w.heap.size + 1) 0 [.string ⟨#[]⟩, .bool false, .int .i64 0, .bool false, .int .i64 0, .slice none 0 0, .slice none 0 0, .slice none 0 0, .slice none 0 0]) := ⟨_, rfl⟩
  have HRf : Hid (wf.rangeAt (w.heap.size + 1) 0 [.string ⟨#[]⟩, .bool false, .int .i64 0, .bool false, .int .i64 0, .slice none 0 0, .slice none 0 0, .slice none 0 0, .slice none 0 0]) := by
   show World.rangeAt _ _ _ _
   rw [HE.out]
   exact World.rangeAt_setCells_same _ _ _ _ HTS.out
  have hBf : Below w.heap.size w wf := by
   rw [HE.out]
   exact below_setCells (by omega) _ _ _ hB3
  have HYY := Hid.intro hy
  clear hB3 hmv hy
  go_wp2_with (refine wpList_store_to rfl 27 _ _ rfl (w.heap.size + 1) 0 #[.string ⟨#[]⟩, .bool false, .int .i64 0, .bool false, .int .i64 0, .slice none 0 0, .slice none 0 0, .slice none 0 0, .slice none 0 0] (by first | rfl | (simp [go_sem]; done)) rfl HTS.out isz_Mte (by simp [Value.oneCell']) wf HE.out ?_)
  exact bodyPost_ret (results_cell_mid rfl _ _ (w.heap.size + 1) [.string ⟨#[]⟩, .bool false, .int .i64 0, .bool false, .int .i64 0, .slice none 0 0, .slice none 0 0, .slice none 0 0, .slice none 0 0] _ rfl HRf.out Try.underlying27 rfl isz_Mte) rfl ⟨noMte, none, 0, none, 0, none, 0, none, 0, HYY.out, rfl, MkL.none0 _ _ _ _ _ _ _ (Nat.zero_le _), hBf⟩
 | true =>
  have HMV := Hid.intro hmv
  clear hmv HTS
  have k0 : w3.cell? ⟨w.heap.size, 0, none⟩ = some (.string x.name) := HK3.out.cell rfl
  have k2 : w3.cell? ⟨w.heap.size, 2, none⟩ = some (.int .i64 x.clock) := HK3.out.cell rfl
  have hb4 : Below w3.heap.size w3 (w3.alloc (Obj.cells #[.string x.name, .bool false, .int .i64 x.clock, .bool false, .int .i64 0, .slice none 0 0, .slice none 0 0, .slice none 0 0, .slice none 0 0] 27)) := (Below.refl _ _).alloc (Nat.le_refl _) _
  have HP4 : Hid (Blk w3.heap.size #[.string x.name, .bool false, .int .i64 x.clock, .bool false, .int .i64 0, .slice none 0 0, .slice none 0 0, .slice none 0 0, .slice none 0 0] 27 (w3.alloc (Obj.cells #[.string x.name, .bool false, .int .i64 x.clock, .bool false, .int .i64 0, .slice none 0 0, .slice none 0 0, .slice none 0 0, .slice none 0 0] 27))) := Blk.alloc _ _ _
  have HK4 := Hid.intro (HK3.out.below hb4 HK3.out.lt)
  have HZ4 := Hid.intro (HZ3.out.below hb4 HZ3.out.lt)
  have hB4 := hB3.trans (hb4.mono hB3.size)
  have hgl : w.heap.size + 1 < w3.heap.size := HZ3.out.lt
  clear hb4 HK3 HZ3 hB3
  go_upto_region 4 with fail
  clear k0 k2
  generalize w3.alloc (Obj.cells #[.string x.name, .bool false, .int .i64 x.clock, .bool false, .int .i64 0, .slice none 0 0, .slice none 0 0, .slice none 0 0, .slice none 0 0] 27) = w4 at *
  generalize w3.heap.size = p at *
  go_wp2_with fail
  go_loopw [6] (fun i wr => ∃ (k : Nat) (a : Option Addr) (q m : Nat), k ≤ x.runs.length ∧ i = .int .i64 k ∧ Hid (m = (fallS (x.runs.take k) mach).length) ∧ m ≤ k ∧ Hid (Blk w.heap.size #[.string x.name, .bool x.up, .int .i64 x.clock, .bool x.known, .int .i64 x.seen, .slice a5 x.wants.length c5, .slice a6 x.runs.length c6, .slice a7 x.asks.length c7, .slice a8 x.gives.length c8] 27 wr) ∧ Hid (Blk (w.heap.size + 1) #[.string ⟨#[]⟩, .bool false, .int .i64 0, .bool false, .int .i64 0, .slice none 0 0, .slice none 0 0, .slice none 0 0, .slice none 0 0] 27 wr) ∧ Hid (Blk p #[.string x.name, .bool false, .int .i64 x.clock, .bool false, .int .i64 0, .slice none 0 0, .slice a m q, .slice none 0 0, .slice none 0 0] 27 wr) ∧ Hid (wr.ownsRow (p + 1) 38 11 (.slice a m q) m (rvRn (fallS (x.runs.take k) mach))) ∧ Below w.heap.size w wr) (fun i _ => x.runs.length - (intOf i).toNat)
  case atStart => exact ⟨0, none, 0, 0, Nat.zero_le _, rfl, rfl, Nat.le_refl _, HK4, HZ4, HP4, World.ownsRow_nil _ _ _ _, hB4⟩
  case round =>
   clear HK4 HZ4 HP4 hB4
   obtain ⟨k, a1, q, m, hk, rfl, HML, hmk, HK, HZ, HP, HO, hB⟩ := hrel
   have hl6 := HM.out.l6
   by_cases hlt : k < x.runs.length
   case neg =>
    have hke : k = x.runs.length := by omega
    subst hke
    rw [List.take_length] at HML HO
    have HE0 := HML.out
    subst HE0
    have HYY : Hid (⟨x.name, false, x.clock, false, 0, [], fallS x.runs mach, [], []⟩ = fall x mach) := by show _ = _; unfold fall; rw [HMV.out, fall_eq]; rfl
    have HLS := Hid.intro (fallS_sz (m := mach) HM.out.l6 HM.out.z6)
    have k6 : wr.cell? ⟨w.heap.size, 6, none⟩ = some (.slice a6 x.runs.length c6) := HK.out.cell rfl
    have hpl : p < wr.heap.size := HP.out.lt
    go_wp2_with (refine wpList_load_mid rfl 27 _ rfl p 0 (by first | rfl | (simp [go_sem]; done)) [.string x.name, .bool false, .int .i64 x.clock, .bool false, .int .i64 0, .slice none 0 0, .slice a1 (fallS x.runs mach).length q, .slice none 0 0, .slice none 0 0] _ HP.out.rangeA Try.underlying27 rfl isz_Mte ?_)
    clear k6
    refine (copy13_own ⟨x.name, false, x.clock, false, 0, [], fallS x.runs mach, [], []⟩ none 0 a1 q none 0 none 0 0 _ { r5 := World.ownsRow_nil _ _ _ _, r6 := HO.out.mono (Nat.zero_le _), r7 := World.ownsRow_nil _ _ _ _, r8 := World.ownsRow_nil _ _ _ _, a56 := Apt.nl _, a57 := Apt.nl _, a58 := Apt.nl _, a67 := Apt.nr _, a68 := Apt.nr _, a78 := Apt.nl _, z5 := fun _ h => (by cases h), z6 := fallS_100 HLL.out.z6, z7 := fun _ h => (by cases h), z8 := fun _ h => (by cases h), n0 := HLL.out.n0 } ⟨Nat.zero_le _, Nat.le_trans (fallS_few _ _) HFF.out.l6, Nat.zero_le _, Nat.zero_le _⟩).mono ?_
    rintro e wn ⟨b5, q5, b6, q6, b7, q7, b8, q8, rfl, p5, hbn⟩
    have HZn := Hid.intro (HZ.out.below hbn HZ.out.lt)
    have hBn := hB.trans (hbn.mono hB.size)
    have P5 := Hid.intro p5
    have HTZ := Hid.intro HZn.out.there
    obtain ⟨wf, HE⟩ : ∃ wf, Hid (wf = wn.setCells (w.heap.size + 1) 0 [.string x.name, .bool false, .int .i64 x.clock, .bool false, .int .i64 0, .slice (some ⟨b5, 0, none⟩) 0 q5, .slice (some ⟨b6, 0, none⟩) (fallS x.runs mach).length q6, .slice (some ⟨b7, 0, none⟩) 0 q7, .slice (some ⟨b8, 0, none⟩) 0 q8]) := ⟨_, rfl⟩
    have HRf : Hid (wf.rangeAt (w.heap.size + 1) 0 [.string x.name, .bool false, .int .i64 x.clock, .bool false, .int .i64 0, .slice (some ⟨b5, 0, none⟩) 0 q5, .slice (some ⟨b6, 0, none⟩) (fallS x.runs mach).length q6, .slice (some ⟨b7, 0, none⟩) 0 q7, .slice (some ⟨b8, 0, none⟩) 0 q8]) := by
     show World.rangeAt _ _ _ _
     rw [HE.out]
     exact World.rangeAt_setCells_same _ _ _ _ HTZ.out
    have hBf : Below w.heap.size w wf := by
     rw [HE.out]
     exact below_setCells (by omega) _ _ _ hBn
    have hgw : w.heap.size + 1 < wr.heap.size := HZ.out.lt
    replace P5 := Hid.intro (show MkL w.heap.size ⟨x.name, false, x.clock, false, 0, [], fallS x.runs mach, [], []⟩ (some ⟨b5, 0, none⟩) q5 (some ⟨b6, 0, none⟩) q6 (some ⟨b7, 0, none⟩) q7 (some ⟨b8, 0, none⟩) q8 wf by rw [HE.out]; exact (P5.out.same (fun b hb _ => heap_setCells_neM (by omega) _ _ _)).lower (by omega))
    clear p5 hbn hBn HZn
    go_wp2_with (refine wpList_store_to rfl 27 _ _ rfl (w.heap.size + 1) 0 #[.string x.name, .bool false, .int .i64 x.clock, .bool false, .int .i64 0, .slice (some ⟨b5, 0, none⟩) 0 q5, .slice (some ⟨b6, 0, none⟩) (fallS x.runs mach).length q6, .slice (some ⟨b7, 0, none⟩) 0 q7, .slice (some ⟨b8, 0, none⟩) 0 q8] (by first | rfl | (simp [go_sem]; done)) rfl HTZ.out isz_Mte (by simp [Value.oneCell']) wf HE.out ?_)
    exact bodyPost_ret (results_cell_mid rfl _ _ (w.heap.size + 1) [.string x.name, .bool false, .int .i64 x.clock, .bool false, .int .i64 0, .slice (some ⟨b5, 0, none⟩) 0 q5, .slice (some ⟨b6, 0, none⟩) (fallS x.runs mach).length q6, .slice (some ⟨b7, 0, none⟩) 0 q7, .slice (some ⟨b8, 0, none⟩) 0 q8] _ rfl HRf.out Try.underlying27 rfl isz_Mte) rfl ⟨⟨x.name, false, x.clock, false, 0, [], fallS x.runs mach, [], []⟩, _, q5, _, q6, _, q7, _, q8, HYY.out, rfl, P5.out, hBf⟩
   obtain ⟨r, hr⟩ : ∃ r, x.runs[k]? = some r := ⟨x.runs[k], List.getElem?_eq_getElem hlt⟩
   obtain ⟨b, ob, e6, _, hbl, hc⟩ := (HI.out.s6.below RnC.holds hB (Nat.le_refl _)).at hr
   subst e6
   have HRA := Hid.intro (range_of_cells hc)
   have HST := Hid.intro (fs_step (m := mach) hr)
   have k6 : wr.cell? ⟨w.heap.size, 6, none⟩ = some (.slice (some ⟨b, ob, none⟩) x.runs.length c6) := HK.out.cell rfl
   have hpw : p < wr.heap.size := HP.out.lt
   clear hc hr
   have hb4 : Below wr.heap.size wr (wr.alloc (Obj.cells #[.string r.want.copy, .int .i64 r.want.version, .string r.want.hold, .int .i64 r.want.pull, .int .i64 r.want.start, .int .i64 r.want.dies, .int .i64 r.want.grace, .int .i64 r.state, .int .i64 r.left, .int .i64 r.falls, .int .i64 r.until_] 38)) := (Below.refl _ _).alloc (Nat.le_refl _) _
   have HR4 : Hid (Blk wr.heap.size #[.string r.want.copy, .int .i64 r.want.version, .string r.want.hold, .int .i64 r.want.pull, .int .i64 r.want.start, .int .i64 r.want.dies, .int .i64 r.want.grace, .int .i64 r.state, .int .i64 r.left, .int .i64 r.falls, .int .i64 r.until_] 38 (wr.alloc (Obj.cells #[.string r.want.copy, .int .i64 r.want.version, .string r.want.hold, .int .i64 r.want.pull, .int .i64 r.want.start, .int .i64 r.want.dies, .int .i64 r.want.grace, .int .i64 r.state, .int .i64 r.left, .int .i64 r.falls, .int .i64 r.until_] 38))) := Blk.alloc _ _ _
   have HK4 := Hid.intro (HK.out.below hb4 HK.out.lt)
   have HZ4 := Hid.intro (HZ.out.below hb4 HZ.out.lt)
   have HP4 := Hid.intro (HP.out.below hb4 HP.out.lt)
   have HO4 := Hid.intro (ownsRow_below HO.out hb4)
   have HU4 := Hid.intro (row_und HO.out)
   have hB4 := hB.trans (hb4.mono hB.size)
   clear hb4 HK HZ HP HO hB
   go_upto_region 8 with (refine wpList_load_mid rfl 38 _ rfl b (ob + k * 11) (by first | rfl | (simp [go_sem]; done)) [.string r.want.copy, .int .i64 r.want.version, .string r.want.hold, .int .i64 r.want.pull, .int .i64 r.want.start, .int .i64 r.want.dies, .int .i64 r.want.grace, .int .i64 r.state, .int .i64 r.left, .int .i64 r.falls, .int .i64 r.until_] _ HRA.out Try.underlying38 rfl isz_Rn ?_)
   clear HRA k6
   generalize wr.alloc (Obj.cells #[.string r.want.copy, .int .i64 r.want.version, .string r.want.hold, .int .i64 r.want.pull, .int .i64 r.want.start, .int .i64 r.want.dies, .int .i64 r.want.grace, .int .i64 r.state, .int .i64 r.left, .int .i64 r.falls, .int .i64 r.until_] 38) = w4 at *
   generalize wr.heap.size = h at *
   go_wp2_with (refine wpList_load_mid rfl 38 _ rfl h 0 rfl [.string r.want.copy, .int .i64 r.want.version, .string r.want.hold, .int .i64 r.want.pull, .int .i64 r.want.start, .int .i64 r.want.dies, .int .i64 r.want.grace, .int .i64 r.state, .int .i64 r.left, .int .i64 r.falls, .int .i64 r.until_] _ HR4.out.rangeA Try.underlying38 rfl isz_Rn ?_)
   refine (specAlive_any r _).mono ?_
   rintro e w5 ⟨rfl, hb5⟩
   have HK5 := Hid.intro (HK4.out.below hb5 HK4.out.lt)
   have HZ5 := Hid.intro (HZ4.out.below hb5 HZ4.out.lt)
   have HP5 := Hid.intro (HP4.out.below hb5 HP4.out.lt)
   have HR5 := Hid.intro (HR4.out.below hb5 HR4.out.lt)
   have HO5 := Hid.intro (ownsRow_below HO4.out hb5)
   have hB5 := hB4.trans (hb5.mono hB4.size)
   have hhl : h < w5.heap.size := HR5.out.lt
   clear hb5 HK4 HZ4 HP4 HR4 HO4 hB4
   cases mach with
   | false =>
    cases g1 : alB r.state with
    | false =>
     have HO9 : Hid (w5.ownsRow (p + 1) 38 11 (.slice a1 m q) m (rvRn (fallS (x.runs.take (k + 1)) false))) := by
      show World.ownsRow _ _ _ _ _ _ _
      rw [HST.out, fs_no (by unfold keepS; rw [g1]; rfl), List.append_nil]
      exact HO5.out
     have HML2 : Hid (m = (fallS (x.runs.take (k + 1)) false).length) := by
      show _ = _
      rw [HST.out, fs_no (by unfold keepS; rw [g1]; rfl), List.append_nil]
      exact HML.out
     clear g1 HU4
     go_wp2_with fail
     go_roundw
     case rel => exact ⟨k + 1, a1, q, m, by omega, by go_num, HML2, by omega, HK5, HZ5, HP5, HO9, hB5⟩
     case measure => simp [intOf]; omega
    | true =>
     have hapx : fallS [r] false = [r] := by simp [fallS, keepS, g1]
     have HAP := Hid.intro hapx
     clear hapx
     obtain ⟨NV, hnv⟩ : ∃ l, l = rcRn (r) := ⟨_, rfl⟩
     have HNV := Hid.intro hnv
     clear hnv
     have HNL : Hid (NV.length = 1 * 11) := by show _ = _; rw [HNV.out]; rfl
     have HNN : Hid (∀ j u, NV[j]? = some u → (w5.alloc (Obj.cells #[.string r.want.copy, .int .i64 r.want.version, .string r.want.hold, .int .i64 r.want.pull, .int .i64 r.want.start, .int .i64 r.want.dies, .int .i64 r.want.grace, .int .i64 r.state, .int .i64 r.left, .int .i64 r.falls, .int .i64 r.until_] 38)).cell? ((⟨w5.heap.size, 0, none⟩ : Addr).add j) = some u) := by
      intro j u hj
      rw [Addr.add_mid]
      rw [HNV.out] at hj
      exact (Blk.alloc w5 #[.string r.want.copy, .int .i64 r.want.version, .string r.want.hold, .int .i64 r.want.pull, .int .i64 r.want.start, .int .i64 r.want.dies, .int .i64 r.want.grace, .int .i64 r.state, .int .i64 r.left, .int .i64 r.falls, .int .i64 r.until_] 38).rangeA j u hj
     have HN1 : Hid (∀ u ∈ NV, u.oneCell' = true) := by
      intro u hu
      rw [HNV.out] at hu
      exact rvRn_one [r] u (by simp only [rvRn, List.append_nil]; exact hu)
     have HOA := Hid.intro (HO5.out.alloc (Obj.cells #[.string r.want.copy, .int .i64 r.want.version, .string r.want.hold, .int .i64 r.want.pull, .int .i64 r.want.start, .int .i64 r.want.dies, .int .i64 r.want.grace, .int .i64 r.state, .int .i64 r.left, .int .i64 r.falls, .int .i64 r.until_] 38))
     have hpl : p < w5.heap.size := HP5.out.lt
     have k6 : w5.cell? ⟨p, 6, none⟩ = some (.slice a1 m q) := HP5.out.cell rfl
     go_upto_region 6 with (first | (refine wpList_load_mid rfl 38 _ rfl h 0 rfl [.string r.want.copy, .int .i64 r.want.version, .string r.want.hold, .int .i64 r.want.pull, .int .i64 r.want.start, .int .i64 r.want.dies, .int .i64 r.want.grace, .int .i64 r.state, .int .i64 r.left, .int .i64 r.falls, .int .i64 r.until_] _ HR5.out.rangeA Try.underlying38 rfl isz_Rn ?_) | (at_builtin; refine wpList_append_own _ rfl _ _ 24 rfl (p + 1) 38 i0 _ 11 104 Try.underlying24 hi hz0 hz1 hz2 rfl (by decide) _ m _ rfl HOA.out ⟨w5.heap.size, 0, none⟩ 1 1 NV rfl HNL.out HNN.out HN1.out (by unfold maxLen; omega) (by omega) (by simp; omega) ?_; intro v' w8 hown8 hgrow8 hnil8; have hv8 : v' ≠ .slice none 0 0 := (fun e => by have h9 := (hnil8.1 e).2; cases h9); obtain ⟨g8, q8, rfl⟩ := rowf hown8 hv8; have hb8 : Below (p + 1) w5 w8 := ((Below.refl (p + 1) w5).alloc (by omega) _).grown hgrow8 (by simp; omega) (own_blk HO5.out); have HP8 := Hid.intro (HP5.out.below hb8 (Nat.lt_succ_self _)); have kx : w8.cell? ⟨p, 6, none⟩ = some (.slice a1 m q) := HP8.out.cell rfl; have fx : w8.frozen? ⟨p, 6, none⟩ = false := HP8.out.frozen _; have HOW := Hid.intro hown8; have HBB := Hid.intro hb8; clear hown8 hgrow8 hnil8 hv8 hb8))
     clear kx fx k6
     have HK8 := Hid.intro (HK5.out.below HBB.out (by omega))
     have HZ8 := Hid.intro (HZ5.out.below HBB.out (by omega))
     have hB8 := hB5.trans (HBB.out.mono (by omega))
     have HO9 : Hid ((w8.setCell ⟨p, 6, none⟩ (.slice (some ⟨g8, 0, none⟩) (m + 1) q8)).ownsRow (p + 1) 38 11 (.slice (some ⟨g8, 0, none⟩) (m + 1) q8) (m + 1) (rvRn (fallS (x.runs.take (k + 1)) false))) := by
      have h := HOW.out
      rw [HNV.out] at h
      have hg8 := rowb h
      show World.ownsRow _ _ _ _ _ _ _
      rw [HST.out, HAP.out, rvRn_app]
      simp only [rvRn, List.append_nil]
      exact ownsRow_set_oth h _ (fun g c e => by cases e; show g8 ≠ p; omega)
     have HML2 : Hid (m + 1 = (fallS (x.runs.take (k + 1)) false).length) := by
      show _ = _
      rw [HST.out, HAP.out, List.length_append, ← HML.out]
      rfl
     have HP9 : Hid (Blk p #[.string x.name, .bool false, .int .i64 x.clock, .bool false, .int .i64 0, .slice none 0 0, .slice (some ⟨g8, 0, none⟩) (m + 1) q8, .slice none 0 0, .slice none 0 0] 27 (w8.setCell ⟨p, 6, none⟩ (.slice (some ⟨g8, 0, none⟩) (m + 1) q8))) := HP8.out.set 6 _
     have HK9 : Hid (Blk w.heap.size #[.string x.name, .bool x.up, .int .i64 x.clock, .bool x.known, .int .i64 x.seen, .slice a5 x.wants.length c5, .slice (some ⟨b, ob, none⟩) x.runs.length c6, .slice a7 x.asks.length c7, .slice a8 x.gives.length c8] 27 (w8.setCell ⟨p, 6, none⟩ (.slice (some ⟨g8, 0, none⟩) (m + 1) q8))) := HK8.out.other (a := ⟨p, 6, none⟩) (show w.heap.size ≠ p by omega) _
     have HZ9 : Hid (Blk (w.heap.size + 1) #[.string ⟨#[]⟩, .bool false, .int .i64 0, .bool false, .int .i64 0, .slice none 0 0, .slice none 0 0, .slice none 0 0, .slice none 0 0] 27 (w8.setCell ⟨p, 6, none⟩ (.slice (some ⟨g8, 0, none⟩) (m + 1) q8))) := HZ8.out.other (a := ⟨p, 6, none⟩) (show w.heap.size + 1 ≠ p by omega) _
     have hB9 : Below w.heap.size w (w8.setCell ⟨p, 6, none⟩ (.slice (some ⟨g8, 0, none⟩) (m + 1) q8)) := hB8.setCell (p := ⟨p, 6, none⟩) (show w.heap.size ≤ p by omega) _
     clear HOW HBB HK8 HZ8 hB8 HP8
     generalize w8.setCell ⟨p, 6, none⟩ (.slice (some ⟨g8, 0, none⟩) (m + 1) q8) = w9 at *
     go_wp2_with fail
     go_roundw
     case rel => exact ⟨k + 1, some ⟨g8, 0, none⟩, q8, m + 1, by omega, by go_num, HML2, by omega, HK9, HZ9, HP9, HO9, hB9⟩
     case measure => simp [intOf]; omega
   | true =>
    have s7 : w5.cell? ⟨h, 7, none⟩ = some (.int .i64 r.state) := HR5.out.cell rfl
    have t7 : w5.frozen? ⟨h, 7, none⟩ = false := HR5.out.frozen _
    have HRx : Hid (Blk h #[.string r.want.copy, .int .i64 r.want.version, .string r.want.hold, .int .i64 r.want.pull, .int .i64 r.want.start, .int .i64 r.want.dies, .int .i64 r.want.grace, .int .i64 2, .int .i64 r.left, .int .i64 r.falls, .int .i64 r.until_] 38 (w5.setCell ⟨h, 7, none⟩ (.int .i64 2))) := HR5.out.set 7 _
    have s8 : (w5.setCell ⟨h, 7, none⟩ (.int .i64 2)).cell? ⟨h, 8, none⟩ = some (.int .i64 r.left) := HRx.out.cell rfl
    have t8 : (w5.setCell ⟨h, 7, none⟩ (.int .i64 2)).frozen? ⟨h, 8, none⟩ = false := HRx.out.frozen _
    have HR6 : Hid (Blk h #[.string r.want.copy, .int .i64 r.want.version, .string r.want.hold, .int .i64 r.want.pull, .int .i64 r.want.start, .int .i64 r.want.dies, .int .i64 r.want.grace, .int .i64 2, .int .i64 0, .int .i64 r.falls, .int .i64 r.until_] 38 ((w5.setCell ⟨h, 7, none⟩ (.int .i64 2)).setCell ⟨h, 8, none⟩ (.int .i64 0))) := HRx.out.set 8 _
    have HK6 : Hid (Blk w.heap.size #[.string x.name, .bool x.up, .int .i64 x.clock, .bool x.known, .int .i64 x.seen, .slice a5 x.wants.length c5, .slice (some ⟨b, ob, none⟩) x.runs.length c6, .slice a7 x.asks.length c7, .slice a8 x.gives.length c8] 27 ((w5.setCell ⟨h, 7, none⟩ (.int .i64 2)).setCell ⟨h, 8, none⟩ (.int .i64 0))) := (HK5.out.other (a := ⟨h, 7, none⟩) (show w.heap.size ≠ h by omega) _).other (a := ⟨h, 8, none⟩) (show w.heap.size ≠ h by omega) _
    have HZ6 : Hid (Blk (w.heap.size + 1) #[.string ⟨#[]⟩, .bool false, .int .i64 0, .bool false, .int .i64 0, .slice none 0 0, .slice none 0 0, .slice none 0 0, .slice none 0 0] 27 ((w5.setCell ⟨h, 7, none⟩ (.int .i64 2)).setCell ⟨h, 8, none⟩ (.int .i64 0))) := (HZ5.out.other (a := ⟨h, 7, none⟩) (show (w.heap.size + 1) ≠ h by omega) _).other (a := ⟨h, 8, none⟩) (show (w.heap.size + 1) ≠ h by omega) _
    have HP6 : Hid (Blk p #[.string x.name, .bool false, .int .i64 x.clock, .bool false, .int .i64 0, .slice none 0 0, .slice a1 m q, .slice none 0 0, .slice none 0 0] 27 ((w5.setCell ⟨h, 7, none⟩ (.int .i64 2)).setCell ⟨h, 8, none⟩ (.int .i64 0))) := (HP5.out.other (a := ⟨h, 7, none⟩) (show p ≠ h by omega) _).other (a := ⟨h, 8, none⟩) (show p ≠ h by omega) _
    have HO6 : Hid (((w5.setCell ⟨h, 7, none⟩ (.int .i64 2)).setCell ⟨h, 8, none⟩ (.int .i64 0)).ownsRow (p + 1) 38 11 (.slice a1 m q) m (rvRn (fallS (x.runs.take k) true))) := ownsRow_set_oth (ownsRow_set_oth HO5.out _ (fun g c e => Nat.ne_of_lt (HU4.out g 0 none (by injection e)))) _ (fun g c e => Nat.ne_of_lt (HU4.out g 0 none (by injection e)))
    have hB6 : Below w.heap.size w ((w5.setCell ⟨h, 7, none⟩ (.int .i64 2)).setCell ⟨h, 8, none⟩ (.int .i64 0)) := (hB5.setCell (p := ⟨h, 7, none⟩) (show w.heap.size ≤ h by omega) _).setCell (p := ⟨h, 8, none⟩) (show w.heap.size ≤ h by omega) _
    clear HRx HR5 HK5 HZ5 HP5 HO5 hB5 HU4
    go_upto_region 12 with fail
    clear s7 t7 s8 t8
    generalize ((w5.setCell ⟨h, 7, none⟩ (.int .i64 2)).setCell ⟨h, 8, none⟩ (.int .i64 0)) = w6 at *
    have k2 : w6.cell? ⟨h, 2, none⟩ = some (.string r.want.hold) := HR6.out.cell rfl
    cases g1 : alB r.state with
    | false =>
     have HO9 : Hid (w6.ownsRow (p + 1) 38 11 (.slice a1 m q) m (rvRn (fallS (x.runs.take (k + 1)) true))) := by
      show World.ownsRow _ _ _ _ _ _ _
      rw [HST.out, fs_no (by unfold keepS; rw [g1]; rfl), List.append_nil]
      exact HO6.out
     have HML2 : Hid (m = (fallS (x.runs.take (k + 1)) true).length) := by
      show _ = _
      rw [HST.out, fs_no (by unfold keepS; rw [g1]; rfl), List.append_nil]
      exact HML.out
     clear g1
     go_wp2_with fail
     go_roundw
     case rel => exact ⟨k + 1, a1, q, m, by omega, by go_num, HML2, by omega, HK6, HZ6, HP6, HO9, hB6⟩
     case measure => simp [intOf]; omega
    | true =>
     cases g2 : (r.want.hold.toList == []) with
     | true =>
      have HO9 : Hid (w6.ownsRow (p + 1) 38 11 (.slice a1 m q) m (rvRn (fallS (x.runs.take (k + 1)) true))) := by
       show World.ownsRow _ _ _ _ _ _ _
       rw [HST.out, fs_no (by unfold keepS; rw [g1, g2]; rfl), List.append_nil]
       exact HO6.out
      have HML2 : Hid (m = (fallS (x.runs.take (k + 1)) true).length) := by
       show _ = _
       rw [HST.out, fs_no (by unfold keepS; rw [g1, g2]; rfl), List.append_nil]
       exact HML.out
      have g3 : r.want.hold.toList.isEmpty = true := by simpa using g2
      clear g1 g2
      go_wp2_with fail
      go_roundw
      case rel => exact ⟨k + 1, a1, q, m, by omega, by go_num, HML2, by omega, HK6, HZ6, HP6, HO9, hB6⟩
      case measure => simp [intOf]; omega
     | false =>
      have g3 : r.want.hold.toList.isEmpty = false := by simpa using g2
      have hapx : fallS [r] true = [killR r] := by simp [fallS, keepS, g1, g2]
      have HAP := Hid.intro hapx
      clear hapx
      obtain ⟨NV, hnv⟩ : ∃ l, l = rcRn (killR r) := ⟨_, rfl⟩
      have HNV := Hid.intro hnv
      clear hnv
      have HNL : Hid (NV.length = 1 * 11) := by show _ = _; rw [HNV.out]; rfl
      have HNN : Hid (∀ j u, NV[j]? = some u → (w6.alloc (Obj.cells #[.string r.want.copy, .int .i64 r.want.version, .string r.want.hold, .int .i64 r.want.pull, .int .i64 r.want.start, .int .i64 r.want.dies, .int .i64 r.want.grace, .int .i64 2, .int .i64 0, .int .i64 r.falls, .int .i64 r.until_] 38)).cell? ((⟨w6.heap.size, 0, none⟩ : Addr).add j) = some u) := by
       intro j u hj
       rw [Addr.add_mid]
       rw [HNV.out] at hj
       exact (Blk.alloc w6 #[.string r.want.copy, .int .i64 r.want.version, .string r.want.hold, .int .i64 r.want.pull, .int .i64 r.want.start, .int .i64 r.want.dies, .int .i64 r.want.grace, .int .i64 2, .int .i64 0, .int .i64 r.falls, .int .i64 r.until_] 38).rangeA j u hj
      have HN1 : Hid (∀ u ∈ NV, u.oneCell' = true) := by
       intro u hu
       rw [HNV.out] at hu
       exact rvRn_one [killR r] u (by simp only [rvRn, List.append_nil]; exact hu)
      have HOA := Hid.intro (HO6.out.alloc (Obj.cells #[.string r.want.copy, .int .i64 r.want.version, .string r.want.hold, .int .i64 r.want.pull, .int .i64 r.want.start, .int .i64 r.want.dies, .int .i64 r.want.grace, .int .i64 2, .int .i64 0, .int .i64 r.falls, .int .i64 r.until_] 38))
      have hpl : p < w6.heap.size := HP6.out.lt
      have k6 : w6.cell? ⟨p, 6, none⟩ = some (.slice a1 m q) := HP6.out.cell rfl
      go_upto_region 6 with (first | (refine wpList_load_mid rfl 38 _ rfl h 0 rfl [.string r.want.copy, .int .i64 r.want.version, .string r.want.hold, .int .i64 r.want.pull, .int .i64 r.want.start, .int .i64 r.want.dies, .int .i64 r.want.grace, .int .i64 2, .int .i64 0, .int .i64 r.falls, .int .i64 r.until_] _ HR6.out.rangeA Try.underlying38 rfl isz_Rn ?_) | (at_builtin; refine wpList_append_own _ rfl _ _ 24 rfl (p + 1) 38 i0 _ 11 104 Try.underlying24 hi hz0 hz1 hz2 rfl (by decide) _ m _ rfl HOA.out ⟨w6.heap.size, 0, none⟩ 1 1 NV rfl HNL.out HNN.out HN1.out (by unfold maxLen; omega) (by omega) (by simp; omega) ?_; intro v' w8 hown8 hgrow8 hnil8; have hv8 : v' ≠ .slice none 0 0 := (fun e => by have h9 := (hnil8.1 e).2; cases h9); obtain ⟨g8, q8, rfl⟩ := rowf hown8 hv8; have hb8 : Below (p + 1) w6 w8 := ((Below.refl (p + 1) w6).alloc (by omega) _).grown hgrow8 (by simp; omega) (own_blk HO6.out); have HP8 := Hid.intro (HP6.out.below hb8 (Nat.lt_succ_self _)); have kx : w8.cell? ⟨p, 6, none⟩ = some (.slice a1 m q) := HP8.out.cell rfl; have fx : w8.frozen? ⟨p, 6, none⟩ = false := HP8.out.frozen _; have HOW := Hid.intro hown8; have HBB := Hid.intro hb8; clear hown8 hgrow8 hnil8 hv8 hb8))
      clear kx fx k6
      have HK8 := Hid.intro (HK6.out.below HBB.out (by omega))
      have HZ8 := Hid.intro (HZ6.out.below HBB.out (by omega))
      have hB8 := hB6.trans (HBB.out.mono (by omega))
      have HO9 : Hid ((w8.setCell ⟨p, 6, none⟩ (.slice (some ⟨g8, 0, none⟩) (m + 1) q8)).ownsRow (p + 1) 38 11 (.slice (some ⟨g8, 0, none⟩) (m + 1) q8) (m + 1) (rvRn (fallS (x.runs.take (k + 1)) true))) := by
       have h := HOW.out
       rw [HNV.out] at h
       have hg8 := rowb h
       show World.ownsRow _ _ _ _ _ _ _
       rw [HST.out, HAP.out, rvRn_app]
       simp only [rvRn, List.append_nil]
       exact ownsRow_set_oth h _ (fun g c e => by cases e; show g8 ≠ p; omega)
      have HML2 : Hid (m + 1 = (fallS (x.runs.take (k + 1)) true).length) := by
       show _ = _
       rw [HST.out, HAP.out, List.length_append, ← HML.out]
       rfl
      have HP9 : Hid (Blk p #[.string x.name, .bool false, .int .i64 x.clock, .bool false, .int .i64 0, .slice none 0 0, .slice (some ⟨g8, 0, none⟩) (m + 1) q8, .slice none 0 0, .slice none 0 0] 27 (w8.setCell ⟨p, 6, none⟩ (.slice (some ⟨g8, 0, none⟩) (m + 1) q8))) := HP8.out.set 6 _
      have HK9 : Hid (Blk w.heap.size #[.string x.name, .bool x.up, .int .i64 x.clock, .bool x.known, .int .i64 x.seen, .slice a5 x.wants.length c5, .slice (some ⟨b, ob, none⟩) x.runs.length c6, .slice a7 x.asks.length c7, .slice a8 x.gives.length c8] 27 (w8.setCell ⟨p, 6, none⟩ (.slice (some ⟨g8, 0, none⟩) (m + 1) q8))) := HK8.out.other (a := ⟨p, 6, none⟩) (show w.heap.size ≠ p by omega) _
      have HZ9 : Hid (Blk (w.heap.size + 1) #[.string ⟨#[]⟩, .bool false, .int .i64 0, .bool false, .int .i64 0, .slice none 0 0, .slice none 0 0, .slice none 0 0, .slice none 0 0] 27 (w8.setCell ⟨p, 6, none⟩ (.slice (some ⟨g8, 0, none⟩) (m + 1) q8))) := HZ8.out.other (a := ⟨p, 6, none⟩) (show w.heap.size + 1 ≠ p by omega) _
      have hB9 : Below w.heap.size w (w8.setCell ⟨p, 6, none⟩ (.slice (some ⟨g8, 0, none⟩) (m + 1) q8)) := hB8.setCell (p := ⟨p, 6, none⟩) (show w.heap.size ≤ p by omega) _
      clear HOW HBB HK8 HZ8 hB8 HP8
      generalize w8.setCell ⟨p, 6, none⟩ (.slice (some ⟨g8, 0, none⟩) (m + 1) q8) = w9 at *
      go_wp2_with fail
      go_roundw
      case rel => exact ⟨k + 1, some ⟨g8, 0, none⟩, q8, m + 1, by omega, by go_num, HML2, by omega, HK9, HZ9, HP9, HO9, hB9⟩
      case measure => simp [intOf]; omega

end Go.Proofs.Ytnifmiacobfplaa
