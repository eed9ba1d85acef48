/-
  A mate that falls: the program. Made by mkfal.py.
-/
import Derived.Test.YtcmjnocfgffgfaaGreatFlp
namespace Go.Proofs.YtcmjnocfgffgfaaGreat
open Go.RowKit

set_option maxHeartbeats 8000000 in
set_option maxRecDepth 100000 in
theorem implFall_any (x : Mte) (a5 : Option Addr) (c5 : Nat) (a6 : Option Addr) (c6 : Nat) (a7 : Option Addr) (c7 : Nat) (a8 : Option Addr) (c8 : Nat) (mach : Bool) (lo : Nat) (w : World) (hin : MSv x lo a5 a6 a7 a8 w) (hv : MNil a5 x.wants.length c5 a6 x.runs.length c6 a7 x.asks.length c7 a8 x.gives.length c8) (hm : MSz x) :
    Calls Tryz.prog 8 #[.agg #[.string x.name, .bool x.up, .int .i64 x.clock, .bool x.known, .int .i64 x.seen, .slice a5 x.wants.length c5, .slice a6 x.runs.length c6, .slice a7 x.asks.length c7, .slice a8 x.gives.length c8], .bool mach] w fun e w' => ∃ (y : Mte) (b5 : Option Addr) (q5 : Nat) (b6 : Option Addr) (q6 : Nat) (b7 : Option Addr) (q7 : Nat) (b8 : Option Addr) (q8 : Nat), y = fall x mach ∧ e = .returned (.agg #[.string y.name, .bool y.up, .int .i64 y.clock, .bool y.known, .int .i64 y.seen, .slice b5 y.wants.length q5, .slice b6 y.runs.length q6, .slice b7 y.asks.length q7, .slice b8 y.gives.length q8]) ∧ G4 y w.heap.size w'.heap.size b5 b6 b7 b8 w' ∧ Below w.heap.size w w' := by
  have HI := Hid.intro hin
  have HV := Hid.intro hv
  have HM := Hid.intro hm
  clear hin hm hv
  have HKa : Blk w.heap.size #[.string x.name, .bool x.up, .int .i64 x.clock, .bool x.known, .int .i64 x.seen, .slice a5 x.wants.length c5, .slice a6 x.runs.length c6, .slice a7 x.asks.length c7, .slice a8 x.gives.length c8] 32 (w.alloc (.cells #[.string x.name, .bool x.up, .int .i64 x.clock, .bool x.known, .int .i64 x.seen, .slice a5 x.wants.length c5, .slice a6 x.runs.length c6, .slice a7 x.asks.length c7, .slice a8 x.gives.length c8] 32)) := Blk.alloc _ _ _
  have HZ2 : Hid (Blk (w.heap.size + 1) #[.string ⟨#[]⟩, .bool false, .int .i64 0, .bool false, .int .i64 0, .slice none 0 0, .slice none 0 0, .slice none 0 0, .slice none 0 0] 32 ((w.alloc (.cells #[.string x.name, .bool x.up, .int .i64 x.clock, .bool x.known, .int .i64 x.seen, .slice a5 x.wants.length c5, .slice a6 x.runs.length c6, .slice a7 x.asks.length c7, .slice a8 x.gives.length c8] 32)).alloc (.cells #[.string ⟨#[]⟩, .bool false, .int .i64 0, .bool false, .int .i64 0, .slice none 0 0, .slice none 0 0, .slice none 0 0, .slice none 0 0] 32))) := by
    have := Blk.alloc (w.alloc (.cells #[.string x.name, .bool x.up, .int .i64 x.clock, .bool x.known, .int .i64 x.seen, .slice a5 x.wants.length c5, .slice a6 x.runs.length c6, .slice a7 x.asks.length c7, .slice a8 x.gives.length c8] 32)) #[.string ⟨#[]⟩, .bool false, .int .i64 0, .bool false, .int .i64 0, .slice none 0 0, .slice none 0 0, .slice none 0 0, .slice none 0 0] 32
    show Blk _ _ _ _
    simpa using this
  have HK2 : Hid (Blk w.heap.size #[.string x.name, .bool x.up, .int .i64 x.clock, .bool x.known, .int .i64 x.seen, .slice a5 x.wants.length c5, .slice a6 x.runs.length c6, .slice a7 x.asks.length c7, .slice a8 x.gives.length c8] 32 ((w.alloc (.cells #[.string x.name, .bool x.up, .int .i64 x.clock, .bool x.known, .int .i64 x.seen, .slice a5 x.wants.length c5, .slice a6 x.runs.length c6, .slice a7 x.asks.length c7, .slice a8 x.gives.length c8] 32)).alloc (.cells #[.string ⟨#[]⟩, .bool false, .int .i64 0, .bool false, .int .i64 0, .slice none 0 0, .slice none 0 0, .slice none 0 0, .slice none 0 0] 32))) := HKa.below ((Below.refl _ _).alloc (Nat.le_refl _) _) HKa.lt
  have hB2 : Below w.heap.size w ((w.alloc (.cells #[.string x.name, .bool x.up, .int .i64 x.clock, .bool x.known, .int .i64 x.seen, .slice a5 x.wants.length c5, .slice a6 x.runs.length c6, .slice a7 x.asks.length c7, .slice a8 x.gives.length c8] 32)).alloc (.cells #[.string ⟨#[]⟩, .bool false, .int .i64 0, .bool false, .int .i64 0, .slice none 0 0, .slice none 0 0, .slice none 0 0, .slice none 0 0] 32)) := by go_grown
  clear HKa
  go_enter Tryz.func8, Tryz.ntmps8
  go_upto_region 1 with fail
  generalize (w.alloc (Obj.cells #[.string x.name, .bool x.up, .int .i64 x.clock, .bool x.known, .int .i64 x.seen, .slice a5 x.wants.length c5, .slice a6 x.runs.length c6, .slice a7 x.asks.length c7, .slice a8 x.gives.length c8] 32)).alloc (Obj.cells #[.string ⟨#[]⟩, .bool false, .int .i64 0, .bool false, .int .i64 0, .slice none 0 0, .slice none 0 0, .slice none 0 0, .slice none 0 0] 32) = w2 at *
  go_wp2_with (refine wpList_load_mid rfl 32 _ rfl w.heap.size 0 (by first | rfl | (simp [go_sem]; done)) [.string x.name, .bool x.up, .int .i64 x.clock, .bool x.known, .int .i64 x.seen, .slice a5 x.wants.length c5, .slice a6 x.runs.length c6, .slice a7 x.asks.length c7, .slice a8 x.gives.length c8] _ HK2.out.rangeA Tryz.underlying32 rfl isz_Mte ?_)
  refine (implValid_any x a5 c5 a6 c6 a7 c7 a8 c8 lo _ (ms_all HM.out (HI.out.below hB2 (Nat.le_refl _)))).mono ?_
  rintro e w3 ⟨rfl, hb3⟩
  have HK3 := Hid.intro (HK2.out.below hb3 HK2.out.lt)
  have HZ3 := Hid.intro (HZ2.out.below hb3 HZ2.out.lt)
  have hB3 := hB2.trans (hb3.mono hB2.size)
  clear hb3 HK2 HZ2 hB2
  have HTS := Hid.intro HZ3.out.there
  cases hmv : mvB x with
  | false =>
    have hy : noMte = fall x mach := by unfold fall; rw [hmv]; rfl
    obtain ⟨wf, HE⟩ : ∃ wf, Hid (wf = w3.setCells (w.heap.size + 1) 0 [.string ⟨#[]⟩, .bool false, .int .i64 0, .bool false, .int .i64 0, .slice none 0 0, .slice none 0 0, .slice none 0 0, .slice none 0 0]) := ⟨_, rfl⟩
    have HRf : Hid (wf.rangeAt (w.heap.size + 1) 0 [.string ⟨#[]⟩, .bool false, .int .i64 0, .bool false, .int .i64 0, .slice none 0 0, .slice none 0 0, .slice none 0 0, .slice none 0 0]) := by
      show World.rangeAt _ _ _ _
      rw [HE.out]
      exact World.rangeAt_setCells_same _ _ _ _ HTS.out
    have hBf : Below w.heap.size w wf := by
      rw [HE.out]
      exact below_setCells (by omega) _ _ _ hB3
    have HYY := Hid.intro hy
    clear hB3 hmv hy
    go_wp2_with (refine wpList_store_to rfl 32 _ _ rfl (w.heap.size + 1) 0 #[.string ⟨#[]⟩, .bool false, .int .i64 0, .bool false, .int .i64 0, .slice none 0 0, .slice none 0 0, .slice none 0 0, .slice none 0 0] (by first | rfl | (simp [go_sem]; done)) rfl HTS.out isz_Mte (by simp [Value.oneCell']) wf HE.out ?_)
    exact bodyPost_ret (results_cell_mid rfl _ _ (w.heap.size + 1) [.string ⟨#[]⟩, .bool false, .int .i64 0, .bool false, .int .i64 0, .slice none 0 0, .slice none 0 0, .slice none 0 0, .slice none 0 0] _ rfl HRf.out Tryz.underlying32 rfl isz_Mte) rfl ⟨noMte, none, 0, none, 0, none, 0, none, 0, HYY.out, rfl, ⟨w.heap.size, w.heap.size, w.heap.size, Nat.le_refl _, Nat.le_refl _, Nat.le_refl _, hBf.size, Nat.le_refl _, und_none, und_none, und_none, und_none, SliceC.nil, SliceC.nil, SliceC.nil, SliceC.nil⟩, hBf⟩
  | true =>
    have HMV := Hid.intro hmv
    clear hmv HTS
    have k6 : w3.cell? ⟨w.heap.size, 6, none⟩ = some (.slice a6 x.runs.length c6) := HK3.out.cell rfl
    have HLA := Hid.intro (kept_len (P := fun r => alB r.state) HM.out.l6 HM.out.z6)
    go_wp2_with fail
    clear k6
    refine (only_any 25 (fun r => alB r.state) x.runs a6 c6 lo _ (HI.out.s6.below RnC.holds hB3 (Nat.le_refl _)) HM.out.l6 (fun r v => implAlive_any r v) (enters_of Tryz.func25 (by kernel_rfl) rfl)).mono ?_
    rintro e w4 ⟨b1, q1, rfl, ho4, hb4⟩
    have HK4 := Hid.intro (HK3.out.below hb4 HK3.out.lt)
    have HZ4 := Hid.intro (HZ3.out.below hb4 HZ3.out.lt)
    have hB4 := hB3.trans (hb4.mono hB3.size)
    have HO4 := Hid.intro ho4
    have hs4 := hb4.size
    clear hb4 ho4 HK3 HZ3 hB3
    cases mach with
    | false =>
      have HYY : Hid (⟨x.name, false, x.clock, false, 0, [], x.runs.filter (fun r => alB r.state), [], []⟩ = fall x false) := by show _ = _; unfold fall; rw [HMV.out]; rfl
      generalize x.runs.filter (fun r => alB r.state) = L at *
      have k0 : w4.cell? ⟨w.heap.size, 0, none⟩ = some (.string x.name) := HK4.out.cell rfl
      have k2 : w4.cell? ⟨w.heap.size, 2, none⟩ = some (.int .i64 x.clock) := HK4.out.cell rfl
      have HSL := Hid.intro (rowslRn HO4.out HLA.out.1 HLA.out.2)
      have HSP := Hid.intro (own_spot HO4.out)
      have hgl : w.heap.size + 1 < w4.heap.size := HZ4.out.lt
      go_wp2_with fail
      clear k0 k2
      refine (newMate_any ⟨x.name, false, x.clock, false, 0, [], L, [], []⟩ none 0 b1 q1 none 0 none 0 _ _ ⟨SliceC.nil, HSL.out, SliceC.nil, SliceC.nil, fun _ _ _ e => (by cases e), HSP.out, fun _ _ _ e => (by cases e), fun _ _ _ e => (by cases e)⟩ ⟨HM.out.nm, fun _ h => (by cases h), HLA.out.2, fun _ h => (by cases h), fun _ h => (by cases h), Nat.zero_le _, HLA.out.1, Nat.zero_le _, Nat.zero_le _⟩).mono ?_
      rintro e wn ⟨b5, q5, b6, q6, b7, q7, b8, q8, rfl, hg, hbn⟩
      have HZn := Hid.intro (HZ4.out.below hbn HZ4.out.lt)
      have hBn := hB4.trans (hbn.mono hB4.size)
      have HG := Hid.intro hg
      have HTZ := Hid.intro HZn.out.there
      obtain ⟨wf, HE⟩ : ∃ wf, Hid (wf = wn.setCells (w.heap.size + 1) 0 [.string x.name, .bool false, .int .i64 x.clock, .bool false, .int .i64 0, .slice b5 0 q5, .slice b6 (L).length q6, .slice b7 0 q7, .slice b8 0 q8]) := ⟨_, rfl⟩
      have HRf : Hid (wf.rangeAt (w.heap.size + 1) 0 [.string x.name, .bool false, .int .i64 x.clock, .bool false, .int .i64 0, .slice b5 0 q5, .slice b6 (L).length q6, .slice b7 0 q7, .slice b8 0 q8]) := by
        show World.rangeAt _ _ _ _
        rw [HE.out]
        exact World.rangeAt_setCells_same _ _ _ _ HTZ.out
      have hBf : Below w.heap.size w wf := by
        rw [HE.out]
        exact below_setCells (by omega) _ _ _ hBn
      replace HG : Hid (G4 ⟨x.name, false, x.clock, false, 0, [], L, [], []⟩ w.heap.size wf.heap.size b5 b6 b7 b8 wf) := by
        have hk : Keeps w4.heap.size wn wf := by rw [HE.out]; exact Keeps.setCells hgl _ _ _
        exact (HG.out.keep hk).widen (by omega) hk.1 (Nat.le_refl _)
      clear hbn hg hBn HZn
      go_wp2_with (refine wpList_store_to rfl 32 _ _ rfl (w.heap.size + 1) 0 #[.string x.name, .bool false, .int .i64 x.clock, .bool false, .int .i64 0, .slice b5 0 q5, .slice b6 (L).length q6, .slice b7 0 q7, .slice b8 0 q8] (by first | rfl | (simp [go_sem]; done)) rfl HTZ.out isz_Mte (by simp [Value.oneCell']) wf HE.out ?_)
      exact bodyPost_ret (results_cell_mid rfl _ _ (w.heap.size + 1) [.string x.name, .bool false, .int .i64 x.clock, .bool false, .int .i64 0, .slice b5 0 q5, .slice b6 (L).length q6, .slice b7 0 q7, .slice b8 0 q8] _ rfl HRf.out Tryz.underlying32 rfl isz_Mte) rfl ⟨⟨x.name, false, x.clock, false, 0, [], L, [], []⟩, b5, q5, b6, q6, b7, q7, b8, q8, HYY.out, rfl, HG.out, hBf⟩
    | true =>
      have HYY : Hid (⟨x.name, false, x.clock, false, 0, [], ((x.runs.filter (fun r => alB r.state)).filter (fun r => !(r.want.hold.toList == []))).map killR, [], []⟩ = fall x true) := by show _ = _; unfold fall; rw [HMV.out]; rfl
      have HLB := Hid.intro (kept_len (P := fun r => !(r.want.hold.toList == [])) HLA.out.1 HLA.out.2)
      go_wp2_with fail
      refine (only_any 27 (fun r => !(r.want.hold.toList == [])) (x.runs.filter (fun r => alB r.state)) b1 q1 w3.heap.size _ (rowslRn HO4.out HLA.out.1 HLA.out.2) HLA.out.1 (fun r v => hasHold_any r v) (enters_of Tryz.func27 (by kernel_rfl) rfl)).mono ?_
      rintro e w5 ⟨b2, q2, rfl, ho5, hb5⟩
      have HK5 := Hid.intro (HK4.out.below hb5 HK4.out.lt)
      have HZ5 := Hid.intro (HZ4.out.below hb5 HZ4.out.lt)
      have hB5 := hB4.trans (hb5.mono hB4.size)
      have HO5 := Hid.intro ho5
      clear hb5 ho5 HK4 HZ4 hB4 HO4
      have HLC := Hid.intro (kill_len HLB.out.1 HLB.out.2)
      generalize (x.runs.filter (fun r => alB r.state)).filter (fun r => !(r.want.hold.toList == [])) = L2 at *
      go_wp2_with fail
      refine (eagK_any L2 b2 q2 w4.heap.size _ (rowslRn HO5.out HLB.out.1 HLB.out.2) HLB.out.1 (own_spot HO5.out)).mono ?_
      rintro e w6 ⟨b3, q3, rfl, ho6, hb6⟩
      generalize L2.map killR = L at *
      have HK6 := Hid.intro (HK5.out.below hb6 HK5.out.lt)
      have HZ6 := Hid.intro (HZ5.out.below hb6 HZ5.out.lt)
      have hB6 := hB5.trans (hb6.mono hB5.size)
      have HO6 := Hid.intro ho6
      clear hb6 ho6 HK5 HZ5 hB5 HO5
      have k0 : w6.cell? ⟨w.heap.size, 0, none⟩ = some (.string x.name) := HK6.out.cell rfl
      have k2 : w6.cell? ⟨w.heap.size, 2, none⟩ = some (.int .i64 x.clock) := HK6.out.cell rfl
      have HSL := Hid.intro (rowslRn HO6.out HLC.out.1 HLC.out.2)
      have HSP := Hid.intro (own_spot HO6.out)
      have hgl : w.heap.size + 1 < w6.heap.size := HZ6.out.lt
      go_wp2_with fail
      clear k0 k2
      refine (newMate_any ⟨x.name, false, x.clock, false, 0, [], L, [], []⟩ none 0 b3 q3 none 0 none 0 _ _ ⟨SliceC.nil, HSL.out, SliceC.nil, SliceC.nil, fun _ _ _ e => (by cases e), HSP.out, fun _ _ _ e => (by cases e), fun _ _ _ e => (by cases e)⟩ ⟨HM.out.nm, fun _ h => (by cases h), HLC.out.2, fun _ h => (by cases h), fun _ h => (by cases h), Nat.zero_le _, HLC.out.1, Nat.zero_le _, Nat.zero_le _⟩).mono ?_
      rintro e wn ⟨b5, q5, b6, q6, b7, q7, b8, q8, rfl, hg, hbn⟩
      have HZn := Hid.intro (HZ6.out.below hbn HZ6.out.lt)
      have hBn := hB6.trans (hbn.mono hB6.size)
      have HG := Hid.intro hg
      have HTZ := Hid.intro HZn.out.there
      obtain ⟨wf, HE⟩ : ∃ wf, Hid (wf = wn.setCells (w.heap.size + 1) 0 [.string x.name, .bool false, .int .i64 x.clock, .bool false, .int .i64 0, .slice b5 0 q5, .slice b6 (L).length q6, .slice b7 0 q7, .slice b8 0 q8]) := ⟨_, rfl⟩
      have HRf : Hid (wf.rangeAt (w.heap.size + 1) 0 [.string x.name, .bool false, .int .i64 x.clock, .bool false, .int .i64 0, .slice b5 0 q5, .slice b6 (L).length q6, .slice b7 0 q7, .slice b8 0 q8]) := by
        show World.rangeAt _ _ _ _
        rw [HE.out]
        exact World.rangeAt_setCells_same _ _ _ _ HTZ.out
      have hBf : Below w.heap.size w wf := by
        rw [HE.out]
        exact below_setCells (by omega) _ _ _ hBn
      replace HG : Hid (G4 ⟨x.name, false, x.clock, false, 0, [], L, [], []⟩ w.heap.size wf.heap.size b5 b6 b7 b8 wf) := by
        have hk : Keeps w6.heap.size wn wf := by rw [HE.out]; exact Keeps.setCells hgl _ _ _
        exact (HG.out.keep hk).widen (by omega) hk.1 (Nat.le_refl _)
      clear hbn hg hBn HZn
      go_wp2_with (refine wpList_store_to rfl 32 _ _ rfl (w.heap.size + 1) 0 #[.string x.name, .bool false, .int .i64 x.clock, .bool false, .int .i64 0, .slice b5 0 q5, .slice b6 (L).length q6, .slice b7 0 q7, .slice b8 0 q8] (by first | rfl | (simp [go_sem]; done)) rfl HTZ.out isz_Mte (by simp [Value.oneCell']) wf HE.out ?_)
      exact bodyPost_ret (results_cell_mid rfl _ _ (w.heap.size + 1) [.string x.name, .bool false, .int .i64 x.clock, .bool false, .int .i64 0, .slice b5 0 q5, .slice b6 (L).length q6, .slice b7 0 q7, .slice b8 0 q8] _ rfl HRf.out Tryz.underlying32 rfl isz_Mte) rfl ⟨⟨x.name, false, x.clock, false, 0, [], L, [], []⟩, b5, q5, b6, q6, b7, q7, b8, q8, HYY.out, rfl, HG.out, hBf⟩

end Go.Proofs.YtcmjnocfgffgfaaGreat
