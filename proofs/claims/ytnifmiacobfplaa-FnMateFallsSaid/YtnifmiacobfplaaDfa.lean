import Derived.Test.YtnifmiacobfplaaTkw
import Derived.Test.YtnifmiacobfplaaDan
import Derived.Test.YtnifmiacobfplaaJ38
namespace Go.Proofs.Ytnifmiacobfplaa
open Go.RowKit

set_option maxHeartbeats 8000000 in
set_option maxRecDepth 100000 in
theorem drawFall_any (xs : List Nat) (a : Option Addr) (cap : Nat) (w : World) (hin : ∀ (k x : Nat), xs[k]? = some x → ∃ b o, a = some ⟨b, o, none⟩ ∧ w.cell? ⟨b, o + k, none⟩ = some (.int .u8 (x : Int)) ∧ x < 256 ∧ b < w.heap.size) (hl : xs.length ≤ 1048576) (hc : xs.length ≤ cap) :
  Calls Try.prog 4 #[.slice a xs.length cap] w fun e w' => ∃ (x : Mte) (b5 : Option Addr) (q5 : Nat) (b6 : Option Addr) (q6 : Nat) (b7 : Option Addr) (q7 : Nat) (b8 : Option Addr) (q8 : Nat) (m : Bool), e = .returned (.tuple #[.agg #[.string x.name, .bool x.up, .int .i64 x.clock, .bool x.known, .int .i64 x.seen, .slice b5 x.wants.length q5, .slice b6 x.runs.length q6, .slice b7 x.asks.length q7, .slice b8 x.gives.length q8], .bool m]) ∧ MkL w.heap.size x b5 q5 b6 q6 b7 q7 b8 q8 w' ∧ Few x 20 ∧ Below w.heap.size w w' := by
 have HZ0 : Hid (Blk w.heap.size #[.string ⟨#[]⟩, .bool false, .int .i64 0, .bool false, .int .i64 0, .slice none 0 0, .slice none 0 0, .slice none 0 0, .slice none 0 0] 27 (w.alloc (.cells #[.string ⟨#[]⟩, .bool false, .int .i64 0, .bool false, .int .i64 0, .slice none 0 0, .slice none 0 0, .slice none 0 0, .slice none 0 0] 27))) := Blk.alloc _ _ _
 have hB0 : Below w.heap.size w (w.alloc (.cells #[.string ⟨#[]⟩, .bool false, .int .i64 0, .bool false, .int .i64 0, .slice none 0 0, .slice none 0 0, .slice none 0 0, .slice none 0 0] 27)) := (Below.refl _ _).alloc (Nat.le_refl _) _
 have HI0 : Hid (∀ (k x : Nat), xs[k]? = some x → ∃ b o, a = some ⟨b, o, none⟩ ∧ (w.alloc (.cells #[.string ⟨#[]⟩, .bool false, .int .i64 0, .bool false, .int .i64 0, .slice none 0 0, .slice none 0 0, .slice none 0 0, .slice none 0 0] 27)).cell? ⟨b, o + k, none⟩ = some (.int .u8 (x : Int)) ∧ x < 256 ∧ b < (w.alloc (.cells #[.string ⟨#[]⟩, .bool false, .int .i64 0, .bool false, .int .i64 0, .slice none 0 0, .slice none 0 0, .slice none 0 0, .slice none 0 0] 27)).heap.size) := fun k x hk => by
  obtain ⟨b, o, e, c, l, q⟩ := hin k x hk
  exact ⟨b, o, e, (hB0.cell (p := ⟨b, o + k, none⟩) q).trans c, l, by have := hB0.size; omega⟩
 clear hin
 go_enter Try.func4, Try.ntmps4
 go_wp2_with fail
 generalize w.alloc (Obj.cells #[.string ⟨#[]⟩, .bool false, .int .i64 0, .bool false, .int .i64 0, .slice none 0 0, .slice none 0 0, .slice none 0 0, .slice none 0 0] 27) = w0 at *
 refine (open_rd xs a cap _ HI0.out hl hc).mono ?_
 rintro e w1 ⟨p, rfl, hr, hp, hb⟩
 have h0 : w.heap.size < w0.heap.size := HZ0.out.lt
 have hpl : p < w1.heap.size := hr.lt
 have HZ1 := Hid.intro (HZ0.out.below hb HZ0.out.lt)
 have hB1 : Below w.heap.size w w1 := hB0.trans (hb.mono hB0.size)
 have HR1 := Hid.intro hr
 clear HZ0 hB0 HI0 hr hb hl hc
 go_wp2_with fail
 refine (any13_any p 0 _ HR1.out (by omega)).mono ?_
 rintro e w2 ⟨x, b5, q5, b6, q6, b7, q7, b8, q8, K, rfl, hl, hf, hK, hr, hb⟩
 have h12 : w1.heap.size ≤ w2.heap.size := hb.size
 have HZ2 := Hid.intro (HZ1.out.bt hb HZ1.out.lt (by omega))
 have hB2 : Below w.heap.size w w2 := hB1.trans (hb.below hB1.size (by omega))
 have hba : Below w2.heap.size w2 (w2.alloc (.cells #[.string x.name, .bool x.up, .int .i64 x.clock, .bool x.known, .int .i64 x.seen, .slice b5 x.wants.length q5, .slice b6 x.runs.length q6, .slice b7 x.asks.length q7, .slice b8 x.gives.length q8] 27)) := (Below.refl _ _).alloc (Nat.le_refl _) _
 have HX3 : Hid (Blk w2.heap.size #[.string x.name, .bool x.up, .int .i64 x.clock, .bool x.known, .int .i64 x.seen, .slice b5 x.wants.length q5, .slice b6 x.runs.length q6, .slice b7 x.asks.length q7, .slice b8 x.gives.length q8] 27 (w2.alloc (.cells #[.string x.name, .bool x.up, .int .i64 x.clock, .bool x.known, .int .i64 x.seen, .slice b5 x.wants.length q5, .slice b6 x.runs.length q6, .slice b7 x.asks.length q7, .slice b8 x.gives.length q8] 27))) := Blk.alloc _ _ _
 have HZ3 := Hid.intro (HZ2.out.below hba HZ2.out.lt)
 have hB3 := hB2.trans (hba.mono hB2.size)
 have HR3 := Hid.intro (hr.below hba hr.lt)
 have HL3 := Hid.intro (hl.same (fun b _ hb => hba.block b hb))
 clear HZ1 hB1 HR1 hr hb hl hba HZ2 hB2
 go_upto_region 3 with fail
 generalize w2.alloc (Obj.cells #[.string x.name, .bool x.up, .int .i64 x.clock, .bool x.known, .int .i64 x.seen, .slice b5 x.wants.length q5, .slice b6 x.runs.length q6, .slice b7 x.asks.length q7, .slice b8 x.gives.length q8] 27) = w3 at *
 generalize w2.heap.size = pm at *
 refine wp_region_held_drew (S := fun wy => Blk pm #[.string x.name, .bool x.up, .int .i64 x.clock, .bool x.known, .int .i64 x.seen, .slice b5 x.wants.length q5, .slice b6 x.runs.length q6, .slice b7 x.asks.length q7, .slice b8 x.gives.length q8] 27 wy) (by kernel_rfl) HX3.out.drew (fun hS => ?_)
 replace HX3 : Hid (Blk pm #[.string x.name, .bool x.up, .int .i64 x.clock, .bool x.known, .int .i64 x.seen, .slice b5 x.wants.length q5, .slice b6 x.runs.length q6, .slice b7 x.asks.length q7, .slice b8 x.gives.length q8] 27 w3.drew) := HX3.out
 replace HZ3 : Hid (Blk w.heap.size #[.string ⟨#[]⟩, .bool false, .int .i64 0, .bool false, .int .i64 0, .slice none 0 0, .slice none 0 0, .slice none 0 0, .slice none 0 0] 27 w3.drew) := HZ3.out
 replace HR3 : Hid (RdS p K w3.drew) := HR3.out
 replace HL3 : Hid (MkL w1.heap.size x b5 q5 b6 q6 b7 q7 b8 q8 w3.drew) := HL3.out.same (fun _ _ _ => rfl)
 replace hB3 : Below w.heap.size w w3.drew := hB3.drew
 generalize w3.drew = wn at *
 refine tk 0 ⟨some 10, _, _, _, _, none⟩ (.agg #[.string x.name, .bool x.up, .int .i64 x.clock, .bool x.known, .int .i64 x.seen, .slice b5 x.wants.length q5, .slice b6 x.runs.length q6, .slice b7 x.asks.length q7, .slice b8 x.gives.length q8]) rfl (yieldsIf_load_mid (by rfl) _ _ rfl pm (0) rfl [.string x.name, .bool x.up, .int .i64 x.clock, .bool x.known, .int .i64 x.seen, .slice b5 x.wants.length q5, .slice b6 x.runs.length q6, .slice b7 x.asks.length q7, .slice b8 x.gives.length q8] _ (fun _ h => h.rangeA) Try.underlying27 rfl isz_Mte) hS ?_
 simp only [pA, pB, pC, pD]
 refine ty 1 ⟨some 11, _, _, _, _, none⟩ (.pointer (some ⟨p, 0, none⟩)) rfl (by rfl) ?_ hS ?_
 ·intro wy hy
  clear hy
  go_simp
 simp only [pA, pB, pC, pD]
 refine rd1 2 ⟨some 12, _, _, _, _, none⟩ rfl (fun KK hKK => ?_)
 go_simp
 refine (pick_rd p K 2 _ HR3.out (by omega) (by omega) (by omega)).mono ?_
 rintro e w4 ⟨u, rfl, hu, hr, hb, -⟩
 have HX4 := Hid.intro (HX3.out.bt hb HX3.out.lt (by omega))
 have HZ4 := Hid.intro (HZ3.out.bt hb HZ3.out.lt (by omega))
 have hB4 : Below w.heap.size w w4 := hB3.trans (hb.below hB3.size (by omega))
 have HL4 := Hid.intro (HL3.out.same (fun b h1 h2 => hb.block b h2 (by omega)))
 refine hKK.out _ _ HX4.out (fun hS => ?_)
 clear hKK KK hb hr HX3 HZ3 hB3 HL3 HR3
 obtain ⟨m, hm⟩ : ∃ m : Bool, m = ((u : Int) == 0) := ⟨_, rfl⟩
 refine ty 3 ⟨some 13, _, _, _, _, none⟩ (.bool m) rfl (by rfl) ?_ hS ?_
 ·intro wy hy
  clear hy
  first | (go_simp; done) | (go_simp; exact hm.symm) | (rw [hm]; go_simp; done)
 simp only [pA, pB, pC, pD]
 clear hm
 refine rd1 4 ⟨none, _, _, _, _, none⟩ rfl (fun KK hKK => ?_)
 rw [if_pos (by rfl)]
 refine wp_store_mid 27 (.tmp 2) (.tmp 10) (by rfl) w.heap.size 0 #[.string x.name, .bool x.up, .int .i64 x.clock, .bool x.known, .int .i64 x.seen, .slice b5 x.wants.length q5, .slice b6 x.runs.length q6, .slice b7 x.asks.length q7, .slice b8 x.gives.length q8] (by rfl) (by rfl) HZ4.out.there isz_Mte (by simp [Value.oneCell']) ?_
 have HRf : Hid ((w4.setCells w.heap.size 0 [.string x.name, .bool x.up, .int .i64 x.clock, .bool x.known, .int .i64 x.seen, .slice b5 x.wants.length q5, .slice b6 x.runs.length q6, .slice b7 x.asks.length q7, .slice b8 x.gives.length q8]).rangeAt w.heap.size 0 [.string x.name, .bool x.up, .int .i64 x.clock, .bool x.known, .int .i64 x.seen, .slice b5 x.wants.length q5, .slice b6 x.runs.length q6, .slice b7 x.asks.length q7, .slice b8 x.gives.length q8]) := World.rangeAt_setCells_same w4 w.heap.size 0 _ HZ4.out.there
 have hBf : Below w.heap.size w (w4.setCells w.heap.size 0 [.string x.name, .bool x.up, .int .i64 x.clock, .bool x.known, .int .i64 x.seen, .slice b5 x.wants.length q5, .slice b6 x.runs.length q6, .slice b7 x.asks.length q7, .slice b8 x.gives.length q8]) := below_setCells (Nat.le_refl _) _ _ _ hB4
 have HLf : Hid (MkL w.heap.size x b5 q5 b6 q6 b7 q7 b8 q8 (w4.setCells w.heap.size 0 [.string x.name, .bool x.up, .int .i64 x.clock, .bool x.known, .int .i64 x.seen, .slice b5 x.wants.length q5, .slice b6 x.runs.length q6, .slice b7 x.asks.length q7, .slice b8 x.gives.length q8])) := (HL4.out.same (fun b hb _ => heap_setCells_neM (by omega) _ _ _)).lower (by omega)
 refine hKK.out _ _ (blk_setCells_other (by omega) _ _ _ HX4.out) (fun hS => ?_)
 clear hKK KK
 generalize w4.setCells w.heap.size 0 [.string x.name, .bool x.up, .int .i64 x.clock, .bool x.known, .int .i64 x.seen, .slice b5 x.wants.length q5, .slice b6 x.runs.length q6, .slice b7 x.asks.length q7, .slice b8 x.gives.length q8] = wf at *
 refine ty 5 ⟨some 3, _, _, _, _, none⟩ (.bool m) rfl (by rfl) ?_ hS ?_
 ·intro wy hy
  clear hy
  go_simp
 simp only [Act.put, List.setIfInBounds_toArray, List.set_cons_zero, List.set_cons_succ]
 refine wpAnyH_done (by kernel_rfl) ?_ _
 clear hS
 go_wp2_with fail
 exact bodyPost_ret (results_cell_tmp rfl _ _ w.heap.size [.string x.name, .bool x.up, .int .i64 x.clock, .bool x.known, .int .i64 x.seen, .slice b5 x.wants.length q5, .slice b6 x.runs.length q6, .slice b7 x.asks.length q7, .slice b8 x.gives.length q8] _ rfl HRf.out Try.underlying27 rfl isz_Mte) rfl ⟨x, b5, q5, b6, q6, b7, q7, b8, q8, m, rfl, HLf.out, hf, hBf⟩

end Go.Proofs.Ytnifmiacobfplaa
