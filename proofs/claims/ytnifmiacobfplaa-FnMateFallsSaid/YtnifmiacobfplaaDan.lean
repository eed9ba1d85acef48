import Derived.Test.YtnifmiacobfplaaTkw
import Derived.Test.YtnifmiacobfplaaDd1
import Derived.Test.YtnifmiacobfplaaDsp
import Derived.Deep.CutBlock
namespace Go.Proofs.Ytnifmiacobfplaa
open Go.RowKit

theorem wpAnyU_only {P : Program} {ops : Array Oper} {Q : Exit → Act → World → Prop} {md : Region.Mode} {S : World → Prop} {s i : Nat} {oi : Oper} {v : Value} {n : Nat} {l : Array Bool} {a : Act} {w : World} (hi : ops[i]? = some oi) (hr : Region.ready md ops l = [i]) (hy : YieldsIf P ops S oi v a) (hS : S w)
  (h : wpAnyU P md ops Q s S n (l.setIfInBounds i true) (a.put oi.dst v) w) : wpAnyU P md ops Q s S (n + 1) l a w :=
 ⟨fun h0 => (by rw [hr] at h0; cases h0), (by rw [hr]; intro j hj; rw [List.mem_singleton.1 hj]; exact hy.wpOp hi hS ⟨fun _ => hS, h⟩)⟩

set_option maxHeartbeats 40000000 in
set_option maxRecDepth 100000 in
theorem any13_any (p k0 : Nat) (w : World) (hR : RdS p k0 w) (hK0 : k0 ≤ 400000) :
  Calls Try.prog 16 #[.pointer (some ⟨p, 0, none⟩)] w fun e w' => ∃ (x : Mte) (b5 : Option Addr) (q5 : Nat) (b6 : Option Addr) (q6 : Nat) (b7 : Option Addr) (q7 : Nat) (b8 : Option Addr) (q8 : Nat) (K : Nat), e = .returned (.agg #[.string x.name, .bool x.up, .int .i64 x.clock, .bool x.known, .int .i64 x.seen, .slice b5 x.wants.length q5, .slice b6 x.runs.length q6, .slice b7 x.asks.length q7, .slice b8 x.gives.length q8]) ∧ MkL w.heap.size x b5 q5 b6 q6 b7 q7 b8 q8 w' ∧ Few x 20 ∧ K ≤ k0 + 500 ∧ RdS p K w' ∧ Bt p w.heap.size w w' := by
 obtain ⟨iR, hiR, hy0, hy1, hy2⟩ := info_parts info_Rn
 have hp : p < w.heap.size := hR.lt
 have HZ0 : Hid (Blk w.heap.size #[.string ⟨#[]⟩, .bool false, .int .i64 0, .bool false, .int .i64 0, .slice none 0 0, .slice none 0 0, .slice none 0 0, .slice none 0 0] 27 (w.alloc (.cells #[.string ⟨#[]⟩, .bool false, .int .i64 0, .bool false, .int .i64 0, .slice none 0 0, .slice none 0 0, .slice none 0 0, .slice none 0 0] 27))) := Blk.alloc _ _ _
 have hb0 : Below w.heap.size w (w.alloc (.cells #[.string ⟨#[]⟩, .bool false, .int .i64 0, .bool false, .int .i64 0, .slice none 0 0, .slice none 0 0, .slice none 0 0, .slice none 0 0] 27)) := (Below.refl _ _).alloc (Nat.le_refl _) _
 have HR0 : Hid (RdS p k0 (w.alloc (.cells #[.string ⟨#[]⟩, .bool false, .int .i64 0, .bool false, .int .i64 0, .slice none 0 0, .slice none 0 0, .slice none 0 0, .slice none 0 0] 27))) := hR.below hb0 hR.lt
 have hT0 : Bt p w.heap.size w (w.alloc (.cells #[.string ⟨#[]⟩, .bool false, .int .i64 0, .bool false, .int .i64 0, .slice none 0 0, .slice none 0 0, .slice none 0 0, .slice none 0 0] 27)) := Bt.of_below hb0
 clear hR hb0
 go_enter Try.func16, Try.ntmps16
 go_upto_region 1 with fail
 generalize w.alloc (Obj.cells #[.string ⟨#[]⟩, .bool false, .int .i64 0, .bool false, .int .i64 0, .slice none 0 0, .slice none 0 0, .slice none 0 0, .slice none 0 0] 27) = w0 at *
 go_wp2_with fail
 refine (draw13_any p k0 _ HR0.out (by omega)).mono ?_
 rintro e w1 ⟨x, b5, q5, b6, q6, b7, q7, b8, q8, K1, rfl, hl, hf, hc, hK1, hr, hb⟩
 have hs0 : w.heap.size < w0.heap.size := HZ0.out.lt
 have hs1 : w0.heap.size ≤ w1.heap.size := hb.size
 have HZ1 := Hid.intro (HZ0.out.bt hb HZ0.out.lt (by omega))
 have hT1 : Bt p w.heap.size w w1 := hT0.trans (hb.mono hT0.size)
 have hba : Below w1.heap.size w1 (w1.alloc (.cells #[.string x.name, .bool x.up, .int .i64 x.clock, .bool x.known, .int .i64 x.seen, .slice b5 x.wants.length q5, .slice b6 x.runs.length q6, .slice b7 x.asks.length q7, .slice b8 x.gives.length q8] 27)) := (Below.refl _ _).alloc (Nat.le_refl _) _
 have HI2 : Hid (Inv p w.heap.size w1.heap.size w x b5 q5 b6 q6 b7 q7 b8 q8 K1 (w1.alloc (.cells #[.string x.name, .bool x.up, .int .i64 x.clock, .bool x.known, .int .i64 x.seen, .slice b5 x.wants.length q5, .slice b6 x.runs.length q6, .slice b7 x.asks.length q7, .slice b8 x.gives.length q8] 27))) := ⟨hr.below hba hr.lt, MkS.made (hl.lower (by omega)) (by omega) (by omega), HZ1.out.below hba HZ1.out.lt, hT1.trans (Bt.of_below (hba.mono hT1.size)), Nat.le_refl _, hp⟩
 have hf5 := hf.l5
 have hf6 := hf.l6
 have hf7 := hf.l7
 have hf8 := hf.l8
 obtain ⟨hc0, hc1⟩ := hc
 have HF := Hid.intro hf
 clear hl hb hr hba HZ1 hT1 HZ0 hT0 HR0 hs0 hs1 hf
 go_upto_region 2 with fail
 generalize w1.alloc (Obj.cells #[.string x.name, .bool x.up, .int .i64 x.clock, .bool x.known, .int .i64 x.seen, .slice b5 x.wants.length q5, .slice b6 x.runs.length q6, .slice b7 x.asks.length q7, .slice b8 x.gives.length q8] 27) = w2 at *
 generalize w1.heap.size = pm at *
 go_wp2_with fail
 refine (pick_rd p K1 24 _ HI2.out.R (by omega) (by omega) (by omega)).mono ?_
 rintro e w3 ⟨v, rfl, hv, hr, hb, -⟩
 have HI3 := Hid.intro (HI2.out.bt hb hr)
 clear hr hb HI2
 by_cases hv2 : v < 2
 case pos =>
  rcases (by omega : v = 0 ∨ v = 1) with rfl | rfl
  ·skip
   go_wp2_with (refine wpList_load_mid rfl 27 _ rfl pm 0 rfl [.string x.name, .bool x.up, .int .i64 x.clock, .bool x.known, .int .i64 x.seen, .slice b5 x.wants.length q5, .slice b6 x.runs.length q6, .slice b7 x.asks.length q7, .slice b8 x.gives.length q8] _ HI3.out.S.blk.rangeA Try.underlying27 rfl isz_Mte ?_)
   refine (spoil13_any p (K1 + 1) x b5 q5 b6 q6 b7 q7 b8 q8 _ _ HI3.out.R (by omega) HI3.out.S.L HF.out hc0 hc1).mono ?_
   rintro e w4 ⟨y, d5, g5, d6, g6, d7, g7, d8, g8, K, rfl, hl, hfy, hK, hr, hb⟩
   have HI4 := Hid.intro (HI3.out.bt hb hr)
   have h34 : w.heap.size < w3.heap.size := HI3.out.Z.lt
   have HRf : Hid ((w4.setCells w.heap.size 0 [.string y.name, .bool y.up, .int .i64 y.clock, .bool y.known, .int .i64 y.seen, .slice d5 y.wants.length g5, .slice d6 y.runs.length g6, .slice d7 y.asks.length g7, .slice d8 y.gives.length g8]).rangeAt w.heap.size 0 [.string y.name, .bool y.up, .int .i64 y.clock, .bool y.known, .int .i64 y.seen, .slice d5 y.wants.length g5, .slice d6 y.runs.length g6, .slice d7 y.asks.length g7, .slice d8 y.gives.length g8]) := World.rangeAt_setCells_same w4 w.heap.size 0 _ HI4.out.Z.there
   have hbs : Below w.heap.size w4 (w4.setCells w.heap.size 0 [.string y.name, .bool y.up, .int .i64 y.clock, .bool y.known, .int .i64 y.seen, .slice d5 y.wants.length g5, .slice d6 y.runs.length g6, .slice d7 y.asks.length g7, .slice d8 y.gives.length g8]) := below_setCells (Nat.le_refl _) _ _ _ (Below.refl _ _)
   have HR8 : Hid (RdS p K (w4.setCells w.heap.size 0 [.string y.name, .bool y.up, .int .i64 y.clock, .bool y.known, .int .i64 y.seen, .slice d5 y.wants.length g5, .slice d6 y.runs.length g6, .slice d7 y.asks.length g7, .slice d8 y.gives.length g8])) := HI4.out.R.below hbs hp
   have HT8 : Hid (Bt p w.heap.size w (w4.setCells w.heap.size 0 [.string y.name, .bool y.up, .int .i64 y.clock, .bool y.known, .int .i64 y.seen, .slice d5 y.wants.length g5, .slice d6 y.runs.length g6, .slice d7 y.asks.length g7, .slice d8 y.gives.length g8])) := HI4.out.T.trans (Bt.of_below hbs)
   have HL8 : Hid (MkL w.heap.size y d5 g5 d6 g6 d7 g7 d8 g8 (w4.setCells w.heap.size 0 [.string y.name, .bool y.up, .int .i64 y.clock, .bool y.known, .int .i64 y.seen, .slice d5 y.wants.length g5, .slice d6 y.runs.length g6, .slice d7 y.asks.length g7, .slice d8 y.gives.length g8])) := (hl.same (fun b hb _ => heap_setCells_neM (by omega) _ _ _)).lower (by omega)
   obtain ⟨wf, HE⟩ : ∃ wf, Hid (wf = w4.setCells w.heap.size 0 [.string y.name, .bool y.up, .int .i64 y.clock, .bool y.known, .int .i64 y.seen, .slice d5 y.wants.length g5, .slice d6 y.runs.length g6, .slice d7 y.asks.length g7, .slice d8 y.gives.length g8]) := ⟨_, rfl⟩
   rw [← HE.out] at HRf HR8 HT8 HL8
   have HTS := Hid.intro HI4.out.Z.there
   clear hbs hl hr hb HI3
   go_wp2_with (refine wpList_store_to rfl 27 _ _ rfl w.heap.size 0 #[.string y.name, .bool y.up, .int .i64 y.clock, .bool y.known, .int .i64 y.seen, .slice d5 y.wants.length g5, .slice d6 y.runs.length g6, .slice d7 y.asks.length g7, .slice d8 y.gives.length g8] rfl rfl HTS.out isz_Mte (by simp [Value.oneCell']) wf HE.out ?_)
   exact bodyPost_ret (results_cell_mid rfl _ _ w.heap.size [.string y.name, .bool y.up, .int .i64 y.clock, .bool y.known, .int .i64 y.seen, .slice d5 y.wants.length g5, .slice d6 y.runs.length g6, .slice d7 y.asks.length g7, .slice d8 y.gives.length g8] _ rfl HRf.out Try.underlying27 rfl isz_Mte) rfl ⟨y, d5, g5, d6, g6, d7, g7, d8, g8, K, rfl, HL8.out, ⟨by have := hfy.l5; omega, by have := hfy.l6; omega, by have := hfy.l7; omega, by have := hfy.l8; omega⟩, by omega, HR8.out, HT8.out⟩
  ·skip
   go_wp2_with (refine wpList_load_mid rfl 27 _ rfl pm 0 rfl [.string x.name, .bool x.up, .int .i64 x.clock, .bool x.known, .int .i64 x.seen, .slice b5 x.wants.length q5, .slice b6 x.runs.length q6, .slice b7 x.asks.length q7, .slice b8 x.gives.length q8] _ HI3.out.S.blk.rangeA Try.underlying27 rfl isz_Mte ?_)
   refine (spoil13_any p (K1 + 1) x b5 q5 b6 q6 b7 q7 b8 q8 _ _ HI3.out.R (by omega) HI3.out.S.L HF.out hc0 hc1).mono ?_
   rintro e w4 ⟨y, d5, g5, d6, g6, d7, g7, d8, g8, K, rfl, hl, hfy, hK, hr, hb⟩
   have HI4 := Hid.intro (HI3.out.bt hb hr)
   have h34 : w.heap.size < w3.heap.size := HI3.out.Z.lt
   have HRf : Hid ((w4.setCells w.heap.size 0 [.string y.name, .bool y.up, .int .i64 y.clock, .bool y.known, .int .i64 y.seen, .slice d5 y.wants.length g5, .slice d6 y.runs.length g6, .slice d7 y.asks.length g7, .slice d8 y.gives.length g8]).rangeAt w.heap.size 0 [.string y.name, .bool y.up, .int .i64 y.clock, .bool y.known, .int .i64 y.seen, .slice d5 y.wants.length g5, .slice d6 y.runs.length g6, .slice d7 y.asks.length g7, .slice d8 y.gives.length g8]) := World.rangeAt_setCells_same w4 w.heap.size 0 _ HI4.out.Z.there
   have hbs : Below w.heap.size w4 (w4.setCells w.heap.size 0 [.string y.name, .bool y.up, .int .i64 y.clock, .bool y.known, .int .i64 y.seen, .slice d5 y.wants.length g5, .slice d6 y.runs.length g6, .slice d7 y.asks.length g7, .slice d8 y.gives.length g8]) := below_setCells (Nat.le_refl _) _ _ _ (Below.refl _ _)
   have HR8 : Hid (RdS p K (w4.setCells w.heap.size 0 [.string y.name, .bool y.up, .int .i64 y.clock, .bool y.known, .int .i64 y.seen, .slice d5 y.wants.length g5, .slice d6 y.runs.length g6, .slice d7 y.asks.length g7, .slice d8 y.gives.length g8])) := HI4.out.R.below hbs hp
   have HT8 : Hid (Bt p w.heap.size w (w4.setCells w.heap.size 0 [.string y.name, .bool y.up, .int .i64 y.clock, .bool y.known, .int .i64 y.seen, .slice d5 y.wants.length g5, .slice d6 y.runs.length g6, .slice d7 y.asks.length g7, .slice d8 y.gives.length g8])) := HI4.out.T.trans (Bt.of_below hbs)
   have HL8 : Hid (MkL w.heap.size y d5 g5 d6 g6 d7 g7 d8 g8 (w4.setCells w.heap.size 0 [.string y.name, .bool y.up, .int .i64 y.clock, .bool y.known, .int .i64 y.seen, .slice d5 y.wants.length g5, .slice d6 y.runs.length g6, .slice d7 y.asks.length g7, .slice d8 y.gives.length g8])) := (hl.same (fun b hb _ => heap_setCells_neM (by omega) _ _ _)).lower (by omega)
   obtain ⟨wf, HE⟩ : ∃ wf, Hid (wf = w4.setCells w.heap.size 0 [.string y.name, .bool y.up, .int .i64 y.clock, .bool y.known, .int .i64 y.seen, .slice d5 y.wants.length g5, .slice d6 y.runs.length g6, .slice d7 y.asks.length g7, .slice d8 y.gives.length g8]) := ⟨_, rfl⟩
   rw [← HE.out] at HRf HR8 HT8 HL8
   have HTS := Hid.intro HI4.out.Z.there
   clear hbs hl hr hb HI3
   go_wp2_with (refine wpList_store_to rfl 27 _ _ rfl w.heap.size 0 #[.string y.name, .bool y.up, .int .i64 y.clock, .bool y.known, .int .i64 y.seen, .slice d5 y.wants.length g5, .slice d6 y.runs.length g6, .slice d7 y.asks.length g7, .slice d8 y.gives.length g8] rfl rfl HTS.out isz_Mte (by simp [Value.oneCell']) wf HE.out ?_)
   exact bodyPost_ret (results_cell_mid rfl _ _ w.heap.size [.string y.name, .bool y.up, .int .i64 y.clock, .bool y.known, .int .i64 y.seen, .slice d5 y.wants.length g5, .slice d6 y.runs.length g6, .slice d7 y.asks.length g7, .slice d8 y.gives.length g8] _ rfl HRf.out Try.underlying27 rfl isz_Mte) rfl ⟨y, d5, g5, d6, g6, d7, g7, d8, g8, K, rfl, HL8.out, ⟨by have := hfy.l5; omega, by have := hfy.l6; omega, by have := hfy.l7; omega, by have := hfy.l8; omega⟩, by omega, HR8.out, HT8.out⟩
 have e0 : ((v : Int) == 0) = false := by simp; omega
 have e1 : ((v : Int) == 1) = false := by simp; omega
 go_upto_block 0 with fail
 go_cut [] (fun wz => ∃ (y : Mte) (b5 : Option Addr) (q5 : Nat) (b6 : Option Addr) (q6 : Nat) (b7 : Option Addr) (q7 : Nat) (b8 : Option Addr) (q8 : Nat) (K : Nat), Hid (Inv p w.heap.size pm w y b5 q5 b6 q6 b7 q7 b8 q8 K wz) ∧ Few y 20 ∧ K ≤ K1 + 100)
 case first =>
  by_cases h2 : v = 2
  case pos =>
   subst h2
   clear e0 e1 hv2
   go_upto_region 7 with fail
   go_cut [4] (fun v wz => ∃ u : Nat, (u : Int) < 6 ∧ v = .int .i64 (1000000 - (u : Int) - x.clock) ∧ Hid (Inv p w.heap.size pm w x b5 q5 b6 q6 b7 q7 b8 q8 (K1 + 1 + 1) wz))
   case first =>
    refine wp_region_held_drew (S := fun wy => wy.cell? ⟨pm, 2, none⟩ = some (.int .i64 x.clock)) (by kernel_rfl) (HI3.out.drew.S.blk.cell rfl) (fun hS => ?_)
    have HI := Hid.intro HI3.out.drew
    clear HI3
    generalize w3.drew = wn at *
    refine ty 0 ⟨some 19, _, _, _, _, none⟩ (.pointer (some ⟨p, 0, none⟩)) rfl (by rfl) ?_ hS ?_
    ·intro wy hy
     clear hy
     go_simp
    simp only [pA, pB, pC, pD]
    refine ty 3 ⟨some 22, _, _, _, _, none⟩ (.pointer (some ⟨pm, 2, none⟩)) rfl (by rfl) ?_ hS ?_
    ·intro wy hy
     clear hy
     go_simp
    simp only [pA, pB, pC, pD]
    refine ty 4 ⟨some 23, _, _, _, _, none⟩ (.int .i64 x.clock) rfl (by rfl) ?_ hS ?_
    ·intro wy hy
     have h0 := id hy
     clear hy
     go_simp
    simp only [pA, pB, pC, pD]
    refine rd1 1 ⟨some 20, _, _, _, _, none⟩ rfl (fun KK hKK => ?_)
    go_simp
    refine (pick_rd p (K1 + 1) 6 _ HI.out.R (by omega) (by omega) (by omega)).mono ?_
    rintro e wn ⟨u, rfl, hu, hr, hb, -⟩
    replace HI := Hid.intro (HI.out.bt hb hr)
    refine hKK.out _ _ (HI.out.S.blk.cell rfl) (fun hS => ?_)
    clear hKK KK hb hr
    refine ty 2 ⟨some 21, _, _, _, _, none⟩ (.int .i64 (1000000 - (u : Int))) rfl (by rfl) ?_ hS ?_
    ·intro wy hy
     clear hy
     first | (go_simp; done) | (go_simp; rw [IntKind.wrap_i64]; omega) | (go_simp; omega)
    simp only [pA, pB, pC, pD]
    refine ty 5 ⟨some 24, _, _, _, _, none⟩ (.int .i64 (1000000 - (u : Int) - x.clock)) rfl (by rfl) ?_ hS ?_
    ·intro wy hy
     clear hy
     first | (go_simp; done) | (go_simp; rw [IntKind.wrap_i64]; omega) | (go_simp; omega)
    simp only [pA, pB, pC, pD]
    refine ty 6 ⟨some 4, _, _, _, _, none⟩ (.int .i64 (1000000 - (u : Int) - x.clock)) rfl (by rfl) ?_ hS ?_
    ·intro wy hy
     clear hy
     go_simp
    simp only [pA, pB, pC, pD]
    refine wpAnyH_done (by kernel_rfl) ?_ _
    clear hS
    go_wp2_with fail
    go_meet
    exact ⟨u, hu, rfl, HI⟩
   case rest =>
    obtain ⟨u, hu, rfl, HI4⟩ := hcut
    clear HI3
    generalize wc = w4 at *
    obtain ⟨d, hd⟩ : ∃ d : Int, d = 1000000 - (u : Int) - x.clock := ⟨_, rfl⟩
    have hd1 : x.clock + d = 1000000 - (u : Int) := by omega
    rw [← hd]
    have hd2 : -1000 ≤ d := by omega
    have hd3 : d ≤ 1000000 := by omega
    clear hd
    have k2 : w4.cell? ⟨pm, 2, none⟩ = some (.int .i64 x.clock) := HI4.out.S.blk.cell rfl
    have f2 : w4.frozen? ⟨pm, 2, none⟩ = false := HI4.out.S.blk.frozen _
    have HI5 : Hid (Inv p w.heap.size pm w { x with clock := 1000000 - (u : Int) } b5 q5 b6 q6 b7 q7 b8 q8 (K1 + 1 + 1) (w4.setCell ⟨pm, 2, none⟩ (.int .i64 (1000000 - (u : Int))))) := HI4.out.put 2 [.int .i64 (1000000 - (u : Int))] (HI4.out.S.blk.set 2 _) rfl rfl rfl rfl HI4.out.S.L.n0
    go_upto_region 9 with fail
    clear k2 f2 HI4
    generalize w4.setCell ⟨pm, 2, none⟩ (.int .i64 (1000000 - (u : Int))) = w5 at *
    obtain ⟨x0, hx0⟩ : ∃ x0 : Mte, x0 = { x with clock := 1000000 - (u : Int) } := ⟨_, rfl⟩
    have hf0 : Few x0 4 := by rw [hx0]; exact ⟨HF.out.l5, HF.out.l6, HF.out.l7, HF.out.l8⟩
    rw [← hx0] at HI5
    clear hx0
    go_wp2_with fail
    go_loopw [5] (fun i wr => ∃ (j : Nat) (y : Mte), j ≤ y.runs.length ∧ i = .int .i64 j ∧ Few y 4 ∧ Hid (Inv p w.heap.size pm w y b5 q5 b6 q6 b7 q7 b8 q8 (K1 + 1 + 1) wr)) (fun i _ => 4 - (intOf i).toNat)
    case atStart => exact ⟨0, x0, Nat.zero_le _, rfl, hf0, HI5⟩
    case round =>
     clear hf0 HI5
     obtain ⟨j, y, hj, rfl, hfy, HI⟩ := hrel
     have hy6 := hfy.l6
     have k6 : wr.cell? ⟨pm, 6, none⟩ = some (.slice b6 y.runs.length q6) := HI.out.S.blk.cell rfl
     by_cases hlt : j < y.runs.length
     case neg =>
      go_wp2_with fail
      go_meet
      exact ⟨y, b5, q5, b6, q6, b7, q7, b8, q8, K1 + 1 + 1, HI, ⟨by have := hfy.l5; omega, by omega, by have := hfy.l7; omega, by have := hfy.l8; omega⟩, by omega⟩
     obtain ⟨rn, hrn⟩ : ∃ z, y.runs[j]? = some z := ⟨y.runs[j], List.getElem?_eq_getElem hlt⟩
     have HRN := Hid.intro hrn
     have HZR := Hid.intro (HI.out.S.L.z6 rn (List.mem_of_getElem? hrn))
     obtain ⟨g6, e6, hg1, hg2, hg3, hra, hth, hfz⟩ := HI.out.S.at6 hrn
     subst e6
     have HRA := Hid.intro hra
     have HFZ := Hid.intro hfz
     clear hrn hra hth hfz
     have k62 : wr.cell? ⟨g6, j * 11 + 2, none⟩ = some (.string rn.want.hold) := HRA.out 2 _ rfl
     go_upto_if 44 with fail
     clear k62
     cases hq : rn.want.hold.toList.isEmpty with
     | true =>
      go_wp2_with fail
      go_roundw
      case rel => first | exact ⟨j + 1, y, by omega, by go_num, hfy, HI⟩ | ((repeat apply Exists.intro); exact ⟨⟨j + 1, y, by omega, by go_num, hfy, HI⟩, rfl⟩)
      case measure => simp [intOf]; omega
     | false =>
      go_upto_region 13 with fail
      have HC6 := Hid.intro k6
      clear k6
      have HCA : Hid (wr.cell? ⟨g6, j * 11 + 10, none⟩ = some (.int .i64 rn.until_)) := HRA.out 10 _ rfl
      refine wp_region_until (S := fun wy => wy.cell? ⟨pm, 6, none⟩ = some (.slice (some ⟨g6, 0, none⟩) y.runs.length q6) ∧ wy.cell? ⟨g6, j * 11 + 10, none⟩ = some (.int .i64 rn.until_)) 13 (by kernel_rfl) ⟨HC6.out, HCA.out⟩ (fun hS => ?_)
      replace HI := Hid.intro HI.out.drew
      replace HCA : Hid (wr.drew.cell? ⟨g6, j * 11 + 10, none⟩ = some (.int .i64 rn.until_)) := HCA.out
      replace HFZ : Hid (∀ o, wr.drew.frozen? ⟨g6, o, none⟩ = false) := HFZ.out
      clear HC6 HRA
      generalize wr.drew = wn at *
      refine tv 0 ⟨some 45, _, _, _, _, none⟩ (.pointer (some ⟨pm, 6, none⟩)) rfl (by rfl) ?_ hS ?_
      ·intro wy hy
       clear hy
       go_simp
      simp only [pA, pB, pC, pD]
      refine tv 1 ⟨some 46, _, _, _, _, none⟩ (.slice (some ⟨g6, 0, none⟩) y.runs.length q6) rfl (by rfl) ?_ hS ?_
      ·intro wy hy
       obtain ⟨c6, ca⟩ := id hy
       clear hy
       go_simp
      simp only [pA, pB, pC, pD]
      refine tv 2 ⟨some 47, _, _, _, _, none⟩ (.int .i64 (j : Int)) rfl (by rfl) ?_ hS ?_
      ·intro wy hy
       clear hy
       go_simp
      simp only [pA, pB, pC, pD]
      refine tv 3 ⟨some 48, _, _, _, _, none⟩ (.pointer (some ⟨pm, 6, none⟩)) rfl (by rfl) ?_ hS ?_
      ·intro wy hy
       clear hy
       go_simp
      simp only [pA, pB, pC, pD]
      refine tv 4 ⟨some 49, _, _, _, _, none⟩ (.slice (some ⟨g6, 0, none⟩) y.runs.length q6) rfl (by rfl) ?_ hS ?_
      ·intro wy hy
       obtain ⟨c6, ca⟩ := id hy
       clear hy
       go_simp
      simp only [pA, pB, pC, pD]
      refine tv 5 ⟨some 50, _, _, _, _, none⟩ (.int .i64 (j : Int)) rfl (by rfl) ?_ hS ?_
      ·intro wy hy
       clear hy
       go_simp
      simp only [pA, pB, pC, pD]
      refine tv 6 ⟨some 51, _, _, _, _, none⟩ (.pointer (some ⟨g6, j * 11, none⟩)) rfl (by rfl) ?_ hS ?_
      ·intro wy hy
       clear hy
       first | (go_simp; done) | (go_simp; omega) | (go_simp; intro hh; omega)
      simp only [pA, pB, pC, pD]
      refine tv 7 ⟨some 52, _, _, _, _, none⟩ (.pointer (some ⟨g6, j * 11 + 10, none⟩)) rfl (by rfl) ?_ hS ?_
      ·intro wy hy
       clear hy
       go_simp
      simp only [pA, pB, pC, pD]
      refine tv 8 ⟨some 53, _, _, _, _, none⟩ (.int .i64 rn.until_) rfl (by rfl) ?_ hS ?_
      ·intro wy hy
       obtain ⟨c6, ca⟩ := id hy
       clear hy
       go_simp
      simp only [pA, pB, pC, pD]
      refine tv 9 ⟨some 54, _, _, _, _, none⟩ (.int .i64 d) rfl (by rfl) ?_ hS ?_
      ·intro wy hy
       clear hy
       go_simp
      simp only [pA, pB, pC, pD]
      refine tv 10 ⟨some 55, _, _, _, _, none⟩ (.int .i64 (IntKind.i64.wrap (rn.until_ + d))) rfl (by rfl) ?_ hS ?_
      ·intro wy hy
       clear hy
       first | rfl | (go_simp; done)
      simp only [pA, pB, pC, pD]
      refine wpAnyU_only (i := 11) (oi := ⟨some 56, _, _, _, _, none⟩) (v := .pointer (some ⟨g6, j * 11, none⟩)) rfl (by kernel_rfl) (Or.inl ⟨by rfl, ?_⟩) hS ?_
      ·intro wy hy
       clear hy
       first | (go_simp; done) | (go_simp; omega) | (go_simp; intro hh; omega)
      simp only [pA, pB, pC, pD]
      refine tv 12 ⟨some 57, _, _, _, _, none⟩ (.pointer (some ⟨g6, j * 11 + 10, none⟩)) rfl (by rfl) ?_ hS ?_
      ·intro wy hy
       clear hy
       go_simp
      simp only [pA, pB, pC, pD]
      obtain ⟨nv, hnv⟩ : ∃ nv : Int, nv = IntKind.i64.wrap (rn.until_ + d) := ⟨_, rfl⟩
      rw [← hnv]
      clear hnv
      obtain ⟨y2, hi2, hrn2, hlk2⟩ := HI.out.run { rn with until_ := nv } 10 [.int .i64 nv] HRN.out (by simp) rfl HZR.out
      have HI2 := Hid.intro hi2
      have HLK := Hid.intro hlk2
      clear hi2 hrn2 hlk2
      have ka : wn.cell? ⟨g6, j * 11 + 10, none⟩ = some (.int .i64 rn.until_) := HCA.out
      have fa : wn.frozen? ⟨g6, j * 11 + 10, none⟩ = false := HFZ.out _
      refine wpAnyU_ready (rs := [13]) (by kernel_rfl) (by simp) (AllReadyU.last (o := ⟨none, _, _, _, _, none⟩) rfl (fun KK hKK => ?_))
      go_simp
      refine hKK.out _ _ ?_
      clear hKK KK
      refine wpAnyU_done (by kernel_rfl) ?_ _
      clear ka fa hS
      go_wp2_with fail
      go_roundw
      case rel => first | exact ⟨j + 1, y2, by have := HLK.out.l6; omega, by go_num, HLK.out.few hfy, HI2⟩ | ((repeat apply Exists.intro); exact ⟨⟨j + 1, y2, by have := HLK.out.l6; omega, by go_num, HLK.out.few hfy, HI2⟩, rfl⟩)
      case measure => simp [intOf]; omega
  have e2 : ((v : Int) == 2) = false := by simp; omega
  by_cases h3 : v = 3
  case neg =>
   have e3 : ((v : Int) == 3) = false := by simp; omega
   go_wp2_with fail
   go_meet
   exact ⟨x, b5, q5, b6, q6, b7, q7, b8, q8, K1 + 1, HI3, ⟨by show x.wants.length ≤ 20; omega, by show x.runs.length ≤ 20; omega, by show x.asks.length ≤ 20; omega, by show x.gives.length ≤ 20; omega⟩, by omega⟩
  subst h3
  have k1 : w3.cell? ⟨pm, 1, none⟩ = some (.bool x.up) := HI3.out.S.blk.cell rfl
  cases hup : x.up with
  | false =>
   rw [hup] at k1
   go_wp2_with fail
   go_meet
   exact ⟨x, b5, q5, b6, q6, b7, q7, b8, q8, K1 + 1, HI3, ⟨by show x.wants.length ≤ 20; omega, by show x.runs.length ≤ 20; omega, by show x.asks.length ≤ 20; omega, by show x.gives.length ≤ 20; omega⟩, by omega⟩
  | true =>
   rw [hup] at k1
   go_upto_region 16 with fail
   clear k1
   go_wp2_with fail
   go_loopw [6] (fun i wr => ∃ (j : Nat) (y : Mte) (b6 : Option Addr) (q6 : Nat), j ≤ 20 ∧ i = .int .i64 j ∧ y.runs.length = x.runs.length + j ∧ y.runs.length ≤ 20 ∧ (y.wants.length ≤ 4 ∧ y.asks.length ≤ 4 ∧ y.gives.length ≤ 4) ∧ Hid (Inv p w.heap.size pm w y b5 q5 b6 q6 b7 q7 b8 q8 (K1 + 1 + j) wr)) (fun i _ => 20 - (intOf i).toNat)
   case atStart => exact ⟨0, x, b6, q6, by omega, rfl, by omega, by omega, ⟨hf5, hf7, hf8⟩, HI3⟩
   case round =>
    clear HI3 hup
    obtain ⟨j, y, b6, q6, hj, rfl, hyl, hy20, ⟨hy5, hy7, hy8⟩, HI⟩ := hrel
    have HYL := Hid.intro hyl
    clear hyl
    go_upto_region 17 with fail
    refine wp_region_held_drew (S := fun wy => wy.cell? ⟨pm, 6, none⟩ = some (.slice b6 y.runs.length q6)) (by kernel_rfl) (HI.out.drew.S.blk.cell rfl) (fun hS => ?_)
    replace HI := Hid.intro HI.out.drew
    generalize wr.drew = wn at *
    refine ty 0 ⟨some 62, _, _, _, _, none⟩ (.pointer (some ⟨pm, 6, none⟩)) rfl (by rfl) ?_ hS ?_
    ·intro wy hy
     clear hy
     go_simp
    simp only [pA, pB, pC, pD]
    refine ty 1 ⟨some 63, _, _, _, _, none⟩ (.slice b6 y.runs.length q6) rfl (by rfl) ?_ hS ?_
    ·intro wy hy
     have h0 := id hy
     clear hy
     go_simp
    simp only [pA, pB, pC, pD]
    refine ty 2 ⟨some 64, _, _, _, _, none⟩ (.int .i64 (y.runs.length : Int)) rfl (by rfl) ?_ hS ?_
    ·intro wy hy
     clear hy
     go_simp
    simp only [pA, pB, pC, pD]
    refine ty 3 ⟨some 65, _, _, _, _, none⟩ (.pointer (some ⟨p, 0, none⟩)) rfl (by rfl) ?_ hS ?_
    ·intro wy hy
     clear hy
     go_simp
    simp only [pA, pB, pC, pD]
    refine rd1 4 ⟨some 66, _, _, _, _, none⟩ rfl (fun KK hKK => ?_)
    go_simp
    refine (pick_rd p (K1 + 1 + j) 2 _ HI.out.R (by omega) (by omega) (by omega)).mono ?_
    rintro e wn ⟨u, rfl, hu, hr, hb, -⟩
    replace HI := Hid.intro (HI.out.bt hb hr)
    refine hKK.out _ _ (HI.out.S.blk.cell rfl) (fun hS => ?_)
    clear hKK KK hb hr
    refine ty 5 ⟨some 67, _, _, _, _, none⟩ (.int .i64 (20 - (u : Int))) rfl (by rfl) ?_ hS ?_
    ·intro wy hy
     clear hy
     first | (go_simp; done) | (go_simp; rw [IntKind.wrap_i64]; omega) | (go_simp; omega)
    simp only [pA, pB, pC, pD]
    obtain ⟨t, ht⟩ : ∃ t : Bool, t = decide ((y.runs.length : Int) < 20 - (u : Int)) := ⟨_, rfl⟩
    refine ty 6 ⟨some 68, _, _, _, _, none⟩ (.bool t) rfl (by rfl) ?_ hS ?_
    ·intro wy hy
     clear hy
     first | (go_simp; done) | (go_simp; exact ht.symm) | (rw [ht]; go_simp; done)
    simp only [pA, pB, pC, pD]
    refine wpAnyH_done (by kernel_rfl) ?_ _
    clear hS
    skip
    cases t with
    | false =>
     clear ht
     go_wp2_with fail
     go_meet
     exact ⟨y, b5, q5, b6, q6, b7, q7, b8, q8, K1 + 1 + j + 1, HI, ⟨by omega, by omega, by omega, by omega⟩, by omega⟩
    | true =>
     have hlt : (y.runs.length : Int) < 20 - (u : Int) := of_decide_eq_true ht.symm
     clear ht
     have hj19 : j ≤ 19 := by have := HYL.out; omega
     have hd : ((UInt8.ofNat (97 + j)).toNat : Int) = 97 + (j : Int) := by
      have h2 : (UInt8.ofNat (97 + j)).toNat = 97 + j := by
       rw [UInt8.toNat_ofNat']
       omega
      rw [h2]
      omega
     have hcv : (convert 22 9 (.slice (some ⟨wn.heap.size, 0, none⟩) 1 1)).run Try.prog (wn.alloc (Obj.cells #[.int .u8 (97 + (j : Int))] 5)) = .ok (.string ⟨#[UInt8.ofNat (97 + j)]⟩) (wn.alloc (Obj.cells #[.int .u8 (97 + (j : Int))] 5)) :=
      run_convert_bytes_back _ _ _ 5 ⟨wn.heap.size, 0, none⟩ 1 [UInt8.ofNat (97 + j)] Try.underlying22 Try.underlying5 Try.underlying9 (fun i hi => by
       have : i = 0 := by simpa using hi
       subst this
       rw [← hd, Addr.add_mid, World.cell?_alloc_at _ _ _ _ (by rfl)]
       rfl)
     obtain ⟨s, hs⟩ : ∃ s : ByteArray, s = ⟨#[UInt8.ofNat (97 + j)]⟩ := ⟨_, rfl⟩
     have hss : s.size = 1 := by rw [hs]; rfl
     rw [← hs] at hcv
     clear hd hs
     have hts : (({ data := #[100] } : ByteArray) ++ s).size ≤ 100 := by rw [ByteArray.size_append, hss]; decide
     have HIa := Hid.intro ((HI.out.alloc (Obj.cells #[.int .u8 (97 + (j : Int))] 5)).alloc (Obj.cells #[.string (({ data := #[100] } : ByteArray) ++ s), .int .i64 1, .string ⟨#[]⟩, .int .i64 0, .int .i64 0, .int .i64 0, .int .i64 2, .int .i64 4, .int .i64 0, .int .i64 0, .int .i64 0] 38))
     have k6 : wn.cell? ⟨pm, 6, none⟩ = some (.slice b6 y.runs.length q6) := HI.out.S.blk.cell rfl
     have HNN : Hid (∀ i v, (rcRn (⟨⟨({ data := #[100] } : ByteArray) ++ s, 1, ⟨#[]⟩, 0, 0, 0, 2⟩, 4, 0, 0, 0⟩ : Rn))[i]? = some v → ((wn.alloc (Obj.cells #[.int .u8 (97 + (j : Int))] 5)).alloc (Obj.cells #[.string (({ data := #[100] } : ByteArray) ++ s), .int .i64 1, .string ⟨#[]⟩, .int .i64 0, .int .i64 0, .int .i64 0, .int .i64 2, .int .i64 4, .int .i64 0, .int .i64 0, .int .i64 0] 38)).cell? ((⟨wn.heap.size + 1, 0, none⟩ : Addr).add i) = some v) := by
      intro i v hj
      rw [Addr.add_mid]
      have h9 := (Blk.alloc (wn.alloc (Obj.cells #[.int .u8 (97 + (j : Int))] 5)) #[.string (({ data := #[100] } : ByteArray) ++ s), .int .i64 1, .string ⟨#[]⟩, .int .i64 0, .int .i64 0, .int .i64 0, .int .i64 2, .int .i64 4, .int .i64 0, .int .i64 0, .int .i64 0] 38).rangeA i v hj
      simpa using h9
     have HN1 : Hid (∀ v ∈ rcRn (⟨⟨({ data := #[100] } : ByteArray) ++ s, 1, ⟨#[]⟩, 0, 0, 0, 2⟩, 4, 0, 0, 0⟩ : Rn), v.oneCell' = true) := fun v hv => rvRn_one [(⟨⟨({ data := #[100] } : ByteArray) ++ s, 1, ⟨#[]⟩, 0, 0, 0, 2⟩, 4, 0, 0, 0⟩ : Rn)] v (by simp only [rvRn, List.append_nil]; exact hv)
     have hzw : w.heap.size + 1 ≤ wn.heap.size := HI.out.Z.lt
     obtain ⟨NV, hnv⟩ : ∃ l, l = rcRn (⟨⟨({ data := #[100] } : ByteArray) ++ s, 1, ⟨#[]⟩, 0, 0, 0, 2⟩, 4, 0, 0, 0⟩ : Rn) := ⟨_, rfl⟩
     have HNV := Hid.intro hnv
     rw [← hnv] at HNN HN1
     have HNL : Hid (NV.length = 1 * 11) := by show _ = _; rw [HNV.out]; rfl
     clear hnv
     go_upto_region 18 with (at_builtin; refine wpList_append_own_at _ rfl _ _ 24 rfl (w.heap.size + 1) 38 iR _ 11 104 Try.underlying24 hiR hy0 hy1 hy2 rfl (by decide) (.slice b6 y.runs.length q6) y.runs.length _ rfl HIa.out.S.L.r6 ⟨wn.heap.size + 1, 0, none⟩ 1 1 NV rfl HNL.out HNN.out HN1.out (by unfold maxLen; omega) (by omega) (by simp; omega) ?_; intro v' w8 hown8 hgrow8 hnil8 hblk8; have hv8 : v' ≠ .slice none 0 0 := (fun e => by have h9 := (hnil8.1 e).2; cases h9); obtain ⟨g8, k8, rfl⟩ := rowf hown8 hv8; rw [own_blkO b6] at hgrow8 hblk8; have kx : w8.cell? ⟨pm, 6, none⟩ = some (.slice b6 y.runs.length q6) := (HIa.out.S.blk6 hgrow8).cell rfl; have fx : w8.frozen? ⟨pm, 6, none⟩ = false := (HIa.out.S.blk6 hgrow8).frozen _; have HG8 := Hid.intro hgrow8; have HB8 := Hid.intro hblk8; have HO8 := Hid.intro hown8; clear hown8 hgrow8 hnil8 hblk8 hv8)
     clear kx fx k6 HNN HN1 HNL hcv
     have hyn : (y.runs ++ [(⟨⟨({ data := #[100] } : ByteArray) ++ s, 1, ⟨#[]⟩, 0, 0, 0, 2⟩, 4, 0, 0, 0⟩ : Rn)]).length = y.runs.length + 1 := by simp
     have HI9 : Hid (Inv p w.heap.size pm w { y with runs := y.runs ++ [(⟨⟨({ data := #[100] } : ByteArray) ++ s, 1, ⟨#[]⟩, 0, 0, 0, 2⟩, 4, 0, 0, 0⟩ : Rn)] } b5 q5 (some ⟨g8, 0, none⟩) k8 b7 q7 b8 q8 (K1 + 1 + j + 1) (w8.setCell ⟨pm, 6, none⟩ (.slice (some ⟨g8, 0, none⟩) (y.runs.length + 1) k8))) := by
      have h := HIa.out.grown6 (ys := y.runs ++ [(⟨⟨({ data := #[100] } : ByteArray) ++ s, 1, ⟨#[]⟩, 0, 0, 0, 2⟩, 4, 0, 0, 0⟩ : Rn)]) (c6 := some ⟨g8, 0, none⟩) (k6 := k8) HG8.out (by rw [hyn, rvR_app]; simp only [rvRn, List.append_nil]; rw [← HNV.out]; exact HO8.out) (by rw [hyn]; exact HB8.out) (fun z hz => (List.mem_append.1 hz).elim (HI.out.S.L.z6 z) (fun e => by rw [List.mem_singleton.1 e]; exact ⟨hts, (by decide : ByteArray.size ⟨#[]⟩ ≤ 100)⟩))
      rw [hyn] at h
      exact h
     clear HG8 HB8 HO8 HNV HIa
     go_wp2_with fail
     go_roundw
     case rel => first | exact ⟨j + 1, { y with runs := y.runs ++ [(⟨⟨({ data := #[100] } : ByteArray) ++ s, 1, ⟨#[]⟩, 0, 0, 0, 2⟩, 4, 0, 0, 0⟩ : Rn)] }, some ⟨g8, 0, none⟩, k8, by omega, by go_num, by show (y.runs ++ [(⟨⟨({ data := #[100] } : ByteArray) ++ s, 1, ⟨#[]⟩, 0, 0, 0, 2⟩, 4, 0, 0, 0⟩ : Rn)]).length = _; have := HYL.out; omega, by show (y.runs ++ [(⟨⟨({ data := #[100] } : ByteArray) ++ s, 1, ⟨#[]⟩, 0, 0, 0, 2⟩, 4, 0, 0, 0⟩ : Rn)]).length ≤ 20; omega, ⟨hy5, hy7, hy8⟩, HI9⟩ | ((repeat apply Exists.intro); exact ⟨⟨j + 1, { y with runs := y.runs ++ [(⟨⟨({ data := #[100] } : ByteArray) ++ s, 1, ⟨#[]⟩, 0, 0, 0, 2⟩, 4, 0, 0, 0⟩ : Rn)] }, some ⟨g8, 0, none⟩, k8, by omega, by go_num, by show (y.runs ++ [(⟨⟨({ data := #[100] } : ByteArray) ++ s, 1, ⟨#[]⟩, 0, 0, 0, 2⟩, 4, 0, 0, 0⟩ : Rn)]).length = _; have := HYL.out; omega, by show (y.runs ++ [(⟨⟨({ data := #[100] } : ByteArray) ++ s, 1, ⟨#[]⟩, 0, 0, 0, 2⟩, 4, 0, 0, 0⟩ : Rn)]).length ≤ 20; omega, ⟨hy5, hy7, hy8⟩, HI9⟩, rfl⟩)
     case measure => simp [intOf]; omega
 case rest =>
  obtain ⟨y, b5, q5, b6, q6, b7, q7, b8, q8, K, HI9, hfy, hK⟩ := hcut
  clear HI3
  generalize wc = w9 at *
  obtain ⟨fl, fr, ft, fc⟩ := HI9.out.fin
  have FL := Hid.intro fl
  have FR := Hid.intro fr
  have FT := Hid.intro ft
  have FC := Hid.intro fc
  clear fl fr ft fc
  obtain ⟨wf, HE⟩ : ∃ wf, Hid (wf = w9.setCells w.heap.size 0 [.string y.name, .bool y.up, .int .i64 y.clock, .bool y.known, .int .i64 y.seen, .slice b5 y.wants.length q5, .slice b6 y.runs.length q6, .slice b7 y.asks.length q7, .slice b8 y.gives.length q8]) := ⟨_, rfl⟩
  rw [← HE.out] at FL FR FT FC
  have HTS := Hid.intro HI9.out.Z.there
  go_wp2_with (first | (refine wpList_load_mid rfl 27 _ rfl pm 0 rfl [.string y.name, .bool y.up, .int .i64 y.clock, .bool y.known, .int .i64 y.seen, .slice b5 y.wants.length q5, .slice b6 y.runs.length q6, .slice b7 y.asks.length q7, .slice b8 y.gives.length q8] _ HI9.out.S.blk.rangeA Try.underlying27 rfl isz_Mte ?_) | (refine wpList_store_to rfl 27 _ _ rfl w.heap.size 0 #[.string y.name, .bool y.up, .int .i64 y.clock, .bool y.known, .int .i64 y.seen, .slice b5 y.wants.length q5, .slice b6 y.runs.length q6, .slice b7 y.asks.length q7, .slice b8 y.gives.length q8] rfl rfl HTS.out isz_Mte (by simp [Value.oneCell']) wf HE.out ?_))
  exact bodyPost_ret (results_cell_mid rfl _ _ w.heap.size [.string y.name, .bool y.up, .int .i64 y.clock, .bool y.known, .int .i64 y.seen, .slice b5 y.wants.length q5, .slice b6 y.runs.length q6, .slice b7 y.asks.length q7, .slice b8 y.gives.length q8] _ rfl FC.out Try.underlying27 rfl isz_Mte) rfl ⟨y, b5, q5, b6, q6, b7, q7, b8, q8, K, rfl, FL.out, hfy, by omega, FR.out, FT.out⟩

end Go.Proofs.Ytnifmiacobfplaa
