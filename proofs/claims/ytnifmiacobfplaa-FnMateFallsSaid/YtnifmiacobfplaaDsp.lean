import Derived.Test.YtnifmiacobfplaaTkw
import Derived.Test.YtnifmiacobfplaaLco
import Derived.Test.YtnifmiacobfplaaDs0
import Derived.Test.YtnifmiacobfplaaHst
import Derived.Test.YtnifmiacobfplaaDr6
import Derived.Test.YtnifmiacobfplaaDrB
import Derived.Deep.CutBlock
namespace Go.Proofs.Ytnifmiacobfplaa
open Go.RowKit

set_option maxHeartbeats 40000000 in
set_option maxRecDepth 100000 in
theorem spoil13_any (p k0 : Nat) (x : Mte) (a5 : Option Addr) (c5 : Nat) (a6 : Option Addr) (c6 : Nat) (a7 : Option Addr) (c7 : Nat) (a8 : Option Addr) (c8 : Nat) (lo : Nat) (w : World) (hR : RdS p k0 w) (hK0 : k0 ≤ 600000) (hL : MkL lo x a5 c5 a6 c6 a7 c7 a8 c8 w) (hf : Few x 4) (hc0 : 0 ≤ x.clock) (hc1 : x.clock ≤ 60) :
  Calls Try.prog 37 #[.pointer (some ⟨p, 0, none⟩), .agg #[.string x.name, .bool x.up, .int .i64 x.clock, .bool x.known, .int .i64 x.seen, .slice a5 x.wants.length c5, .slice a6 x.runs.length c6, .slice a7 x.asks.length c7, .slice a8 x.gives.length c8]] w fun e w' => ∃ (y : Mte) (b5 : Option Addr) (q5 : Nat) (b6 : Option Addr) (q6 : Nat) (b7 : Option Addr) (q7 : Nat) (b8 : Option Addr) (q8 : Nat) (K : Nat), e = .returned (.agg #[.string y.name, .bool y.up, .int .i64 y.clock, .bool y.known, .int .i64 y.seen, .slice b5 y.wants.length q5, .slice b6 y.runs.length q6, .slice b7 y.asks.length q7, .slice b8 y.gives.length q8]) ∧ MkL w.heap.size y b5 q5 b6 q6 b7 q7 b8 q8 w' ∧ Few y 5 ∧ K ≤ k0 + 100 ∧ RdS p K w' ∧ Bt p w.heap.size w w' := by
 obtain ⟨iA, hiA, hz0, hz1, hz2⟩ := info_parts info_Aks
 obtain ⟨iR, hiR, hy0, hy1, hy2⟩ := info_parts info_Rn
 have hp : p < w.heap.size := hR.lt
 have HFW := Hid.intro hf
 have hf5 := hf.l5
 have hf6 := hf.l6
 have hf7 := hf.l7
 have hf8 := hf.l8
 have HKa : Blk w.heap.size #[.string x.name, .bool x.up, .int .i64 x.clock, .bool x.known, .int .i64 x.seen, .slice a5 x.wants.length c5, .slice a6 x.runs.length c6, .slice a7 x.asks.length c7, .slice a8 x.gives.length c8] 27 (w.alloc (.cells #[.string x.name, .bool x.up, .int .i64 x.clock, .bool x.known, .int .i64 x.seen, .slice a5 x.wants.length c5, .slice a6 x.runs.length c6, .slice a7 x.asks.length c7, .slice a8 x.gives.length c8] 27)) := Blk.alloc _ _ _
 have HZ2 : Hid (Blk (w.heap.size + 1) #[.string ⟨#[]⟩, .bool false, .int .i64 0, .bool false, .int .i64 0, .slice none 0 0, .slice none 0 0, .slice none 0 0, .slice none 0 0] 27 ((w.alloc (.cells #[.string x.name, .bool x.up, .int .i64 x.clock, .bool x.known, .int .i64 x.seen, .slice a5 x.wants.length c5, .slice a6 x.runs.length c6, .slice a7 x.asks.length c7, .slice a8 x.gives.length c8] 27)).alloc (.cells #[.string ⟨#[]⟩, .bool false, .int .i64 0, .bool false, .int .i64 0, .slice none 0 0, .slice none 0 0, .slice none 0 0, .slice none 0 0] 27))) := by
  have := Blk.alloc (w.alloc (.cells #[.string x.name, .bool x.up, .int .i64 x.clock, .bool x.known, .int .i64 x.seen, .slice a5 x.wants.length c5, .slice a6 x.runs.length c6, .slice a7 x.asks.length c7, .slice a8 x.gives.length c8] 27)) #[.string ⟨#[]⟩, .bool false, .int .i64 0, .bool false, .int .i64 0, .slice none 0 0, .slice none 0 0, .slice none 0 0, .slice none 0 0] 27
  show Blk _ _ _ _
  simpa using this
 have HK2 : Hid (Blk w.heap.size #[.string x.name, .bool x.up, .int .i64 x.clock, .bool x.known, .int .i64 x.seen, .slice a5 x.wants.length c5, .slice a6 x.runs.length c6, .slice a7 x.asks.length c7, .slice a8 x.gives.length c8] 27 ((w.alloc (.cells #[.string x.name, .bool x.up, .int .i64 x.clock, .bool x.known, .int .i64 x.seen, .slice a5 x.wants.length c5, .slice a6 x.runs.length c6, .slice a7 x.asks.length c7, .slice a8 x.gives.length c8] 27)).alloc (.cells #[.string ⟨#[]⟩, .bool false, .int .i64 0, .bool false, .int .i64 0, .slice none 0 0, .slice none 0 0, .slice none 0 0, .slice none 0 0] 27))) := HKa.below ((Below.refl _ _).alloc (Nat.le_refl _) _) HKa.lt
 have hB2 : Below w.heap.size w ((w.alloc (.cells #[.string x.name, .bool x.up, .int .i64 x.clock, .bool x.known, .int .i64 x.seen, .slice a5 x.wants.length c5, .slice a6 x.runs.length c6, .slice a7 x.asks.length c7, .slice a8 x.gives.length c8] 27)).alloc (.cells #[.string ⟨#[]⟩, .bool false, .int .i64 0, .bool false, .int .i64 0, .slice none 0 0, .slice none 0 0, .slice none 0 0, .slice none 0 0] 27)) := by go_grown
 have HR2 : Hid (RdS p k0 ((w.alloc (.cells #[.string x.name, .bool x.up, .int .i64 x.clock, .bool x.known, .int .i64 x.seen, .slice a5 x.wants.length c5, .slice a6 x.runs.length c6, .slice a7 x.asks.length c7, .slice a8 x.gives.length c8] 27)).alloc (.cells #[.string ⟨#[]⟩, .bool false, .int .i64 0, .bool false, .int .i64 0, .slice none 0 0, .slice none 0 0, .slice none 0 0, .slice none 0 0] 27))) := hR.below hB2 hR.lt
 have HL2 : Hid (MkL lo x a5 c5 a6 c6 a7 c7 a8 c8 ((w.alloc (.cells #[.string x.name, .bool x.up, .int .i64 x.clock, .bool x.known, .int .i64 x.seen, .slice a5 x.wants.length c5, .slice a6 x.runs.length c6, .slice a7 x.asks.length c7, .slice a8 x.gives.length c8] 27)).alloc (.cells #[.string ⟨#[]⟩, .bool false, .int .i64 0, .bool false, .int .i64 0, .slice none 0 0, .slice none 0 0, .slice none 0 0, .slice none 0 0] 27))) := hL.same (fun b _ hb => hB2.block b hb)
 clear HKa hR hL hf
 go_enter Try.func37, Try.ntmps37
 go_upto_region 1 with fail
 generalize (w.alloc (Obj.cells #[.string x.name, .bool x.up, .int .i64 x.clock, .bool x.known, .int .i64 x.seen, .slice a5 x.wants.length c5, .slice a6 x.runs.length c6, .slice a7 x.asks.length c7, .slice a8 x.gives.length c8] 27)).alloc (Obj.cells #[.string ⟨#[]⟩, .bool false, .int .i64 0, .bool false, .int .i64 0, .slice none 0 0, .slice none 0 0, .slice none 0 0, .slice none 0 0] 27) = w2 at *
 have hs2 : w.heap.size + 1 < w2.heap.size := HZ2.out.lt
 go_wp2_with (refine wpList_load_mid rfl 27 _ rfl w.heap.size 0 rfl [.string x.name, .bool x.up, .int .i64 x.clock, .bool x.known, .int .i64 x.seen, .slice a5 x.wants.length c5, .slice a6 x.runs.length c6, .slice a7 x.asks.length c7, .slice a8 x.gives.length c8] _ HK2.out.rangeA Try.underlying27 rfl isz_Mte ?_)
 refine (copy13_own x a5 c5 a6 c6 a7 c7 a8 c8 lo _ HL2.out ⟨by omega, by omega, by omega, by omega⟩).mono ?_
 rintro e w3 ⟨b5, q5, b6, q6, b7, q7, b8, q8, rfl, hl, hb⟩
 have hs3 : w2.heap.size ≤ w3.heap.size := hb.size
 have hba : Below w3.heap.size w3 (w3.alloc (.cells #[.string x.name, .bool x.up, .int .i64 x.clock, .bool x.known, .int .i64 x.seen, .slice (some ⟨b5, 0, none⟩) x.wants.length q5, .slice (some ⟨b6, 0, none⟩) x.runs.length q6, .slice (some ⟨b7, 0, none⟩) x.asks.length q7, .slice (some ⟨b8, 0, none⟩) x.gives.length q8] 27)) := (Below.refl _ _).alloc (Nat.le_refl _) _
 have hb24 : Below w2.heap.size w2 (w3.alloc (.cells #[.string x.name, .bool x.up, .int .i64 x.clock, .bool x.known, .int .i64 x.seen, .slice (some ⟨b5, 0, none⟩) x.wants.length q5, .slice (some ⟨b6, 0, none⟩) x.runs.length q6, .slice (some ⟨b7, 0, none⟩) x.asks.length q7, .slice (some ⟨b8, 0, none⟩) x.gives.length q8] 27)) := hb.trans (hba.mono hb.size)
 have HI4 : Hid (Inv p (w.heap.size + 1) w3.heap.size w x (some ⟨b5, 0, none⟩) q5 (some ⟨b6, 0, none⟩) q6 (some ⟨b7, 0, none⟩) q7 (some ⟨b8, 0, none⟩) q8 k0 (w3.alloc (.cells #[.string x.name, .bool x.up, .int .i64 x.clock, .bool x.known, .int .i64 x.seen, .slice (some ⟨b5, 0, none⟩) x.wants.length q5, .slice (some ⟨b6, 0, none⟩) x.runs.length q6, .slice (some ⟨b7, 0, none⟩) x.asks.length q7, .slice (some ⟨b8, 0, none⟩) x.gives.length q8] 27))) := ⟨HR2.out.below hb24 HR2.out.lt, MkS.made (hl.lower (by omega)) (by omega) (by omega), HZ2.out.below hb24 HZ2.out.lt, Bt.of_below (hB2.trans (hb24.mono hB2.size)), by omega, hp⟩
 clear hl hb hba hb24 HR2 HL2 HZ2 HK2 hB2
 go_upto_region 2 with fail
 generalize w3.alloc (Obj.cells #[.string x.name, .bool x.up, .int .i64 x.clock, .bool x.known, .int .i64 x.seen, .slice (some ⟨b5, 0, none⟩) x.wants.length q5, .slice (some ⟨b6, 0, none⟩) x.runs.length q6, .slice (some ⟨b7, 0, none⟩) x.asks.length q7, .slice (some ⟨b8, 0, none⟩) x.gives.length q8] 27) = w4 at *
 generalize w3.heap.size = pm at *
 clear hs2 hs3
 generalize w.heap.size + 1 = zb at *
 have k6 : w4.cell? ⟨pm, 6, none⟩ = some (.slice (some ⟨b6, 0, none⟩) x.runs.length q6) := HI4.out.S.blk.cell rfl
 go_wp2_with fail
 clear k6
 refine (pick_len p k0 x.runs.length _ HI4.out.R (by omega) (by omega)).mono ?_
 rintro e w5 ⟨k, rfl, hk, hkl, hr, hb⟩
 have HI5 := Hid.intro (HI4.out.bt hb hr)
 clear hr hb HI4
 go_wp2_with fail
 refine (pick_rd p (k0 + 1) 12 _ HI5.out.R (by omega) (by omega) (by omega)).mono ?_
 rintro e w6 ⟨v, rfl, hv, hr, hb, -⟩
 have HI6 := Hid.intro (HI5.out.bt hb hr)
 clear hr hb HI5
 go_upto_block 0 with fail
 go_cut [] (fun wz => ∃ (y : Mte) (b5 : Option Addr) (q5 : Nat) (b6 : Option Addr) (q6 : Nat) (b7 : Option Addr) (q7 : Nat) (b8 : Option Addr) (q8 : Nat) (K : Nat), Hid (Inv p zb pm w y b5 q5 b6 q6 b7 q7 b8 q8 K wz) ∧ Few y 5 ∧ K ≤ k0 + 100)
 case first =>
  rcases (by omega : v = 0 ∨ v = 1 ∨ v = 2 ∨ v = 3 ∨ v = 4 ∨ v = 5 ∨ v = 6 ∨ v = 7 ∨ v = 8 ∨ v = 9 ∨ v = 10 ∨ v = 11) with rfl | rfl | rfl | rfl | rfl | rfl | rfl | rfl | rfl | rfl | rfl | rfl
  ·skip
   have HA : Hid (Blk w6.heap.size #[.string ⟨#[]⟩, .string ⟨#[120, 32, 121]⟩] 9 (w6.alloc (Obj.cells #[.string ⟨#[]⟩, .string ⟨#[120, 32, 121]⟩] 9))) := Blk.alloc _ _ _
   have HOA := Hid.intro (HI6.out.new (Nat.le_refl _))
   have HI7 := Hid.intro (HI6.out.alloc (Obj.cells #[.string ⟨#[]⟩, .string ⟨#[120, 32, 121]⟩] 9))
   go_wp2_with fail
   clear HI6
   generalize w6.alloc (Obj.cells #[.string ⟨#[]⟩, .string ⟨#[120, 32, 121]⟩] 9) = w7 at *
   generalize w6.heap.size = gA at *
   refine (pick_rd p (k0 + 1 + 1) 2 _ HI7.out.R (by omega) (by omega) (by omega)).mono ?_
   rintro e w8 ⟨u, rfl, hu, hr, hb, -⟩
   have HA8 := Hid.intro (HA.out.bt hb HA.out.lt (by have := HOA.out.nw; omega))
   have HI8 := Hid.intro (HI7.out.bt hb hr)
   clear hr hb HI7 HA
   obtain ⟨d, hdx, hds⟩ := strAt2 ⟨#[]⟩ ⟨#[120, 32, 121]⟩ u hu (by decide) (by decide)
   have ka : w8.cell? ⟨gA, u, none⟩ = some (.string d) := HA8.out.cell hdx
   have kb : w8.cell? ⟨pm, 0, none⟩ = some (.string x.name) := HI8.out.S.blk.cell rfl
   have fb : w8.frozen? ⟨pm, 0, none⟩ = false := HI8.out.S.blk.frozen _
   clear hdx
   have HI9 : Hid (Inv p zb pm w { x with name := d } (some ⟨b5, 0, none⟩) q5 (some ⟨b6, 0, none⟩) q6 (some ⟨b7, 0, none⟩) q7 (some ⟨b8, 0, none⟩) q8 (k0 + 1 + 1 + 1) (w8.setCell ⟨pm, 0, none⟩ (.string d))) := HI8.out.put 0 [.string d] (HI8.out.S.blk.set 0 _) rfl rfl rfl rfl hds
   go_wp2_with fail
   go_meet
   exact ⟨{ x with name := d }, (some ⟨b5, 0, none⟩), q5, (some ⟨b6, 0, none⟩), q6, (some ⟨b7, 0, none⟩), q7, (some ⟨b8, 0, none⟩), q8, k0 + 1 + 1 + 1, HI9, ⟨by show x.wants.length ≤ 5; omega, by show x.runs.length ≤ 5; omega, by show x.asks.length ≤ 5; omega, by show x.gives.length ≤ 5; omega⟩, by omega⟩
  ·skip
   have kb : w6.cell? ⟨pm, 1, none⟩ = some (.bool x.up) := HI6.out.S.blk.cell rfl
   have fb : w6.frozen? ⟨pm, 1, none⟩ = false := HI6.out.S.blk.frozen _
   have HI9 : Hid (Inv p zb pm w { x with up := !x.up } (some ⟨b5, 0, none⟩) q5 (some ⟨b6, 0, none⟩) q6 (some ⟨b7, 0, none⟩) q7 (some ⟨b8, 0, none⟩) q8 (k0 + 1 + 1) (w6.setCell ⟨pm, 1, none⟩ (.bool (!x.up)))) := HI6.out.put 1 [.bool (!x.up)] (HI6.out.S.blk.set 1 _) rfl rfl rfl rfl HI6.out.S.L.n0
   go_wp2_with fail
   go_meet
   exact ⟨{ x with up := !x.up }, (some ⟨b5, 0, none⟩), q5, (some ⟨b6, 0, none⟩), q6, (some ⟨b7, 0, none⟩), q7, (some ⟨b8, 0, none⟩), q8, k0 + 1 + 1, HI9, ⟨by show x.wants.length ≤ 5; omega, by show x.runs.length ≤ 5; omega, by show x.asks.length ≤ 5; omega, by show x.gives.length ≤ 5; omega⟩, by omega⟩
  ·skip
   go_upto_region 10 with fail
   refine wp_region_until (S := fun wy => wy.cell? ⟨pm, 2, none⟩ = some (.int .i64 x.clock)) 9 (by kernel_rfl) (HI6.out.drew.S.blk.cell rfl) (fun hS => ?_)
   have HI := Hid.intro HI6.out.drew
   clear HI6
   generalize w6.drew = wn at *
   refine tv 0 ⟨some 37, _, _, _, _, none⟩ (.pointer (some ⟨pm, 2, none⟩)) rfl (by rfl) ?_ hS ?_
   ·intro wy hy
    clear hy
    go_simp
   simp only [pA, pB, pC, pD]
   refine tv 1 ⟨some 38, _, _, _, _, none⟩ (.int .i64 x.clock) rfl (by rfl) ?_ hS ?_
   ·intro wy hy
    have h0 := id hy
    clear hy
    go_simp
   simp only [pA, pB, pC, pD]
   refine tv 2 ⟨some 39, _, _, _, _, none⟩ (.int .i64 (x.clock + 9)) rfl (by rfl) ?_ hS ?_
   ·intro wy hy
    clear hy
    first | (go_simp; done) | (go_simp; rw [IntKind.wrap_i64]; omega) | (go_simp; omega)
   simp only [pA, pB, pC, pD]
   refine tv 4 ⟨some 41, _, _, _, _, none⟩ (.pointer (some ⟨p, 0, none⟩)) rfl (by rfl) ?_ hS ?_
   ·intro wy hy
    clear hy
    go_simp
   simp only [pA, pB, pC, pD]
   refine wpAnyU_ready (rs := [3, 5]) (by kernel_rfl) (by simp) (AllReadyU.cons (o := ⟨some 40, _, _, _, _, none⟩) rfl (fun KK hKK => ?_) (AllReadyU.cons (o := ⟨some 42, _, _, _, _, none⟩) rfl (fun KK hKK => ?_) AllReadyU.nil))
   ·skip
    go_simp
    have HA : Hid (Blk wn.heap.size #[.int .i64 (-1), .int .i64 0, .int .i64 (x.clock + 9), .int .i64 1000001] 3 (wn.alloc (Obj.cells #[.int .i64 (-1), .int .i64 0, .int .i64 (x.clock + 9), .int .i64 1000001] 3))) := Blk.alloc _ _ _
    have HOA := Hid.intro (HI.out.new (Nat.le_refl _))
    replace HI := Hid.intro (HI.out.alloc (Obj.cells #[.int .i64 (-1), .int .i64 0, .int .i64 (x.clock + 9), .int .i64 1000001] 3))
    refine hKK.out _ _ (HI.out.S.blk.cell rfl) (fun hS => ?_)
    clear hKK KK hS
    generalize wn.heap.size = gA at *
    generalize wn.alloc (Obj.cells #[.int .i64 (-1), .int .i64 0, .int .i64 (x.clock + 9), .int .i64 1000001] 3) = wn at *
    refine wpAnyU_mono (S' := fun wy => wy.cell? ⟨pm, 2, none⟩ = some (.int .i64 x.clock) ∧ Blk gA #[.int .i64 (-1), .int .i64 0, .int .i64 (x.clock + 9), .int .i64 1000001] 3 wy) (fun _ h => h.1) _ _ _ _ ?_
    have hS : (fun wy => wy.cell? ⟨pm, 2, none⟩ = some (.int .i64 x.clock) ∧ Blk gA #[.int .i64 (-1), .int .i64 0, .int .i64 (x.clock + 9), .int .i64 1000001] 3 wy) wn := ⟨HI.out.S.blk.cell rfl, HA.out⟩
    refine ru1 5 ⟨some 42, _, _, _, _, none⟩ rfl (fun KK hKK => ?_)
    go_simp
    refine (pick_rd p (k0 + 1 + 1) 4 _ HI.out.R (by omega) (by omega) (by omega)).mono ?_
    rintro e wn ⟨u, rfl, hu, hr, hb, -⟩
    replace HA := Hid.intro (HA.out.bt hb HA.out.lt (by have := HOA.out.nw; omega))
    replace HI := Hid.intro (HI.out.bt hb hr)
    refine hKK.out _ _ ⟨HI.out.S.blk.cell rfl, HA.out⟩ (fun hS => ?_)
    clear hKK KK hb hr
    obtain ⟨d, hdx⟩ := intAt4 (-1) 0 (x.clock + 9) 1000001 u hu
    refine tv 6 ⟨some 43, _, _, _, _, none⟩ (.pointer (some ⟨gA, u, none⟩)) rfl (by rfl) ?_ hS ?_
    ·intro wy hy
     clear hy
     first | (go_simp; done) | (go_simp; omega) | (go_simp; intro hh; omega)
    simp only [pA, pB, pC, pD]
    refine tv 7 ⟨some 44, _, _, _, _, none⟩ (.int .i64 d) rfl (by rfl) ?_ hS ?_
    ·intro wy hy
     have h := id hy
     have h0 := h.2.cell (o := u) (v := .int .i64 d) hdx
     clear hy
     go_simp
    simp only [pA, pB, pC, pD]
    refine tv 8 ⟨some 45, _, _, _, _, none⟩ (.pointer (some ⟨pm, 2, none⟩)) rfl (by rfl) ?_ hS ?_
    ·intro wy hy
     clear hy
     go_simp
    simp only [pA, pB, pC, pD]
    have kb : wn.cell? ⟨pm, 2, none⟩ = some (.int .i64 x.clock) := HI.out.S.blk.cell rfl
    have fb : wn.frozen? ⟨pm, 2, none⟩ = false := HI.out.S.blk.frozen _
    have HI9 : Hid (Inv p zb pm w { x with clock := d } (some ⟨b5, 0, none⟩) q5 (some ⟨b6, 0, none⟩) q6 (some ⟨b7, 0, none⟩) q7 (some ⟨b8, 0, none⟩) q8 (k0 + 1 + 1 + 1) (wn.setCell ⟨pm, 2, none⟩ (.int .i64 d))) := HI.out.put 2 [.int .i64 d] (HI.out.S.blk.set 2 _) rfl rfl rfl rfl HI.out.S.L.n0
    refine wpAnyU_ready (rs := [9]) (by kernel_rfl) (by simp) (AllReadyU.last (o := ⟨none, _, _, _, _, none⟩) rfl (fun KK hKK => ?_))
    go_simp
    refine hKK.out _ _ ?_
    clear hKK KK
    refine wpAnyU_done (by kernel_rfl) ?_ _
    go_wp2_with fail
    go_meet
    exact ⟨{ x with clock := d }, (some ⟨b5, 0, none⟩), q5, (some ⟨b6, 0, none⟩), q6, (some ⟨b7, 0, none⟩), q7, (some ⟨b8, 0, none⟩), q8, k0 + 1 + 1 + 1, HI9, ⟨by show x.wants.length ≤ 5; omega, by show x.runs.length ≤ 5; omega, by show x.asks.length ≤ 5; omega, by show x.gives.length ≤ 5; omega⟩, by omega⟩
   ·skip
    go_simp
    refine (pick_rd p (k0 + 1 + 1) 4 _ HI.out.R (by omega) (by omega) (by omega)).mono ?_
    rintro e wn ⟨u, rfl, hu, hr, hb, -⟩
    replace HI := Hid.intro (HI.out.bt hb hr)
    refine hKK.out _ _ (HI.out.S.blk.cell rfl) (fun hS => ?_)
    clear hKK KK hb hr
    refine ru1 3 ⟨some 40, _, _, _, _, none⟩ rfl (fun KK hKK => ?_)
    go_simp
    have HA : Hid (Blk wn.heap.size #[.int .i64 (-1), .int .i64 0, .int .i64 (x.clock + 9), .int .i64 1000001] 3 (wn.alloc (Obj.cells #[.int .i64 (-1), .int .i64 0, .int .i64 (x.clock + 9), .int .i64 1000001] 3))) := Blk.alloc _ _ _
    have HOA := Hid.intro (HI.out.new (Nat.le_refl _))
    replace HI := Hid.intro (HI.out.alloc (Obj.cells #[.int .i64 (-1), .int .i64 0, .int .i64 (x.clock + 9), .int .i64 1000001] 3))
    refine hKK.out _ _ (HI.out.S.blk.cell rfl) (fun hS => ?_)
    clear hKK KK hS
    generalize wn.heap.size = gA at *
    generalize wn.alloc (Obj.cells #[.int .i64 (-1), .int .i64 0, .int .i64 (x.clock + 9), .int .i64 1000001] 3) = wn at *
    refine wpAnyU_mono (S' := fun wy => wy.cell? ⟨pm, 2, none⟩ = some (.int .i64 x.clock) ∧ Blk gA #[.int .i64 (-1), .int .i64 0, .int .i64 (x.clock + 9), .int .i64 1000001] 3 wy) (fun _ h => h.1) _ _ _ _ ?_
    have hS : (fun wy => wy.cell? ⟨pm, 2, none⟩ = some (.int .i64 x.clock) ∧ Blk gA #[.int .i64 (-1), .int .i64 0, .int .i64 (x.clock + 9), .int .i64 1000001] 3 wy) wn := ⟨HI.out.S.blk.cell rfl, HA.out⟩
    obtain ⟨d, hdx⟩ := intAt4 (-1) 0 (x.clock + 9) 1000001 u hu
    refine tv 6 ⟨some 43, _, _, _, _, none⟩ (.pointer (some ⟨gA, u, none⟩)) rfl (by rfl) ?_ hS ?_
    ·intro wy hy
     clear hy
     first | (go_simp; done) | (go_simp; omega) | (go_simp; intro hh; omega)
    simp only [pA, pB, pC, pD]
    refine tv 7 ⟨some 44, _, _, _, _, none⟩ (.int .i64 d) rfl (by rfl) ?_ hS ?_
    ·intro wy hy
     have h := id hy
     have h0 := h.2.cell (o := u) (v := .int .i64 d) hdx
     clear hy
     go_simp
    simp only [pA, pB, pC, pD]
    refine tv 8 ⟨some 45, _, _, _, _, none⟩ (.pointer (some ⟨pm, 2, none⟩)) rfl (by rfl) ?_ hS ?_
    ·intro wy hy
     clear hy
     go_simp
    simp only [pA, pB, pC, pD]
    have kb : wn.cell? ⟨pm, 2, none⟩ = some (.int .i64 x.clock) := HI.out.S.blk.cell rfl
    have fb : wn.frozen? ⟨pm, 2, none⟩ = false := HI.out.S.blk.frozen _
    have HI9 : Hid (Inv p zb pm w { x with clock := d } (some ⟨b5, 0, none⟩) q5 (some ⟨b6, 0, none⟩) q6 (some ⟨b7, 0, none⟩) q7 (some ⟨b8, 0, none⟩) q8 (k0 + 1 + 1 + 1) (wn.setCell ⟨pm, 2, none⟩ (.int .i64 d))) := HI.out.put 2 [.int .i64 d] (HI.out.S.blk.set 2 _) rfl rfl rfl rfl HI.out.S.L.n0
    refine wpAnyU_ready (rs := [9]) (by kernel_rfl) (by simp) (AllReadyU.last (o := ⟨none, _, _, _, _, none⟩) rfl (fun KK hKK => ?_))
    go_simp
    refine hKK.out _ _ ?_
    clear hKK KK
    refine wpAnyU_done (by kernel_rfl) ?_ _
    go_wp2_with fail
    go_meet
    exact ⟨{ x with clock := d }, (some ⟨b5, 0, none⟩), q5, (some ⟨b6, 0, none⟩), q6, (some ⟨b7, 0, none⟩), q7, (some ⟨b8, 0, none⟩), q8, k0 + 1 + 1 + 1, HI9, ⟨by show x.wants.length ≤ 5; omega, by show x.runs.length ≤ 5; omega, by show x.asks.length ≤ 5; omega, by show x.gives.length ≤ 5; omega⟩, by omega⟩
  ·skip
   have kb : w6.cell? ⟨pm, 3, none⟩ = some (.bool x.known) := HI6.out.S.blk.cell rfl
   have fb : w6.frozen? ⟨pm, 3, none⟩ = false := HI6.out.S.blk.frozen _
   have HI9 : Hid (Inv p zb pm w { x with known := !x.known } (some ⟨b5, 0, none⟩) q5 (some ⟨b6, 0, none⟩) q6 (some ⟨b7, 0, none⟩) q7 (some ⟨b8, 0, none⟩) q8 (k0 + 1 + 1) (w6.setCell ⟨pm, 3, none⟩ (.bool (!x.known)))) := HI6.out.put 3 [.bool (!x.known)] (HI6.out.S.blk.set 3 _) rfl rfl rfl rfl HI6.out.S.L.n0
   go_wp2_with fail
   go_meet
   exact ⟨{ x with known := !x.known }, (some ⟨b5, 0, none⟩), q5, (some ⟨b6, 0, none⟩), q6, (some ⟨b7, 0, none⟩), q7, (some ⟨b8, 0, none⟩), q8, k0 + 1 + 1, HI9, ⟨by show x.wants.length ≤ 5; omega, by show x.runs.length ≤ 5; omega, by show x.asks.length ≤ 5; omega, by show x.gives.length ≤ 5; omega⟩, by omega⟩
  ·skip
   have HA : Hid (Blk w6.heap.size #[.int .i64 (-1), .int .i64 1000000, .int .i64 1000001] 3 (w6.alloc (Obj.cells #[.int .i64 (-1), .int .i64 1000000, .int .i64 1000001] 3))) := Blk.alloc _ _ _
   have HOA := Hid.intro (HI6.out.new (Nat.le_refl _))
   have HI7 := Hid.intro (HI6.out.alloc (Obj.cells #[.int .i64 (-1), .int .i64 1000000, .int .i64 1000001] 3))
   go_wp2_with fail
   clear HI6
   generalize w6.alloc (Obj.cells #[.int .i64 (-1), .int .i64 1000000, .int .i64 1000001] 3) = w7 at *
   generalize w6.heap.size = gA at *
   refine (pick_rd p (k0 + 1 + 1) 3 _ HI7.out.R (by omega) (by omega) (by omega)).mono ?_
   rintro e w8 ⟨u, rfl, hu, hr, hb, -⟩
   have HA8 := Hid.intro (HA.out.bt hb HA.out.lt (by have := HOA.out.nw; omega))
   have HI8 := Hid.intro (HI7.out.bt hb hr)
   clear hr hb HI7 HA
   obtain ⟨d, hdx⟩ := intAt3 (-1) 1000000 1000001 u hu
   have ka : w8.cell? ⟨gA, u, none⟩ = some (.int .i64 d) := HA8.out.cell hdx
   have kb : w8.cell? ⟨pm, 4, none⟩ = some (.int .i64 x.seen) := HI8.out.S.blk.cell rfl
   have fb : w8.frozen? ⟨pm, 4, none⟩ = false := HI8.out.S.blk.frozen _
   clear hdx
   have HI9 : Hid (Inv p zb pm w { x with seen := d } (some ⟨b5, 0, none⟩) q5 (some ⟨b6, 0, none⟩) q6 (some ⟨b7, 0, none⟩) q7 (some ⟨b8, 0, none⟩) q8 (k0 + 1 + 1 + 1) (w8.setCell ⟨pm, 4, none⟩ (.int .i64 d))) := HI8.out.put 4 [.int .i64 d] (HI8.out.S.blk.set 4 _) rfl rfl rfl rfl HI8.out.S.L.n0
   go_wp2_with fail
   go_meet
   exact ⟨{ x with seen := d }, (some ⟨b5, 0, none⟩), q5, (some ⟨b6, 0, none⟩), q6, (some ⟨b7, 0, none⟩), q7, (some ⟨b8, 0, none⟩), q8, k0 + 1 + 1 + 1, HI9, ⟨by show x.wants.length ≤ 5; omega, by show x.runs.length ≤ 5; omega, by show x.asks.length ≤ 5; omega, by show x.gives.length ≤ 5; omega⟩, by omega⟩
  ·skip
   have k5 : w6.cell? ⟨pm, 5, none⟩ = some (.slice (some ⟨b5, 0, none⟩) x.wants.length q5) := HI6.out.S.blk.cell rfl
   by_cases h0 : x.wants.length = 0
   case pos =>
    have e0 : (x.wants.length : Int) = 0 := by omega
    go_wp2_with fail
    go_meet
    exact ⟨x, (some ⟨b5, 0, none⟩), q5, (some ⟨b6, 0, none⟩), q6, (some ⟨b7, 0, none⟩), q7, (some ⟨b8, 0, none⟩), q8, k0 + 1 + 1, HI6, ⟨by show x.wants.length ≤ 5; omega, by show x.runs.length ≤ 5; omega, by show x.asks.length ≤ 5; omega, by show x.gives.length ≤ 5; omega⟩, by omega⟩
   have e0 : (0 : Int) < (x.wants.length : Int) := by omega
   obtain ⟨rn, hrn⟩ : ∃ z, x.wants[0]? = some z := ⟨x.wants[0], List.getElem?_eq_getElem (by omega)⟩
   have HRN := Hid.intro hrn
   have HZR := Hid.intro (HI6.out.S.L.z5 rn (List.mem_of_getElem? hrn))
   obtain ⟨g6, e6, hg1, hg2, hg3, hra, hth, hfz⟩ := HI6.out.S.at5 hrn
   cases e6
   rw [show 0 * 7 = 0 from rfl] at hra hth
   have HRA := Hid.intro hra
   have HPP : Hid (b5 ≠ p) := (by have := HI6.out.hw; have := HI6.out.hp; show b5 ≠ p; omega)
   have HPM : Hid (pm ≠ p) := (by have := HI6.out.hw; have := HI6.out.hp; have := HI6.out.zp; show pm ≠ p; omega)
   have HGL := Hid.intro hg2
   have HPL : Hid (pm < w6.heap.size) := HI6.out.pl
   clear hra hth hfz hrn hg1 hg2 hg3
   go_upto_region 17 with fail
   refine wp_region_until (S := fun wy => wy.cell? ⟨pm, 5, none⟩ = some (.slice (some ⟨b5, 0, none⟩) x.wants.length q5) ∧ wy.rangeAt b5 (0) [.string rn.copy, .int .i64 rn.version, .string rn.hold, .int .i64 rn.pull, .int .i64 rn.start, .int .i64 rn.dies, .int .i64 rn.grace]) 9 (by kernel_rfl) ⟨HI6.out.drew.S.blk.cell rfl, HRA.out⟩ (fun hS => ?_)
   have HI := Hid.intro HI6.out.drew
   replace HRA : Hid (w6.drew.rangeAt b5 (0) [.string rn.copy, .int .i64 rn.version, .string rn.hold, .int .i64 rn.pull, .int .i64 rn.start, .int .i64 rn.dies, .int .i64 rn.grace]) := HRA.out
   replace HGL : Hid (b5 < w6.drew.heap.size) := HGL.out
   replace HPL : Hid (pm < w6.drew.heap.size) := HPL.out
   clear HI6
   generalize w6.drew = wn at *
   refine tv 0 ⟨some 66, _, _, _, _, none⟩ (.pointer (some ⟨pm, 5, none⟩)) rfl (by rfl) ?_ hS ?_
   ·intro wy hy
    clear hy
    go_simp
   simp only [pA, pB, pC, pD]
   refine tv 1 ⟨some 67, _, _, _, _, none⟩ (.slice (some ⟨b5, 0, none⟩) x.wants.length q5) rfl (by rfl) ?_ hS ?_
   ·intro wy hy
    obtain ⟨c6, c0⟩ := id hy
    clear hy
    go_simp
   simp only [pA, pB, pC, pD]
   refine tv 2 ⟨some 68, _, _, _, _, none⟩ (.pointer (some ⟨p, 0, none⟩)) rfl (by rfl) ?_ hS ?_
   ·intro wy hy
    clear hy
    go_simp
   simp only [pA, pB, pC, pD]
   refine tv 3 ⟨some 69, _, _, _, _, none⟩ (.pointer (some ⟨pm, 5, none⟩)) rfl (by rfl) ?_ hS ?_
   ·intro wy hy
    clear hy
    go_simp
   simp only [pA, pB, pC, pD]
   refine tv 4 ⟨some 70, _, _, _, _, none⟩ (.slice (some ⟨b5, 0, none⟩) x.wants.length q5) rfl (by rfl) ?_ hS ?_
   ·intro wy hy
    obtain ⟨c6, c0⟩ := id hy
    clear hy
    go_simp
   simp only [pA, pB, pC, pD]
   refine tv 5 ⟨some 71, _, _, _, _, none⟩ (.pointer (some ⟨b5, 0, none⟩)) rfl (by rfl) ?_ hS ?_
   ·intro wy hy
    clear hy
    first | (go_simp; done) | (go_simp; omega) | (go_simp; intro hh; omega)
   simp only [pA, pB, pC, pD]
   refine tu 6 ⟨some 72, _, _, _, _, none⟩ (.agg #[.string rn.copy, .int .i64 rn.version, .string rn.hold, .int .i64 rn.pull, .int .i64 rn.start, .int .i64 rn.dies, .int .i64 rn.grace]) rfl (yieldsIf_load_mid (by rfl) _ _ rfl b5 (0) rfl [.string rn.copy, .int .i64 rn.version, .string rn.hold, .int .i64 rn.pull, .int .i64 rn.start, .int .i64 rn.dies, .int .i64 rn.grace] _ (fun _ h => h.2) Try.underlying36 rfl isz_Wnt) hS ?_
   simp only [pA, pB, pC, pD]
   refine ru1 7 ⟨some 73, _, _, _, _, none⟩ rfl (fun KK hKK => ?_)
   go_simp
   refine (spoilWant_any p (k0 + 1 + 1) rn _ HI.out.R (by omega) HZR.out.1 HZR.out.2).mono ?_
   rintro e wm ⟨y, K, rfl, hy1, hy2, hKK1, hr, hb⟩
   replace HI := Hid.intro (HI.out.bt hb hr)
   replace HRA : Hid (wm.rangeAt b5 (0) [.string rn.copy, .int .i64 rn.version, .string rn.hold, .int .i64 rn.pull, .int .i64 rn.start, .int .i64 rn.dies, .int .i64 rn.grace]) := fun i v h => (hb.cell (a := ⟨b5, 0 + i, none⟩) HGL.out HPP.out).trans (HRA.out i v h)
   refine hKK.out _ _ ⟨HI.out.S.blk.cell rfl, HRA.out⟩ (fun hS => ?_)
   clear hKK KK hb hr
   refine tv 8 ⟨some 74, _, _, _, _, none⟩ (.pointer (some ⟨b5, 0, none⟩)) rfl (by rfl) ?_ hS ?_
   ·intro wy hy
    clear hy
    first | (go_simp; done) | (go_simp; omega) | (go_simp; intro hh; omega)
   simp only [pA, pB, pC, pD]
   obtain ⟨g6, e6, hg1, hg2, hg3, hra, hth, hfz⟩ := HI.out.S.at5 HRN.out
   cases e6
   have HI9 : Hid (Inv p zb pm w { x with wants := x.wants.set 0 y } (some ⟨b5, 0, none⟩) q5 (some ⟨b6, 0, none⟩) q6 (some ⟨b7, 0, none⟩) q7 (some ⟨b8, 0, none⟩) q8 K (wm.setCells b5 (0) [.string y.copy, .int .i64 y.version, .string y.hold, .int .i64 y.pull, .int .i64 y.start, .int .i64 y.dies, .int .i64 y.grace])) := by
    have h := HI.out.part5 y 0 [.string y.copy, .int .i64 y.version, .string y.hold, .int .i64 y.pull, .int .i64 y.start, .int .i64 y.dies, .int .i64 y.grace] HRN.out (by simp) rfl ⟨hy1, hy2⟩
    rw [show 0 * 7 + 0 = 0 from rfl] at h
    exact h
   rw [show 0 * 7 = 0 from rfl] at hth
   refine wpAnyU_ready (rs := [9]) (by kernel_rfl) (by simp) (AllReadyU.last (o := ⟨none, _, _, _, _, none⟩) rfl (fun KK hKK => ?_))
   rw [if_pos (by rfl)]
   refine wp_store_mid 36 (.tmp 74) (.tmp 73) (by rfl) b5 (0) #[.string y.copy, .int .i64 y.version, .string y.hold, .int .i64 y.pull, .int .i64 y.start, .int .i64 y.dies, .int .i64 y.grace] (by rfl) (by rfl) hth isz_Wnt (by simp [Value.oneCell']) ?_
   clear hra hth hfz
   refine hKK.out _ _ ?_
   clear hKK KK
   refine wpAnyU_done (by kernel_rfl) ?_ _
   go_wp2_with fail
   go_meet
   exact ⟨{ x with wants := x.wants.set 0 y }, (some ⟨b5, 0, none⟩), q5, (some ⟨b6, 0, none⟩), q6, (some ⟨b7, 0, none⟩), q7, (some ⟨b8, 0, none⟩), q8, K, HI9, ⟨by show (x.wants.set 0 y).length ≤ 5; rw [List.length_set]; omega, by show x.runs.length ≤ 5; omega, by show x.asks.length ≤ 5; omega, by show x.gives.length ≤ 5; omega⟩, by omega⟩
  ·skip
   have k5 : w6.cell? ⟨pm, 6, none⟩ = some (.slice (some ⟨b6, 0, none⟩) x.runs.length q6) := HI6.out.S.blk.cell rfl
   by_cases h0 : x.runs.length = 0
   case pos =>
    have e0 : (x.runs.length : Int) = 0 := by omega
    go_wp2_with fail
    go_meet
    exact ⟨x, (some ⟨b5, 0, none⟩), q5, (some ⟨b6, 0, none⟩), q6, (some ⟨b7, 0, none⟩), q7, (some ⟨b8, 0, none⟩), q8, k0 + 1 + 1, HI6, ⟨by show x.wants.length ≤ 5; omega, by show x.runs.length ≤ 5; omega, by show x.asks.length ≤ 5; omega, by show x.gives.length ≤ 5; omega⟩, by omega⟩
   have e0 : (0 : Int) < (x.runs.length : Int) := by omega
   have hkk : k < x.runs.length := hk (by omega)
   clear hk
   obtain ⟨rn, hrn⟩ : ∃ z, x.runs[k]? = some z := ⟨x.runs[k], List.getElem?_eq_getElem (by omega)⟩
   have HRN := Hid.intro hrn
   have HZR := Hid.intro (HI6.out.S.L.z6 rn (List.mem_of_getElem? hrn))
   obtain ⟨g6, e6, hg1, hg2, hg3, hra, hth, hfz⟩ := HI6.out.S.at6 hrn
   cases e6
   have HRA := Hid.intro hra
   have HPP : Hid (b6 ≠ p) := (by have := HI6.out.hw; have := HI6.out.hp; show b6 ≠ p; omega)
   have HPM : Hid (pm ≠ p) := (by have := HI6.out.hw; have := HI6.out.hp; have := HI6.out.zp; show pm ≠ p; omega)
   have HGL := Hid.intro hg2
   have HPL : Hid (pm < w6.heap.size) := HI6.out.pl
   clear hra hth hfz hrn hg1 hg2 hg3
   go_upto_region 21 with fail
   refine wp_region_until (S := fun wy => wy.cell? ⟨pm, 6, none⟩ = some (.slice (some ⟨b6, 0, none⟩) x.runs.length q6) ∧ wy.rangeAt b6 (k * 11) [.string rn.want.copy, .int .i64 rn.want.version, .string rn.want.hold, .int .i64 rn.want.pull, .int .i64 rn.want.start, .int .i64 rn.want.dies, .int .i64 rn.want.grace, .int .i64 rn.state, .int .i64 rn.left, .int .i64 rn.falls, .int .i64 rn.until_]) 11 (by kernel_rfl) ⟨HI6.out.drew.S.blk.cell rfl, HRA.out⟩ (fun hS => ?_)
   have HI := Hid.intro HI6.out.drew
   replace HRA : Hid (w6.drew.rangeAt b6 (k * 11) [.string rn.want.copy, .int .i64 rn.want.version, .string rn.want.hold, .int .i64 rn.want.pull, .int .i64 rn.want.start, .int .i64 rn.want.dies, .int .i64 rn.want.grace, .int .i64 rn.state, .int .i64 rn.left, .int .i64 rn.falls, .int .i64 rn.until_]) := HRA.out
   replace HGL : Hid (b6 < w6.drew.heap.size) := HGL.out
   replace HPL : Hid (pm < w6.drew.heap.size) := HPL.out
   clear HI6
   generalize w6.drew = wn at *
   refine tv 0 ⟨some 82, _, _, _, _, none⟩ (.pointer (some ⟨pm, 6, none⟩)) rfl (by rfl) ?_ hS ?_
   ·intro wy hy
    clear hy
    go_simp
   simp only [pA, pB, pC, pD]
   refine tv 1 ⟨some 83, _, _, _, _, none⟩ (.slice (some ⟨b6, 0, none⟩) x.runs.length q6) rfl (by rfl) ?_ hS ?_
   ·intro wy hy
    obtain ⟨c6, c0⟩ := id hy
    clear hy
    go_simp
   simp only [pA, pB, pC, pD]
   refine tv 2 ⟨some 84, _, _, _, _, none⟩ (.int .i64 (k : Int)) rfl (by rfl) ?_ hS ?_
   ·intro wy hy
    clear hy
    go_simp
   simp only [pA, pB, pC, pD]
   refine tv 3 ⟨some 85, _, _, _, _, none⟩ (.pointer (some ⟨p, 0, none⟩)) rfl (by rfl) ?_ hS ?_
   ·intro wy hy
    clear hy
    go_simp
   simp only [pA, pB, pC, pD]
   refine tv 4 ⟨some 86, _, _, _, _, none⟩ (.pointer (some ⟨pm, 6, none⟩)) rfl (by rfl) ?_ hS ?_
   ·intro wy hy
    clear hy
    go_simp
   simp only [pA, pB, pC, pD]
   refine tv 5 ⟨some 87, _, _, _, _, none⟩ (.slice (some ⟨b6, 0, none⟩) x.runs.length q6) rfl (by rfl) ?_ hS ?_
   ·intro wy hy
    obtain ⟨c6, c0⟩ := id hy
    clear hy
    go_simp
   simp only [pA, pB, pC, pD]
   refine tv 6 ⟨some 88, _, _, _, _, none⟩ (.int .i64 (k : Int)) rfl (by rfl) ?_ hS ?_
   ·intro wy hy
    clear hy
    go_simp
   simp only [pA, pB, pC, pD]
   refine tv 7 ⟨some 89, _, _, _, _, none⟩ (.pointer (some ⟨b6, k * 11, none⟩)) rfl (by rfl) ?_ hS ?_
   ·intro wy hy
    clear hy
    first | (go_simp; done) | (go_simp; omega) | (go_simp; intro hh; omega)
   simp only [pA, pB, pC, pD]
   refine tu 8 ⟨some 90, _, _, _, _, none⟩ (.agg #[.string rn.want.copy, .int .i64 rn.want.version, .string rn.want.hold, .int .i64 rn.want.pull, .int .i64 rn.want.start, .int .i64 rn.want.dies, .int .i64 rn.want.grace, .int .i64 rn.state, .int .i64 rn.left, .int .i64 rn.falls, .int .i64 rn.until_]) rfl (yieldsIf_load_mid (by rfl) _ _ rfl b6 (k * 11) rfl [.string rn.want.copy, .int .i64 rn.want.version, .string rn.want.hold, .int .i64 rn.want.pull, .int .i64 rn.want.start, .int .i64 rn.want.dies, .int .i64 rn.want.grace, .int .i64 rn.state, .int .i64 rn.left, .int .i64 rn.falls, .int .i64 rn.until_] _ (fun _ h => h.2) Try.underlying38 rfl isz_Rn) hS ?_
   simp only [pA, pB, pC, pD]
   refine ru1 9 ⟨some 91, _, _, _, _, none⟩ rfl (fun KK hKK => ?_)
   go_simp
   refine (spoilRun_any p (k0 + 1 + 1) rn _ HI.out.R (by omega) HZR.out.1 HZR.out.2).mono ?_
   rintro e wm ⟨y, K, rfl, hy1, hy2, hKK1, hr, hb⟩
   replace HI := Hid.intro (HI.out.bt hb hr)
   replace HRA : Hid (wm.rangeAt b6 (k * 11) [.string rn.want.copy, .int .i64 rn.want.version, .string rn.want.hold, .int .i64 rn.want.pull, .int .i64 rn.want.start, .int .i64 rn.want.dies, .int .i64 rn.want.grace, .int .i64 rn.state, .int .i64 rn.left, .int .i64 rn.falls, .int .i64 rn.until_]) := fun i v h => (hb.cell (a := ⟨b6, k * 11 + i, none⟩) HGL.out HPP.out).trans (HRA.out i v h)
   refine hKK.out _ _ ⟨HI.out.S.blk.cell rfl, HRA.out⟩ (fun hS => ?_)
   clear hKK KK hb hr
   refine tv 10 ⟨some 92, _, _, _, _, none⟩ (.pointer (some ⟨b6, k * 11, none⟩)) rfl (by rfl) ?_ hS ?_
   ·intro wy hy
    clear hy
    first | (go_simp; done) | (go_simp; omega) | (go_simp; intro hh; omega)
   simp only [pA, pB, pC, pD]
   obtain ⟨g6, e6, hg1, hg2, hg3, hra, hth, hfz⟩ := HI.out.S.at6 HRN.out
   cases e6
   have HI9 : Hid (Inv p zb pm w { x with runs := x.runs.set k y } (some ⟨b5, 0, none⟩) q5 (some ⟨b6, 0, none⟩) q6 (some ⟨b7, 0, none⟩) q7 (some ⟨b8, 0, none⟩) q8 K (wm.setCells b6 (k * 11) [.string y.want.copy, .int .i64 y.want.version, .string y.want.hold, .int .i64 y.want.pull, .int .i64 y.want.start, .int .i64 y.want.dies, .int .i64 y.want.grace, .int .i64 y.state, .int .i64 y.left, .int .i64 y.falls, .int .i64 y.until_])) := by
    have h := HI.out.part6 y 0 [.string y.want.copy, .int .i64 y.want.version, .string y.want.hold, .int .i64 y.want.pull, .int .i64 y.want.start, .int .i64 y.want.dies, .int .i64 y.want.grace, .int .i64 y.state, .int .i64 y.left, .int .i64 y.falls, .int .i64 y.until_] HRN.out (by simp) rfl ⟨hy1, hy2⟩
    rw [show k * 11 + 0 = k * 11 from rfl] at h
    exact h
   refine wpAnyU_ready (rs := [11]) (by kernel_rfl) (by simp) (AllReadyU.last (o := ⟨none, _, _, _, _, none⟩) rfl (fun KK hKK => ?_))
   rw [if_pos (by rfl)]
   refine wp_store_mid 38 (.tmp 92) (.tmp 91) (by rfl) b6 (k * 11) #[.string y.want.copy, .int .i64 y.want.version, .string y.want.hold, .int .i64 y.want.pull, .int .i64 y.want.start, .int .i64 y.want.dies, .int .i64 y.want.grace, .int .i64 y.state, .int .i64 y.left, .int .i64 y.falls, .int .i64 y.until_] (by rfl) (by rfl) hth isz_Rn (by simp [Value.oneCell']) ?_
   clear hra hth hfz
   refine hKK.out _ _ ?_
   clear hKK KK
   refine wpAnyU_done (by kernel_rfl) ?_ _
   go_wp2_with fail
   go_meet
   exact ⟨{ x with runs := x.runs.set k y }, (some ⟨b5, 0, none⟩), q5, (some ⟨b6, 0, none⟩), q6, (some ⟨b7, 0, none⟩), q7, (some ⟨b8, 0, none⟩), q8, K, HI9, ⟨by show x.wants.length ≤ 5; omega, by show (x.runs.set k y).length ≤ 5; rw [List.length_set]; omega, by show x.asks.length ≤ 5; omega, by show x.gives.length ≤ 5; omega⟩, by omega⟩
  ·skip
   have k5 : w6.cell? ⟨pm, 6, none⟩ = some (.slice (some ⟨b6, 0, none⟩) x.runs.length q6) := HI6.out.S.blk.cell rfl
   by_cases h0 : x.runs.length = 0
   case pos =>
    have e0 : (x.runs.length : Int) = 0 := by omega
    go_wp2_with fail
    go_meet
    exact ⟨x, (some ⟨b5, 0, none⟩), q5, (some ⟨b6, 0, none⟩), q6, (some ⟨b7, 0, none⟩), q7, (some ⟨b8, 0, none⟩), q8, k0 + 1 + 1, HI6, ⟨by show x.wants.length ≤ 5; omega, by show x.runs.length ≤ 5; omega, by show x.asks.length ≤ 5; omega, by show x.gives.length ≤ 5; omega⟩, by omega⟩
   have e0 : (0 : Int) < (x.runs.length : Int) := by omega
   have hkk : k < x.runs.length := hk (by omega)
   clear hk
   obtain ⟨rn, hrn⟩ : ∃ z, x.runs[k]? = some z := ⟨x.runs[k], List.getElem?_eq_getElem (by omega)⟩
   have HRN := Hid.intro hrn
   have HZR := Hid.intro (HI6.out.S.L.z6 rn (List.mem_of_getElem? hrn))
   obtain ⟨g6, e6, hg1, hg2, hg3, hra, hth, hfz⟩ := HI6.out.S.at6 hrn
   cases e6
   have HRA := Hid.intro hra
   have HPP : Hid (b6 ≠ p) := (by have := HI6.out.hw; have := HI6.out.hp; show b6 ≠ p; omega)
   have HPM : Hid (pm ≠ p) := (by have := HI6.out.hw; have := HI6.out.hp; have := HI6.out.zp; show pm ≠ p; omega)
   have HGL := Hid.intro hg2
   have HPL : Hid (pm < w6.heap.size) := HI6.out.pl
   clear hra hth hfz hrn hg1 hg2 hg3
   go_upto_region 21 with fail
   refine wp_region_until (S := fun wy => wy.cell? ⟨pm, 6, none⟩ = some (.slice (some ⟨b6, 0, none⟩) x.runs.length q6) ∧ wy.rangeAt b6 (k * 11) [.string rn.want.copy, .int .i64 rn.want.version, .string rn.want.hold, .int .i64 rn.want.pull, .int .i64 rn.want.start, .int .i64 rn.want.dies, .int .i64 rn.want.grace, .int .i64 rn.state, .int .i64 rn.left, .int .i64 rn.falls, .int .i64 rn.until_]) 11 (by kernel_rfl) ⟨HI6.out.drew.S.blk.cell rfl, HRA.out⟩ (fun hS => ?_)
   have HI := Hid.intro HI6.out.drew
   replace HRA : Hid (w6.drew.rangeAt b6 (k * 11) [.string rn.want.copy, .int .i64 rn.want.version, .string rn.want.hold, .int .i64 rn.want.pull, .int .i64 rn.want.start, .int .i64 rn.want.dies, .int .i64 rn.want.grace, .int .i64 rn.state, .int .i64 rn.left, .int .i64 rn.falls, .int .i64 rn.until_]) := HRA.out
   replace HGL : Hid (b6 < w6.drew.heap.size) := HGL.out
   replace HPL : Hid (pm < w6.drew.heap.size) := HPL.out
   clear HI6
   generalize w6.drew = wn at *
   refine tv 0 ⟨some 82, _, _, _, _, none⟩ (.pointer (some ⟨pm, 6, none⟩)) rfl (by rfl) ?_ hS ?_
   ·intro wy hy
    clear hy
    go_simp
   simp only [pA, pB, pC, pD]
   refine tv 1 ⟨some 83, _, _, _, _, none⟩ (.slice (some ⟨b6, 0, none⟩) x.runs.length q6) rfl (by rfl) ?_ hS ?_
   ·intro wy hy
    obtain ⟨c6, c0⟩ := id hy
    clear hy
    go_simp
   simp only [pA, pB, pC, pD]
   refine tv 2 ⟨some 84, _, _, _, _, none⟩ (.int .i64 (k : Int)) rfl (by rfl) ?_ hS ?_
   ·intro wy hy
    clear hy
    go_simp
   simp only [pA, pB, pC, pD]
   refine tv 3 ⟨some 85, _, _, _, _, none⟩ (.pointer (some ⟨p, 0, none⟩)) rfl (by rfl) ?_ hS ?_
   ·intro wy hy
    clear hy
    go_simp
   simp only [pA, pB, pC, pD]
   refine tv 4 ⟨some 86, _, _, _, _, none⟩ (.pointer (some ⟨pm, 6, none⟩)) rfl (by rfl) ?_ hS ?_
   ·intro wy hy
    clear hy
    go_simp
   simp only [pA, pB, pC, pD]
   refine tv 5 ⟨some 87, _, _, _, _, none⟩ (.slice (some ⟨b6, 0, none⟩) x.runs.length q6) rfl (by rfl) ?_ hS ?_
   ·intro wy hy
    obtain ⟨c6, c0⟩ := id hy
    clear hy
    go_simp
   simp only [pA, pB, pC, pD]
   refine tv 6 ⟨some 88, _, _, _, _, none⟩ (.int .i64 (k : Int)) rfl (by rfl) ?_ hS ?_
   ·intro wy hy
    clear hy
    go_simp
   simp only [pA, pB, pC, pD]
   refine tv 7 ⟨some 89, _, _, _, _, none⟩ (.pointer (some ⟨b6, k * 11, none⟩)) rfl (by rfl) ?_ hS ?_
   ·intro wy hy
    clear hy
    first | (go_simp; done) | (go_simp; omega) | (go_simp; intro hh; omega)
   simp only [pA, pB, pC, pD]
   refine tu 8 ⟨some 90, _, _, _, _, none⟩ (.agg #[.string rn.want.copy, .int .i64 rn.want.version, .string rn.want.hold, .int .i64 rn.want.pull, .int .i64 rn.want.start, .int .i64 rn.want.dies, .int .i64 rn.want.grace, .int .i64 rn.state, .int .i64 rn.left, .int .i64 rn.falls, .int .i64 rn.until_]) rfl (yieldsIf_load_mid (by rfl) _ _ rfl b6 (k * 11) rfl [.string rn.want.copy, .int .i64 rn.want.version, .string rn.want.hold, .int .i64 rn.want.pull, .int .i64 rn.want.start, .int .i64 rn.want.dies, .int .i64 rn.want.grace, .int .i64 rn.state, .int .i64 rn.left, .int .i64 rn.falls, .int .i64 rn.until_] _ (fun _ h => h.2) Try.underlying38 rfl isz_Rn) hS ?_
   simp only [pA, pB, pC, pD]
   refine ru1 9 ⟨some 91, _, _, _, _, none⟩ rfl (fun KK hKK => ?_)
   go_simp
   refine (spoilRun_any p (k0 + 1 + 1) rn _ HI.out.R (by omega) HZR.out.1 HZR.out.2).mono ?_
   rintro e wm ⟨y, K, rfl, hy1, hy2, hKK1, hr, hb⟩
   replace HI := Hid.intro (HI.out.bt hb hr)
   replace HRA : Hid (wm.rangeAt b6 (k * 11) [.string rn.want.copy, .int .i64 rn.want.version, .string rn.want.hold, .int .i64 rn.want.pull, .int .i64 rn.want.start, .int .i64 rn.want.dies, .int .i64 rn.want.grace, .int .i64 rn.state, .int .i64 rn.left, .int .i64 rn.falls, .int .i64 rn.until_]) := fun i v h => (hb.cell (a := ⟨b6, k * 11 + i, none⟩) HGL.out HPP.out).trans (HRA.out i v h)
   refine hKK.out _ _ ⟨HI.out.S.blk.cell rfl, HRA.out⟩ (fun hS => ?_)
   clear hKK KK hb hr
   refine tv 10 ⟨some 92, _, _, _, _, none⟩ (.pointer (some ⟨b6, k * 11, none⟩)) rfl (by rfl) ?_ hS ?_
   ·intro wy hy
    clear hy
    first | (go_simp; done) | (go_simp; omega) | (go_simp; intro hh; omega)
   simp only [pA, pB, pC, pD]
   obtain ⟨g6, e6, hg1, hg2, hg3, hra, hth, hfz⟩ := HI.out.S.at6 HRN.out
   cases e6
   have HI9 : Hid (Inv p zb pm w { x with runs := x.runs.set k y } (some ⟨b5, 0, none⟩) q5 (some ⟨b6, 0, none⟩) q6 (some ⟨b7, 0, none⟩) q7 (some ⟨b8, 0, none⟩) q8 K (wm.setCells b6 (k * 11) [.string y.want.copy, .int .i64 y.want.version, .string y.want.hold, .int .i64 y.want.pull, .int .i64 y.want.start, .int .i64 y.want.dies, .int .i64 y.want.grace, .int .i64 y.state, .int .i64 y.left, .int .i64 y.falls, .int .i64 y.until_])) := by
    have h := HI.out.part6 y 0 [.string y.want.copy, .int .i64 y.want.version, .string y.want.hold, .int .i64 y.want.pull, .int .i64 y.want.start, .int .i64 y.want.dies, .int .i64 y.want.grace, .int .i64 y.state, .int .i64 y.left, .int .i64 y.falls, .int .i64 y.until_] HRN.out (by simp) rfl ⟨hy1, hy2⟩
    rw [show k * 11 + 0 = k * 11 from rfl] at h
    exact h
   refine wpAnyU_ready (rs := [11]) (by kernel_rfl) (by simp) (AllReadyU.last (o := ⟨none, _, _, _, _, none⟩) rfl (fun KK hKK => ?_))
   rw [if_pos (by rfl)]
   refine wp_store_mid 38 (.tmp 92) (.tmp 91) (by rfl) b6 (k * 11) #[.string y.want.copy, .int .i64 y.want.version, .string y.want.hold, .int .i64 y.want.pull, .int .i64 y.want.start, .int .i64 y.want.dies, .int .i64 y.want.grace, .int .i64 y.state, .int .i64 y.left, .int .i64 y.falls, .int .i64 y.until_] (by rfl) (by rfl) hth isz_Rn (by simp [Value.oneCell']) ?_
   clear hra hth hfz
   refine hKK.out _ _ ?_
   clear hKK KK
   refine wpAnyU_done (by kernel_rfl) ?_ _
   go_wp2_with fail
   go_meet
   exact ⟨{ x with runs := x.runs.set k y }, (some ⟨b5, 0, none⟩), q5, (some ⟨b6, 0, none⟩), q6, (some ⟨b7, 0, none⟩), q7, (some ⟨b8, 0, none⟩), q8, K, HI9, ⟨by show x.wants.length ≤ 5; omega, by show (x.runs.set k y).length ≤ 5; rw [List.length_set]; omega, by show x.asks.length ≤ 5; omega, by show x.gives.length ≤ 5; omega⟩, by omega⟩
  ·skip
   go_upto_region 23 with fail
   refine wp_region_until (S := fun wy => wy.cell? ⟨pm, 7, none⟩ = some (.slice (some ⟨b7, 0, none⟩) x.asks.length q7)) 20 (by kernel_rfl) (HI6.out.drew.S.blk.cell rfl) (fun hS => ?_)
   have HI := Hid.intro HI6.out.drew
   clear HI6
   generalize w6.drew = wn at *
   refine wpAnyU_name (fun Z HZZ => ?_)
   obtain ⟨FR, HFR⟩ : ∃ FR : Value → Value → Value → Value → Value → Value → Value → Value → Value → Value → Array Value, Hid (∀ s97 s99 s100 s101 s102 s104 s105 s106 s108 s110, FR s97 s99 s100 s101 s102 s104 s105 s106 s108 s110 = #[.pointer (some ⟨p, 0, none⟩), .agg #[.string x.name, .bool x.up, .int .i64 x.clock, .bool x.known, .int .i64 x.seen, .slice a5 x.wants.length c5, .slice a6 x.runs.length c6, .slice a7 x.asks.length c7, .slice a8 x.gives.length c8], undef, .pointer (some ⟨w.heap.size, 0, none⟩), .pointer (some ⟨zb, 0, none⟩), .pointer (some ⟨pm, 0, none⟩), .int .i64 (k : Int), .agg #[.string x.name, .bool x.up, .int .i64 x.clock, .bool x.known, .int .i64 x.seen, .slice a5 x.wants.length c5, .slice a6 x.runs.length c6, .slice a7 x.asks.length c7, .slice a8 x.gives.length c8], .agg #[.string x.name, .bool x.up, .int .i64 x.clock, .bool x.known, .int .i64 x.seen, .slice (some ⟨b5, 0, none⟩) x.wants.length q5, .slice (some ⟨b6, 0, none⟩) x.runs.length q6, .slice (some ⟨b7, 0, none⟩) x.asks.length q7, .slice (some ⟨b8, 0, none⟩) x.gives.length q8], .pointer (some ⟨p, 0, none⟩), .pointer (some ⟨pm, 6, none⟩), .slice (some ⟨b6, 0, none⟩) x.runs.length q6, .int .i64 (x.runs.length : Int), .int .i64 (k : Int), .pointer (some ⟨p, 0, none⟩), .int .i64 ((8 : Nat) : Int), undef, undef, undef, undef, undef, .bool false, .bool false, undef, undef, undef, undef, undef, undef, .bool false, .bool false, undef, undef, undef, undef, .bool false, .bool false, undef, undef, undef, undef, undef, undef, undef, undef, undef, .bool false, .bool false, undef, undef, undef, undef, .bool false, .bool false, undef, undef, undef, undef, undef, undef, .bool false, .bool false, undef, undef, undef, undef, undef, undef, undef, undef, undef, undef, undef, undef, undef, .bool false, .bool false, .bool false, undef, undef, undef, undef, undef, undef, undef, undef, undef, undef, undef, undef, undef, undef, undef, .bool true, .bool true, .pointer (some ⟨pm, 7, none⟩), .slice (some ⟨b7, 0, none⟩) x.asks.length q7, s97, .pointer (some ⟨p, 0, none⟩), s99, s100, s101, s102, .pointer (some ⟨p, 0, none⟩), s104, s105, s106, .pointer (some ⟨p, 0, none⟩), s108, .pointer (some ⟨p, 0, none⟩), s110, undef, undef, undef, undef, undef, undef, undef, undef, undef, undef, undef, undef, undef, undef, undef, undef, undef, undef, undef, undef, undef, undef, undef, undef, undef, undef, undef, undef, undef, undef, undef, undef, undef, undef, undef]) := ⟨_, Hid.intro (fun _ _ _ _ _ _ _ _ _ _ => rfl)⟩
   have st411 : Hid (∀ (u1 : Nat) (u2 : Nat) (u3 : Nat) (u4 : Nat) (gA : Nat) (gB : Nat) (d1 : ByteArray) (d2 : ByteArray) (wn : World), (u1 : Int) < 4 → (u2 : Int) < 2 → (u3 : Int) < 3 → (u4 : Int) < 70 → Hid (Oth p zb pm w (some ⟨b5, 0, none⟩) (some ⟨b6, 0, none⟩) (some ⟨b7, 0, none⟩) (some ⟨b8, 0, none⟩) gA) → Hid (Blk gA #[.string ⟨#[]⟩, .string ⟨#[118, 111, 108]⟩, .string ⟨#[122, 122]⟩, .string ⟨#[42]⟩] 9 wn) → Hid (Oth p zb pm w (some ⟨b5, 0, none⟩) (some ⟨b6, 0, none⟩) (some ⟨b7, 0, none⟩) (some ⟨b8, 0, none⟩) gB) → Hid (Blk gB #[.string ⟨#[]⟩, .string ⟨#[99]⟩] 9 wn) → d1.size ≤ 100 → d2.size ≤ 100 → Hid (Inv p zb pm w x (some ⟨b5, 0, none⟩) q5 (some ⟨b6, 0, none⟩) q6 (some ⟨b7, 0, none⟩) q7 (some ⟨b8, 0, none⟩) q8 (k0 + 1 + 1 + 1 + 1 + 1 + 1) wn) → ∀ L, L = #[true, true, true, true, true, true, true, true, true, true, true, true, true, true, true, true, false, false, false, false, false] → ∀ fr, fr = FR (.slice (some ⟨gA, 0, none⟩) 4 4) (.int .i64 (u1 : Int)) (.pointer (some ⟨gA, u1, none⟩)) (.string d1) (.slice (some ⟨gB, 0, none⟩) 2 2) (.int .i64 (u2 : Int)) (.pointer (some ⟨gB, u2, none⟩)) (.string d2) (.int .i64 (u3 : Int)) (.int .i64 (u4 : Int)) → Z (fun wy => wy.cell? ⟨pm, 7, none⟩ = some (.slice (some ⟨b7, 0, none⟩) x.asks.length q7) ∧ Blk gA #[.string ⟨#[]⟩, .string ⟨#[118, 111, 108]⟩, .string ⟨#[122, 122]⟩, .string ⟨#[42]⟩] 9 wy ∧ Blk gB #[.string ⟨#[]⟩, .string ⟨#[99]⟩] 9 wy) 5 L ⟨fr, []⟩ wn) := by
    clear hS HI
    intro u1 u2 u3 u4 gA gB d1 d2 wn hu1 hu2 hu3 hu4 HOA HA HOB HB hd1 hd2 HI L hL fr hfr
    subst hL
    rw [HFR.out] at hfr
    subst hfr
    rw [HZZ.out]
    have hS : (fun wy => wy.cell? ⟨pm, 7, none⟩ = some (.slice (some ⟨b7, 0, none⟩) x.asks.length q7) ∧ Blk gA #[.string ⟨#[]⟩, .string ⟨#[118, 111, 108]⟩, .string ⟨#[122, 122]⟩, .string ⟨#[42]⟩] 9 wy ∧ Blk gB #[.string ⟨#[]⟩, .string ⟨#[99]⟩] 9 wy) wn := ⟨HI.out.S.blk.cell rfl, HA.out, HB.out⟩
    refine tv 16 ⟨some 111, _, _, _, _, none⟩ (.agg #[.string d1, .string d2, .int .i64 (u3 : Int), .int .i64 (u4 : Int)]) rfl (by rfl) ?_ hS ?_
    ·intro wy hy
     clear hy
     go_simp
    simp only [pA, pB, pC, pD]
    refine ru1 17 ⟨some 112, _, _, _, _, none⟩ rfl (fun KK hKK => ?_)
    go_simp
    have NC : Hid (Blk wn.heap.size #[.string d1, .string d2, .int .i64 (u3 : Int), .int .i64 (u4 : Int)] 57 (wn.alloc (Obj.cells #[.string d1, .string d2, .int .i64 (u3 : Int), .int .i64 (u4 : Int)] 57))) := Blk.alloc _ _ _
    have HIa := Hid.intro (HI.out.alloc (Obj.cells #[.string d1, .string d2, .int .i64 (u3 : Int), .int .i64 (u4 : Int)] 57))
    have hzw : zb + 1 ≤ wn.heap.size := HI.out.Z.lt
    replace HA := Hid.intro (HA.out.below ((Below.refl _ _).alloc (Nat.le_refl _) (Obj.cells #[.string d1, .string d2, .int .i64 (u3 : Int), .int .i64 (u4 : Int)] 57)) HA.out.lt)
    replace HB := Hid.intro (HB.out.below ((Below.refl _ _).alloc (Nat.le_refl _) (Obj.cells #[.string d1, .string d2, .int .i64 (u3 : Int), .int .i64 (u4 : Int)] 57)) HB.out.lt)
    refine hKK.out _ _ ⟨HIa.out.S.blk.cell rfl, HA.out, HB.out⟩ (fun hS => ?_)
    clear hKK KK HI
    have hzx : zb + 1 ≤ (wn.alloc (Obj.cells #[.string d1, .string d2, .int .i64 (u3 : Int), .int .i64 (u4 : Int)] 57)).heap.size := HIa.out.Z.lt
    generalize wn.alloc (Obj.cells #[.string d1, .string d2, .int .i64 (u3 : Int), .int .i64 (u4 : Int)] 57) = wo at *
    generalize wn.heap.size = gN at *
    have HNN : Hid (∀ j u, (rcAks (⟨d1, d2, (u3 : Int), (u4 : Int)⟩ : Aks))[j]? = some u → wo.cell? ((⟨gN, 0, none⟩ : Addr).add j) = some u) := by
     intro j u hj
     rw [Addr.add_mid]
     exact NC.out.rangeA j u hj
    have HN1 : Hid (∀ u ∈ rcAks (⟨d1, d2, (u3 : Int), (u4 : Int)⟩ : Aks), u.oneCell' = true) := fun u hu => rvAks_one [(⟨d1, d2, (u3 : Int), (u4 : Int)⟩ : Aks)] u (by simp only [rvAks, List.append_nil]; exact hu)
    refine ru1 18 ⟨some 113, _, _, _, _, none⟩ rfl (fun KK hKK => ?_)
    rw [if_pos (by rfl)]
    refine wp_append_at (.tmp 96) (.tmp 112) 25 (by rfl) (zb + 1) 57 iA _ 4 48 Try.underlying25 hiA hz0 hz1 hz2 rfl (by decide) _ x.asks.length _ (by rfl) HIa.out.S.L.r7 ⟨gN, 0, none⟩ 1 1 (rcAks (⟨d1, d2, (u3 : Int), (u4 : Int)⟩ : Aks)) (by rfl) (by rfl) HNN.out HN1.out (by unfold maxLen; omega) (by omega) hzx ?_
    intro v' wq hown8 hgrow8 hnil8 hblk8
    have hv8 : v' ≠ .slice none 0 0 := (fun e => by have h9 := (hnil8.1 e).2; cases h9)
    obtain ⟨g8, k8, rfl⟩ := rowf hown8 hv8
    rw [own_blkO (some ⟨b7, 0, none⟩)] at hgrow8 hblk8
    have kx : wq.cell? ⟨pm, 7, none⟩ = some (.slice (some ⟨b7, 0, none⟩) x.asks.length q7) := (HIa.out.S.blk7 hgrow8).cell rfl
    have fx : wq.frozen? ⟨pm, 7, none⟩ = false := (HIa.out.S.blk7 hgrow8).frozen _
    replace HA := Hid.intro ((hgrow8.block gA HA.out.lt (fun e => HOA.out.n7 e.symm)).trans HA.out)
    replace HB := Hid.intro ((hgrow8.block gB HB.out.lt (fun e => HOB.out.n7 e.symm)).trans HB.out)
    refine hKK.out _ _ ⟨kx, HA.out, HB.out⟩ (fun hS => ?_)
    clear hKK KK
    refine tv 19 ⟨some 114, _, _, _, _, none⟩ (.pointer (some ⟨pm, 7, none⟩)) rfl (by rfl) ?_ hS ?_
    ·intro wy hy
     clear hy
     go_simp
    simp only [pA, pB, pC, pD]
    have hyl : (x.asks ++ [(⟨d1, d2, (u3 : Int), (u4 : Int)⟩ : Aks)]).length = x.asks.length + 1 := by simp
    have HI9 : Hid (Inv p zb pm w { x with asks := x.asks ++ [(⟨d1, d2, (u3 : Int), (u4 : Int)⟩ : Aks)] } (some ⟨b5, 0, none⟩) q5 (some ⟨b6, 0, none⟩) q6 (some ⟨g8, 0, none⟩) k8 (some ⟨b8, 0, none⟩) q8 (k0 + 1 + 1 + 1 + 1 + 1 + 1) (wq.setCell ⟨pm, 7, none⟩ (.slice (some ⟨g8, 0, none⟩) (x.asks.length + 1) k8))) := by
     have h := HIa.out.grown7 (ys := x.asks ++ [(⟨d1, d2, (u3 : Int), (u4 : Int)⟩ : Aks)]) (c7 := some ⟨g8, 0, none⟩) (k7 := k8) hgrow8 (by rw [hyl, rvA_app]; simp only [rvAks, List.append_nil]; exact hown8) (by rw [hyl]; exact hblk8) (fun z hz => (List.mem_append.1 hz).elim (HIa.out.S.L.z7 z) (fun e => by rw [List.mem_singleton.1 e]; exact ⟨hd1, hd2⟩))
     rw [hyl] at h
     exact h
    refine wpAnyU_ready (rs := [20]) (by kernel_rfl) (by simp) (AllReadyU.last (o := ⟨none, _, _, _, _, none⟩) rfl (fun KK hKK => ?_))
    go_simp
    refine hKK.out _ _ ?_
    clear hKK KK
    refine wpAnyU_done (by kernel_rfl) ?_ _
    go_wp2_with fail
    go_meet
    exact ⟨{ x with asks := x.asks ++ [(⟨d1, d2, (u3 : Int), (u4 : Int)⟩ : Aks)] }, (some ⟨b5, 0, none⟩), q5, (some ⟨b6, 0, none⟩), q6, (some ⟨g8, 0, none⟩), k8, (some ⟨b8, 0, none⟩), q8, k0 + 1 + 1 + 1 + 1 + 1 + 1, HI9, ⟨by show x.wants.length ≤ 5; omega, by show x.runs.length ≤ 5; omega, by show (x.asks ++ [(⟨d1, d2, (u3 : Int), (u4 : Int)⟩ : Aks)]).length ≤ 5; rw [hyl]; omega, by show x.gives.length ≤ 5; omega⟩, by omega⟩
   have st410 : Hid (∀ (u1 : Nat) (u2 : Nat) (u3 : Nat) (u4 : Nat) (gA : Nat) (d1 : ByteArray) (wn : World), (u1 : Int) < 4 → (u2 : Int) < 2 → (u3 : Int) < 3 → (u4 : Int) < 70 → Hid (Oth p zb pm w (some ⟨b5, 0, none⟩) (some ⟨b6, 0, none⟩) (some ⟨b7, 0, none⟩) (some ⟨b8, 0, none⟩) gA) → Hid (Blk gA #[.string ⟨#[]⟩, .string ⟨#[118, 111, 108]⟩, .string ⟨#[122, 122]⟩, .string ⟨#[42]⟩] 9 wn) → d1.size ≤ 100 → Hid (Inv p zb pm w x (some ⟨b5, 0, none⟩) q5 (some ⟨b6, 0, none⟩) q6 (some ⟨b7, 0, none⟩) q7 (some ⟨b8, 0, none⟩) q8 (k0 + 1 + 1 + 1 + 1 + 1 + 1) wn) → ∀ L, L = #[true, true, true, true, true, true, true, false, true, true, false, false, true, true, true, true, false, false, false, false, false] → ∀ fr, fr = FR (.slice (some ⟨gA, 0, none⟩) 4 4) (.int .i64 (u1 : Int)) (.pointer (some ⟨gA, u1, none⟩)) (.string d1) undef (.int .i64 (u2 : Int)) undef undef (.int .i64 (u3 : Int)) (.int .i64 (u4 : Int)) → Z (fun wy => wy.cell? ⟨pm, 7, none⟩ = some (.slice (some ⟨b7, 0, none⟩) x.asks.length q7) ∧ Blk gA #[.string ⟨#[]⟩, .string ⟨#[118, 111, 108]⟩, .string ⟨#[122, 122]⟩, .string ⟨#[42]⟩] 9 wy) 8 L ⟨fr, []⟩ wn) := by
    clear hS HI
    intro u1 u2 u3 u4 gA d1 wn hu1 hu2 hu3 hu4 HOA HA hd1 HI L hL fr hfr
    subst hL
    rw [HFR.out] at hfr
    subst hfr
    rw [HZZ.out]
    refine ru1 7 ⟨some 102, _, _, _, _, none⟩ rfl (fun KK hKK => ?_)
    ·go_simp
     have HB : Hid (Blk wn.heap.size #[.string ⟨#[]⟩, .string ⟨#[99]⟩] 9 (wn.alloc (Obj.cells #[.string ⟨#[]⟩, .string ⟨#[99]⟩] 9))) := Blk.alloc _ _ _
     have HOB := Hid.intro (HI.out.new (Nat.le_refl _))
     replace HI := Hid.intro (HI.out.alloc (Obj.cells #[.string ⟨#[]⟩, .string ⟨#[99]⟩] 9))
     replace HA := Hid.intro (HA.out.below ((Below.refl _ _).alloc (Nat.le_refl _) (Obj.cells #[.string ⟨#[]⟩, .string ⟨#[99]⟩] 9)) HA.out.lt)
     refine hKK.out _ _ ⟨HI.out.S.blk.cell rfl, HA.out⟩ (fun hS => ?_)
     clear hKK KK hS
     generalize wn.heap.size = gB at *
     generalize wn.alloc (Obj.cells #[.string ⟨#[]⟩, .string ⟨#[99]⟩] 9) = wn at *
     refine wpAnyU_mono (S' := fun wy => wy.cell? ⟨pm, 7, none⟩ = some (.slice (some ⟨b7, 0, none⟩) x.asks.length q7) ∧ Blk gA #[.string ⟨#[]⟩, .string ⟨#[118, 111, 108]⟩, .string ⟨#[122, 122]⟩, .string ⟨#[42]⟩] 9 wy ∧ Blk gB #[.string ⟨#[]⟩, .string ⟨#[99]⟩] 9 wy) (fun _ h => ⟨h.1, h.2.1⟩) _ _ _ _ ?_
     have hS : (fun wy => wy.cell? ⟨pm, 7, none⟩ = some (.slice (some ⟨b7, 0, none⟩) x.asks.length q7) ∧ Blk gA #[.string ⟨#[]⟩, .string ⟨#[118, 111, 108]⟩, .string ⟨#[122, 122]⟩, .string ⟨#[42]⟩] 9 wy ∧ Blk gB #[.string ⟨#[]⟩, .string ⟨#[99]⟩] 9 wy) wn := ⟨HI.out.S.blk.cell rfl, HA.out, HB.out⟩
     obtain ⟨d2, hdx, hd2⟩ := strAt2 ⟨#[]⟩ ⟨#[99]⟩ u2 hu2 (by decide) (by decide)
     refine tv 10 ⟨some 105, _, _, _, _, none⟩ (.pointer (some ⟨gB, u2, none⟩)) rfl (by rfl) ?_ hS ?_
     ·intro wy hy
      clear hy
      first | (go_simp; done) | (go_simp; omega) | (go_simp; intro hh; omega)
     simp only [pA, pB, pC, pD]
     refine tv 11 ⟨some 106, _, _, _, _, none⟩ (.string d2) rfl (by rfl) ?_ hS ?_
     ·intro wy hy
      have h := id hy
      have h0 := h.2.2.cell (o := u2) (v := .string d2) hdx
      clear hy
      go_simp
     simp only [pA, pB, pC, pD]
     rw [← HZZ.out]
     exact st411.out _ _ _ _ _ _ _ _ _ hu1 hu2 hu3 hu4 HOA HA HOB HB hd1 hd2 HI _ (by kernel_rfl) _ (HFR.out _ _ _ _ _ _ _ _ _ _).symm
   have st401 : Hid (∀ (u1 : Nat) (u2 : Nat) (u3 : Nat) (u4 : Nat) (gB : Nat) (d2 : ByteArray) (wn : World), (u1 : Int) < 4 → (u2 : Int) < 2 → (u3 : Int) < 3 → (u4 : Int) < 70 → Hid (Oth p zb pm w (some ⟨b5, 0, none⟩) (some ⟨b6, 0, none⟩) (some ⟨b7, 0, none⟩) (some ⟨b8, 0, none⟩) gB) → Hid (Blk gB #[.string ⟨#[]⟩, .string ⟨#[99]⟩] 9 wn) → d2.size ≤ 100 → Hid (Inv p zb pm w x (some ⟨b5, 0, none⟩) q5 (some ⟨b6, 0, none⟩) q6 (some ⟨b7, 0, none⟩) q7 (some ⟨b8, 0, none⟩) q8 (k0 + 1 + 1 + 1 + 1 + 1 + 1) wn) → ∀ L, L = #[true, true, false, true, true, false, false, true, true, true, true, true, true, true, true, true, false, false, false, false, false] → ∀ fr, fr = FR undef (.int .i64 (u1 : Int)) undef undef (.slice (some ⟨gB, 0, none⟩) 2 2) (.int .i64 (u2 : Int)) (.pointer (some ⟨gB, u2, none⟩)) (.string d2) (.int .i64 (u3 : Int)) (.int .i64 (u4 : Int)) → Z (fun wy => wy.cell? ⟨pm, 7, none⟩ = some (.slice (some ⟨b7, 0, none⟩) x.asks.length q7) ∧ Blk gB #[.string ⟨#[]⟩, .string ⟨#[99]⟩] 9 wy) 8 L ⟨fr, []⟩ wn) := by
    clear hS HI
    intro u1 u2 u3 u4 gB d2 wn hu1 hu2 hu3 hu4 HOB HB hd2 HI L hL fr hfr
    subst hL
    rw [HFR.out] at hfr
    subst hfr
    rw [HZZ.out]
    refine ru1 2 ⟨some 97, _, _, _, _, none⟩ rfl (fun KK hKK => ?_)
    ·go_simp
     have HA : Hid (Blk wn.heap.size #[.string ⟨#[]⟩, .string ⟨#[118, 111, 108]⟩, .string ⟨#[122, 122]⟩, .string ⟨#[42]⟩] 9 (wn.alloc (Obj.cells #[.string ⟨#[]⟩, .string ⟨#[118, 111, 108]⟩, .string ⟨#[122, 122]⟩, .string ⟨#[42]⟩] 9))) := Blk.alloc _ _ _
     have HOA := Hid.intro (HI.out.new (Nat.le_refl _))
     replace HI := Hid.intro (HI.out.alloc (Obj.cells #[.string ⟨#[]⟩, .string ⟨#[118, 111, 108]⟩, .string ⟨#[122, 122]⟩, .string ⟨#[42]⟩] 9))
     replace HB := Hid.intro (HB.out.below ((Below.refl _ _).alloc (Nat.le_refl _) (Obj.cells #[.string ⟨#[]⟩, .string ⟨#[118, 111, 108]⟩, .string ⟨#[122, 122]⟩, .string ⟨#[42]⟩] 9)) HB.out.lt)
     refine hKK.out _ _ ⟨HI.out.S.blk.cell rfl, HB.out⟩ (fun hS => ?_)
     clear hKK KK hS
     generalize wn.heap.size = gA at *
     generalize wn.alloc (Obj.cells #[.string ⟨#[]⟩, .string ⟨#[118, 111, 108]⟩, .string ⟨#[122, 122]⟩, .string ⟨#[42]⟩] 9) = wn at *
     refine wpAnyU_mono (S' := fun wy => wy.cell? ⟨pm, 7, none⟩ = some (.slice (some ⟨b7, 0, none⟩) x.asks.length q7) ∧ Blk gA #[.string ⟨#[]⟩, .string ⟨#[118, 111, 108]⟩, .string ⟨#[122, 122]⟩, .string ⟨#[42]⟩] 9 wy ∧ Blk gB #[.string ⟨#[]⟩, .string ⟨#[99]⟩] 9 wy) (fun _ h => ⟨h.1, h.2.2⟩) _ _ _ _ ?_
     have hS : (fun wy => wy.cell? ⟨pm, 7, none⟩ = some (.slice (some ⟨b7, 0, none⟩) x.asks.length q7) ∧ Blk gA #[.string ⟨#[]⟩, .string ⟨#[118, 111, 108]⟩, .string ⟨#[122, 122]⟩, .string ⟨#[42]⟩] 9 wy ∧ Blk gB #[.string ⟨#[]⟩, .string ⟨#[99]⟩] 9 wy) wn := ⟨HI.out.S.blk.cell rfl, HA.out, HB.out⟩
     obtain ⟨d1, hdx, hd1⟩ := strAt4 ⟨#[]⟩ ⟨#[118, 111, 108]⟩ ⟨#[122, 122]⟩ ⟨#[42]⟩ u1 hu1 (by decide) (by decide) (by decide) (by decide)
     refine tv 5 ⟨some 100, _, _, _, _, none⟩ (.pointer (some ⟨gA, u1, none⟩)) rfl (by rfl) ?_ hS ?_
     ·intro wy hy
      clear hy
      first | (go_simp; done) | (go_simp; omega) | (go_simp; intro hh; omega)
     simp only [pA, pB, pC, pD]
     refine tv 6 ⟨some 101, _, _, _, _, none⟩ (.string d1) rfl (by rfl) ?_ hS ?_
     ·intro wy hy
      have h := id hy
      have h0 := h.2.1.cell (o := u1) (v := .string d1) hdx
      clear hy
      go_simp
     simp only [pA, pB, pC, pD]
     rw [← HZZ.out]
     exact st411.out _ _ _ _ _ _ _ _ _ hu1 hu2 hu3 hu4 HOA HA HOB HB hd1 hd2 HI _ (by kernel_rfl) _ (HFR.out _ _ _ _ _ _ _ _ _ _).symm
   have st400 : Hid (∀ (u1 : Nat) (u2 : Nat) (u3 : Nat) (u4 : Nat) (wn : World), (u1 : Int) < 4 → (u2 : Int) < 2 → (u3 : Int) < 3 → (u4 : Int) < 70 → Hid (Inv p zb pm w x (some ⟨b5, 0, none⟩) q5 (some ⟨b6, 0, none⟩) q6 (some ⟨b7, 0, none⟩) q7 (some ⟨b8, 0, none⟩) q8 (k0 + 1 + 1 + 1 + 1 + 1 + 1) wn) → ∀ L, L = #[true, true, false, true, true, false, false, false, true, true, false, false, true, true, true, true, false, false, false, false, false] → ∀ fr, fr = FR undef (.int .i64 (u1 : Int)) undef undef undef (.int .i64 (u2 : Int)) undef undef (.int .i64 (u3 : Int)) (.int .i64 (u4 : Int)) → Z (fun wy => wy.cell? ⟨pm, 7, none⟩ = some (.slice (some ⟨b7, 0, none⟩) x.asks.length q7)) 11 L ⟨fr, []⟩ wn) := by
    clear hS HI
    intro u1 u2 u3 u4 wn hu1 hu2 hu3 hu4 HI L hL fr hfr
    subst hL
    rw [HFR.out] at hfr
    subst hfr
    rw [HZZ.out]
    refine wpAnyU_ready (rs := [2, 7]) (by kernel_rfl) (by simp) (AllReadyU.cons (o := ⟨some 97, _, _, _, _, none⟩) rfl (fun KK hKK => ?_) (AllReadyU.cons (o := ⟨some 102, _, _, _, _, none⟩) rfl (fun KK hKK => ?_) AllReadyU.nil))
    ·go_simp
     have HA : Hid (Blk wn.heap.size #[.string ⟨#[]⟩, .string ⟨#[118, 111, 108]⟩, .string ⟨#[122, 122]⟩, .string ⟨#[42]⟩] 9 (wn.alloc (Obj.cells #[.string ⟨#[]⟩, .string ⟨#[118, 111, 108]⟩, .string ⟨#[122, 122]⟩, .string ⟨#[42]⟩] 9))) := Blk.alloc _ _ _
     have HOA := Hid.intro (HI.out.new (Nat.le_refl _))
     replace HI := Hid.intro (HI.out.alloc (Obj.cells #[.string ⟨#[]⟩, .string ⟨#[118, 111, 108]⟩, .string ⟨#[122, 122]⟩, .string ⟨#[42]⟩] 9))
     refine hKK.out _ _ (HI.out.S.blk.cell rfl) (fun hS => ?_)
     clear hKK KK hS
     generalize wn.heap.size = gA at *
     generalize wn.alloc (Obj.cells #[.string ⟨#[]⟩, .string ⟨#[118, 111, 108]⟩, .string ⟨#[122, 122]⟩, .string ⟨#[42]⟩] 9) = wn at *
     refine wpAnyU_mono (S' := fun wy => wy.cell? ⟨pm, 7, none⟩ = some (.slice (some ⟨b7, 0, none⟩) x.asks.length q7) ∧ Blk gA #[.string ⟨#[]⟩, .string ⟨#[118, 111, 108]⟩, .string ⟨#[122, 122]⟩, .string ⟨#[42]⟩] 9 wy) (fun _ h => h.1) _ _ _ _ ?_
     have hS : (fun wy => wy.cell? ⟨pm, 7, none⟩ = some (.slice (some ⟨b7, 0, none⟩) x.asks.length q7) ∧ Blk gA #[.string ⟨#[]⟩, .string ⟨#[118, 111, 108]⟩, .string ⟨#[122, 122]⟩, .string ⟨#[42]⟩] 9 wy) wn := ⟨HI.out.S.blk.cell rfl, HA.out⟩
     obtain ⟨d1, hdx, hd1⟩ := strAt4 ⟨#[]⟩ ⟨#[118, 111, 108]⟩ ⟨#[122, 122]⟩ ⟨#[42]⟩ u1 hu1 (by decide) (by decide) (by decide) (by decide)
     refine tv 5 ⟨some 100, _, _, _, _, none⟩ (.pointer (some ⟨gA, u1, none⟩)) rfl (by rfl) ?_ hS ?_
     ·intro wy hy
      clear hy
      first | (go_simp; done) | (go_simp; omega) | (go_simp; intro hh; omega)
     simp only [pA, pB, pC, pD]
     refine tv 6 ⟨some 101, _, _, _, _, none⟩ (.string d1) rfl (by rfl) ?_ hS ?_
     ·intro wy hy
      have h := id hy
      have h0 := h.2.cell (o := u1) (v := .string d1) hdx
      clear hy
      go_simp
     simp only [pA, pB, pC, pD]
     rw [← HZZ.out]
     exact st410.out _ _ _ _ _ _ _ hu1 hu2 hu3 hu4 HOA HA hd1 HI _ (by kernel_rfl) _ (HFR.out _ _ _ _ _ _ _ _ _ _).symm
    ·go_simp
     have HB : Hid (Blk wn.heap.size #[.string ⟨#[]⟩, .string ⟨#[99]⟩] 9 (wn.alloc (Obj.cells #[.string ⟨#[]⟩, .string ⟨#[99]⟩] 9))) := Blk.alloc _ _ _
     have HOB := Hid.intro (HI.out.new (Nat.le_refl _))
     replace HI := Hid.intro (HI.out.alloc (Obj.cells #[.string ⟨#[]⟩, .string ⟨#[99]⟩] 9))
     refine hKK.out _ _ (HI.out.S.blk.cell rfl) (fun hS => ?_)
     clear hKK KK hS
     generalize wn.heap.size = gB at *
     generalize wn.alloc (Obj.cells #[.string ⟨#[]⟩, .string ⟨#[99]⟩] 9) = wn at *
     refine wpAnyU_mono (S' := fun wy => wy.cell? ⟨pm, 7, none⟩ = some (.slice (some ⟨b7, 0, none⟩) x.asks.length q7) ∧ Blk gB #[.string ⟨#[]⟩, .string ⟨#[99]⟩] 9 wy) (fun _ h => h.1) _ _ _ _ ?_
     have hS : (fun wy => wy.cell? ⟨pm, 7, none⟩ = some (.slice (some ⟨b7, 0, none⟩) x.asks.length q7) ∧ Blk gB #[.string ⟨#[]⟩, .string ⟨#[99]⟩] 9 wy) wn := ⟨HI.out.S.blk.cell rfl, HB.out⟩
     obtain ⟨d2, hdx, hd2⟩ := strAt2 ⟨#[]⟩ ⟨#[99]⟩ u2 hu2 (by decide) (by decide)
     refine tv 10 ⟨some 105, _, _, _, _, none⟩ (.pointer (some ⟨gB, u2, none⟩)) rfl (by rfl) ?_ hS ?_
     ·intro wy hy
      clear hy
      first | (go_simp; done) | (go_simp; omega) | (go_simp; intro hh; omega)
     simp only [pA, pB, pC, pD]
     refine tv 11 ⟨some 106, _, _, _, _, none⟩ (.string d2) rfl (by rfl) ?_ hS ?_
     ·intro wy hy
      have h := id hy
      have h0 := h.2.cell (o := u2) (v := .string d2) hdx
      clear hy
      go_simp
     simp only [pA, pB, pC, pD]
     rw [← HZZ.out]
     exact st401.out _ _ _ _ _ _ _ hu1 hu2 hu3 hu4 HOB HB hd2 HI _ (by kernel_rfl) _ (HFR.out _ _ _ _ _ _ _ _ _ _).symm
   have st311 : Hid (∀ (u1 : Nat) (u2 : Nat) (u3 : Nat) (gA : Nat) (gB : Nat) (d1 : ByteArray) (d2 : ByteArray) (wn : World), (u1 : Int) < 4 → (u2 : Int) < 2 → (u3 : Int) < 3 → Hid (Oth p zb pm w (some ⟨b5, 0, none⟩) (some ⟨b6, 0, none⟩) (some ⟨b7, 0, none⟩) (some ⟨b8, 0, none⟩) gA) → Hid (Blk gA #[.string ⟨#[]⟩, .string ⟨#[118, 111, 108]⟩, .string ⟨#[122, 122]⟩, .string ⟨#[42]⟩] 9 wn) → Hid (Oth p zb pm w (some ⟨b5, 0, none⟩) (some ⟨b6, 0, none⟩) (some ⟨b7, 0, none⟩) (some ⟨b8, 0, none⟩) gB) → Hid (Blk gB #[.string ⟨#[]⟩, .string ⟨#[99]⟩] 9 wn) → d1.size ≤ 100 → d2.size ≤ 100 → Hid (Inv p zb pm w x (some ⟨b5, 0, none⟩) q5 (some ⟨b6, 0, none⟩) q6 (some ⟨b7, 0, none⟩) q7 (some ⟨b8, 0, none⟩) q8 (k0 + 1 + 1 + 1 + 1 + 1) wn) → ∀ L, L = #[true, true, true, true, true, true, true, true, true, true, true, true, true, true, true, false, false, false, false, false, false] → ∀ fr, fr = FR (.slice (some ⟨gA, 0, none⟩) 4 4) (.int .i64 (u1 : Int)) (.pointer (some ⟨gA, u1, none⟩)) (.string d1) (.slice (some ⟨gB, 0, none⟩) 2 2) (.int .i64 (u2 : Int)) (.pointer (some ⟨gB, u2, none⟩)) (.string d2) (.int .i64 (u3 : Int)) undef → Z (fun wy => wy.cell? ⟨pm, 7, none⟩ = some (.slice (some ⟨b7, 0, none⟩) x.asks.length q7) ∧ Blk gA #[.string ⟨#[]⟩, .string ⟨#[118, 111, 108]⟩, .string ⟨#[122, 122]⟩, .string ⟨#[42]⟩] 9 wy ∧ Blk gB #[.string ⟨#[]⟩, .string ⟨#[99]⟩] 9 wy) 6 L ⟨fr, []⟩ wn) := by
    clear hS HI
    intro u1 u2 u3 gA gB d1 d2 wn hu1 hu2 hu3 HOA HA HOB HB hd1 hd2 HI L hL fr hfr
    subst hL
    rw [HFR.out] at hfr
    subst hfr
    rw [HZZ.out]
    refine ru1 15 ⟨some 110, _, _, _, _, none⟩ rfl (fun KK hKK => ?_)
    ·go_simp
     refine (pick_rd p (k0 + 1 + 1 + 1 + 1 + 1) 70 _ HI.out.R (by omega) (by omega) (by omega)).mono ?_
     rintro e wn ⟨u4, rfl, hu4, hr, hb, -⟩
     replace HA := Hid.intro (HA.out.bt hb HA.out.lt (by have := HOA.out.nw; omega))
     replace HB := Hid.intro (HB.out.bt hb HB.out.lt (by have := HOB.out.nw; omega))
     replace HI := Hid.intro (HI.out.bt hb hr)
     refine hKK.out _ _ ⟨HI.out.S.blk.cell rfl, HA.out, HB.out⟩ (fun hS => ?_)
     clear hKK KK hb hr
     rw [← HZZ.out]
     exact st411.out _ _ _ _ _ _ _ _ _ hu1 hu2 hu3 hu4 HOA HA HOB HB hd1 hd2 HI _ (by kernel_rfl) _ (HFR.out _ _ _ _ _ _ _ _ _ _).symm
   have st310 : Hid (∀ (u1 : Nat) (u2 : Nat) (u3 : Nat) (gA : Nat) (d1 : ByteArray) (wn : World), (u1 : Int) < 4 → (u2 : Int) < 2 → (u3 : Int) < 3 → Hid (Oth p zb pm w (some ⟨b5, 0, none⟩) (some ⟨b6, 0, none⟩) (some ⟨b7, 0, none⟩) (some ⟨b8, 0, none⟩) gA) → Hid (Blk gA #[.string ⟨#[]⟩, .string ⟨#[118, 111, 108]⟩, .string ⟨#[122, 122]⟩, .string ⟨#[42]⟩] 9 wn) → d1.size ≤ 100 → Hid (Inv p zb pm w x (some ⟨b5, 0, none⟩) q5 (some ⟨b6, 0, none⟩) q6 (some ⟨b7, 0, none⟩) q7 (some ⟨b8, 0, none⟩) q8 (k0 + 1 + 1 + 1 + 1 + 1) wn) → ∀ L, L = #[true, true, true, true, true, true, true, false, true, true, false, false, true, true, true, false, false, false, false, false, false] → ∀ fr, fr = FR (.slice (some ⟨gA, 0, none⟩) 4 4) (.int .i64 (u1 : Int)) (.pointer (some ⟨gA, u1, none⟩)) (.string d1) undef (.int .i64 (u2 : Int)) undef undef (.int .i64 (u3 : Int)) undef → Z (fun wy => wy.cell? ⟨pm, 7, none⟩ = some (.slice (some ⟨b7, 0, none⟩) x.asks.length q7) ∧ Blk gA #[.string ⟨#[]⟩, .string ⟨#[118, 111, 108]⟩, .string ⟨#[122, 122]⟩, .string ⟨#[42]⟩] 9 wy) 9 L ⟨fr, []⟩ wn) := by
    clear hS HI
    intro u1 u2 u3 gA d1 wn hu1 hu2 hu3 HOA HA hd1 HI L hL fr hfr
    subst hL
    rw [HFR.out] at hfr
    subst hfr
    rw [HZZ.out]
    refine wpAnyU_ready (rs := [7, 15]) (by kernel_rfl) (by simp) (AllReadyU.cons (o := ⟨some 102, _, _, _, _, none⟩) rfl (fun KK hKK => ?_) (AllReadyU.cons (o := ⟨some 110, _, _, _, _, none⟩) rfl (fun KK hKK => ?_) AllReadyU.nil))
    ·go_simp
     have HB : Hid (Blk wn.heap.size #[.string ⟨#[]⟩, .string ⟨#[99]⟩] 9 (wn.alloc (Obj.cells #[.string ⟨#[]⟩, .string ⟨#[99]⟩] 9))) := Blk.alloc _ _ _
     have HOB := Hid.intro (HI.out.new (Nat.le_refl _))
     replace HI := Hid.intro (HI.out.alloc (Obj.cells #[.string ⟨#[]⟩, .string ⟨#[99]⟩] 9))
     replace HA := Hid.intro (HA.out.below ((Below.refl _ _).alloc (Nat.le_refl _) (Obj.cells #[.string ⟨#[]⟩, .string ⟨#[99]⟩] 9)) HA.out.lt)
     refine hKK.out _ _ ⟨HI.out.S.blk.cell rfl, HA.out⟩ (fun hS => ?_)
     clear hKK KK hS
     generalize wn.heap.size = gB at *
     generalize wn.alloc (Obj.cells #[.string ⟨#[]⟩, .string ⟨#[99]⟩] 9) = wn at *
     refine wpAnyU_mono (S' := fun wy => wy.cell? ⟨pm, 7, none⟩ = some (.slice (some ⟨b7, 0, none⟩) x.asks.length q7) ∧ Blk gA #[.string ⟨#[]⟩, .string ⟨#[118, 111, 108]⟩, .string ⟨#[122, 122]⟩, .string ⟨#[42]⟩] 9 wy ∧ Blk gB #[.string ⟨#[]⟩, .string ⟨#[99]⟩] 9 wy) (fun _ h => ⟨h.1, h.2.1⟩) _ _ _ _ ?_
     have hS : (fun wy => wy.cell? ⟨pm, 7, none⟩ = some (.slice (some ⟨b7, 0, none⟩) x.asks.length q7) ∧ Blk gA #[.string ⟨#[]⟩, .string ⟨#[118, 111, 108]⟩, .string ⟨#[122, 122]⟩, .string ⟨#[42]⟩] 9 wy ∧ Blk gB #[.string ⟨#[]⟩, .string ⟨#[99]⟩] 9 wy) wn := ⟨HI.out.S.blk.cell rfl, HA.out, HB.out⟩
     obtain ⟨d2, hdx, hd2⟩ := strAt2 ⟨#[]⟩ ⟨#[99]⟩ u2 hu2 (by decide) (by decide)
     refine tv 10 ⟨some 105, _, _, _, _, none⟩ (.pointer (some ⟨gB, u2, none⟩)) rfl (by rfl) ?_ hS ?_
     ·intro wy hy
      clear hy
      first | (go_simp; done) | (go_simp; omega) | (go_simp; intro hh; omega)
     simp only [pA, pB, pC, pD]
     refine tv 11 ⟨some 106, _, _, _, _, none⟩ (.string d2) rfl (by rfl) ?_ hS ?_
     ·intro wy hy
      have h := id hy
      have h0 := h.2.2.cell (o := u2) (v := .string d2) hdx
      clear hy
      go_simp
     simp only [pA, pB, pC, pD]
     rw [← HZZ.out]
     exact st311.out _ _ _ _ _ _ _ _ hu1 hu2 hu3 HOA HA HOB HB hd1 hd2 HI _ (by kernel_rfl) _ (HFR.out _ _ _ _ _ _ _ _ _ _).symm
    ·go_simp
     refine (pick_rd p (k0 + 1 + 1 + 1 + 1 + 1) 70 _ HI.out.R (by omega) (by omega) (by omega)).mono ?_
     rintro e wn ⟨u4, rfl, hu4, hr, hb, -⟩
     replace HA := Hid.intro (HA.out.bt hb HA.out.lt (by have := HOA.out.nw; omega))
     replace HI := Hid.intro (HI.out.bt hb hr)
     refine hKK.out _ _ ⟨HI.out.S.blk.cell rfl, HA.out⟩ (fun hS => ?_)
     clear hKK KK hb hr
     rw [← HZZ.out]
     exact st410.out _ _ _ _ _ _ _ hu1 hu2 hu3 hu4 HOA HA hd1 HI _ (by kernel_rfl) _ (HFR.out _ _ _ _ _ _ _ _ _ _).symm
   have st301 : Hid (∀ (u1 : Nat) (u2 : Nat) (u3 : Nat) (gB : Nat) (d2 : ByteArray) (wn : World), (u1 : Int) < 4 → (u2 : Int) < 2 → (u3 : Int) < 3 → Hid (Oth p zb pm w (some ⟨b5, 0, none⟩) (some ⟨b6, 0, none⟩) (some ⟨b7, 0, none⟩) (some ⟨b8, 0, none⟩) gB) → Hid (Blk gB #[.string ⟨#[]⟩, .string ⟨#[99]⟩] 9 wn) → d2.size ≤ 100 → Hid (Inv p zb pm w x (some ⟨b5, 0, none⟩) q5 (some ⟨b6, 0, none⟩) q6 (some ⟨b7, 0, none⟩) q7 (some ⟨b8, 0, none⟩) q8 (k0 + 1 + 1 + 1 + 1 + 1) wn) → ∀ L, L = #[true, true, false, true, true, false, false, true, true, true, true, true, true, true, true, false, false, false, false, false, false] → ∀ fr, fr = FR undef (.int .i64 (u1 : Int)) undef undef (.slice (some ⟨gB, 0, none⟩) 2 2) (.int .i64 (u2 : Int)) (.pointer (some ⟨gB, u2, none⟩)) (.string d2) (.int .i64 (u3 : Int)) undef → Z (fun wy => wy.cell? ⟨pm, 7, none⟩ = some (.slice (some ⟨b7, 0, none⟩) x.asks.length q7) ∧ Blk gB #[.string ⟨#[]⟩, .string ⟨#[99]⟩] 9 wy) 9 L ⟨fr, []⟩ wn) := by
    clear hS HI
    intro u1 u2 u3 gB d2 wn hu1 hu2 hu3 HOB HB hd2 HI L hL fr hfr
    subst hL
    rw [HFR.out] at hfr
    subst hfr
    rw [HZZ.out]
    refine wpAnyU_ready (rs := [2, 15]) (by kernel_rfl) (by simp) (AllReadyU.cons (o := ⟨some 97, _, _, _, _, none⟩) rfl (fun KK hKK => ?_) (AllReadyU.cons (o := ⟨some 110, _, _, _, _, none⟩) rfl (fun KK hKK => ?_) AllReadyU.nil))
    ·go_simp
     have HA : Hid (Blk wn.heap.size #[.string ⟨#[]⟩, .string ⟨#[118, 111, 108]⟩, .string ⟨#[122, 122]⟩, .string ⟨#[42]⟩] 9 (wn.alloc (Obj.cells #[.string ⟨#[]⟩, .string ⟨#[118, 111, 108]⟩, .string ⟨#[122, 122]⟩, .string ⟨#[42]⟩] 9))) := Blk.alloc _ _ _
     have HOA := Hid.intro (HI.out.new (Nat.le_refl _))
     replace HI := Hid.intro (HI.out.alloc (Obj.cells #[.string ⟨#[]⟩, .string ⟨#[118, 111, 108]⟩, .string ⟨#[122, 122]⟩, .string ⟨#[42]⟩] 9))
     replace HB := Hid.intro (HB.out.below ((Below.refl _ _).alloc (Nat.le_refl _) (Obj.cells #[.string ⟨#[]⟩, .string ⟨#[118, 111, 108]⟩, .string ⟨#[122, 122]⟩, .string ⟨#[42]⟩] 9)) HB.out.lt)
     refine hKK.out _ _ ⟨HI.out.S.blk.cell rfl, HB.out⟩ (fun hS => ?_)
     clear hKK KK hS
     generalize wn.heap.size = gA at *
     generalize wn.alloc (Obj.cells #[.string ⟨#[]⟩, .string ⟨#[118, 111, 108]⟩, .string ⟨#[122, 122]⟩, .string ⟨#[42]⟩] 9) = wn at *
     refine wpAnyU_mono (S' := fun wy => wy.cell? ⟨pm, 7, none⟩ = some (.slice (some ⟨b7, 0, none⟩) x.asks.length q7) ∧ Blk gA #[.string ⟨#[]⟩, .string ⟨#[118, 111, 108]⟩, .string ⟨#[122, 122]⟩, .string ⟨#[42]⟩] 9 wy ∧ Blk gB #[.string ⟨#[]⟩, .string ⟨#[99]⟩] 9 wy) (fun _ h => ⟨h.1, h.2.2⟩) _ _ _ _ ?_
     have hS : (fun wy => wy.cell? ⟨pm, 7, none⟩ = some (.slice (some ⟨b7, 0, none⟩) x.asks.length q7) ∧ Blk gA #[.string ⟨#[]⟩, .string ⟨#[118, 111, 108]⟩, .string ⟨#[122, 122]⟩, .string ⟨#[42]⟩] 9 wy ∧ Blk gB #[.string ⟨#[]⟩, .string ⟨#[99]⟩] 9 wy) wn := ⟨HI.out.S.blk.cell rfl, HA.out, HB.out⟩
     obtain ⟨d1, hdx, hd1⟩ := strAt4 ⟨#[]⟩ ⟨#[118, 111, 108]⟩ ⟨#[122, 122]⟩ ⟨#[42]⟩ u1 hu1 (by decide) (by decide) (by decide) (by decide)
     refine tv 5 ⟨some 100, _, _, _, _, none⟩ (.pointer (some ⟨gA, u1, none⟩)) rfl (by rfl) ?_ hS ?_
     ·intro wy hy
      clear hy
      first | (go_simp; done) | (go_simp; omega) | (go_simp; intro hh; omega)
     simp only [pA, pB, pC, pD]
     refine tv 6 ⟨some 101, _, _, _, _, none⟩ (.string d1) rfl (by rfl) ?_ hS ?_
     ·intro wy hy
      have h := id hy
      have h0 := h.2.1.cell (o := u1) (v := .string d1) hdx
      clear hy
      go_simp
     simp only [pA, pB, pC, pD]
     rw [← HZZ.out]
     exact st311.out _ _ _ _ _ _ _ _ hu1 hu2 hu3 HOA HA HOB HB hd1 hd2 HI _ (by kernel_rfl) _ (HFR.out _ _ _ _ _ _ _ _ _ _).symm
    ·go_simp
     refine (pick_rd p (k0 + 1 + 1 + 1 + 1 + 1) 70 _ HI.out.R (by omega) (by omega) (by omega)).mono ?_
     rintro e wn ⟨u4, rfl, hu4, hr, hb, -⟩
     replace HB := Hid.intro (HB.out.bt hb HB.out.lt (by have := HOB.out.nw; omega))
     replace HI := Hid.intro (HI.out.bt hb hr)
     refine hKK.out _ _ ⟨HI.out.S.blk.cell rfl, HB.out⟩ (fun hS => ?_)
     clear hKK KK hb hr
     rw [← HZZ.out]
     exact st401.out _ _ _ _ _ _ _ hu1 hu2 hu3 hu4 HOB HB hd2 HI _ (by kernel_rfl) _ (HFR.out _ _ _ _ _ _ _ _ _ _).symm
   have st300 : Hid (∀ (u1 : Nat) (u2 : Nat) (u3 : Nat) (wn : World), (u1 : Int) < 4 → (u2 : Int) < 2 → (u3 : Int) < 3 → Hid (Inv p zb pm w x (some ⟨b5, 0, none⟩) q5 (some ⟨b6, 0, none⟩) q6 (some ⟨b7, 0, none⟩) q7 (some ⟨b8, 0, none⟩) q8 (k0 + 1 + 1 + 1 + 1 + 1) wn) → ∀ L, L = #[true, true, false, true, true, false, false, false, true, true, false, false, true, true, true, false, false, false, false, false, false] → ∀ fr, fr = FR undef (.int .i64 (u1 : Int)) undef undef undef (.int .i64 (u2 : Int)) undef undef (.int .i64 (u3 : Int)) undef → Z (fun wy => wy.cell? ⟨pm, 7, none⟩ = some (.slice (some ⟨b7, 0, none⟩) x.asks.length q7)) 12 L ⟨fr, []⟩ wn) := by
    clear hS HI
    intro u1 u2 u3 wn hu1 hu2 hu3 HI L hL fr hfr
    subst hL
    rw [HFR.out] at hfr
    subst hfr
    rw [HZZ.out]
    refine wpAnyU_ready (rs := [2, 7, 15]) (by kernel_rfl) (by simp) (AllReadyU.cons (o := ⟨some 97, _, _, _, _, none⟩) rfl (fun KK hKK => ?_) (AllReadyU.cons (o := ⟨some 102, _, _, _, _, none⟩) rfl (fun KK hKK => ?_) (AllReadyU.cons (o := ⟨some 110, _, _, _, _, none⟩) rfl (fun KK hKK => ?_) AllReadyU.nil)))
    ·go_simp
     have HA : Hid (Blk wn.heap.size #[.string ⟨#[]⟩, .string ⟨#[118, 111, 108]⟩, .string ⟨#[122, 122]⟩, .string ⟨#[42]⟩] 9 (wn.alloc (Obj.cells #[.string ⟨#[]⟩, .string ⟨#[118, 111, 108]⟩, .string ⟨#[122, 122]⟩, .string ⟨#[42]⟩] 9))) := Blk.alloc _ _ _
     have HOA := Hid.intro (HI.out.new (Nat.le_refl _))
     replace HI := Hid.intro (HI.out.alloc (Obj.cells #[.string ⟨#[]⟩, .string ⟨#[118, 111, 108]⟩, .string ⟨#[122, 122]⟩, .string ⟨#[42]⟩] 9))
     refine hKK.out _ _ (HI.out.S.blk.cell rfl) (fun hS => ?_)
     clear hKK KK hS
     generalize wn.heap.size = gA at *
     generalize wn.alloc (Obj.cells #[.string ⟨#[]⟩, .string ⟨#[118, 111, 108]⟩, .string ⟨#[122, 122]⟩, .string ⟨#[42]⟩] 9) = wn at *
     refine wpAnyU_mono (S' := fun wy => wy.cell? ⟨pm, 7, none⟩ = some (.slice (some ⟨b7, 0, none⟩) x.asks.length q7) ∧ Blk gA #[.string ⟨#[]⟩, .string ⟨#[118, 111, 108]⟩, .string ⟨#[122, 122]⟩, .string ⟨#[42]⟩] 9 wy) (fun _ h => h.1) _ _ _ _ ?_
     have hS : (fun wy => wy.cell? ⟨pm, 7, none⟩ = some (.slice (some ⟨b7, 0, none⟩) x.asks.length q7) ∧ Blk gA #[.string ⟨#[]⟩, .string ⟨#[118, 111, 108]⟩, .string ⟨#[122, 122]⟩, .string ⟨#[42]⟩] 9 wy) wn := ⟨HI.out.S.blk.cell rfl, HA.out⟩
     obtain ⟨d1, hdx, hd1⟩ := strAt4 ⟨#[]⟩ ⟨#[118, 111, 108]⟩ ⟨#[122, 122]⟩ ⟨#[42]⟩ u1 hu1 (by decide) (by decide) (by decide) (by decide)
     refine tv 5 ⟨some 100, _, _, _, _, none⟩ (.pointer (some ⟨gA, u1, none⟩)) rfl (by rfl) ?_ hS ?_
     ·intro wy hy
      clear hy
      first | (go_simp; done) | (go_simp; omega) | (go_simp; intro hh; omega)
     simp only [pA, pB, pC, pD]
     refine tv 6 ⟨some 101, _, _, _, _, none⟩ (.string d1) rfl (by rfl) ?_ hS ?_
     ·intro wy hy
      have h := id hy
      have h0 := h.2.cell (o := u1) (v := .string d1) hdx
      clear hy
      go_simp
     simp only [pA, pB, pC, pD]
     rw [← HZZ.out]
     exact st310.out _ _ _ _ _ _ hu1 hu2 hu3 HOA HA hd1 HI _ (by kernel_rfl) _ (HFR.out _ _ _ _ _ _ _ _ _ _).symm
    ·go_simp
     have HB : Hid (Blk wn.heap.size #[.string ⟨#[]⟩, .string ⟨#[99]⟩] 9 (wn.alloc (Obj.cells #[.string ⟨#[]⟩, .string ⟨#[99]⟩] 9))) := Blk.alloc _ _ _
     have HOB := Hid.intro (HI.out.new (Nat.le_refl _))
     replace HI := Hid.intro (HI.out.alloc (Obj.cells #[.string ⟨#[]⟩, .string ⟨#[99]⟩] 9))
     refine hKK.out _ _ (HI.out.S.blk.cell rfl) (fun hS => ?_)
     clear hKK KK hS
     generalize wn.heap.size = gB at *
     generalize wn.alloc (Obj.cells #[.string ⟨#[]⟩, .string ⟨#[99]⟩] 9) = wn at *
     refine wpAnyU_mono (S' := fun wy => wy.cell? ⟨pm, 7, none⟩ = some (.slice (some ⟨b7, 0, none⟩) x.asks.length q7) ∧ Blk gB #[.string ⟨#[]⟩, .string ⟨#[99]⟩] 9 wy) (fun _ h => h.1) _ _ _ _ ?_
     have hS : (fun wy => wy.cell? ⟨pm, 7, none⟩ = some (.slice (some ⟨b7, 0, none⟩) x.asks.length q7) ∧ Blk gB #[.string ⟨#[]⟩, .string ⟨#[99]⟩] 9 wy) wn := ⟨HI.out.S.blk.cell rfl, HB.out⟩
     obtain ⟨d2, hdx, hd2⟩ := strAt2 ⟨#[]⟩ ⟨#[99]⟩ u2 hu2 (by decide) (by decide)
     refine tv 10 ⟨some 105, _, _, _, _, none⟩ (.pointer (some ⟨gB, u2, none⟩)) rfl (by rfl) ?_ hS ?_
     ·intro wy hy
      clear hy
      first | (go_simp; done) | (go_simp; omega) | (go_simp; intro hh; omega)
     simp only [pA, pB, pC, pD]
     refine tv 11 ⟨some 106, _, _, _, _, none⟩ (.string d2) rfl (by rfl) ?_ hS ?_
     ·intro wy hy
      have h := id hy
      have h0 := h.2.cell (o := u2) (v := .string d2) hdx
      clear hy
      go_simp
     simp only [pA, pB, pC, pD]
     rw [← HZZ.out]
     exact st301.out _ _ _ _ _ _ hu1 hu2 hu3 HOB HB hd2 HI _ (by kernel_rfl) _ (HFR.out _ _ _ _ _ _ _ _ _ _).symm
    ·go_simp
     refine (pick_rd p (k0 + 1 + 1 + 1 + 1 + 1) 70 _ HI.out.R (by omega) (by omega) (by omega)).mono ?_
     rintro e wn ⟨u4, rfl, hu4, hr, hb, -⟩
     replace HI := Hid.intro (HI.out.bt hb hr)
     refine hKK.out _ _ (HI.out.S.blk.cell rfl) (fun hS => ?_)
     clear hKK KK hb hr
     rw [← HZZ.out]
     exact st400.out _ _ _ _ _ hu1 hu2 hu3 hu4 HI _ (by kernel_rfl) _ (HFR.out _ _ _ _ _ _ _ _ _ _).symm
   have st211 : Hid (∀ (u1 : Nat) (u2 : Nat) (gA : Nat) (gB : Nat) (d1 : ByteArray) (d2 : ByteArray) (wn : World), (u1 : Int) < 4 → (u2 : Int) < 2 → Hid (Oth p zb pm w (some ⟨b5, 0, none⟩) (some ⟨b6, 0, none⟩) (some ⟨b7, 0, none⟩) (some ⟨b8, 0, none⟩) gA) → Hid (Blk gA #[.string ⟨#[]⟩, .string ⟨#[118, 111, 108]⟩, .string ⟨#[122, 122]⟩, .string ⟨#[42]⟩] 9 wn) → Hid (Oth p zb pm w (some ⟨b5, 0, none⟩) (some ⟨b6, 0, none⟩) (some ⟨b7, 0, none⟩) (some ⟨b8, 0, none⟩) gB) → Hid (Blk gB #[.string ⟨#[]⟩, .string ⟨#[99]⟩] 9 wn) → d1.size ≤ 100 → d2.size ≤ 100 → Hid (Inv p zb pm w x (some ⟨b5, 0, none⟩) q5 (some ⟨b6, 0, none⟩) q6 (some ⟨b7, 0, none⟩) q7 (some ⟨b8, 0, none⟩) q8 (k0 + 1 + 1 + 1 + 1) wn) → ∀ L, L = #[true, true, true, true, true, true, true, true, true, true, true, true, true, false, true, false, false, false, false, false, false] → ∀ fr, fr = FR (.slice (some ⟨gA, 0, none⟩) 4 4) (.int .i64 (u1 : Int)) (.pointer (some ⟨gA, u1, none⟩)) (.string d1) (.slice (some ⟨gB, 0, none⟩) 2 2) (.int .i64 (u2 : Int)) (.pointer (some ⟨gB, u2, none⟩)) (.string d2) undef undef → Z (fun wy => wy.cell? ⟨pm, 7, none⟩ = some (.slice (some ⟨b7, 0, none⟩) x.asks.length q7) ∧ Blk gA #[.string ⟨#[]⟩, .string ⟨#[118, 111, 108]⟩, .string ⟨#[122, 122]⟩, .string ⟨#[42]⟩] 9 wy ∧ Blk gB #[.string ⟨#[]⟩, .string ⟨#[99]⟩] 9 wy) 7 L ⟨fr, []⟩ wn) := by
    clear hS HI
    intro u1 u2 gA gB d1 d2 wn hu1 hu2 HOA HA HOB HB hd1 hd2 HI L hL fr hfr
    subst hL
    rw [HFR.out] at hfr
    subst hfr
    rw [HZZ.out]
    refine ru1 13 ⟨some 108, _, _, _, _, none⟩ rfl (fun KK hKK => ?_)
    ·go_simp
     refine (pick_rd p (k0 + 1 + 1 + 1 + 1) 3 _ HI.out.R (by omega) (by omega) (by omega)).mono ?_
     rintro e wn ⟨u3, rfl, hu3, hr, hb, -⟩
     replace HA := Hid.intro (HA.out.bt hb HA.out.lt (by have := HOA.out.nw; omega))
     replace HB := Hid.intro (HB.out.bt hb HB.out.lt (by have := HOB.out.nw; omega))
     replace HI := Hid.intro (HI.out.bt hb hr)
     refine hKK.out _ _ ⟨HI.out.S.blk.cell rfl, HA.out, HB.out⟩ (fun hS => ?_)
     clear hKK KK hb hr
     rw [← HZZ.out]
     exact st311.out _ _ _ _ _ _ _ _ hu1 hu2 hu3 HOA HA HOB HB hd1 hd2 HI _ (by kernel_rfl) _ (HFR.out _ _ _ _ _ _ _ _ _ _).symm
   have st210 : Hid (∀ (u1 : Nat) (u2 : Nat) (gA : Nat) (d1 : ByteArray) (wn : World), (u1 : Int) < 4 → (u2 : Int) < 2 → Hid (Oth p zb pm w (some ⟨b5, 0, none⟩) (some ⟨b6, 0, none⟩) (some ⟨b7, 0, none⟩) (some ⟨b8, 0, none⟩) gA) → Hid (Blk gA #[.string ⟨#[]⟩, .string ⟨#[118, 111, 108]⟩, .string ⟨#[122, 122]⟩, .string ⟨#[42]⟩] 9 wn) → d1.size ≤ 100 → Hid (Inv p zb pm w x (some ⟨b5, 0, none⟩) q5 (some ⟨b6, 0, none⟩) q6 (some ⟨b7, 0, none⟩) q7 (some ⟨b8, 0, none⟩) q8 (k0 + 1 + 1 + 1 + 1) wn) → ∀ L, L = #[true, true, true, true, true, true, true, false, true, true, false, false, true, false, true, false, false, false, false, false, false] → ∀ fr, fr = FR (.slice (some ⟨gA, 0, none⟩) 4 4) (.int .i64 (u1 : Int)) (.pointer (some ⟨gA, u1, none⟩)) (.string d1) undef (.int .i64 (u2 : Int)) undef undef undef undef → Z (fun wy => wy.cell? ⟨pm, 7, none⟩ = some (.slice (some ⟨b7, 0, none⟩) x.asks.length q7) ∧ Blk gA #[.string ⟨#[]⟩, .string ⟨#[118, 111, 108]⟩, .string ⟨#[122, 122]⟩, .string ⟨#[42]⟩] 9 wy) 10 L ⟨fr, []⟩ wn) := by
    clear hS HI
    intro u1 u2 gA d1 wn hu1 hu2 HOA HA hd1 HI L hL fr hfr
    subst hL
    rw [HFR.out] at hfr
    subst hfr
    rw [HZZ.out]
    refine wpAnyU_ready (rs := [7, 13]) (by kernel_rfl) (by simp) (AllReadyU.cons (o := ⟨some 102, _, _, _, _, none⟩) rfl (fun KK hKK => ?_) (AllReadyU.cons (o := ⟨some 108, _, _, _, _, none⟩) rfl (fun KK hKK => ?_) AllReadyU.nil))
    ·go_simp
     have HB : Hid (Blk wn.heap.size #[.string ⟨#[]⟩, .string ⟨#[99]⟩] 9 (wn.alloc (Obj.cells #[.string ⟨#[]⟩, .string ⟨#[99]⟩] 9))) := Blk.alloc _ _ _
     have HOB := Hid.intro (HI.out.new (Nat.le_refl _))
     replace HI := Hid.intro (HI.out.alloc (Obj.cells #[.string ⟨#[]⟩, .string ⟨#[99]⟩] 9))
     replace HA := Hid.intro (HA.out.below ((Below.refl _ _).alloc (Nat.le_refl _) (Obj.cells #[.string ⟨#[]⟩, .string ⟨#[99]⟩] 9)) HA.out.lt)
     refine hKK.out _ _ ⟨HI.out.S.blk.cell rfl, HA.out⟩ (fun hS => ?_)
     clear hKK KK hS
     generalize wn.heap.size = gB at *
     generalize wn.alloc (Obj.cells #[.string ⟨#[]⟩, .string ⟨#[99]⟩] 9) = wn at *
     refine wpAnyU_mono (S' := fun wy => wy.cell? ⟨pm, 7, none⟩ = some (.slice (some ⟨b7, 0, none⟩) x.asks.length q7) ∧ Blk gA #[.string ⟨#[]⟩, .string ⟨#[118, 111, 108]⟩, .string ⟨#[122, 122]⟩, .string ⟨#[42]⟩] 9 wy ∧ Blk gB #[.string ⟨#[]⟩, .string ⟨#[99]⟩] 9 wy) (fun _ h => ⟨h.1, h.2.1⟩) _ _ _ _ ?_
     have hS : (fun wy => wy.cell? ⟨pm, 7, none⟩ = some (.slice (some ⟨b7, 0, none⟩) x.asks.length q7) ∧ Blk gA #[.string ⟨#[]⟩, .string ⟨#[118, 111, 108]⟩, .string ⟨#[122, 122]⟩, .string ⟨#[42]⟩] 9 wy ∧ Blk gB #[.string ⟨#[]⟩, .string ⟨#[99]⟩] 9 wy) wn := ⟨HI.out.S.blk.cell rfl, HA.out, HB.out⟩
     obtain ⟨d2, hdx, hd2⟩ := strAt2 ⟨#[]⟩ ⟨#[99]⟩ u2 hu2 (by decide) (by decide)
     refine tv 10 ⟨some 105, _, _, _, _, none⟩ (.pointer (some ⟨gB, u2, none⟩)) rfl (by rfl) ?_ hS ?_
     ·intro wy hy
      clear hy
      first | (go_simp; done) | (go_simp; omega) | (go_simp; intro hh; omega)
     simp only [pA, pB, pC, pD]
     refine tv 11 ⟨some 106, _, _, _, _, none⟩ (.string d2) rfl (by rfl) ?_ hS ?_
     ·intro wy hy
      have h := id hy
      have h0 := h.2.2.cell (o := u2) (v := .string d2) hdx
      clear hy
      go_simp
     simp only [pA, pB, pC, pD]
     rw [← HZZ.out]
     exact st211.out _ _ _ _ _ _ _ hu1 hu2 HOA HA HOB HB hd1 hd2 HI _ (by kernel_rfl) _ (HFR.out _ _ _ _ _ _ _ _ _ _).symm
    ·go_simp
     refine (pick_rd p (k0 + 1 + 1 + 1 + 1) 3 _ HI.out.R (by omega) (by omega) (by omega)).mono ?_
     rintro e wn ⟨u3, rfl, hu3, hr, hb, -⟩
     replace HA := Hid.intro (HA.out.bt hb HA.out.lt (by have := HOA.out.nw; omega))
     replace HI := Hid.intro (HI.out.bt hb hr)
     refine hKK.out _ _ ⟨HI.out.S.blk.cell rfl, HA.out⟩ (fun hS => ?_)
     clear hKK KK hb hr
     rw [← HZZ.out]
     exact st310.out _ _ _ _ _ _ hu1 hu2 hu3 HOA HA hd1 HI _ (by kernel_rfl) _ (HFR.out _ _ _ _ _ _ _ _ _ _).symm
   have st201 : Hid (∀ (u1 : Nat) (u2 : Nat) (gB : Nat) (d2 : ByteArray) (wn : World), (u1 : Int) < 4 → (u2 : Int) < 2 → Hid (Oth p zb pm w (some ⟨b5, 0, none⟩) (some ⟨b6, 0, none⟩) (some ⟨b7, 0, none⟩) (some ⟨b8, 0, none⟩) gB) → Hid (Blk gB #[.string ⟨#[]⟩, .string ⟨#[99]⟩] 9 wn) → d2.size ≤ 100 → Hid (Inv p zb pm w x (some ⟨b5, 0, none⟩) q5 (some ⟨b6, 0, none⟩) q6 (some ⟨b7, 0, none⟩) q7 (some ⟨b8, 0, none⟩) q8 (k0 + 1 + 1 + 1 + 1) wn) → ∀ L, L = #[true, true, false, true, true, false, false, true, true, true, true, true, true, false, true, false, false, false, false, false, false] → ∀ fr, fr = FR undef (.int .i64 (u1 : Int)) undef undef (.slice (some ⟨gB, 0, none⟩) 2 2) (.int .i64 (u2 : Int)) (.pointer (some ⟨gB, u2, none⟩)) (.string d2) undef undef → Z (fun wy => wy.cell? ⟨pm, 7, none⟩ = some (.slice (some ⟨b7, 0, none⟩) x.asks.length q7) ∧ Blk gB #[.string ⟨#[]⟩, .string ⟨#[99]⟩] 9 wy) 10 L ⟨fr, []⟩ wn) := by
    clear hS HI
    intro u1 u2 gB d2 wn hu1 hu2 HOB HB hd2 HI L hL fr hfr
    subst hL
    rw [HFR.out] at hfr
    subst hfr
    rw [HZZ.out]
    refine wpAnyU_ready (rs := [2, 13]) (by kernel_rfl) (by simp) (AllReadyU.cons (o := ⟨some 97, _, _, _, _, none⟩) rfl (fun KK hKK => ?_) (AllReadyU.cons (o := ⟨some 108, _, _, _, _, none⟩) rfl (fun KK hKK => ?_) AllReadyU.nil))
    ·go_simp
     have HA : Hid (Blk wn.heap.size #[.string ⟨#[]⟩, .string ⟨#[118, 111, 108]⟩, .string ⟨#[122, 122]⟩, .string ⟨#[42]⟩] 9 (wn.alloc (Obj.cells #[.string ⟨#[]⟩, .string ⟨#[118, 111, 108]⟩, .string ⟨#[122, 122]⟩, .string ⟨#[42]⟩] 9))) := Blk.alloc _ _ _
     have HOA := Hid.intro (HI.out.new (Nat.le_refl _))
     replace HI := Hid.intro (HI.out.alloc (Obj.cells #[.string ⟨#[]⟩, .string ⟨#[118, 111, 108]⟩, .string ⟨#[122, 122]⟩, .string ⟨#[42]⟩] 9))
     replace HB := Hid.intro (HB.out.below ((Below.refl _ _).alloc (Nat.le_refl _) (Obj.cells #[.string ⟨#[]⟩, .string ⟨#[118, 111, 108]⟩, .string ⟨#[122, 122]⟩, .string ⟨#[42]⟩] 9)) HB.out.lt)
     refine hKK.out _ _ ⟨HI.out.S.blk.cell rfl, HB.out⟩ (fun hS => ?_)
     clear hKK KK hS
     generalize wn.heap.size = gA at *
     generalize wn.alloc (Obj.cells #[.string ⟨#[]⟩, .string ⟨#[118, 111, 108]⟩, .string ⟨#[122, 122]⟩, .string ⟨#[42]⟩] 9) = wn at *
     refine wpAnyU_mono (S' := fun wy => wy.cell? ⟨pm, 7, none⟩ = some (.slice (some ⟨b7, 0, none⟩) x.asks.length q7) ∧ Blk gA #[.string ⟨#[]⟩, .string ⟨#[118, 111, 108]⟩, .string ⟨#[122, 122]⟩, .string ⟨#[42]⟩] 9 wy ∧ Blk gB #[.string ⟨#[]⟩, .string ⟨#[99]⟩] 9 wy) (fun _ h => ⟨h.1, h.2.2⟩) _ _ _ _ ?_
     have hS : (fun wy => wy.cell? ⟨pm, 7, none⟩ = some (.slice (some ⟨b7, 0, none⟩) x.asks.length q7) ∧ Blk gA #[.string ⟨#[]⟩, .string ⟨#[118, 111, 108]⟩, .string ⟨#[122, 122]⟩, .string ⟨#[42]⟩] 9 wy ∧ Blk gB #[.string ⟨#[]⟩, .string ⟨#[99]⟩] 9 wy) wn := ⟨HI.out.S.blk.cell rfl, HA.out, HB.out⟩
     obtain ⟨d1, hdx, hd1⟩ := strAt4 ⟨#[]⟩ ⟨#[118, 111, 108]⟩ ⟨#[122, 122]⟩ ⟨#[42]⟩ u1 hu1 (by decide) (by decide) (by decide) (by decide)
     refine tv 5 ⟨some 100, _, _, _, _, none⟩ (.pointer (some ⟨gA, u1, none⟩)) rfl (by rfl) ?_ hS ?_
     ·intro wy hy
      clear hy
      first | (go_simp; done) | (go_simp; omega) | (go_simp; intro hh; omega)
     simp only [pA, pB, pC, pD]
     refine tv 6 ⟨some 101, _, _, _, _, none⟩ (.string d1) rfl (by rfl) ?_ hS ?_
     ·intro wy hy
      have h := id hy
      have h0 := h.2.1.cell (o := u1) (v := .string d1) hdx
      clear hy
      go_simp
     simp only [pA, pB, pC, pD]
     rw [← HZZ.out]
     exact st211.out _ _ _ _ _ _ _ hu1 hu2 HOA HA HOB HB hd1 hd2 HI _ (by kernel_rfl) _ (HFR.out _ _ _ _ _ _ _ _ _ _).symm
    ·go_simp
     refine (pick_rd p (k0 + 1 + 1 + 1 + 1) 3 _ HI.out.R (by omega) (by omega) (by omega)).mono ?_
     rintro e wn ⟨u3, rfl, hu3, hr, hb, -⟩
     replace HB := Hid.intro (HB.out.bt hb HB.out.lt (by have := HOB.out.nw; omega))
     replace HI := Hid.intro (HI.out.bt hb hr)
     refine hKK.out _ _ ⟨HI.out.S.blk.cell rfl, HB.out⟩ (fun hS => ?_)
     clear hKK KK hb hr
     rw [← HZZ.out]
     exact st301.out _ _ _ _ _ _ hu1 hu2 hu3 HOB HB hd2 HI _ (by kernel_rfl) _ (HFR.out _ _ _ _ _ _ _ _ _ _).symm
   have st200 : Hid (∀ (u1 : Nat) (u2 : Nat) (wn : World), (u1 : Int) < 4 → (u2 : Int) < 2 → Hid (Inv p zb pm w x (some ⟨b5, 0, none⟩) q5 (some ⟨b6, 0, none⟩) q6 (some ⟨b7, 0, none⟩) q7 (some ⟨b8, 0, none⟩) q8 (k0 + 1 + 1 + 1 + 1) wn) → ∀ L, L = #[true, true, false, true, true, false, false, false, true, true, false, false, true, false, true, false, false, false, false, false, false] → ∀ fr, fr = FR undef (.int .i64 (u1 : Int)) undef undef undef (.int .i64 (u2 : Int)) undef undef undef undef → Z (fun wy => wy.cell? ⟨pm, 7, none⟩ = some (.slice (some ⟨b7, 0, none⟩) x.asks.length q7)) 13 L ⟨fr, []⟩ wn) := by
    clear hS HI
    intro u1 u2 wn hu1 hu2 HI L hL fr hfr
    subst hL
    rw [HFR.out] at hfr
    subst hfr
    rw [HZZ.out]
    refine wpAnyU_ready (rs := [2, 7, 13]) (by kernel_rfl) (by simp) (AllReadyU.cons (o := ⟨some 97, _, _, _, _, none⟩) rfl (fun KK hKK => ?_) (AllReadyU.cons (o := ⟨some 102, _, _, _, _, none⟩) rfl (fun KK hKK => ?_) (AllReadyU.cons (o := ⟨some 108, _, _, _, _, none⟩) rfl (fun KK hKK => ?_) AllReadyU.nil)))
    ·go_simp
     have HA : Hid (Blk wn.heap.size #[.string ⟨#[]⟩, .string ⟨#[118, 111, 108]⟩, .string ⟨#[122, 122]⟩, .string ⟨#[42]⟩] 9 (wn.alloc (Obj.cells #[.string ⟨#[]⟩, .string ⟨#[118, 111, 108]⟩, .string ⟨#[122, 122]⟩, .string ⟨#[42]⟩] 9))) := Blk.alloc _ _ _
     have HOA := Hid.intro (HI.out.new (Nat.le_refl _))
     replace HI := Hid.intro (HI.out.alloc (Obj.cells #[.string ⟨#[]⟩, .string ⟨#[118, 111, 108]⟩, .string ⟨#[122, 122]⟩, .string ⟨#[42]⟩] 9))
     refine hKK.out _ _ (HI.out.S.blk.cell rfl) (fun hS => ?_)
     clear hKK KK hS
     generalize wn.heap.size = gA at *
     generalize wn.alloc (Obj.cells #[.string ⟨#[]⟩, .string ⟨#[118, 111, 108]⟩, .string ⟨#[122, 122]⟩, .string ⟨#[42]⟩] 9) = wn at *
     refine wpAnyU_mono (S' := fun wy => wy.cell? ⟨pm, 7, none⟩ = some (.slice (some ⟨b7, 0, none⟩) x.asks.length q7) ∧ Blk gA #[.string ⟨#[]⟩, .string ⟨#[118, 111, 108]⟩, .string ⟨#[122, 122]⟩, .string ⟨#[42]⟩] 9 wy) (fun _ h => h.1) _ _ _ _ ?_
     have hS : (fun wy => wy.cell? ⟨pm, 7, none⟩ = some (.slice (some ⟨b7, 0, none⟩) x.asks.length q7) ∧ Blk gA #[.string ⟨#[]⟩, .string ⟨#[118, 111, 108]⟩, .string ⟨#[122, 122]⟩, .string ⟨#[42]⟩] 9 wy) wn := ⟨HI.out.S.blk.cell rfl, HA.out⟩
     obtain ⟨d1, hdx, hd1⟩ := strAt4 ⟨#[]⟩ ⟨#[118, 111, 108]⟩ ⟨#[122, 122]⟩ ⟨#[42]⟩ u1 hu1 (by decide) (by decide) (by decide) (by decide)
     refine tv 5 ⟨some 100, _, _, _, _, none⟩ (.pointer (some ⟨gA, u1, none⟩)) rfl (by rfl) ?_ hS ?_
     ·intro wy hy
      clear hy
      first | (go_simp; done) | (go_simp; omega) | (go_simp; intro hh; omega)
     simp only [pA, pB, pC, pD]
     refine tv 6 ⟨some 101, _, _, _, _, none⟩ (.string d1) rfl (by rfl) ?_ hS ?_
     ·intro wy hy
      have h := id hy
      have h0 := h.2.cell (o := u1) (v := .string d1) hdx
      clear hy
      go_simp
     simp only [pA, pB, pC, pD]
     rw [← HZZ.out]
     exact st210.out _ _ _ _ _ hu1 hu2 HOA HA hd1 HI _ (by kernel_rfl) _ (HFR.out _ _ _ _ _ _ _ _ _ _).symm
    ·go_simp
     have HB : Hid (Blk wn.heap.size #[.string ⟨#[]⟩, .string ⟨#[99]⟩] 9 (wn.alloc (Obj.cells #[.string ⟨#[]⟩, .string ⟨#[99]⟩] 9))) := Blk.alloc _ _ _
     have HOB := Hid.intro (HI.out.new (Nat.le_refl _))
     replace HI := Hid.intro (HI.out.alloc (Obj.cells #[.string ⟨#[]⟩, .string ⟨#[99]⟩] 9))
     refine hKK.out _ _ (HI.out.S.blk.cell rfl) (fun hS => ?_)
     clear hKK KK hS
     generalize wn.heap.size = gB at *
     generalize wn.alloc (Obj.cells #[.string ⟨#[]⟩, .string ⟨#[99]⟩] 9) = wn at *
     refine wpAnyU_mono (S' := fun wy => wy.cell? ⟨pm, 7, none⟩ = some (.slice (some ⟨b7, 0, none⟩) x.asks.length q7) ∧ Blk gB #[.string ⟨#[]⟩, .string ⟨#[99]⟩] 9 wy) (fun _ h => h.1) _ _ _ _ ?_
     have hS : (fun wy => wy.cell? ⟨pm, 7, none⟩ = some (.slice (some ⟨b7, 0, none⟩) x.asks.length q7) ∧ Blk gB #[.string ⟨#[]⟩, .string ⟨#[99]⟩] 9 wy) wn := ⟨HI.out.S.blk.cell rfl, HB.out⟩
     obtain ⟨d2, hdx, hd2⟩ := strAt2 ⟨#[]⟩ ⟨#[99]⟩ u2 hu2 (by decide) (by decide)
     refine tv 10 ⟨some 105, _, _, _, _, none⟩ (.pointer (some ⟨gB, u2, none⟩)) rfl (by rfl) ?_ hS ?_
     ·intro wy hy
      clear hy
      first | (go_simp; done) | (go_simp; omega) | (go_simp; intro hh; omega)
     simp only [pA, pB, pC, pD]
     refine tv 11 ⟨some 106, _, _, _, _, none⟩ (.string d2) rfl (by rfl) ?_ hS ?_
     ·intro wy hy
      have h := id hy
      have h0 := h.2.cell (o := u2) (v := .string d2) hdx
      clear hy
      go_simp
     simp only [pA, pB, pC, pD]
     rw [← HZZ.out]
     exact st201.out _ _ _ _ _ hu1 hu2 HOB HB hd2 HI _ (by kernel_rfl) _ (HFR.out _ _ _ _ _ _ _ _ _ _).symm
    ·go_simp
     refine (pick_rd p (k0 + 1 + 1 + 1 + 1) 3 _ HI.out.R (by omega) (by omega) (by omega)).mono ?_
     rintro e wn ⟨u3, rfl, hu3, hr, hb, -⟩
     replace HI := Hid.intro (HI.out.bt hb hr)
     refine hKK.out _ _ (HI.out.S.blk.cell rfl) (fun hS => ?_)
     clear hKK KK hb hr
     rw [← HZZ.out]
     exact st300.out _ _ _ _ hu1 hu2 hu3 HI _ (by kernel_rfl) _ (HFR.out _ _ _ _ _ _ _ _ _ _).symm
   have st111 : Hid (∀ (u1 : Nat) (gA : Nat) (gB : Nat) (d1 : ByteArray) (wn : World), (u1 : Int) < 4 → Hid (Oth p zb pm w (some ⟨b5, 0, none⟩) (some ⟨b6, 0, none⟩) (some ⟨b7, 0, none⟩) (some ⟨b8, 0, none⟩) gA) → Hid (Blk gA #[.string ⟨#[]⟩, .string ⟨#[118, 111, 108]⟩, .string ⟨#[122, 122]⟩, .string ⟨#[42]⟩] 9 wn) → Hid (Oth p zb pm w (some ⟨b5, 0, none⟩) (some ⟨b6, 0, none⟩) (some ⟨b7, 0, none⟩) (some ⟨b8, 0, none⟩) gB) → Hid (Blk gB #[.string ⟨#[]⟩, .string ⟨#[99]⟩] 9 wn) → d1.size ≤ 100 → Hid (Inv p zb pm w x (some ⟨b5, 0, none⟩) q5 (some ⟨b6, 0, none⟩) q6 (some ⟨b7, 0, none⟩) q7 (some ⟨b8, 0, none⟩) q8 (k0 + 1 + 1 + 1) wn) → ∀ L, L = #[true, true, true, true, true, true, true, true, true, false, false, false, true, false, true, false, false, false, false, false, false] → ∀ fr, fr = FR (.slice (some ⟨gA, 0, none⟩) 4 4) (.int .i64 (u1 : Int)) (.pointer (some ⟨gA, u1, none⟩)) (.string d1) (.slice (some ⟨gB, 0, none⟩) 2 2) undef undef undef undef undef → Z (fun wy => wy.cell? ⟨pm, 7, none⟩ = some (.slice (some ⟨b7, 0, none⟩) x.asks.length q7) ∧ Blk gA #[.string ⟨#[]⟩, .string ⟨#[118, 111, 108]⟩, .string ⟨#[122, 122]⟩, .string ⟨#[42]⟩] 9 wy ∧ Blk gB #[.string ⟨#[]⟩, .string ⟨#[99]⟩] 9 wy) 10 L ⟨fr, []⟩ wn) := by
    clear hS HI
    intro u1 gA gB d1 wn hu1 HOA HA HOB HB hd1 HI L hL fr hfr
    subst hL
    rw [HFR.out] at hfr
    subst hfr
    rw [HZZ.out]
    refine ru1 9 ⟨some 104, _, _, _, _, none⟩ rfl (fun KK hKK => ?_)
    ·go_simp
     refine (pick_rd p (k0 + 1 + 1 + 1) 2 _ HI.out.R (by omega) (by omega) (by omega)).mono ?_
     rintro e wn ⟨u2, rfl, hu2, hr, hb, -⟩
     replace HA := Hid.intro (HA.out.bt hb HA.out.lt (by have := HOA.out.nw; omega))
     replace HB := Hid.intro (HB.out.bt hb HB.out.lt (by have := HOB.out.nw; omega))
     replace HI := Hid.intro (HI.out.bt hb hr)
     refine hKK.out _ _ ⟨HI.out.S.blk.cell rfl, HA.out, HB.out⟩ (fun hS => ?_)
     clear hKK KK hb hr
     obtain ⟨d2, hdx, hd2⟩ := strAt2 ⟨#[]⟩ ⟨#[99]⟩ u2 hu2 (by decide) (by decide)
     refine tv 10 ⟨some 105, _, _, _, _, none⟩ (.pointer (some ⟨gB, u2, none⟩)) rfl (by rfl) ?_ hS ?_
     ·intro wy hy
      clear hy
      first | (go_simp; done) | (go_simp; omega) | (go_simp; intro hh; omega)
     simp only [pA, pB, pC, pD]
     refine tv 11 ⟨some 106, _, _, _, _, none⟩ (.string d2) rfl (by rfl) ?_ hS ?_
     ·intro wy hy
      have h := id hy
      have h0 := h.2.2.cell (o := u2) (v := .string d2) hdx
      clear hy
      go_simp
     simp only [pA, pB, pC, pD]
     rw [← HZZ.out]
     exact st211.out _ _ _ _ _ _ _ hu1 hu2 HOA HA HOB HB hd1 hd2 HI _ (by kernel_rfl) _ (HFR.out _ _ _ _ _ _ _ _ _ _).symm
   have st110 : Hid (∀ (u1 : Nat) (gA : Nat) (d1 : ByteArray) (wn : World), (u1 : Int) < 4 → Hid (Oth p zb pm w (some ⟨b5, 0, none⟩) (some ⟨b6, 0, none⟩) (some ⟨b7, 0, none⟩) (some ⟨b8, 0, none⟩) gA) → Hid (Blk gA #[.string ⟨#[]⟩, .string ⟨#[118, 111, 108]⟩, .string ⟨#[122, 122]⟩, .string ⟨#[42]⟩] 9 wn) → d1.size ≤ 100 → Hid (Inv p zb pm w x (some ⟨b5, 0, none⟩) q5 (some ⟨b6, 0, none⟩) q6 (some ⟨b7, 0, none⟩) q7 (some ⟨b8, 0, none⟩) q8 (k0 + 1 + 1 + 1) wn) → ∀ L, L = #[true, true, true, true, true, true, true, false, true, false, false, false, true, false, true, false, false, false, false, false, false] → ∀ fr, fr = FR (.slice (some ⟨gA, 0, none⟩) 4 4) (.int .i64 (u1 : Int)) (.pointer (some ⟨gA, u1, none⟩)) (.string d1) undef undef undef undef undef undef → Z (fun wy => wy.cell? ⟨pm, 7, none⟩ = some (.slice (some ⟨b7, 0, none⟩) x.asks.length q7) ∧ Blk gA #[.string ⟨#[]⟩, .string ⟨#[118, 111, 108]⟩, .string ⟨#[122, 122]⟩, .string ⟨#[42]⟩] 9 wy) 11 L ⟨fr, []⟩ wn) := by
    clear hS HI
    intro u1 gA d1 wn hu1 HOA HA hd1 HI L hL fr hfr
    subst hL
    rw [HFR.out] at hfr
    subst hfr
    rw [HZZ.out]
    refine wpAnyU_ready (rs := [7, 9]) (by kernel_rfl) (by simp) (AllReadyU.cons (o := ⟨some 102, _, _, _, _, none⟩) rfl (fun KK hKK => ?_) (AllReadyU.cons (o := ⟨some 104, _, _, _, _, none⟩) rfl (fun KK hKK => ?_) AllReadyU.nil))
    ·go_simp
     have HB : Hid (Blk wn.heap.size #[.string ⟨#[]⟩, .string ⟨#[99]⟩] 9 (wn.alloc (Obj.cells #[.string ⟨#[]⟩, .string ⟨#[99]⟩] 9))) := Blk.alloc _ _ _
     have HOB := Hid.intro (HI.out.new (Nat.le_refl _))
     replace HI := Hid.intro (HI.out.alloc (Obj.cells #[.string ⟨#[]⟩, .string ⟨#[99]⟩] 9))
     replace HA := Hid.intro (HA.out.below ((Below.refl _ _).alloc (Nat.le_refl _) (Obj.cells #[.string ⟨#[]⟩, .string ⟨#[99]⟩] 9)) HA.out.lt)
     refine hKK.out _ _ ⟨HI.out.S.blk.cell rfl, HA.out⟩ (fun hS => ?_)
     clear hKK KK hS
     generalize wn.heap.size = gB at *
     generalize wn.alloc (Obj.cells #[.string ⟨#[]⟩, .string ⟨#[99]⟩] 9) = wn at *
     refine wpAnyU_mono (S' := fun wy => wy.cell? ⟨pm, 7, none⟩ = some (.slice (some ⟨b7, 0, none⟩) x.asks.length q7) ∧ Blk gA #[.string ⟨#[]⟩, .string ⟨#[118, 111, 108]⟩, .string ⟨#[122, 122]⟩, .string ⟨#[42]⟩] 9 wy ∧ Blk gB #[.string ⟨#[]⟩, .string ⟨#[99]⟩] 9 wy) (fun _ h => ⟨h.1, h.2.1⟩) _ _ _ _ ?_
     have hS : (fun wy => wy.cell? ⟨pm, 7, none⟩ = some (.slice (some ⟨b7, 0, none⟩) x.asks.length q7) ∧ Blk gA #[.string ⟨#[]⟩, .string ⟨#[118, 111, 108]⟩, .string ⟨#[122, 122]⟩, .string ⟨#[42]⟩] 9 wy ∧ Blk gB #[.string ⟨#[]⟩, .string ⟨#[99]⟩] 9 wy) wn := ⟨HI.out.S.blk.cell rfl, HA.out, HB.out⟩
     rw [← HZZ.out]
     exact st111.out _ _ _ _ _ hu1 HOA HA HOB HB hd1 HI _ (by kernel_rfl) _ (HFR.out _ _ _ _ _ _ _ _ _ _).symm
    ·go_simp
     refine (pick_rd p (k0 + 1 + 1 + 1) 2 _ HI.out.R (by omega) (by omega) (by omega)).mono ?_
     rintro e wn ⟨u2, rfl, hu2, hr, hb, -⟩
     replace HA := Hid.intro (HA.out.bt hb HA.out.lt (by have := HOA.out.nw; omega))
     replace HI := Hid.intro (HI.out.bt hb hr)
     refine hKK.out _ _ ⟨HI.out.S.blk.cell rfl, HA.out⟩ (fun hS => ?_)
     clear hKK KK hb hr
     rw [← HZZ.out]
     exact st210.out _ _ _ _ _ hu1 hu2 HOA HA hd1 HI _ (by kernel_rfl) _ (HFR.out _ _ _ _ _ _ _ _ _ _).symm
   have st101 : Hid (∀ (u1 : Nat) (gB : Nat) (wn : World), (u1 : Int) < 4 → Hid (Oth p zb pm w (some ⟨b5, 0, none⟩) (some ⟨b6, 0, none⟩) (some ⟨b7, 0, none⟩) (some ⟨b8, 0, none⟩) gB) → Hid (Blk gB #[.string ⟨#[]⟩, .string ⟨#[99]⟩] 9 wn) → Hid (Inv p zb pm w x (some ⟨b5, 0, none⟩) q5 (some ⟨b6, 0, none⟩) q6 (some ⟨b7, 0, none⟩) q7 (some ⟨b8, 0, none⟩) q8 (k0 + 1 + 1 + 1) wn) → ∀ L, L = #[true, true, false, true, true, false, false, true, true, false, false, false, true, false, true, false, false, false, false, false, false] → ∀ fr, fr = FR undef (.int .i64 (u1 : Int)) undef undef (.slice (some ⟨gB, 0, none⟩) 2 2) undef undef undef undef undef → Z (fun wy => wy.cell? ⟨pm, 7, none⟩ = some (.slice (some ⟨b7, 0, none⟩) x.asks.length q7) ∧ Blk gB #[.string ⟨#[]⟩, .string ⟨#[99]⟩] 9 wy) 13 L ⟨fr, []⟩ wn) := by
    clear hS HI
    intro u1 gB wn hu1 HOB HB HI L hL fr hfr
    subst hL
    rw [HFR.out] at hfr
    subst hfr
    rw [HZZ.out]
    refine wpAnyU_ready (rs := [2, 9]) (by kernel_rfl) (by simp) (AllReadyU.cons (o := ⟨some 97, _, _, _, _, none⟩) rfl (fun KK hKK => ?_) (AllReadyU.cons (o := ⟨some 104, _, _, _, _, none⟩) rfl (fun KK hKK => ?_) AllReadyU.nil))
    ·go_simp
     have HA : Hid (Blk wn.heap.size #[.string ⟨#[]⟩, .string ⟨#[118, 111, 108]⟩, .string ⟨#[122, 122]⟩, .string ⟨#[42]⟩] 9 (wn.alloc (Obj.cells #[.string ⟨#[]⟩, .string ⟨#[118, 111, 108]⟩, .string ⟨#[122, 122]⟩, .string ⟨#[42]⟩] 9))) := Blk.alloc _ _ _
     have HOA := Hid.intro (HI.out.new (Nat.le_refl _))
     replace HI := Hid.intro (HI.out.alloc (Obj.cells #[.string ⟨#[]⟩, .string ⟨#[118, 111, 108]⟩, .string ⟨#[122, 122]⟩, .string ⟨#[42]⟩] 9))
     replace HB := Hid.intro (HB.out.below ((Below.refl _ _).alloc (Nat.le_refl _) (Obj.cells #[.string ⟨#[]⟩, .string ⟨#[118, 111, 108]⟩, .string ⟨#[122, 122]⟩, .string ⟨#[42]⟩] 9)) HB.out.lt)
     refine hKK.out _ _ ⟨HI.out.S.blk.cell rfl, HB.out⟩ (fun hS => ?_)
     clear hKK KK hS
     generalize wn.heap.size = gA at *
     generalize wn.alloc (Obj.cells #[.string ⟨#[]⟩, .string ⟨#[118, 111, 108]⟩, .string ⟨#[122, 122]⟩, .string ⟨#[42]⟩] 9) = wn at *
     refine wpAnyU_mono (S' := fun wy => wy.cell? ⟨pm, 7, none⟩ = some (.slice (some ⟨b7, 0, none⟩) x.asks.length q7) ∧ Blk gA #[.string ⟨#[]⟩, .string ⟨#[118, 111, 108]⟩, .string ⟨#[122, 122]⟩, .string ⟨#[42]⟩] 9 wy ∧ Blk gB #[.string ⟨#[]⟩, .string ⟨#[99]⟩] 9 wy) (fun _ h => ⟨h.1, h.2.2⟩) _ _ _ _ ?_
     have hS : (fun wy => wy.cell? ⟨pm, 7, none⟩ = some (.slice (some ⟨b7, 0, none⟩) x.asks.length q7) ∧ Blk gA #[.string ⟨#[]⟩, .string ⟨#[118, 111, 108]⟩, .string ⟨#[122, 122]⟩, .string ⟨#[42]⟩] 9 wy ∧ Blk gB #[.string ⟨#[]⟩, .string ⟨#[99]⟩] 9 wy) wn := ⟨HI.out.S.blk.cell rfl, HA.out, HB.out⟩
     obtain ⟨d1, hdx, hd1⟩ := strAt4 ⟨#[]⟩ ⟨#[118, 111, 108]⟩ ⟨#[122, 122]⟩ ⟨#[42]⟩ u1 hu1 (by decide) (by decide) (by decide) (by decide)
     refine tv 5 ⟨some 100, _, _, _, _, none⟩ (.pointer (some ⟨gA, u1, none⟩)) rfl (by rfl) ?_ hS ?_
     ·intro wy hy
      clear hy
      first | (go_simp; done) | (go_simp; omega) | (go_simp; intro hh; omega)
     simp only [pA, pB, pC, pD]
     refine tv 6 ⟨some 101, _, _, _, _, none⟩ (.string d1) rfl (by rfl) ?_ hS ?_
     ·intro wy hy
      have h := id hy
      have h0 := h.2.1.cell (o := u1) (v := .string d1) hdx
      clear hy
      go_simp
     simp only [pA, pB, pC, pD]
     rw [← HZZ.out]
     exact st111.out _ _ _ _ _ hu1 HOA HA HOB HB hd1 HI _ (by kernel_rfl) _ (HFR.out _ _ _ _ _ _ _ _ _ _).symm
    ·go_simp
     refine (pick_rd p (k0 + 1 + 1 + 1) 2 _ HI.out.R (by omega) (by omega) (by omega)).mono ?_
     rintro e wn ⟨u2, rfl, hu2, hr, hb, -⟩
     replace HB := Hid.intro (HB.out.bt hb HB.out.lt (by have := HOB.out.nw; omega))
     replace HI := Hid.intro (HI.out.bt hb hr)
     refine hKK.out _ _ ⟨HI.out.S.blk.cell rfl, HB.out⟩ (fun hS => ?_)
     clear hKK KK hb hr
     obtain ⟨d2, hdx, hd2⟩ := strAt2 ⟨#[]⟩ ⟨#[99]⟩ u2 hu2 (by decide) (by decide)
     refine tv 10 ⟨some 105, _, _, _, _, none⟩ (.pointer (some ⟨gB, u2, none⟩)) rfl (by rfl) ?_ hS ?_
     ·intro wy hy
      clear hy
      first | (go_simp; done) | (go_simp; omega) | (go_simp; intro hh; omega)
     simp only [pA, pB, pC, pD]
     refine tv 11 ⟨some 106, _, _, _, _, none⟩ (.string d2) rfl (by rfl) ?_ hS ?_
     ·intro wy hy
      have h := id hy
      have h0 := h.2.cell (o := u2) (v := .string d2) hdx
      clear hy
      go_simp
     simp only [pA, pB, pC, pD]
     rw [← HZZ.out]
     exact st201.out _ _ _ _ _ hu1 hu2 HOB HB hd2 HI _ (by kernel_rfl) _ (HFR.out _ _ _ _ _ _ _ _ _ _).symm
   have st100 : Hid (∀ (u1 : Nat) (wn : World), (u1 : Int) < 4 → Hid (Inv p zb pm w x (some ⟨b5, 0, none⟩) q5 (some ⟨b6, 0, none⟩) q6 (some ⟨b7, 0, none⟩) q7 (some ⟨b8, 0, none⟩) q8 (k0 + 1 + 1 + 1) wn) → ∀ L, L = #[true, true, false, true, true, false, false, false, true, false, false, false, true, false, true, false, false, false, false, false, false] → ∀ fr, fr = FR undef (.int .i64 (u1 : Int)) undef undef undef undef undef undef undef undef → Z (fun wy => wy.cell? ⟨pm, 7, none⟩ = some (.slice (some ⟨b7, 0, none⟩) x.asks.length q7)) 14 L ⟨fr, []⟩ wn) := by
    clear hS HI
    intro u1 wn hu1 HI L hL fr hfr
    subst hL
    rw [HFR.out] at hfr
    subst hfr
    rw [HZZ.out]
    refine wpAnyU_ready (rs := [2, 7, 9]) (by kernel_rfl) (by simp) (AllReadyU.cons (o := ⟨some 97, _, _, _, _, none⟩) rfl (fun KK hKK => ?_) (AllReadyU.cons (o := ⟨some 102, _, _, _, _, none⟩) rfl (fun KK hKK => ?_) (AllReadyU.cons (o := ⟨some 104, _, _, _, _, none⟩) rfl (fun KK hKK => ?_) AllReadyU.nil)))
    ·go_simp
     have HA : Hid (Blk wn.heap.size #[.string ⟨#[]⟩, .string ⟨#[118, 111, 108]⟩, .string ⟨#[122, 122]⟩, .string ⟨#[42]⟩] 9 (wn.alloc (Obj.cells #[.string ⟨#[]⟩, .string ⟨#[118, 111, 108]⟩, .string ⟨#[122, 122]⟩, .string ⟨#[42]⟩] 9))) := Blk.alloc _ _ _
     have HOA := Hid.intro (HI.out.new (Nat.le_refl _))
     replace HI := Hid.intro (HI.out.alloc (Obj.cells #[.string ⟨#[]⟩, .string ⟨#[118, 111, 108]⟩, .string ⟨#[122, 122]⟩, .string ⟨#[42]⟩] 9))
     refine hKK.out _ _ (HI.out.S.blk.cell rfl) (fun hS => ?_)
     clear hKK KK hS
     generalize wn.heap.size = gA at *
     generalize wn.alloc (Obj.cells #[.string ⟨#[]⟩, .string ⟨#[118, 111, 108]⟩, .string ⟨#[122, 122]⟩, .string ⟨#[42]⟩] 9) = wn at *
     refine wpAnyU_mono (S' := fun wy => wy.cell? ⟨pm, 7, none⟩ = some (.slice (some ⟨b7, 0, none⟩) x.asks.length q7) ∧ Blk gA #[.string ⟨#[]⟩, .string ⟨#[118, 111, 108]⟩, .string ⟨#[122, 122]⟩, .string ⟨#[42]⟩] 9 wy) (fun _ h => h.1) _ _ _ _ ?_
     have hS : (fun wy => wy.cell? ⟨pm, 7, none⟩ = some (.slice (some ⟨b7, 0, none⟩) x.asks.length q7) ∧ Blk gA #[.string ⟨#[]⟩, .string ⟨#[118, 111, 108]⟩, .string ⟨#[122, 122]⟩, .string ⟨#[42]⟩] 9 wy) wn := ⟨HI.out.S.blk.cell rfl, HA.out⟩
     obtain ⟨d1, hdx, hd1⟩ := strAt4 ⟨#[]⟩ ⟨#[118, 111, 108]⟩ ⟨#[122, 122]⟩ ⟨#[42]⟩ u1 hu1 (by decide) (by decide) (by decide) (by decide)
     refine tv 5 ⟨some 100, _, _, _, _, none⟩ (.pointer (some ⟨gA, u1, none⟩)) rfl (by rfl) ?_ hS ?_
     ·intro wy hy
      clear hy
      first | (go_simp; done) | (go_simp; omega) | (go_simp; intro hh; omega)
     simp only [pA, pB, pC, pD]
     refine tv 6 ⟨some 101, _, _, _, _, none⟩ (.string d1) rfl (by rfl) ?_ hS ?_
     ·intro wy hy
      have h := id hy
      have h0 := h.2.cell (o := u1) (v := .string d1) hdx
      clear hy
      go_simp
     simp only [pA, pB, pC, pD]
     rw [← HZZ.out]
     exact st110.out _ _ _ _ hu1 HOA HA hd1 HI _ (by kernel_rfl) _ (HFR.out _ _ _ _ _ _ _ _ _ _).symm
    ·go_simp
     have HB : Hid (Blk wn.heap.size #[.string ⟨#[]⟩, .string ⟨#[99]⟩] 9 (wn.alloc (Obj.cells #[.string ⟨#[]⟩, .string ⟨#[99]⟩] 9))) := Blk.alloc _ _ _
     have HOB := Hid.intro (HI.out.new (Nat.le_refl _))
     replace HI := Hid.intro (HI.out.alloc (Obj.cells #[.string ⟨#[]⟩, .string ⟨#[99]⟩] 9))
     refine hKK.out _ _ (HI.out.S.blk.cell rfl) (fun hS => ?_)
     clear hKK KK hS
     generalize wn.heap.size = gB at *
     generalize wn.alloc (Obj.cells #[.string ⟨#[]⟩, .string ⟨#[99]⟩] 9) = wn at *
     refine wpAnyU_mono (S' := fun wy => wy.cell? ⟨pm, 7, none⟩ = some (.slice (some ⟨b7, 0, none⟩) x.asks.length q7) ∧ Blk gB #[.string ⟨#[]⟩, .string ⟨#[99]⟩] 9 wy) (fun _ h => h.1) _ _ _ _ ?_
     have hS : (fun wy => wy.cell? ⟨pm, 7, none⟩ = some (.slice (some ⟨b7, 0, none⟩) x.asks.length q7) ∧ Blk gB #[.string ⟨#[]⟩, .string ⟨#[99]⟩] 9 wy) wn := ⟨HI.out.S.blk.cell rfl, HB.out⟩
     rw [← HZZ.out]
     exact st101.out _ _ _ hu1 HOB HB HI _ (by kernel_rfl) _ (HFR.out _ _ _ _ _ _ _ _ _ _).symm
    ·go_simp
     refine (pick_rd p (k0 + 1 + 1 + 1) 2 _ HI.out.R (by omega) (by omega) (by omega)).mono ?_
     rintro e wn ⟨u2, rfl, hu2, hr, hb, -⟩
     replace HI := Hid.intro (HI.out.bt hb hr)
     refine hKK.out _ _ (HI.out.S.blk.cell rfl) (fun hS => ?_)
     clear hKK KK hb hr
     rw [← HZZ.out]
     exact st200.out _ _ _ hu1 hu2 HI _ (by kernel_rfl) _ (HFR.out _ _ _ _ _ _ _ _ _ _).symm
   have st011 : Hid (∀ (gA : Nat) (gB : Nat) (wn : World), Hid (Oth p zb pm w (some ⟨b5, 0, none⟩) (some ⟨b6, 0, none⟩) (some ⟨b7, 0, none⟩) (some ⟨b8, 0, none⟩) gA) → Hid (Blk gA #[.string ⟨#[]⟩, .string ⟨#[118, 111, 108]⟩, .string ⟨#[122, 122]⟩, .string ⟨#[42]⟩] 9 wn) → Hid (Oth p zb pm w (some ⟨b5, 0, none⟩) (some ⟨b6, 0, none⟩) (some ⟨b7, 0, none⟩) (some ⟨b8, 0, none⟩) gB) → Hid (Blk gB #[.string ⟨#[]⟩, .string ⟨#[99]⟩] 9 wn) → Hid (Inv p zb pm w x (some ⟨b5, 0, none⟩) q5 (some ⟨b6, 0, none⟩) q6 (some ⟨b7, 0, none⟩) q7 (some ⟨b8, 0, none⟩) q8 (k0 + 1 + 1) wn) → ∀ L, L = #[true, true, true, true, false, false, false, true, true, false, false, false, true, false, true, false, false, false, false, false, false] → ∀ fr, fr = FR (.slice (some ⟨gA, 0, none⟩) 4 4) undef undef undef (.slice (some ⟨gB, 0, none⟩) 2 2) undef undef undef undef undef → Z (fun wy => wy.cell? ⟨pm, 7, none⟩ = some (.slice (some ⟨b7, 0, none⟩) x.asks.length q7) ∧ Blk gA #[.string ⟨#[]⟩, .string ⟨#[118, 111, 108]⟩, .string ⟨#[122, 122]⟩, .string ⟨#[42]⟩] 9 wy ∧ Blk gB #[.string ⟨#[]⟩, .string ⟨#[99]⟩] 9 wy) 13 L ⟨fr, []⟩ wn) := by
    clear hS HI
    intro gA gB wn HOA HA HOB HB HI L hL fr hfr
    subst hL
    rw [HFR.out] at hfr
    subst hfr
    rw [HZZ.out]
    refine ru1 4 ⟨some 99, _, _, _, _, none⟩ rfl (fun KK hKK => ?_)
    ·go_simp
     refine (pick_rd p (k0 + 1 + 1) 4 _ HI.out.R (by omega) (by omega) (by omega)).mono ?_
     rintro e wn ⟨u1, rfl, hu1, hr, hb, -⟩
     replace HA := Hid.intro (HA.out.bt hb HA.out.lt (by have := HOA.out.nw; omega))
     replace HB := Hid.intro (HB.out.bt hb HB.out.lt (by have := HOB.out.nw; omega))
     replace HI := Hid.intro (HI.out.bt hb hr)
     refine hKK.out _ _ ⟨HI.out.S.blk.cell rfl, HA.out, HB.out⟩ (fun hS => ?_)
     clear hKK KK hb hr
     obtain ⟨d1, hdx, hd1⟩ := strAt4 ⟨#[]⟩ ⟨#[118, 111, 108]⟩ ⟨#[122, 122]⟩ ⟨#[42]⟩ u1 hu1 (by decide) (by decide) (by decide) (by decide)
     refine tv 5 ⟨some 100, _, _, _, _, none⟩ (.pointer (some ⟨gA, u1, none⟩)) rfl (by rfl) ?_ hS ?_
     ·intro wy hy
      clear hy
      first | (go_simp; done) | (go_simp; omega) | (go_simp; intro hh; omega)
     simp only [pA, pB, pC, pD]
     refine tv 6 ⟨some 101, _, _, _, _, none⟩ (.string d1) rfl (by rfl) ?_ hS ?_
     ·intro wy hy
      have h := id hy
      have h0 := h.2.1.cell (o := u1) (v := .string d1) hdx
      clear hy
      go_simp
     simp only [pA, pB, pC, pD]
     rw [← HZZ.out]
     exact st111.out _ _ _ _ _ hu1 HOA HA HOB HB hd1 HI _ (by kernel_rfl) _ (HFR.out _ _ _ _ _ _ _ _ _ _).symm
   have st010 : Hid (∀ (gA : Nat) (wn : World), Hid (Oth p zb pm w (some ⟨b5, 0, none⟩) (some ⟨b6, 0, none⟩) (some ⟨b7, 0, none⟩) (some ⟨b8, 0, none⟩) gA) → Hid (Blk gA #[.string ⟨#[]⟩, .string ⟨#[118, 111, 108]⟩, .string ⟨#[122, 122]⟩, .string ⟨#[42]⟩] 9 wn) → Hid (Inv p zb pm w x (some ⟨b5, 0, none⟩) q5 (some ⟨b6, 0, none⟩) q6 (some ⟨b7, 0, none⟩) q7 (some ⟨b8, 0, none⟩) q8 (k0 + 1 + 1) wn) → ∀ L, L = #[true, true, true, true, false, false, false, false, true, false, false, false, true, false, true, false, false, false, false, false, false] → ∀ fr, fr = FR (.slice (some ⟨gA, 0, none⟩) 4 4) undef undef undef undef undef undef undef undef undef → Z (fun wy => wy.cell? ⟨pm, 7, none⟩ = some (.slice (some ⟨b7, 0, none⟩) x.asks.length q7) ∧ Blk gA #[.string ⟨#[]⟩, .string ⟨#[118, 111, 108]⟩, .string ⟨#[122, 122]⟩, .string ⟨#[42]⟩] 9 wy) 14 L ⟨fr, []⟩ wn) := by
    clear hS HI
    intro gA wn HOA HA HI L hL fr hfr
    subst hL
    rw [HFR.out] at hfr
    subst hfr
    rw [HZZ.out]
    refine wpAnyU_ready (rs := [4, 7]) (by kernel_rfl) (by simp) (AllReadyU.cons (o := ⟨some 99, _, _, _, _, none⟩) rfl (fun KK hKK => ?_) (AllReadyU.cons (o := ⟨some 102, _, _, _, _, none⟩) rfl (fun KK hKK => ?_) AllReadyU.nil))
    ·go_simp
     refine (pick_rd p (k0 + 1 + 1) 4 _ HI.out.R (by omega) (by omega) (by omega)).mono ?_
     rintro e wn ⟨u1, rfl, hu1, hr, hb, -⟩
     replace HA := Hid.intro (HA.out.bt hb HA.out.lt (by have := HOA.out.nw; omega))
     replace HI := Hid.intro (HI.out.bt hb hr)
     refine hKK.out _ _ ⟨HI.out.S.blk.cell rfl, HA.out⟩ (fun hS => ?_)
     clear hKK KK hb hr
     obtain ⟨d1, hdx, hd1⟩ := strAt4 ⟨#[]⟩ ⟨#[118, 111, 108]⟩ ⟨#[122, 122]⟩ ⟨#[42]⟩ u1 hu1 (by decide) (by decide) (by decide) (by decide)
     refine tv 5 ⟨some 100, _, _, _, _, none⟩ (.pointer (some ⟨gA, u1, none⟩)) rfl (by rfl) ?_ hS ?_
     ·intro wy hy
      clear hy
      first | (go_simp; done) | (go_simp; omega) | (go_simp; intro hh; omega)
     simp only [pA, pB, pC, pD]
     refine tv 6 ⟨some 101, _, _, _, _, none⟩ (.string d1) rfl (by rfl) ?_ hS ?_
     ·intro wy hy
      have h := id hy
      have h0 := h.2.cell (o := u1) (v := .string d1) hdx
      clear hy
      go_simp
     simp only [pA, pB, pC, pD]
     rw [← HZZ.out]
     exact st110.out _ _ _ _ hu1 HOA HA hd1 HI _ (by kernel_rfl) _ (HFR.out _ _ _ _ _ _ _ _ _ _).symm
    ·go_simp
     have HB : Hid (Blk wn.heap.size #[.string ⟨#[]⟩, .string ⟨#[99]⟩] 9 (wn.alloc (Obj.cells #[.string ⟨#[]⟩, .string ⟨#[99]⟩] 9))) := Blk.alloc _ _ _
     have HOB := Hid.intro (HI.out.new (Nat.le_refl _))
     replace HI := Hid.intro (HI.out.alloc (Obj.cells #[.string ⟨#[]⟩, .string ⟨#[99]⟩] 9))
     replace HA := Hid.intro (HA.out.below ((Below.refl _ _).alloc (Nat.le_refl _) (Obj.cells #[.string ⟨#[]⟩, .string ⟨#[99]⟩] 9)) HA.out.lt)
     refine hKK.out _ _ ⟨HI.out.S.blk.cell rfl, HA.out⟩ (fun hS => ?_)
     clear hKK KK hS
     generalize wn.heap.size = gB at *
     generalize wn.alloc (Obj.cells #[.string ⟨#[]⟩, .string ⟨#[99]⟩] 9) = wn at *
     refine wpAnyU_mono (S' := fun wy => wy.cell? ⟨pm, 7, none⟩ = some (.slice (some ⟨b7, 0, none⟩) x.asks.length q7) ∧ Blk gA #[.string ⟨#[]⟩, .string ⟨#[118, 111, 108]⟩, .string ⟨#[122, 122]⟩, .string ⟨#[42]⟩] 9 wy ∧ Blk gB #[.string ⟨#[]⟩, .string ⟨#[99]⟩] 9 wy) (fun _ h => ⟨h.1, h.2.1⟩) _ _ _ _ ?_
     have hS : (fun wy => wy.cell? ⟨pm, 7, none⟩ = some (.slice (some ⟨b7, 0, none⟩) x.asks.length q7) ∧ Blk gA #[.string ⟨#[]⟩, .string ⟨#[118, 111, 108]⟩, .string ⟨#[122, 122]⟩, .string ⟨#[42]⟩] 9 wy ∧ Blk gB #[.string ⟨#[]⟩, .string ⟨#[99]⟩] 9 wy) wn := ⟨HI.out.S.blk.cell rfl, HA.out, HB.out⟩
     rw [← HZZ.out]
     exact st011.out _ _ _ HOA HA HOB HB HI _ (by kernel_rfl) _ (HFR.out _ _ _ _ _ _ _ _ _ _).symm
   have st001 : Hid (∀ (gB : Nat) (wn : World), Hid (Oth p zb pm w (some ⟨b5, 0, none⟩) (some ⟨b6, 0, none⟩) (some ⟨b7, 0, none⟩) (some ⟨b8, 0, none⟩) gB) → Hid (Blk gB #[.string ⟨#[]⟩, .string ⟨#[99]⟩] 9 wn) → Hid (Inv p zb pm w x (some ⟨b5, 0, none⟩) q5 (some ⟨b6, 0, none⟩) q6 (some ⟨b7, 0, none⟩) q7 (some ⟨b8, 0, none⟩) q8 (k0 + 1 + 1) wn) → ∀ L, L = #[true, true, false, true, false, false, false, true, true, false, false, false, true, false, true, false, false, false, false, false, false] → ∀ fr, fr = FR undef undef undef undef (.slice (some ⟨gB, 0, none⟩) 2 2) undef undef undef undef undef → Z (fun wy => wy.cell? ⟨pm, 7, none⟩ = some (.slice (some ⟨b7, 0, none⟩) x.asks.length q7) ∧ Blk gB #[.string ⟨#[]⟩, .string ⟨#[99]⟩] 9 wy) 14 L ⟨fr, []⟩ wn) := by
    clear hS HI
    intro gB wn HOB HB HI L hL fr hfr
    subst hL
    rw [HFR.out] at hfr
    subst hfr
    rw [HZZ.out]
    refine wpAnyU_ready (rs := [2, 4]) (by kernel_rfl) (by simp) (AllReadyU.cons (o := ⟨some 97, _, _, _, _, none⟩) rfl (fun KK hKK => ?_) (AllReadyU.cons (o := ⟨some 99, _, _, _, _, none⟩) rfl (fun KK hKK => ?_) AllReadyU.nil))
    ·go_simp
     have HA : Hid (Blk wn.heap.size #[.string ⟨#[]⟩, .string ⟨#[118, 111, 108]⟩, .string ⟨#[122, 122]⟩, .string ⟨#[42]⟩] 9 (wn.alloc (Obj.cells #[.string ⟨#[]⟩, .string ⟨#[118, 111, 108]⟩, .string ⟨#[122, 122]⟩, .string ⟨#[42]⟩] 9))) := Blk.alloc _ _ _
     have HOA := Hid.intro (HI.out.new (Nat.le_refl _))
     replace HI := Hid.intro (HI.out.alloc (Obj.cells #[.string ⟨#[]⟩, .string ⟨#[118, 111, 108]⟩, .string ⟨#[122, 122]⟩, .string ⟨#[42]⟩] 9))
     replace HB := Hid.intro (HB.out.below ((Below.refl _ _).alloc (Nat.le_refl _) (Obj.cells #[.string ⟨#[]⟩, .string ⟨#[118, 111, 108]⟩, .string ⟨#[122, 122]⟩, .string ⟨#[42]⟩] 9)) HB.out.lt)
     refine hKK.out _ _ ⟨HI.out.S.blk.cell rfl, HB.out⟩ (fun hS => ?_)
     clear hKK KK hS
     generalize wn.heap.size = gA at *
     generalize wn.alloc (Obj.cells #[.string ⟨#[]⟩, .string ⟨#[118, 111, 108]⟩, .string ⟨#[122, 122]⟩, .string ⟨#[42]⟩] 9) = wn at *
     refine wpAnyU_mono (S' := fun wy => wy.cell? ⟨pm, 7, none⟩ = some (.slice (some ⟨b7, 0, none⟩) x.asks.length q7) ∧ Blk gA #[.string ⟨#[]⟩, .string ⟨#[118, 111, 108]⟩, .string ⟨#[122, 122]⟩, .string ⟨#[42]⟩] 9 wy ∧ Blk gB #[.string ⟨#[]⟩, .string ⟨#[99]⟩] 9 wy) (fun _ h => ⟨h.1, h.2.2⟩) _ _ _ _ ?_
     have hS : (fun wy => wy.cell? ⟨pm, 7, none⟩ = some (.slice (some ⟨b7, 0, none⟩) x.asks.length q7) ∧ Blk gA #[.string ⟨#[]⟩, .string ⟨#[118, 111, 108]⟩, .string ⟨#[122, 122]⟩, .string ⟨#[42]⟩] 9 wy ∧ Blk gB #[.string ⟨#[]⟩, .string ⟨#[99]⟩] 9 wy) wn := ⟨HI.out.S.blk.cell rfl, HA.out, HB.out⟩
     rw [← HZZ.out]
     exact st011.out _ _ _ HOA HA HOB HB HI _ (by kernel_rfl) _ (HFR.out _ _ _ _ _ _ _ _ _ _).symm
    ·go_simp
     refine (pick_rd p (k0 + 1 + 1) 4 _ HI.out.R (by omega) (by omega) (by omega)).mono ?_
     rintro e wn ⟨u1, rfl, hu1, hr, hb, -⟩
     replace HB := Hid.intro (HB.out.bt hb HB.out.lt (by have := HOB.out.nw; omega))
     replace HI := Hid.intro (HI.out.bt hb hr)
     refine hKK.out _ _ ⟨HI.out.S.blk.cell rfl, HB.out⟩ (fun hS => ?_)
     clear hKK KK hb hr
     rw [← HZZ.out]
     exact st101.out _ _ _ hu1 HOB HB HI _ (by kernel_rfl) _ (HFR.out _ _ _ _ _ _ _ _ _ _).symm
   have st000 : Hid (∀ (wn : World), Hid (Inv p zb pm w x (some ⟨b5, 0, none⟩) q5 (some ⟨b6, 0, none⟩) q6 (some ⟨b7, 0, none⟩) q7 (some ⟨b8, 0, none⟩) q8 (k0 + 1 + 1) wn) → ∀ L, L = #[true, true, false, true, false, false, false, false, true, false, false, false, true, false, true, false, false, false, false, false, false] → ∀ fr, fr = FR undef undef undef undef undef undef undef undef undef undef → Z (fun wy => wy.cell? ⟨pm, 7, none⟩ = some (.slice (some ⟨b7, 0, none⟩) x.asks.length q7)) 15 L ⟨fr, []⟩ wn) := by
    clear hS HI
    intro wn HI L hL fr hfr
    subst hL
    rw [HFR.out] at hfr
    subst hfr
    rw [HZZ.out]
    refine wpAnyU_ready (rs := [2, 4, 7]) (by kernel_rfl) (by simp) (AllReadyU.cons (o := ⟨some 97, _, _, _, _, none⟩) rfl (fun KK hKK => ?_) (AllReadyU.cons (o := ⟨some 99, _, _, _, _, none⟩) rfl (fun KK hKK => ?_) (AllReadyU.cons (o := ⟨some 102, _, _, _, _, none⟩) rfl (fun KK hKK => ?_) AllReadyU.nil)))
    ·go_simp
     have HA : Hid (Blk wn.heap.size #[.string ⟨#[]⟩, .string ⟨#[118, 111, 108]⟩, .string ⟨#[122, 122]⟩, .string ⟨#[42]⟩] 9 (wn.alloc (Obj.cells #[.string ⟨#[]⟩, .string ⟨#[118, 111, 108]⟩, .string ⟨#[122, 122]⟩, .string ⟨#[42]⟩] 9))) := Blk.alloc _ _ _
     have HOA := Hid.intro (HI.out.new (Nat.le_refl _))
     replace HI := Hid.intro (HI.out.alloc (Obj.cells #[.string ⟨#[]⟩, .string ⟨#[118, 111, 108]⟩, .string ⟨#[122, 122]⟩, .string ⟨#[42]⟩] 9))
     refine hKK.out _ _ (HI.out.S.blk.cell rfl) (fun hS => ?_)
     clear hKK KK hS
     generalize wn.heap.size = gA at *
     generalize wn.alloc (Obj.cells #[.string ⟨#[]⟩, .string ⟨#[118, 111, 108]⟩, .string ⟨#[122, 122]⟩, .string ⟨#[42]⟩] 9) = wn at *
     refine wpAnyU_mono (S' := fun wy => wy.cell? ⟨pm, 7, none⟩ = some (.slice (some ⟨b7, 0, none⟩) x.asks.length q7) ∧ Blk gA #[.string ⟨#[]⟩, .string ⟨#[118, 111, 108]⟩, .string ⟨#[122, 122]⟩, .string ⟨#[42]⟩] 9 wy) (fun _ h => h.1) _ _ _ _ ?_
     have hS : (fun wy => wy.cell? ⟨pm, 7, none⟩ = some (.slice (some ⟨b7, 0, none⟩) x.asks.length q7) ∧ Blk gA #[.string ⟨#[]⟩, .string ⟨#[118, 111, 108]⟩, .string ⟨#[122, 122]⟩, .string ⟨#[42]⟩] 9 wy) wn := ⟨HI.out.S.blk.cell rfl, HA.out⟩
     rw [← HZZ.out]
     exact st010.out _ _ HOA HA HI _ (by kernel_rfl) _ (HFR.out _ _ _ _ _ _ _ _ _ _).symm
    ·go_simp
     refine (pick_rd p (k0 + 1 + 1) 4 _ HI.out.R (by omega) (by omega) (by omega)).mono ?_
     rintro e wn ⟨u1, rfl, hu1, hr, hb, -⟩
     replace HI := Hid.intro (HI.out.bt hb hr)
     refine hKK.out _ _ (HI.out.S.blk.cell rfl) (fun hS => ?_)
     clear hKK KK hb hr
     rw [← HZZ.out]
     exact st100.out _ _ hu1 HI _ (by kernel_rfl) _ (HFR.out _ _ _ _ _ _ _ _ _ _).symm
    ·go_simp
     have HB : Hid (Blk wn.heap.size #[.string ⟨#[]⟩, .string ⟨#[99]⟩] 9 (wn.alloc (Obj.cells #[.string ⟨#[]⟩, .string ⟨#[99]⟩] 9))) := Blk.alloc _ _ _
     have HOB := Hid.intro (HI.out.new (Nat.le_refl _))
     replace HI := Hid.intro (HI.out.alloc (Obj.cells #[.string ⟨#[]⟩, .string ⟨#[99]⟩] 9))
     refine hKK.out _ _ (HI.out.S.blk.cell rfl) (fun hS => ?_)
     clear hKK KK hS
     generalize wn.heap.size = gB at *
     generalize wn.alloc (Obj.cells #[.string ⟨#[]⟩, .string ⟨#[99]⟩] 9) = wn at *
     refine wpAnyU_mono (S' := fun wy => wy.cell? ⟨pm, 7, none⟩ = some (.slice (some ⟨b7, 0, none⟩) x.asks.length q7) ∧ Blk gB #[.string ⟨#[]⟩, .string ⟨#[99]⟩] 9 wy) (fun _ h => h.1) _ _ _ _ ?_
     have hS : (fun wy => wy.cell? ⟨pm, 7, none⟩ = some (.slice (some ⟨b7, 0, none⟩) x.asks.length q7) ∧ Blk gB #[.string ⟨#[]⟩, .string ⟨#[99]⟩] 9 wy) wn := ⟨HI.out.S.blk.cell rfl, HB.out⟩
     rw [← HZZ.out]
     exact st001.out _ _ HOB HB HI _ (by kernel_rfl) _ (HFR.out _ _ _ _ _ _ _ _ _ _).symm
   rw [HZZ.out]
   refine tv 0 ⟨some 95, _, _, _, _, none⟩ (.pointer (some ⟨pm, 7, none⟩)) rfl (by rfl) ?_ hS ?_
   ·intro wy hy
    clear hy
    go_simp
   simp only [pA, pB, pC, pD]
   refine tv 1 ⟨some 96, _, _, _, _, none⟩ (.slice (some ⟨b7, 0, none⟩) x.asks.length q7) rfl (by rfl) ?_ hS ?_
   ·intro wy hy
    have c6 := id hy
    clear hy
    go_simp
   simp only [pA, pB, pC, pD]
   refine tv 3 ⟨some 98, _, _, _, _, none⟩ (.pointer (some ⟨p, 0, none⟩)) rfl (by rfl) ?_ hS ?_
   ·intro wy hy
    clear hy
    go_simp
   simp only [pA, pB, pC, pD]
   refine tv 8 ⟨some 103, _, _, _, _, none⟩ (.pointer (some ⟨p, 0, none⟩)) rfl (by rfl) ?_ hS ?_
   ·intro wy hy
    clear hy
    go_simp
   simp only [pA, pB, pC, pD]
   refine tv 12 ⟨some 107, _, _, _, _, none⟩ (.pointer (some ⟨p, 0, none⟩)) rfl (by rfl) ?_ hS ?_
   ·intro wy hy
    clear hy
    go_simp
   simp only [pA, pB, pC, pD]
   refine tv 14 ⟨some 109, _, _, _, _, none⟩ (.pointer (some ⟨p, 0, none⟩)) rfl (by rfl) ?_ hS ?_
   ·intro wy hy
    clear hy
    go_simp
   simp only [pA, pB, pC, pD]
   rw [← HZZ.out]
   exact st000.out _ HI _ (by kernel_rfl) _ (HFR.out _ _ _ _ _ _ _ _ _ _).symm
  ·skip
   go_upto_region 25 with fail
   refine wp_region_until (S := fun wy => wy.cell? ⟨pm, 8, none⟩ = some (.slice (some ⟨b8, 0, none⟩) x.gives.length q8)) 16 (by kernel_rfl) (HI6.out.drew.S.blk.cell rfl) (fun hS => ?_)
   have HI := Hid.intro HI6.out.drew
   clear HI6
   generalize w6.drew = wn at *
   refine tv 0 ⟨some 117, _, _, _, _, none⟩ (.pointer (some ⟨pm, 8, none⟩)) rfl (by rfl) ?_ hS ?_
   ·intro wy hy
    clear hy
    go_simp
   simp only [pA, pB, pC, pD]
   refine tv 1 ⟨some 118, _, _, _, _, none⟩ (.slice (some ⟨b8, 0, none⟩) x.gives.length q8) rfl (by rfl) ?_ hS ?_
   ·intro wy hy
    have c6 := id hy
    clear hy
    go_simp
   simp only [pA, pB, pC, pD]
   refine tv 3 ⟨some 120, _, _, _, _, none⟩ (.pointer (some ⟨p, 0, none⟩)) rfl (by rfl) ?_ hS ?_
   ·intro wy hy
    clear hy
    go_simp
   simp only [pA, pB, pC, pD]
   refine tv 7 ⟨some 124, _, _, _, _, none⟩ (.pointer (some ⟨p, 0, none⟩)) rfl (by rfl) ?_ hS ?_
   ·intro wy hy
    clear hy
    go_simp
   simp only [pA, pB, pC, pD]
   refine tv 10 ⟨some 127, _, _, _, _, none⟩ (.pointer (some ⟨p, 0, none⟩)) rfl (by rfl) ?_ hS ?_
   ·intro wy hy
    clear hy
    go_simp
   simp only [pA, pB, pC, pD]
   refine wpAnyU_ready (rs := [2, 4]) (by kernel_rfl) (by simp) (AllReadyU.cons (o := ⟨some 119, _, _, _, _, none⟩) rfl (fun KK hKK => ?_) (AllReadyU.cons (o := ⟨some 121, _, _, _, _, none⟩) rfl (fun KK hKK => ?_) AllReadyU.nil))
   ·skip
    go_simp
    have HA : Hid (Blk wn.heap.size #[.string ⟨#[]⟩, .string ⟨#[118, 111, 108]⟩, .string ⟨#[122, 122]⟩] 9 (wn.alloc (Obj.cells #[.string ⟨#[]⟩, .string ⟨#[118, 111, 108]⟩, .string ⟨#[122, 122]⟩] 9))) := Blk.alloc _ _ _
    have HOA := Hid.intro (HI.out.new (Nat.le_refl _))
    replace HI := Hid.intro (HI.out.alloc (Obj.cells #[.string ⟨#[]⟩, .string ⟨#[118, 111, 108]⟩, .string ⟨#[122, 122]⟩] 9))
    refine hKK.out _ _ (HI.out.S.blk.cell rfl) (fun hS => ?_)
    clear hKK KK hS
    generalize wn.heap.size = gA at *
    generalize wn.alloc (Obj.cells #[.string ⟨#[]⟩, .string ⟨#[118, 111, 108]⟩, .string ⟨#[122, 122]⟩] 9) = wn at *
    refine wpAnyU_mono (S' := fun wy => wy.cell? ⟨pm, 8, none⟩ = some (.slice (some ⟨b8, 0, none⟩) x.gives.length q8) ∧ Blk gA #[.string ⟨#[]⟩, .string ⟨#[118, 111, 108]⟩, .string ⟨#[122, 122]⟩] 9 wy) (fun _ h => h.1) _ _ _ _ ?_
    have hS : (fun wy => wy.cell? ⟨pm, 8, none⟩ = some (.slice (some ⟨b8, 0, none⟩) x.gives.length q8) ∧ Blk gA #[.string ⟨#[]⟩, .string ⟨#[118, 111, 108]⟩, .string ⟨#[122, 122]⟩] 9 wy) wn := ⟨HI.out.S.blk.cell rfl, HA.out⟩
    refine ru1 4 ⟨some 121, _, _, _, _, none⟩ rfl (fun KK hKK => ?_)
    go_simp
    refine (pick_rd p (k0 + 1 + 1) 3 _ HI.out.R (by omega) (by omega) (by omega)).mono ?_
    rintro e wn ⟨u1, rfl, hu1, hr, hb, -⟩
    replace HA := Hid.intro (HA.out.bt hb HA.out.lt (by have := HOA.out.nw; omega))
    replace HI := Hid.intro (HI.out.bt hb hr)
    refine hKK.out _ _ ⟨HI.out.S.blk.cell rfl, HA.out⟩ (fun hS => ?_)
    clear hKK KK hb hr
    obtain ⟨d, hdx, hds⟩ := strAt3 ⟨#[]⟩ ⟨#[118, 111, 108]⟩ ⟨#[122, 122]⟩ u1 hu1 (by decide) (by decide) (by decide)
    have HDX := Hid.intro hdx
    clear hdx
    refine tv 5 ⟨some 122, _, _, _, _, none⟩ (.pointer (some ⟨gA, u1, none⟩)) rfl (by rfl) ?_ hS ?_
    ·intro wy hy
     clear hy
     first | (go_simp; done) | (go_simp; omega) | (go_simp; intro hh; omega)
    simp only [pA, pB, pC, pD]
    refine tv 6 ⟨some 123, _, _, _, _, none⟩ (.string d) rfl (by rfl) ?_ hS ?_
    ·intro wy hy
     have h := id hy
     have h0 := h.2.cell (o := u1) (v := .string d) HDX.out
     clear hy
     go_simp
    simp only [pA, pB, pC, pD]
    refine ru1 8 ⟨some 125, _, _, _, _, none⟩ rfl (fun KK hKK => ?_)
    go_simp
    refine (pick_rd p (k0 + 1 + 1 + 1) 3 _ HI.out.R (by omega) (by omega) (by omega)).mono ?_
    rintro e wn ⟨u2, rfl, hu2, hr, hb, -⟩
    replace HA := Hid.intro (HA.out.bt hb HA.out.lt (by have := HOA.out.nw; omega))
    replace HI := Hid.intro (HI.out.bt hb hr)
    refine hKK.out _ _ ⟨HI.out.S.blk.cell rfl, HA.out⟩ (fun hS => ?_)
    clear hKK KK hb hr
    refine tv 9 ⟨some 126, _, _, _, _, none⟩ (.int .i64 ((u2 : Int) - 1)) rfl (by rfl) ?_ hS ?_
    ·intro wy hy
     clear hy
     first | (go_simp; done) | (go_simp; rw [IntKind.wrap_i64]; omega) | (go_simp; omega)
    simp only [pA, pB, pC, pD]
    refine ru1 11 ⟨some 128, _, _, _, _, none⟩ rfl (fun KK hKK => ?_)
    go_simp
    refine (pick_rd p (k0 + 1 + 1 + 1 + 1) 5 _ HI.out.R (by omega) (by omega) (by omega)).mono ?_
    rintro e wn ⟨u3, rfl, hu3, hr, hb, -⟩
    replace HA := Hid.intro (HA.out.bt hb HA.out.lt (by have := HOA.out.nw; omega))
    replace HI := Hid.intro (HI.out.bt hb hr)
    refine hKK.out _ _ ⟨HI.out.S.blk.cell rfl, HA.out⟩ (fun hS => ?_)
    clear hKK KK hb hr
    refine tv 12 ⟨some 129, _, _, _, _, none⟩ (.agg #[.string d, .string ⟨#[99]⟩, .int .i64 ((u2 : Int) - 1), .int .i64 (u3 : Int)]) rfl (by rfl) ?_ hS ?_
    ·intro wy hy
     clear hy
     go_simp
    simp only [pA, pB, pC, pD]
    refine ru1 13 ⟨some 130, _, _, _, _, none⟩ rfl (fun KK hKK => ?_)
    go_simp
    have NC : Hid (Blk wn.heap.size #[.string d, .string ⟨#[99]⟩, .int .i64 ((u2 : Int) - 1), .int .i64 (u3 : Int)] 57 (wn.alloc (Obj.cells #[.string d, .string ⟨#[99]⟩, .int .i64 ((u2 : Int) - 1), .int .i64 (u3 : Int)] 57))) := Blk.alloc _ _ _
    have HIa := Hid.intro (HI.out.alloc (Obj.cells #[.string d, .string ⟨#[99]⟩, .int .i64 ((u2 : Int) - 1), .int .i64 (u3 : Int)] 57))
    have hzw : zb + 1 ≤ wn.heap.size := HI.out.Z.lt
    replace HA := Hid.intro (HA.out.below ((Below.refl _ _).alloc (Nat.le_refl _) (Obj.cells #[.string d, .string ⟨#[99]⟩, .int .i64 ((u2 : Int) - 1), .int .i64 (u3 : Int)] 57)) HA.out.lt)
    refine hKK.out _ _ ⟨HIa.out.S.blk.cell rfl, HA.out⟩ (fun hS => ?_)
    clear hKK KK HI
    have hzx : zb + 1 ≤ (wn.alloc (Obj.cells #[.string d, .string ⟨#[99]⟩, .int .i64 ((u2 : Int) - 1), .int .i64 (u3 : Int)] 57)).heap.size := HIa.out.Z.lt
    generalize wn.alloc (Obj.cells #[.string d, .string ⟨#[99]⟩, .int .i64 ((u2 : Int) - 1), .int .i64 (u3 : Int)] 57) = wo at *
    generalize wn.heap.size = gN at *
    have HNN : Hid (∀ j u, (rcAks (⟨d, ⟨#[99]⟩, (u2 : Int) - 1, (u3 : Int)⟩ : Aks))[j]? = some u → wo.cell? ((⟨gN, 0, none⟩ : Addr).add j) = some u) := by
     intro j u hj
     rw [Addr.add_mid]
     exact NC.out.rangeA j u hj
    have HN1 : Hid (∀ u ∈ rcAks (⟨d, ⟨#[99]⟩, (u2 : Int) - 1, (u3 : Int)⟩ : Aks), u.oneCell' = true) := fun u hu => rvAks_one [(⟨d, ⟨#[99]⟩, (u2 : Int) - 1, (u3 : Int)⟩ : Aks)] u (by simp only [rvAks, List.append_nil]; exact hu)
    refine ru1 14 ⟨some 131, _, _, _, _, none⟩ rfl (fun KK hKK => ?_)
    rw [if_pos (by rfl)]
    refine wp_append_at (.tmp 118) (.tmp 130) 25 (by rfl) (zb + 1) 57 iA _ 4 48 Try.underlying25 hiA hz0 hz1 hz2 rfl (by decide) _ x.gives.length _ (by rfl) HIa.out.S.L.r8 ⟨gN, 0, none⟩ 1 1 (rcAks (⟨d, ⟨#[99]⟩, (u2 : Int) - 1, (u3 : Int)⟩ : Aks)) (by rfl) (by rfl) HNN.out HN1.out (by unfold maxLen; omega) (by omega) hzx ?_
    intro v' wq hown8 hgrow8 hnil8 hblk8
    have hv8 : v' ≠ .slice none 0 0 := (fun e => by have h9 := (hnil8.1 e).2; cases h9)
    obtain ⟨g8, k8, rfl⟩ := rowf hown8 hv8
    rw [own_blkO (some ⟨b8, 0, none⟩)] at hgrow8 hblk8
    have kx : wq.cell? ⟨pm, 8, none⟩ = some (.slice (some ⟨b8, 0, none⟩) x.gives.length q8) := (HIa.out.S.blk8 hgrow8).cell rfl
    have fx : wq.frozen? ⟨pm, 8, none⟩ = false := (HIa.out.S.blk8 hgrow8).frozen _
    replace HA := Hid.intro ((hgrow8.block gA HA.out.lt (fun e => HOA.out.n8 e.symm)).trans HA.out)
    refine hKK.out _ _ ⟨kx, HA.out⟩ (fun hS => ?_)
    clear hKK KK
    refine tv 15 ⟨some 132, _, _, _, _, none⟩ (.pointer (some ⟨pm, 8, none⟩)) rfl (by rfl) ?_ hS ?_
    ·intro wy hy
     clear hy
     go_simp
    simp only [pA, pB, pC, pD]
    have hyl : (x.gives ++ [(⟨d, ⟨#[99]⟩, (u2 : Int) - 1, (u3 : Int)⟩ : Aks)]).length = x.gives.length + 1 := by simp
    have HI9 : Hid (Inv p zb pm w { x with gives := x.gives ++ [(⟨d, ⟨#[99]⟩, (u2 : Int) - 1, (u3 : Int)⟩ : Aks)] } (some ⟨b5, 0, none⟩) q5 (some ⟨b6, 0, none⟩) q6 (some ⟨b7, 0, none⟩) q7 (some ⟨g8, 0, none⟩) k8 (k0 + 1 + 1 + 1 + 1 + 1) (wq.setCell ⟨pm, 8, none⟩ (.slice (some ⟨g8, 0, none⟩) (x.gives.length + 1) k8))) := by
     have h := HIa.out.grown8 (ys := x.gives ++ [(⟨d, ⟨#[99]⟩, (u2 : Int) - 1, (u3 : Int)⟩ : Aks)]) (c8 := some ⟨g8, 0, none⟩) (k8 := k8) hgrow8 (by rw [hyl, rvA_app]; simp only [rvAks, List.append_nil]; exact hown8) (by rw [hyl]; exact hblk8) (fun z hz => (List.mem_append.1 hz).elim (HIa.out.S.L.z8 z) (fun e => by rw [List.mem_singleton.1 e]; exact ⟨hds, (by decide : ByteArray.size ⟨#[99]⟩ ≤ 100)⟩))
     rw [hyl] at h
     exact h
    refine wpAnyU_ready (rs := [16]) (by kernel_rfl) (by simp) (AllReadyU.last (o := ⟨none, _, _, _, _, none⟩) rfl (fun KK hKK => ?_))
    go_simp
    refine hKK.out _ _ ?_
    clear hKK KK
    refine wpAnyU_done (by kernel_rfl) ?_ _
    go_wp2_with fail
    go_meet
    exact ⟨{ x with gives := x.gives ++ [(⟨d, ⟨#[99]⟩, (u2 : Int) - 1, (u3 : Int)⟩ : Aks)] }, (some ⟨b5, 0, none⟩), q5, (some ⟨b6, 0, none⟩), q6, (some ⟨b7, 0, none⟩), q7, (some ⟨g8, 0, none⟩), k8, k0 + 1 + 1 + 1 + 1 + 1, HI9, ⟨by show x.wants.length ≤ 5; omega, by show x.runs.length ≤ 5; omega, by show x.asks.length ≤ 5; omega, by show (x.gives ++ [(⟨d, ⟨#[99]⟩, (u2 : Int) - 1, (u3 : Int)⟩ : Aks)]).length ≤ 5; rw [hyl]; omega⟩, by omega⟩
   ·skip
    go_simp
    refine (pick_rd p (k0 + 1 + 1) 3 _ HI.out.R (by omega) (by omega) (by omega)).mono ?_
    rintro e wn ⟨u1, rfl, hu1, hr, hb, -⟩
    replace HI := Hid.intro (HI.out.bt hb hr)
    refine hKK.out _ _ (HI.out.S.blk.cell rfl) (fun hS => ?_)
    clear hKK KK hb hr
    refine wpAnyU_ready (rs := [2, 8]) (by kernel_rfl) (by simp) (AllReadyU.cons (o := ⟨some 119, _, _, _, _, none⟩) rfl (fun KK hKK => ?_) (AllReadyU.cons (o := ⟨some 125, _, _, _, _, none⟩) rfl (fun KK hKK => ?_) AllReadyU.nil))
    ·skip
     go_simp
     have HA : Hid (Blk wn.heap.size #[.string ⟨#[]⟩, .string ⟨#[118, 111, 108]⟩, .string ⟨#[122, 122]⟩] 9 (wn.alloc (Obj.cells #[.string ⟨#[]⟩, .string ⟨#[118, 111, 108]⟩, .string ⟨#[122, 122]⟩] 9))) := Blk.alloc _ _ _
     have HOA := Hid.intro (HI.out.new (Nat.le_refl _))
     replace HI := Hid.intro (HI.out.alloc (Obj.cells #[.string ⟨#[]⟩, .string ⟨#[118, 111, 108]⟩, .string ⟨#[122, 122]⟩] 9))
     refine hKK.out _ _ (HI.out.S.blk.cell rfl) (fun hS => ?_)
     clear hKK KK hS
     generalize wn.heap.size = gA at *
     generalize wn.alloc (Obj.cells #[.string ⟨#[]⟩, .string ⟨#[118, 111, 108]⟩, .string ⟨#[122, 122]⟩] 9) = wn at *
     refine wpAnyU_mono (S' := fun wy => wy.cell? ⟨pm, 8, none⟩ = some (.slice (some ⟨b8, 0, none⟩) x.gives.length q8) ∧ Blk gA #[.string ⟨#[]⟩, .string ⟨#[118, 111, 108]⟩, .string ⟨#[122, 122]⟩] 9 wy) (fun _ h => h.1) _ _ _ _ ?_
     have hS : (fun wy => wy.cell? ⟨pm, 8, none⟩ = some (.slice (some ⟨b8, 0, none⟩) x.gives.length q8) ∧ Blk gA #[.string ⟨#[]⟩, .string ⟨#[118, 111, 108]⟩, .string ⟨#[122, 122]⟩] 9 wy) wn := ⟨HI.out.S.blk.cell rfl, HA.out⟩
     obtain ⟨d, hdx, hds⟩ := strAt3 ⟨#[]⟩ ⟨#[118, 111, 108]⟩ ⟨#[122, 122]⟩ u1 hu1 (by decide) (by decide) (by decide)
     have HDX := Hid.intro hdx
     clear hdx
     refine tv 5 ⟨some 122, _, _, _, _, none⟩ (.pointer (some ⟨gA, u1, none⟩)) rfl (by rfl) ?_ hS ?_
     ·intro wy hy
      clear hy
      first | (go_simp; done) | (go_simp; omega) | (go_simp; intro hh; omega)
     simp only [pA, pB, pC, pD]
     refine tv 6 ⟨some 123, _, _, _, _, none⟩ (.string d) rfl (by rfl) ?_ hS ?_
     ·intro wy hy
      have h := id hy
      have h0 := h.2.cell (o := u1) (v := .string d) HDX.out
      clear hy
      go_simp
     simp only [pA, pB, pC, pD]
     refine ru1 8 ⟨some 125, _, _, _, _, none⟩ rfl (fun KK hKK => ?_)
     go_simp
     refine (pick_rd p (k0 + 1 + 1 + 1) 3 _ HI.out.R (by omega) (by omega) (by omega)).mono ?_
     rintro e wn ⟨u2, rfl, hu2, hr, hb, -⟩
     replace HA := Hid.intro (HA.out.bt hb HA.out.lt (by have := HOA.out.nw; omega))
     replace HI := Hid.intro (HI.out.bt hb hr)
     refine hKK.out _ _ ⟨HI.out.S.blk.cell rfl, HA.out⟩ (fun hS => ?_)
     clear hKK KK hb hr
     refine tv 9 ⟨some 126, _, _, _, _, none⟩ (.int .i64 ((u2 : Int) - 1)) rfl (by rfl) ?_ hS ?_
     ·intro wy hy
      clear hy
      first | (go_simp; done) | (go_simp; rw [IntKind.wrap_i64]; omega) | (go_simp; omega)
     simp only [pA, pB, pC, pD]
     refine ru1 11 ⟨some 128, _, _, _, _, none⟩ rfl (fun KK hKK => ?_)
     go_simp
     refine (pick_rd p (k0 + 1 + 1 + 1 + 1) 5 _ HI.out.R (by omega) (by omega) (by omega)).mono ?_
     rintro e wn ⟨u3, rfl, hu3, hr, hb, -⟩
     replace HA := Hid.intro (HA.out.bt hb HA.out.lt (by have := HOA.out.nw; omega))
     replace HI := Hid.intro (HI.out.bt hb hr)
     refine hKK.out _ _ ⟨HI.out.S.blk.cell rfl, HA.out⟩ (fun hS => ?_)
     clear hKK KK hb hr
     refine tv 12 ⟨some 129, _, _, _, _, none⟩ (.agg #[.string d, .string ⟨#[99]⟩, .int .i64 ((u2 : Int) - 1), .int .i64 (u3 : Int)]) rfl (by rfl) ?_ hS ?_
     ·intro wy hy
      clear hy
      go_simp
     simp only [pA, pB, pC, pD]
     refine ru1 13 ⟨some 130, _, _, _, _, none⟩ rfl (fun KK hKK => ?_)
     go_simp
     have NC : Hid (Blk wn.heap.size #[.string d, .string ⟨#[99]⟩, .int .i64 ((u2 : Int) - 1), .int .i64 (u3 : Int)] 57 (wn.alloc (Obj.cells #[.string d, .string ⟨#[99]⟩, .int .i64 ((u2 : Int) - 1), .int .i64 (u3 : Int)] 57))) := Blk.alloc _ _ _
     have HIa := Hid.intro (HI.out.alloc (Obj.cells #[.string d, .string ⟨#[99]⟩, .int .i64 ((u2 : Int) - 1), .int .i64 (u3 : Int)] 57))
     have hzw : zb + 1 ≤ wn.heap.size := HI.out.Z.lt
     replace HA := Hid.intro (HA.out.below ((Below.refl _ _).alloc (Nat.le_refl _) (Obj.cells #[.string d, .string ⟨#[99]⟩, .int .i64 ((u2 : Int) - 1), .int .i64 (u3 : Int)] 57)) HA.out.lt)
     refine hKK.out _ _ ⟨HIa.out.S.blk.cell rfl, HA.out⟩ (fun hS => ?_)
     clear hKK KK HI
     have hzx : zb + 1 ≤ (wn.alloc (Obj.cells #[.string d, .string ⟨#[99]⟩, .int .i64 ((u2 : Int) - 1), .int .i64 (u3 : Int)] 57)).heap.size := HIa.out.Z.lt
     generalize wn.alloc (Obj.cells #[.string d, .string ⟨#[99]⟩, .int .i64 ((u2 : Int) - 1), .int .i64 (u3 : Int)] 57) = wo at *
     generalize wn.heap.size = gN at *
     have HNN : Hid (∀ j u, (rcAks (⟨d, ⟨#[99]⟩, (u2 : Int) - 1, (u3 : Int)⟩ : Aks))[j]? = some u → wo.cell? ((⟨gN, 0, none⟩ : Addr).add j) = some u) := by
      intro j u hj
      rw [Addr.add_mid]
      exact NC.out.rangeA j u hj
     have HN1 : Hid (∀ u ∈ rcAks (⟨d, ⟨#[99]⟩, (u2 : Int) - 1, (u3 : Int)⟩ : Aks), u.oneCell' = true) := fun u hu => rvAks_one [(⟨d, ⟨#[99]⟩, (u2 : Int) - 1, (u3 : Int)⟩ : Aks)] u (by simp only [rvAks, List.append_nil]; exact hu)
     refine ru1 14 ⟨some 131, _, _, _, _, none⟩ rfl (fun KK hKK => ?_)
     rw [if_pos (by rfl)]
     refine wp_append_at (.tmp 118) (.tmp 130) 25 (by rfl) (zb + 1) 57 iA _ 4 48 Try.underlying25 hiA hz0 hz1 hz2 rfl (by decide) _ x.gives.length _ (by rfl) HIa.out.S.L.r8 ⟨gN, 0, none⟩ 1 1 (rcAks (⟨d, ⟨#[99]⟩, (u2 : Int) - 1, (u3 : Int)⟩ : Aks)) (by rfl) (by rfl) HNN.out HN1.out (by unfold maxLen; omega) (by omega) hzx ?_
     intro v' wq hown8 hgrow8 hnil8 hblk8
     have hv8 : v' ≠ .slice none 0 0 := (fun e => by have h9 := (hnil8.1 e).2; cases h9)
     obtain ⟨g8, k8, rfl⟩ := rowf hown8 hv8
     rw [own_blkO (some ⟨b8, 0, none⟩)] at hgrow8 hblk8
     have kx : wq.cell? ⟨pm, 8, none⟩ = some (.slice (some ⟨b8, 0, none⟩) x.gives.length q8) := (HIa.out.S.blk8 hgrow8).cell rfl
     have fx : wq.frozen? ⟨pm, 8, none⟩ = false := (HIa.out.S.blk8 hgrow8).frozen _
     replace HA := Hid.intro ((hgrow8.block gA HA.out.lt (fun e => HOA.out.n8 e.symm)).trans HA.out)
     refine hKK.out _ _ ⟨kx, HA.out⟩ (fun hS => ?_)
     clear hKK KK
     refine tv 15 ⟨some 132, _, _, _, _, none⟩ (.pointer (some ⟨pm, 8, none⟩)) rfl (by rfl) ?_ hS ?_
     ·intro wy hy
      clear hy
      go_simp
     simp only [pA, pB, pC, pD]
     have hyl : (x.gives ++ [(⟨d, ⟨#[99]⟩, (u2 : Int) - 1, (u3 : Int)⟩ : Aks)]).length = x.gives.length + 1 := by simp
     have HI9 : Hid (Inv p zb pm w { x with gives := x.gives ++ [(⟨d, ⟨#[99]⟩, (u2 : Int) - 1, (u3 : Int)⟩ : Aks)] } (some ⟨b5, 0, none⟩) q5 (some ⟨b6, 0, none⟩) q6 (some ⟨b7, 0, none⟩) q7 (some ⟨g8, 0, none⟩) k8 (k0 + 1 + 1 + 1 + 1 + 1) (wq.setCell ⟨pm, 8, none⟩ (.slice (some ⟨g8, 0, none⟩) (x.gives.length + 1) k8))) := by
      have h := HIa.out.grown8 (ys := x.gives ++ [(⟨d, ⟨#[99]⟩, (u2 : Int) - 1, (u3 : Int)⟩ : Aks)]) (c8 := some ⟨g8, 0, none⟩) (k8 := k8) hgrow8 (by rw [hyl, rvA_app]; simp only [rvAks, List.append_nil]; exact hown8) (by rw [hyl]; exact hblk8) (fun z hz => (List.mem_append.1 hz).elim (HIa.out.S.L.z8 z) (fun e => by rw [List.mem_singleton.1 e]; exact ⟨hds, (by decide : ByteArray.size ⟨#[99]⟩ ≤ 100)⟩))
      rw [hyl] at h
      exact h
     refine wpAnyU_ready (rs := [16]) (by kernel_rfl) (by simp) (AllReadyU.last (o := ⟨none, _, _, _, _, none⟩) rfl (fun KK hKK => ?_))
     go_simp
     refine hKK.out _ _ ?_
     clear hKK KK
     refine wpAnyU_done (by kernel_rfl) ?_ _
     go_wp2_with fail
     go_meet
     exact ⟨{ x with gives := x.gives ++ [(⟨d, ⟨#[99]⟩, (u2 : Int) - 1, (u3 : Int)⟩ : Aks)] }, (some ⟨b5, 0, none⟩), q5, (some ⟨b6, 0, none⟩), q6, (some ⟨b7, 0, none⟩), q7, (some ⟨g8, 0, none⟩), k8, k0 + 1 + 1 + 1 + 1 + 1, HI9, ⟨by show x.wants.length ≤ 5; omega, by show x.runs.length ≤ 5; omega, by show x.asks.length ≤ 5; omega, by show (x.gives ++ [(⟨d, ⟨#[99]⟩, (u2 : Int) - 1, (u3 : Int)⟩ : Aks)]).length ≤ 5; rw [hyl]; omega⟩, by omega⟩
    ·skip
     go_simp
     refine (pick_rd p (k0 + 1 + 1 + 1) 3 _ HI.out.R (by omega) (by omega) (by omega)).mono ?_
     rintro e wn ⟨u2, rfl, hu2, hr, hb, -⟩
     replace HI := Hid.intro (HI.out.bt hb hr)
     refine hKK.out _ _ (HI.out.S.blk.cell rfl) (fun hS => ?_)
     clear hKK KK hb hr
     refine tv 9 ⟨some 126, _, _, _, _, none⟩ (.int .i64 ((u2 : Int) - 1)) rfl (by rfl) ?_ hS ?_
     ·intro wy hy
      clear hy
      first | (go_simp; done) | (go_simp; rw [IntKind.wrap_i64]; omega) | (go_simp; omega)
     simp only [pA, pB, pC, pD]
     refine wpAnyU_ready (rs := [2, 11]) (by kernel_rfl) (by simp) (AllReadyU.cons (o := ⟨some 119, _, _, _, _, none⟩) rfl (fun KK hKK => ?_) (AllReadyU.cons (o := ⟨some 128, _, _, _, _, none⟩) rfl (fun KK hKK => ?_) AllReadyU.nil))
     ·skip
      go_simp
      have HA : Hid (Blk wn.heap.size #[.string ⟨#[]⟩, .string ⟨#[118, 111, 108]⟩, .string ⟨#[122, 122]⟩] 9 (wn.alloc (Obj.cells #[.string ⟨#[]⟩, .string ⟨#[118, 111, 108]⟩, .string ⟨#[122, 122]⟩] 9))) := Blk.alloc _ _ _
      have HOA := Hid.intro (HI.out.new (Nat.le_refl _))
      replace HI := Hid.intro (HI.out.alloc (Obj.cells #[.string ⟨#[]⟩, .string ⟨#[118, 111, 108]⟩, .string ⟨#[122, 122]⟩] 9))
      refine hKK.out _ _ (HI.out.S.blk.cell rfl) (fun hS => ?_)
      clear hKK KK hS
      generalize wn.heap.size = gA at *
      generalize wn.alloc (Obj.cells #[.string ⟨#[]⟩, .string ⟨#[118, 111, 108]⟩, .string ⟨#[122, 122]⟩] 9) = wn at *
      refine wpAnyU_mono (S' := fun wy => wy.cell? ⟨pm, 8, none⟩ = some (.slice (some ⟨b8, 0, none⟩) x.gives.length q8) ∧ Blk gA #[.string ⟨#[]⟩, .string ⟨#[118, 111, 108]⟩, .string ⟨#[122, 122]⟩] 9 wy) (fun _ h => h.1) _ _ _ _ ?_
      have hS : (fun wy => wy.cell? ⟨pm, 8, none⟩ = some (.slice (some ⟨b8, 0, none⟩) x.gives.length q8) ∧ Blk gA #[.string ⟨#[]⟩, .string ⟨#[118, 111, 108]⟩, .string ⟨#[122, 122]⟩] 9 wy) wn := ⟨HI.out.S.blk.cell rfl, HA.out⟩
      obtain ⟨d, hdx, hds⟩ := strAt3 ⟨#[]⟩ ⟨#[118, 111, 108]⟩ ⟨#[122, 122]⟩ u1 hu1 (by decide) (by decide) (by decide)
      have HDX := Hid.intro hdx
      clear hdx
      refine tv 5 ⟨some 122, _, _, _, _, none⟩ (.pointer (some ⟨gA, u1, none⟩)) rfl (by rfl) ?_ hS ?_
      ·intro wy hy
       clear hy
       first | (go_simp; done) | (go_simp; omega) | (go_simp; intro hh; omega)
      simp only [pA, pB, pC, pD]
      refine tv 6 ⟨some 123, _, _, _, _, none⟩ (.string d) rfl (by rfl) ?_ hS ?_
      ·intro wy hy
       have h := id hy
       have h0 := h.2.cell (o := u1) (v := .string d) HDX.out
       clear hy
       go_simp
      simp only [pA, pB, pC, pD]
      refine ru1 11 ⟨some 128, _, _, _, _, none⟩ rfl (fun KK hKK => ?_)
      go_simp
      refine (pick_rd p (k0 + 1 + 1 + 1 + 1) 5 _ HI.out.R (by omega) (by omega) (by omega)).mono ?_
      rintro e wn ⟨u3, rfl, hu3, hr, hb, -⟩
      replace HA := Hid.intro (HA.out.bt hb HA.out.lt (by have := HOA.out.nw; omega))
      replace HI := Hid.intro (HI.out.bt hb hr)
      refine hKK.out _ _ ⟨HI.out.S.blk.cell rfl, HA.out⟩ (fun hS => ?_)
      clear hKK KK hb hr
      refine tv 12 ⟨some 129, _, _, _, _, none⟩ (.agg #[.string d, .string ⟨#[99]⟩, .int .i64 ((u2 : Int) - 1), .int .i64 (u3 : Int)]) rfl (by rfl) ?_ hS ?_
      ·intro wy hy
       clear hy
       go_simp
      simp only [pA, pB, pC, pD]
      refine ru1 13 ⟨some 130, _, _, _, _, none⟩ rfl (fun KK hKK => ?_)
      go_simp
      have NC : Hid (Blk wn.heap.size #[.string d, .string ⟨#[99]⟩, .int .i64 ((u2 : Int) - 1), .int .i64 (u3 : Int)] 57 (wn.alloc (Obj.cells #[.string d, .string ⟨#[99]⟩, .int .i64 ((u2 : Int) - 1), .int .i64 (u3 : Int)] 57))) := Blk.alloc _ _ _
      have HIa := Hid.intro (HI.out.alloc (Obj.cells #[.string d, .string ⟨#[99]⟩, .int .i64 ((u2 : Int) - 1), .int .i64 (u3 : Int)] 57))
      have hzw : zb + 1 ≤ wn.heap.size := HI.out.Z.lt
      replace HA := Hid.intro (HA.out.below ((Below.refl _ _).alloc (Nat.le_refl _) (Obj.cells #[.string d, .string ⟨#[99]⟩, .int .i64 ((u2 : Int) - 1), .int .i64 (u3 : Int)] 57)) HA.out.lt)
      refine hKK.out _ _ ⟨HIa.out.S.blk.cell rfl, HA.out⟩ (fun hS => ?_)
      clear hKK KK HI
      have hzx : zb + 1 ≤ (wn.alloc (Obj.cells #[.string d, .string ⟨#[99]⟩, .int .i64 ((u2 : Int) - 1), .int .i64 (u3 : Int)] 57)).heap.size := HIa.out.Z.lt
      generalize wn.alloc (Obj.cells #[.string d, .string ⟨#[99]⟩, .int .i64 ((u2 : Int) - 1), .int .i64 (u3 : Int)] 57) = wo at *
      generalize wn.heap.size = gN at *
      have HNN : Hid (∀ j u, (rcAks (⟨d, ⟨#[99]⟩, (u2 : Int) - 1, (u3 : Int)⟩ : Aks))[j]? = some u → wo.cell? ((⟨gN, 0, none⟩ : Addr).add j) = some u) := by
       intro j u hj
       rw [Addr.add_mid]
       exact NC.out.rangeA j u hj
      have HN1 : Hid (∀ u ∈ rcAks (⟨d, ⟨#[99]⟩, (u2 : Int) - 1, (u3 : Int)⟩ : Aks), u.oneCell' = true) := fun u hu => rvAks_one [(⟨d, ⟨#[99]⟩, (u2 : Int) - 1, (u3 : Int)⟩ : Aks)] u (by simp only [rvAks, List.append_nil]; exact hu)
      refine ru1 14 ⟨some 131, _, _, _, _, none⟩ rfl (fun KK hKK => ?_)
      rw [if_pos (by rfl)]
      refine wp_append_at (.tmp 118) (.tmp 130) 25 (by rfl) (zb + 1) 57 iA _ 4 48 Try.underlying25 hiA hz0 hz1 hz2 rfl (by decide) _ x.gives.length _ (by rfl) HIa.out.S.L.r8 ⟨gN, 0, none⟩ 1 1 (rcAks (⟨d, ⟨#[99]⟩, (u2 : Int) - 1, (u3 : Int)⟩ : Aks)) (by rfl) (by rfl) HNN.out HN1.out (by unfold maxLen; omega) (by omega) hzx ?_
      intro v' wq hown8 hgrow8 hnil8 hblk8
      have hv8 : v' ≠ .slice none 0 0 := (fun e => by have h9 := (hnil8.1 e).2; cases h9)
      obtain ⟨g8, k8, rfl⟩ := rowf hown8 hv8
      rw [own_blkO (some ⟨b8, 0, none⟩)] at hgrow8 hblk8
      have kx : wq.cell? ⟨pm, 8, none⟩ = some (.slice (some ⟨b8, 0, none⟩) x.gives.length q8) := (HIa.out.S.blk8 hgrow8).cell rfl
      have fx : wq.frozen? ⟨pm, 8, none⟩ = false := (HIa.out.S.blk8 hgrow8).frozen _
      replace HA := Hid.intro ((hgrow8.block gA HA.out.lt (fun e => HOA.out.n8 e.symm)).trans HA.out)
      refine hKK.out _ _ ⟨kx, HA.out⟩ (fun hS => ?_)
      clear hKK KK
      refine tv 15 ⟨some 132, _, _, _, _, none⟩ (.pointer (some ⟨pm, 8, none⟩)) rfl (by rfl) ?_ hS ?_
      ·intro wy hy
       clear hy
       go_simp
      simp only [pA, pB, pC, pD]
      have hyl : (x.gives ++ [(⟨d, ⟨#[99]⟩, (u2 : Int) - 1, (u3 : Int)⟩ : Aks)]).length = x.gives.length + 1 := by simp
      have HI9 : Hid (Inv p zb pm w { x with gives := x.gives ++ [(⟨d, ⟨#[99]⟩, (u2 : Int) - 1, (u3 : Int)⟩ : Aks)] } (some ⟨b5, 0, none⟩) q5 (some ⟨b6, 0, none⟩) q6 (some ⟨b7, 0, none⟩) q7 (some ⟨g8, 0, none⟩) k8 (k0 + 1 + 1 + 1 + 1 + 1) (wq.setCell ⟨pm, 8, none⟩ (.slice (some ⟨g8, 0, none⟩) (x.gives.length + 1) k8))) := by
       have h := HIa.out.grown8 (ys := x.gives ++ [(⟨d, ⟨#[99]⟩, (u2 : Int) - 1, (u3 : Int)⟩ : Aks)]) (c8 := some ⟨g8, 0, none⟩) (k8 := k8) hgrow8 (by rw [hyl, rvA_app]; simp only [rvAks, List.append_nil]; exact hown8) (by rw [hyl]; exact hblk8) (fun z hz => (List.mem_append.1 hz).elim (HIa.out.S.L.z8 z) (fun e => by rw [List.mem_singleton.1 e]; exact ⟨hds, (by decide : ByteArray.size ⟨#[99]⟩ ≤ 100)⟩))
       rw [hyl] at h
       exact h
      refine wpAnyU_ready (rs := [16]) (by kernel_rfl) (by simp) (AllReadyU.last (o := ⟨none, _, _, _, _, none⟩) rfl (fun KK hKK => ?_))
      go_simp
      refine hKK.out _ _ ?_
      clear hKK KK
      refine wpAnyU_done (by kernel_rfl) ?_ _
      go_wp2_with fail
      go_meet
      exact ⟨{ x with gives := x.gives ++ [(⟨d, ⟨#[99]⟩, (u2 : Int) - 1, (u3 : Int)⟩ : Aks)] }, (some ⟨b5, 0, none⟩), q5, (some ⟨b6, 0, none⟩), q6, (some ⟨b7, 0, none⟩), q7, (some ⟨g8, 0, none⟩), k8, k0 + 1 + 1 + 1 + 1 + 1, HI9, ⟨by show x.wants.length ≤ 5; omega, by show x.runs.length ≤ 5; omega, by show x.asks.length ≤ 5; omega, by show (x.gives ++ [(⟨d, ⟨#[99]⟩, (u2 : Int) - 1, (u3 : Int)⟩ : Aks)]).length ≤ 5; rw [hyl]; omega⟩, by omega⟩
     ·skip
      go_simp
      refine (pick_rd p (k0 + 1 + 1 + 1 + 1) 5 _ HI.out.R (by omega) (by omega) (by omega)).mono ?_
      rintro e wn ⟨u3, rfl, hu3, hr, hb, -⟩
      replace HI := Hid.intro (HI.out.bt hb hr)
      refine hKK.out _ _ (HI.out.S.blk.cell rfl) (fun hS => ?_)
      clear hKK KK hb hr
      refine ru1 2 ⟨some 119, _, _, _, _, none⟩ rfl (fun KK hKK => ?_)
      go_simp
      have HA : Hid (Blk wn.heap.size #[.string ⟨#[]⟩, .string ⟨#[118, 111, 108]⟩, .string ⟨#[122, 122]⟩] 9 (wn.alloc (Obj.cells #[.string ⟨#[]⟩, .string ⟨#[118, 111, 108]⟩, .string ⟨#[122, 122]⟩] 9))) := Blk.alloc _ _ _
      have HOA := Hid.intro (HI.out.new (Nat.le_refl _))
      replace HI := Hid.intro (HI.out.alloc (Obj.cells #[.string ⟨#[]⟩, .string ⟨#[118, 111, 108]⟩, .string ⟨#[122, 122]⟩] 9))
      refine hKK.out _ _ (HI.out.S.blk.cell rfl) (fun hS => ?_)
      clear hKK KK hS
      generalize wn.heap.size = gA at *
      generalize wn.alloc (Obj.cells #[.string ⟨#[]⟩, .string ⟨#[118, 111, 108]⟩, .string ⟨#[122, 122]⟩] 9) = wn at *
      refine wpAnyU_mono (S' := fun wy => wy.cell? ⟨pm, 8, none⟩ = some (.slice (some ⟨b8, 0, none⟩) x.gives.length q8) ∧ Blk gA #[.string ⟨#[]⟩, .string ⟨#[118, 111, 108]⟩, .string ⟨#[122, 122]⟩] 9 wy) (fun _ h => h.1) _ _ _ _ ?_
      have hS : (fun wy => wy.cell? ⟨pm, 8, none⟩ = some (.slice (some ⟨b8, 0, none⟩) x.gives.length q8) ∧ Blk gA #[.string ⟨#[]⟩, .string ⟨#[118, 111, 108]⟩, .string ⟨#[122, 122]⟩] 9 wy) wn := ⟨HI.out.S.blk.cell rfl, HA.out⟩
      obtain ⟨d, hdx, hds⟩ := strAt3 ⟨#[]⟩ ⟨#[118, 111, 108]⟩ ⟨#[122, 122]⟩ u1 hu1 (by decide) (by decide) (by decide)
      have HDX := Hid.intro hdx
      clear hdx
      refine tv 5 ⟨some 122, _, _, _, _, none⟩ (.pointer (some ⟨gA, u1, none⟩)) rfl (by rfl) ?_ hS ?_
      ·intro wy hy
       clear hy
       first | (go_simp; done) | (go_simp; omega) | (go_simp; intro hh; omega)
      simp only [pA, pB, pC, pD]
      refine tv 6 ⟨some 123, _, _, _, _, none⟩ (.string d) rfl (by rfl) ?_ hS ?_
      ·intro wy hy
       have h := id hy
       have h0 := h.2.cell (o := u1) (v := .string d) HDX.out
       clear hy
       go_simp
      simp only [pA, pB, pC, pD]
      refine tv 12 ⟨some 129, _, _, _, _, none⟩ (.agg #[.string d, .string ⟨#[99]⟩, .int .i64 ((u2 : Int) - 1), .int .i64 (u3 : Int)]) rfl (by rfl) ?_ hS ?_
      ·intro wy hy
       clear hy
       go_simp
      simp only [pA, pB, pC, pD]
      refine ru1 13 ⟨some 130, _, _, _, _, none⟩ rfl (fun KK hKK => ?_)
      go_simp
      have NC : Hid (Blk wn.heap.size #[.string d, .string ⟨#[99]⟩, .int .i64 ((u2 : Int) - 1), .int .i64 (u3 : Int)] 57 (wn.alloc (Obj.cells #[.string d, .string ⟨#[99]⟩, .int .i64 ((u2 : Int) - 1), .int .i64 (u3 : Int)] 57))) := Blk.alloc _ _ _
      have HIa := Hid.intro (HI.out.alloc (Obj.cells #[.string d, .string ⟨#[99]⟩, .int .i64 ((u2 : Int) - 1), .int .i64 (u3 : Int)] 57))
      have hzw : zb + 1 ≤ wn.heap.size := HI.out.Z.lt
      replace HA := Hid.intro (HA.out.below ((Below.refl _ _).alloc (Nat.le_refl _) (Obj.cells #[.string d, .string ⟨#[99]⟩, .int .i64 ((u2 : Int) - 1), .int .i64 (u3 : Int)] 57)) HA.out.lt)
      refine hKK.out _ _ ⟨HIa.out.S.blk.cell rfl, HA.out⟩ (fun hS => ?_)
      clear hKK KK HI
      have hzx : zb + 1 ≤ (wn.alloc (Obj.cells #[.string d, .string ⟨#[99]⟩, .int .i64 ((u2 : Int) - 1), .int .i64 (u3 : Int)] 57)).heap.size := HIa.out.Z.lt
      generalize wn.alloc (Obj.cells #[.string d, .string ⟨#[99]⟩, .int .i64 ((u2 : Int) - 1), .int .i64 (u3 : Int)] 57) = wo at *
      generalize wn.heap.size = gN at *
      have HNN : Hid (∀ j u, (rcAks (⟨d, ⟨#[99]⟩, (u2 : Int) - 1, (u3 : Int)⟩ : Aks))[j]? = some u → wo.cell? ((⟨gN, 0, none⟩ : Addr).add j) = some u) := by
       intro j u hj
       rw [Addr.add_mid]
       exact NC.out.rangeA j u hj
      have HN1 : Hid (∀ u ∈ rcAks (⟨d, ⟨#[99]⟩, (u2 : Int) - 1, (u3 : Int)⟩ : Aks), u.oneCell' = true) := fun u hu => rvAks_one [(⟨d, ⟨#[99]⟩, (u2 : Int) - 1, (u3 : Int)⟩ : Aks)] u (by simp only [rvAks, List.append_nil]; exact hu)
      refine ru1 14 ⟨some 131, _, _, _, _, none⟩ rfl (fun KK hKK => ?_)
      rw [if_pos (by rfl)]
      refine wp_append_at (.tmp 118) (.tmp 130) 25 (by rfl) (zb + 1) 57 iA _ 4 48 Try.underlying25 hiA hz0 hz1 hz2 rfl (by decide) _ x.gives.length _ (by rfl) HIa.out.S.L.r8 ⟨gN, 0, none⟩ 1 1 (rcAks (⟨d, ⟨#[99]⟩, (u2 : Int) - 1, (u3 : Int)⟩ : Aks)) (by rfl) (by rfl) HNN.out HN1.out (by unfold maxLen; omega) (by omega) hzx ?_
      intro v' wq hown8 hgrow8 hnil8 hblk8
      have hv8 : v' ≠ .slice none 0 0 := (fun e => by have h9 := (hnil8.1 e).2; cases h9)
      obtain ⟨g8, k8, rfl⟩ := rowf hown8 hv8
      rw [own_blkO (some ⟨b8, 0, none⟩)] at hgrow8 hblk8
      have kx : wq.cell? ⟨pm, 8, none⟩ = some (.slice (some ⟨b8, 0, none⟩) x.gives.length q8) := (HIa.out.S.blk8 hgrow8).cell rfl
      have fx : wq.frozen? ⟨pm, 8, none⟩ = false := (HIa.out.S.blk8 hgrow8).frozen _
      replace HA := Hid.intro ((hgrow8.block gA HA.out.lt (fun e => HOA.out.n8 e.symm)).trans HA.out)
      refine hKK.out _ _ ⟨kx, HA.out⟩ (fun hS => ?_)
      clear hKK KK
      refine tv 15 ⟨some 132, _, _, _, _, none⟩ (.pointer (some ⟨pm, 8, none⟩)) rfl (by rfl) ?_ hS ?_
      ·intro wy hy
       clear hy
       go_simp
      simp only [pA, pB, pC, pD]
      have hyl : (x.gives ++ [(⟨d, ⟨#[99]⟩, (u2 : Int) - 1, (u3 : Int)⟩ : Aks)]).length = x.gives.length + 1 := by simp
      have HI9 : Hid (Inv p zb pm w { x with gives := x.gives ++ [(⟨d, ⟨#[99]⟩, (u2 : Int) - 1, (u3 : Int)⟩ : Aks)] } (some ⟨b5, 0, none⟩) q5 (some ⟨b6, 0, none⟩) q6 (some ⟨b7, 0, none⟩) q7 (some ⟨g8, 0, none⟩) k8 (k0 + 1 + 1 + 1 + 1 + 1) (wq.setCell ⟨pm, 8, none⟩ (.slice (some ⟨g8, 0, none⟩) (x.gives.length + 1) k8))) := by
       have h := HIa.out.grown8 (ys := x.gives ++ [(⟨d, ⟨#[99]⟩, (u2 : Int) - 1, (u3 : Int)⟩ : Aks)]) (c8 := some ⟨g8, 0, none⟩) (k8 := k8) hgrow8 (by rw [hyl, rvA_app]; simp only [rvAks, List.append_nil]; exact hown8) (by rw [hyl]; exact hblk8) (fun z hz => (List.mem_append.1 hz).elim (HIa.out.S.L.z8 z) (fun e => by rw [List.mem_singleton.1 e]; exact ⟨hds, (by decide : ByteArray.size ⟨#[99]⟩ ≤ 100)⟩))
       rw [hyl] at h
       exact h
      refine wpAnyU_ready (rs := [16]) (by kernel_rfl) (by simp) (AllReadyU.last (o := ⟨none, _, _, _, _, none⟩) rfl (fun KK hKK => ?_))
      go_simp
      refine hKK.out _ _ ?_
      clear hKK KK
      refine wpAnyU_done (by kernel_rfl) ?_ _
      go_wp2_with fail
      go_meet
      exact ⟨{ x with gives := x.gives ++ [(⟨d, ⟨#[99]⟩, (u2 : Int) - 1, (u3 : Int)⟩ : Aks)] }, (some ⟨b5, 0, none⟩), q5, (some ⟨b6, 0, none⟩), q6, (some ⟨b7, 0, none⟩), q7, (some ⟨g8, 0, none⟩), k8, k0 + 1 + 1 + 1 + 1 + 1, HI9, ⟨by show x.wants.length ≤ 5; omega, by show x.runs.length ≤ 5; omega, by show x.asks.length ≤ 5; omega, by show (x.gives ++ [(⟨d, ⟨#[99]⟩, (u2 : Int) - 1, (u3 : Int)⟩ : Aks)]).length ≤ 5; rw [hyl]; omega⟩, by omega⟩
  ·skip
   go_upto_region 27 with fail
   refine wp_region_until (S := fun wy => wy.cell? ⟨pm, 6, none⟩ = some (.slice (some ⟨b6, 0, none⟩) x.runs.length q6)) 10 (by kernel_rfl) (HI6.out.drew.S.blk.cell rfl) (fun hS => ?_)
   have HI := Hid.intro HI6.out.drew
   clear HI6
   generalize w6.drew = wn at *
   refine tv 0 ⟨some 135, _, _, _, _, none⟩ (.pointer (some ⟨pm, 6, none⟩)) rfl (by rfl) ?_ hS ?_
   ·intro wy hy
    clear hy
    go_simp
   simp only [pA, pB, pC, pD]
   refine tv 1 ⟨some 136, _, _, _, _, none⟩ (.slice (some ⟨b6, 0, none⟩) x.runs.length q6) rfl (by rfl) ?_ hS ?_
   ·intro wy hy
    have c6 := id hy
    clear hy
    go_simp
   simp only [pA, pB, pC, pD]
   refine tv 2 ⟨some 137, _, _, _, _, none⟩ (.agg #[.string ⟨#[122, 122]⟩, .int .i64 1, .string ⟨#[]⟩, .int .i64 0, .int .i64 0, .int .i64 0, .int .i64 0]) rfl (by rfl) ?_ hS ?_
   ·intro wy hy
    clear hy
    go_simp
   simp only [pA, pB, pC, pD]
   refine tv 3 ⟨some 138, _, _, _, _, none⟩ (.pointer (some ⟨p, 0, none⟩)) rfl (by rfl) ?_ hS ?_
   ·intro wy hy
    clear hy
    go_simp
   simp only [pA, pB, pC, pD]
   refine ru1 4 ⟨some 139, _, _, _, _, none⟩ rfl (fun KK hKK => ?_)
   go_simp
   refine (pick_rd p (k0 + 1 + 1) 6 _ HI.out.R (by omega) (by omega) (by omega)).mono ?_
   rintro e wn ⟨u1, rfl, hu1, hr, hb, -⟩
   replace HI := Hid.intro (HI.out.bt hb hr)
   refine hKK.out _ _ (HI.out.S.blk.cell rfl) (fun hS => ?_)
   clear hKK KK hb hr
   refine tv 5 ⟨some 140, _, _, _, _, none⟩ (.int .i64 (1 + (u1 : Int))) rfl (by rfl) ?_ hS ?_
   ·intro wy hy
    clear hy
    first | (go_simp; done) | (go_simp; rw [IntKind.wrap_i64]; omega) | (go_simp; omega)
   simp only [pA, pB, pC, pD]
   refine tv 6 ⟨some 141, _, _, _, _, none⟩ (.agg #[.string ⟨#[122, 122]⟩, .int .i64 1, .string ⟨#[]⟩, .int .i64 0, .int .i64 0, .int .i64 0, .int .i64 0, .int .i64 (1 + (u1 : Int)), .int .i64 0, .int .i64 0, .int .i64 0]) rfl (by rfl) ?_ hS ?_
   ·intro wy hy
    clear hy
    go_simp
   simp only [pA, pB, pC, pD]
   refine ru1 7 ⟨some 142, _, _, _, _, none⟩ rfl (fun KK hKK => ?_)
   go_simp
   have NC : Hid (Blk wn.heap.size #[.string ⟨#[122, 122]⟩, .int .i64 1, .string ⟨#[]⟩, .int .i64 0, .int .i64 0, .int .i64 0, .int .i64 0, .int .i64 (1 + (u1 : Int)), .int .i64 0, .int .i64 0, .int .i64 0] 38 (wn.alloc (Obj.cells #[.string ⟨#[122, 122]⟩, .int .i64 1, .string ⟨#[]⟩, .int .i64 0, .int .i64 0, .int .i64 0, .int .i64 0, .int .i64 (1 + (u1 : Int)), .int .i64 0, .int .i64 0, .int .i64 0] 38))) := Blk.alloc _ _ _
   have HIa := Hid.intro (HI.out.alloc (Obj.cells #[.string ⟨#[122, 122]⟩, .int .i64 1, .string ⟨#[]⟩, .int .i64 0, .int .i64 0, .int .i64 0, .int .i64 0, .int .i64 (1 + (u1 : Int)), .int .i64 0, .int .i64 0, .int .i64 0] 38))
   have hzw : zb + 1 ≤ wn.heap.size := HI.out.Z.lt
   skip
   refine hKK.out _ _ (HIa.out.S.blk.cell rfl) (fun hS => ?_)
   clear hKK KK HI
   have hzx : zb + 1 ≤ (wn.alloc (Obj.cells #[.string ⟨#[122, 122]⟩, .int .i64 1, .string ⟨#[]⟩, .int .i64 0, .int .i64 0, .int .i64 0, .int .i64 0, .int .i64 (1 + (u1 : Int)), .int .i64 0, .int .i64 0, .int .i64 0] 38)).heap.size := HIa.out.Z.lt
   generalize wn.alloc (Obj.cells #[.string ⟨#[122, 122]⟩, .int .i64 1, .string ⟨#[]⟩, .int .i64 0, .int .i64 0, .int .i64 0, .int .i64 0, .int .i64 (1 + (u1 : Int)), .int .i64 0, .int .i64 0, .int .i64 0] 38) = wo at *
   generalize wn.heap.size = gN at *
   have HNN : Hid (∀ j u, (rcRn (⟨⟨⟨#[122, 122]⟩, 1, ⟨#[]⟩, 0, 0, 0, 0⟩, 1 + (u1 : Int), 0, 0, 0⟩ : Rn))[j]? = some u → wo.cell? ((⟨gN, 0, none⟩ : Addr).add j) = some u) := by
    intro j u hj
    rw [Addr.add_mid]
    exact NC.out.rangeA j u hj
   have HN1 : Hid (∀ u ∈ rcRn (⟨⟨⟨#[122, 122]⟩, 1, ⟨#[]⟩, 0, 0, 0, 0⟩, 1 + (u1 : Int), 0, 0, 0⟩ : Rn), u.oneCell' = true) := fun u hu => rvRn_one [(⟨⟨⟨#[122, 122]⟩, 1, ⟨#[]⟩, 0, 0, 0, 0⟩, 1 + (u1 : Int), 0, 0, 0⟩ : Rn)] u (by simp only [rvRn, List.append_nil]; exact hu)
   refine ru1 8 ⟨some 143, _, _, _, _, none⟩ rfl (fun KK hKK => ?_)
   rw [if_pos (by rfl)]
   refine wp_append_at (.tmp 136) (.tmp 142) 24 (by rfl) (zb + 1) 38 iR _ 11 104 Try.underlying24 hiR hy0 hy1 hy2 rfl (by decide) _ x.runs.length _ (by rfl) HIa.out.S.L.r6 ⟨gN, 0, none⟩ 1 1 (rcRn (⟨⟨⟨#[122, 122]⟩, 1, ⟨#[]⟩, 0, 0, 0, 0⟩, 1 + (u1 : Int), 0, 0, 0⟩ : Rn)) (by rfl) (by rfl) HNN.out HN1.out (by unfold maxLen; omega) (by omega) hzx ?_
   intro v' wq hown8 hgrow8 hnil8 hblk8
   have hv8 : v' ≠ .slice none 0 0 := (fun e => by have h9 := (hnil8.1 e).2; cases h9)
   obtain ⟨g8, k8, rfl⟩ := rowf hown8 hv8
   rw [own_blkO (some ⟨b6, 0, none⟩)] at hgrow8 hblk8
   have kx : wq.cell? ⟨pm, 6, none⟩ = some (.slice (some ⟨b6, 0, none⟩) x.runs.length q6) := (HIa.out.S.blk6 hgrow8).cell rfl
   have fx : wq.frozen? ⟨pm, 6, none⟩ = false := (HIa.out.S.blk6 hgrow8).frozen _
   skip
   refine hKK.out _ _ kx (fun hS => ?_)
   clear hKK KK
   refine tv 9 ⟨some 144, _, _, _, _, none⟩ (.pointer (some ⟨pm, 6, none⟩)) rfl (by rfl) ?_ hS ?_
   ·intro wy hy
    clear hy
    go_simp
   simp only [pA, pB, pC, pD]
   have hyl : (x.runs ++ [(⟨⟨⟨#[122, 122]⟩, 1, ⟨#[]⟩, 0, 0, 0, 0⟩, 1 + (u1 : Int), 0, 0, 0⟩ : Rn)]).length = x.runs.length + 1 := by simp
   have HI9 : Hid (Inv p zb pm w { x with runs := x.runs ++ [(⟨⟨⟨#[122, 122]⟩, 1, ⟨#[]⟩, 0, 0, 0, 0⟩, 1 + (u1 : Int), 0, 0, 0⟩ : Rn)] } (some ⟨b5, 0, none⟩) q5 (some ⟨g8, 0, none⟩) k8 (some ⟨b7, 0, none⟩) q7 (some ⟨b8, 0, none⟩) q8 (k0 + 1 + 1 + 1) (wq.setCell ⟨pm, 6, none⟩ (.slice (some ⟨g8, 0, none⟩) (x.runs.length + 1) k8))) := by
    have h := HIa.out.grown6 (ys := x.runs ++ [(⟨⟨⟨#[122, 122]⟩, 1, ⟨#[]⟩, 0, 0, 0, 0⟩, 1 + (u1 : Int), 0, 0, 0⟩ : Rn)]) (c6 := some ⟨g8, 0, none⟩) (k6 := k8) hgrow8 (by rw [hyl, rvR_app]; simp only [rvRn, List.append_nil]; exact hown8) (by rw [hyl]; exact hblk8) (fun z hz => (List.mem_append.1 hz).elim (HIa.out.S.L.z6 z) (fun e => by rw [List.mem_singleton.1 e]; exact ⟨(by decide : ByteArray.size ⟨#[122, 122]⟩ ≤ 100), (by decide : ByteArray.size ⟨#[]⟩ ≤ 100)⟩))
    rw [hyl] at h
    exact h
   refine wpAnyU_ready (rs := [10]) (by kernel_rfl) (by simp) (AllReadyU.last (o := ⟨none, _, _, _, _, none⟩) rfl (fun KK hKK => ?_))
   go_simp
   refine hKK.out _ _ ?_
   clear hKK KK
   refine wpAnyU_done (by kernel_rfl) ?_ _
   go_wp2_with fail
   go_meet
   exact ⟨{ x with runs := x.runs ++ [(⟨⟨⟨#[122, 122]⟩, 1, ⟨#[]⟩, 0, 0, 0, 0⟩, 1 + (u1 : Int), 0, 0, 0⟩ : Rn)] }, (some ⟨b5, 0, none⟩), q5, (some ⟨g8, 0, none⟩), k8, (some ⟨b7, 0, none⟩), q7, (some ⟨b8, 0, none⟩), q8, k0 + 1 + 1 + 1, HI9, ⟨by show x.wants.length ≤ 5; omega, by show (x.runs ++ [(⟨⟨⟨#[122, 122]⟩, 1, ⟨#[]⟩, 0, 0, 0, 0⟩, 1 + (u1 : Int), 0, 0, 0⟩ : Rn)]).length ≤ 5; rw [hyl]; omega, by show x.asks.length ≤ 5; omega, by show x.gives.length ≤ 5; omega⟩, by omega⟩
  ·skip
   have k7 : (w6.alloc (Obj.cells #[] 57)).cell? ⟨pm, 7, none⟩ = some (.slice (some ⟨b7, 0, none⟩) x.asks.length q7) := (World.cell?_alloc_lt _ _ _ HI6.out.pl).trans (HI6.out.S.blk.cell rfl)
   have HIe := Hid.intro (HI6.out.alloc (Obj.cells #[] 57))
   have HN7 : Hid (∀ ad, (some ⟨b7, 0, none⟩ : Option Addr) = some ad → ∀ j u, (rvAks x.asks)[j]? = some u → (w6.alloc (Obj.cells #[] 57)).cell? (ad.add j) = some u) := fun ad e j u hu => by
    cases e
    rw [Addr.add_mid]
    have hl := lt_of_some hu
    rw [rvAks_len] at hl
    have := HIe.out.S.L.r7.cellAt j hl
    rw [Nat.zero_add, this, hu]
   have hpl6 : pm < w6.heap.size := HI6.out.pl
   have hzl6 : zb + 1 ≤ w6.heap.size := HI6.out.Z.lt
   go_wp2_with (at_builtin; refine wpList_append_opt rfl _ _ 25 rfl w6.heap.size 57 iA _ 4 48 Try.underlying25 hiA hz0 hz1 hz2 rfl (by decide) _ _ _ rfl (World.ownsRow_made w6 #[] 0 (Nat.le_refl _) (Nat.zero_le _) rfl) (some ⟨b7, 0, none⟩) x.asks.length q7 (rvAks x.asks) rfl (fun e => by cases e) (by rw [rvAks_len]) HN7.out (rvAks_one x.asks) (by unfold maxLen; omega) (by omega) (by simp) ?_; intro v' w7 hown hgrow hnil; have hv : v' ≠ .slice none 0 0 := (fun e => by have h9 := (hnil.1 e).1; cases h9); have hown' : w7.ownsRow w6.heap.size 57 4 v' x.asks.length (rvAks x.asks) := (by simpa using hown); obtain ⟨g8, k8, rfl⟩ := rowf hown' hv; have hb : Below w6.heap.size w6 w7 := ((Below.refl _ w6).alloc (Nat.le_refl _) _).grown hgrow (by simp) (by intro k hk; cases hk; exact Nat.le_refl _); have HI7 := Hid.intro (HI6.out.below hb); have kx : w7.cell? ⟨pm, 8, none⟩ = some (.slice (some ⟨b8, 0, none⟩) x.gives.length q8) := HI7.out.S.blk.cell rfl; have fx : w7.frozen? ⟨pm, 8, none⟩ = false := HI7.out.S.blk.frozen _; have HOW := Hid.intro hown'; clear hown hown' hgrow hnil hv hb)
   have HA5 := apt_new HI6.out.S.L.r5 HOW.out (Nat.le_refl _)
   have HA6 := apt_new HI6.out.S.L.r6 HOW.out (Nat.le_refl _)
   have HA7 := apt_new HI6.out.S.L.r7 HOW.out (Nat.le_refl _)
   have HN8 : blkO (some ⟨g8, 0, none⟩) ≠ some pm := fun e => by have := own_block HOW.out pm (by rw [own_blkO]; exact e); omega
   have HI9 : Hid (Inv p zb pm w { x with gives := x.asks } (some ⟨b5, 0, none⟩) q5 (some ⟨b6, 0, none⟩) q6 (some ⟨b7, 0, none⟩) q7 (some ⟨g8, 0, none⟩) k8 (k0 + 1 + 1) (w7.setCell ⟨pm, 8, none⟩ (.slice (some ⟨g8, 0, none⟩) x.asks.length k8))) := HI7.out.gives (ys := x.asks) (HOW.out.mono hzl6) HA5 HA6 HA7 HI7.out.S.L.z7 HN8
   go_meet
   exact ⟨{ x with gives := x.asks }, (some ⟨b5, 0, none⟩), q5, (some ⟨b6, 0, none⟩), q6, (some ⟨b7, 0, none⟩), q7, (some ⟨g8, 0, none⟩), k8, k0 + 1 + 1, HI9, ⟨by show x.wants.length ≤ 5; omega, by show x.runs.length ≤ 5; omega, by show x.asks.length ≤ 5; omega, by show x.asks.length ≤ 5; omega⟩, by omega⟩
 case rest =>
  obtain ⟨y, b5, q5, b6, q6, b7, q7, b8, q8, K, HI9, hfy, hK⟩ := hcut
  clear HI6
  generalize wc = w9 at *
  obtain ⟨fl, fr, ft, fc⟩ := HI9.out.fin
  have FL := Hid.intro fl
  have FR := Hid.intro fr
  have FT := Hid.intro ft
  have FC := Hid.intro fc
  clear fl fr ft fc
  obtain ⟨wf, HE⟩ : ∃ wf, Hid (wf = w9.setCells zb 0 [.string y.name, .bool y.up, .int .i64 y.clock, .bool y.known, .int .i64 y.seen, .slice b5 y.wants.length q5, .slice b6 y.runs.length q6, .slice b7 y.asks.length q7, .slice b8 y.gives.length q8]) := ⟨_, rfl⟩
  rw [← HE.out] at FL FR FT FC
  have HTS := Hid.intro HI9.out.Z.there
  go_wp2_with (first | (refine wpList_load_mid rfl 27 _ rfl pm 0 rfl [.string y.name, .bool y.up, .int .i64 y.clock, .bool y.known, .int .i64 y.seen, .slice b5 y.wants.length q5, .slice b6 y.runs.length q6, .slice b7 y.asks.length q7, .slice b8 y.gives.length q8] _ HI9.out.S.blk.rangeA Try.underlying27 rfl isz_Mte ?_) | (refine wpList_store_to rfl 27 _ _ rfl zb 0 #[.string y.name, .bool y.up, .int .i64 y.clock, .bool y.known, .int .i64 y.seen, .slice b5 y.wants.length q5, .slice b6 y.runs.length q6, .slice b7 y.asks.length q7, .slice b8 y.gives.length q8] rfl rfl HTS.out isz_Mte (by simp [Value.oneCell']) wf HE.out ?_))
  exact bodyPost_ret (results_cell_mid rfl _ _ zb [.string y.name, .bool y.up, .int .i64 y.clock, .bool y.known, .int .i64 y.seen, .slice b5 y.wants.length q5, .slice b6 y.runs.length q6, .slice b7 y.asks.length q7, .slice b8 y.gives.length q8] _ rfl FC.out Try.underlying27 rfl isz_Mte) rfl ⟨y, b5, q5, b6, q6, b7, q7, b8, q8, K, rfl, FL.out, hfy, hK, FR.out, FT.out⟩

end Go.Proofs.Ytnifmiacobfplaa
