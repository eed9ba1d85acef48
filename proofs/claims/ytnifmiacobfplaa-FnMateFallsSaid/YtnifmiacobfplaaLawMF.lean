import Derived.Test.YtnifmiacobfplaaTkw
import Derived.Test.YtnifmiacobfplaaDfa
import Derived.Test.YtnifmiacobfplaaLkm
import Derived.Test.YtnifmiacobfplaaDs0
import Derived.Deep.DeepCutAuto
namespace Go.Proofs.Ytnifmiacobfplaa
open Go.RowKit

set_option maxHeartbeats 40000000 in
set_option maxRecDepth 100000 in
theorem law_any (xs : List Nat) (a : Option Addr) (cap : Nat) (w : World) (hin : ∀ (k x : Nat), xs[k]? = some x → ∃ b o, a = some ⟨b, o, none⟩ ∧ w.cell? ⟨b, o + k, none⟩ = some (.int .u8 (x : Int)) ∧ x < 256 ∧ b < w.heap.size) (hc : xs.length ≤ cap) :
  Calls Try.prog 3 #[.slice a xs.length cap] w fun e w' => e = .returned (.bool true) ∧ Below w.heap.size w w' := by
 have hB0 : Below w.heap.size w w := Below.refl _ _
 obtain ⟨i0, hi, hz0, hz1, hz2⟩ := info_parts info_Rn
 have HI := Hid.intro hin
 clear hin
 by_cases hl : 1048576 < xs.length
 ·have hl' : (1048576 : Int) < (xs.length : Int) := by omega
  go_enter Try.func3, Try.ntmps3
  go_wp2_with fail
  go_ret
  exact ⟨rfl, hB0⟩
 have hl1 : xs.length ≤ 1048576 := by omega
 have hl2 : (xs.length : Int) ≤ 1048576 := by omega
 clear hl
 go_enter Try.func3, Try.ntmps3
 go_wp2_with fail
 refine (drawFall_any xs a cap _ HI.out hl1 hc).mono ?_
 rintro e w1 ⟨x, b5, q5, b6, q6, b7, q7, b8, q8, m, rfl, hl, hf, hB1⟩
 clear HI hl1 hl2 hc hB0
 have KX1 := Hid.intro (KM.of_l hl hf)
 have L1 := Hid.intro hl
 have HFX := Hid.intro hf
 have hxn := hl.n0
 have HXZ := Hid.intro hl.z6
 have hx6 := hf.l6
 clear hl hf
 have hba : Below w1.heap.size w1 (w1.alloc (Obj.cells #[.string x.name, .bool x.up, .int .i64 x.clock, .bool x.known, .int .i64 x.seen, .slice b5 x.wants.length q5, .slice b6 x.runs.length q6, .slice b7 x.asks.length q7, .slice b8 x.gives.length q8] 27)) := (Below.refl _ _).alloc (Nat.le_refl _) _
 have PX2 : Hid (Blk w1.heap.size #[.string x.name, .bool x.up, .int .i64 x.clock, .bool x.known, .int .i64 x.seen, .slice b5 x.wants.length q5, .slice b6 x.runs.length q6, .slice b7 x.asks.length q7, .slice b8 x.gives.length q8] 27 (w1.alloc (Obj.cells #[.string x.name, .bool x.up, .int .i64 x.clock, .bool x.known, .int .i64 x.seen, .slice b5 x.wants.length q5, .slice b6 x.runs.length q6, .slice b7 x.asks.length q7, .slice b8 x.gives.length q8] 27))) := Blk.alloc _ _ _
 have KX2 := Hid.intro (KX1.out.below hba (Nat.le_refl _))
 have L2 := Hid.intro (L1.out.same (fun b _ h => hba.block b h))
 clear L1
 have hB2 := hB1.trans (hba.mono hB1.size)
 clear KX1 hB1 hba
 go_upto_region 4 with fail
 generalize w1.alloc (Obj.cells #[.string x.name, .bool x.up, .int .i64 x.clock, .bool x.known, .int .i64 x.seen, .slice b5 x.wants.length q5, .slice b6 x.runs.length q6, .slice b7 x.asks.length q7, .slice b8 x.gives.length q8] 27) = w2 at *
 generalize w1.heap.size = pm at *
 go_wp2_with (refine wpList_load_mid rfl 27 _ rfl pm 0 rfl [.string x.name, .bool x.up, .int .i64 x.clock, .bool x.known, .int .i64 x.seen, .slice b5 x.wants.length q5, .slice b6 x.runs.length q6, .slice b7 x.asks.length q7, .slice b8 x.gives.length q8] _ PX2.out.rangeA Try.underlying27 rfl isz_Mte ?_)
 refine (implFall_ok x b5 q5 b6 q6 b7 q7 b8 q8 m _ _ KX2.out.sv KX2.out.nl KX2.out.sz).mono ?_
 rintro e w3 ⟨y, d5, g5, d6, g6, d7, g7, d8, g8, hy, rfl, hg, hb, hok⟩
 have HY := Hid.intro hy
 have hys : MSz y := by rw [hy]; exact fall_sz m hxn HXZ.out hx6
 have KY3 := Hid.intro (KM.of_g hg hok hys)
 have HFY : Hid (Few y 20) := by show Few _ _; rw [hy]; exact fall_few HFX.out
 clear hg hok hy
 have KX3 := Hid.intro (KX2.out.below hb (Nat.le_refl _))
 have PX3 := Hid.intro (PX2.out.below hb PX2.out.lt)
 have L3 := Hid.intro (L2.out.same (fun b _ h => hb.block b h))
 clear L2
 have hB3 := hB2.trans (hb.mono hB2.size)
 clear KX2 PX2 hB2 hb
 generalize w2.heap.size = ly at *
 have hba : Below w3.heap.size w3 (w3.alloc (Obj.cells #[.string y.name, .bool y.up, .int .i64 y.clock, .bool y.known, .int .i64 y.seen, .slice d5 y.wants.length g5, .slice d6 y.runs.length g6, .slice d7 y.asks.length g7, .slice d8 y.gives.length g8] 27)) := (Below.refl _ _).alloc (Nat.le_refl _) _
 have PY4 : Hid (Blk w3.heap.size #[.string y.name, .bool y.up, .int .i64 y.clock, .bool y.known, .int .i64 y.seen, .slice d5 y.wants.length g5, .slice d6 y.runs.length g6, .slice d7 y.asks.length g7, .slice d8 y.gives.length g8] 27 (w3.alloc (Obj.cells #[.string y.name, .bool y.up, .int .i64 y.clock, .bool y.known, .int .i64 y.seen, .slice d5 y.wants.length g5, .slice d6 y.runs.length g6, .slice d7 y.asks.length g7, .slice d8 y.gives.length g8] 27))) := Blk.alloc _ _ _
 have KY4 := Hid.intro (KY3.out.below hba (Nat.le_refl _))
 have KX4 := Hid.intro (KX3.out.below hba (Nat.le_refl _))
 have PX4 := Hid.intro (PX3.out.below hba PX3.out.lt)
 have L4 := Hid.intro (L3.out.same (fun b _ h => hba.block b h))
 clear L3
 have hB4 := hB3.trans (hba.mono hB3.size)
 clear KY3 hB3 hba KX3 PX3
 go_upto_region 5 with fail
 generalize w3.alloc (Obj.cells #[.string y.name, .bool y.up, .int .i64 y.clock, .bool y.known, .int .i64 y.seen, .slice d5 y.wants.length g5, .slice d6 y.runs.length g6, .slice d7 y.asks.length g7, .slice d8 y.gives.length g8] 27) = w4 at *
 generalize w3.heap.size = pf at *
 go_wp2_with (refine wpList_load_mid rfl 27 _ rfl pf 0 rfl [.string y.name, .bool y.up, .int .i64 y.clock, .bool y.known, .int .i64 y.seen, .slice d5 y.wants.length g5, .slice d6 y.runs.length g6, .slice d7 y.asks.length g7, .slice d8 y.gives.length g8] _ PY4.out.rangeA Try.underlying27 rfl isz_Mte ?_)
 refine (implRise_ok y d5 g5 d6 g6 d7 g7 d8 g8 _ _ KY4.out.sv KY4.out.nl KY4.out.sz).mono ?_
 rintro e w5 ⟨z, r5, t5, r6, t6, r7, t7, r8, t8, hz, rfl, hg, hb, hok⟩
 have HZ := Hid.intro hz
 have hzs : MSz z := by rw [hz]; exact rise_sz hys
 have KZ5 := Hid.intro (KM.of_g hg hok hzs)
 clear hg hok hz
 have KX5 := Hid.intro (KX4.out.below hb (Nat.le_refl _))
 have PX5 := Hid.intro (PX4.out.below hb PX4.out.lt)
 have KY5 := Hid.intro (KY4.out.below hb (Nat.le_refl _))
 have PY5 := Hid.intro (PY4.out.below hb PY4.out.lt)
 have L5 := Hid.intro (L4.out.same (fun b _ h => hb.block b h))
 clear L4
 have hB5 := hB4.trans (hb.mono hB4.size)
 clear KX4 PX4 KY4 PY4 hB4 hb
 generalize w4.heap.size = lz at *
 have hba : Below w5.heap.size w5 (w5.alloc (Obj.cells #[.string z.name, .bool z.up, .int .i64 z.clock, .bool z.known, .int .i64 z.seen, .slice r5 z.wants.length t5, .slice r6 z.runs.length t6, .slice r7 z.asks.length t7, .slice r8 z.gives.length t8] 27)) := (Below.refl _ _).alloc (Nat.le_refl _) _
 have PZ6 : Hid (Blk w5.heap.size #[.string z.name, .bool z.up, .int .i64 z.clock, .bool z.known, .int .i64 z.seen, .slice r5 z.wants.length t5, .slice r6 z.runs.length t6, .slice r7 z.asks.length t7, .slice r8 z.gives.length t8] 27 (w5.alloc (Obj.cells #[.string z.name, .bool z.up, .int .i64 z.clock, .bool z.known, .int .i64 z.seen, .slice r5 z.wants.length t5, .slice r6 z.runs.length t6, .slice r7 z.asks.length t7, .slice r8 z.gives.length t8] 27))) := Blk.alloc _ _ _
 have KZ6 := Hid.intro (KZ5.out.below hba (Nat.le_refl _))
 have KX6 := Hid.intro (KX5.out.below hba (Nat.le_refl _))
 have PX6 := Hid.intro (PX5.out.below hba PX5.out.lt)
 have KY6 := Hid.intro (KY5.out.below hba (Nat.le_refl _))
 have PY6 := Hid.intro (PY5.out.below hba PY5.out.lt)
 have L6 := Hid.intro (L5.out.same (fun b _ h => hba.block b h))
 clear L5
 have hB6 := hB5.trans (hba.mono hB5.size)
 clear KZ5 hB5 hba KX5 PX5 KY5 PY5
 go_upto_region 6 with fail
 generalize w5.alloc (Obj.cells #[.string z.name, .bool z.up, .int .i64 z.clock, .bool z.known, .int .i64 z.seen, .slice r5 z.wants.length t5, .slice r6 z.runs.length t6, .slice r7 z.asks.length t7, .slice r8 z.gives.length t8] 27) = w6 at *
 generalize w5.heap.size = pr at *
 go_cut [38] (fun v wz => v = .bool false ∧ Hid (Below w6.heap.size w6 wz))
 case first =>
  have HSB : Hid (∀ wz, Below w6.heap.size w6 wz → (fun wy => Blk pm #[.string x.name, .bool x.up, .int .i64 x.clock, .bool x.known, .int .i64 x.seen, .slice b5 x.wants.length q5, .slice b6 x.runs.length q6, .slice b7 x.asks.length q7, .slice b8 x.gives.length q8] 27 wy ∧ Blk pf #[.string y.name, .bool y.up, .int .i64 y.clock, .bool y.known, .int .i64 y.seen, .slice d5 y.wants.length g5, .slice d6 y.runs.length g6, .slice d7 y.asks.length g7, .slice d8 y.gives.length g8] 27 wy ∧ Blk pr #[.string z.name, .bool z.up, .int .i64 z.clock, .bool z.known, .int .i64 z.seen, .slice r5 z.wants.length t5, .slice r6 z.runs.length t6, .slice r7 z.asks.length t7, .slice r8 z.gives.length t8] 27 wy) wz) := fun wz hb => ⟨PX6.out.below hb PX6.out.lt, PY6.out.below hb PY6.out.lt, PZ6.out.below hb PZ6.out.lt⟩
  refine wp_region_held_drew (S := fun wy => Blk pm #[.string x.name, .bool x.up, .int .i64 x.clock, .bool x.known, .int .i64 x.seen, .slice b5 x.wants.length q5, .slice b6 x.runs.length q6, .slice b7 x.asks.length q7, .slice b8 x.gives.length q8] 27 wy ∧ Blk pf #[.string y.name, .bool y.up, .int .i64 y.clock, .bool y.known, .int .i64 y.seen, .slice d5 y.wants.length g5, .slice d6 y.runs.length g6, .slice d7 y.asks.length g7, .slice d8 y.gives.length g8] 27 wy ∧ Blk pr #[.string z.name, .bool z.up, .int .i64 z.clock, .bool z.known, .int .i64 z.seen, .slice r5 z.wants.length t5, .slice r6 z.runs.length t6, .slice r7 z.asks.length t7, .slice r8 z.gives.length t8] 27 wy) (by kernel_rfl) (HSB.out _ (Below.refl _ _).drew) (fun hS => ?_)
  have HB : Hid (Below w6.heap.size w6 w6.drew) := (Below.refl _ _).drew
  generalize w6.drew = wn at *
  refine tk 0 ⟨some 24, _, _, _, _, none⟩ (.agg #[.string y.name, .bool y.up, .int .i64 y.clock, .bool y.known, .int .i64 y.seen, .slice d5 y.wants.length g5, .slice d6 y.runs.length g6, .slice d7 y.asks.length g7, .slice d8 y.gives.length g8]) rfl (yieldsIf_load_mid (by rfl) _ _ rfl pf (0) rfl [.string y.name, .bool y.up, .int .i64 y.clock, .bool y.known, .int .i64 y.seen, .slice d5 y.wants.length g5, .slice d6 y.runs.length g6, .slice d7 y.asks.length g7, .slice d8 y.gives.length g8] _ (fun _ h => h.2.1.rangeA) Try.underlying27 rfl isz_Mte) hS ?_
  simp only [pA, pB, pC, pD]
  refine tk 1 ⟨some 25, _, _, _, _, none⟩ (.agg #[.string x.name, .bool x.up, .int .i64 x.clock, .bool x.known, .int .i64 x.seen, .slice b5 x.wants.length q5, .slice b6 x.runs.length q6, .slice b7 x.asks.length q7, .slice b8 x.gives.length q8]) rfl (yieldsIf_load_mid (by rfl) _ _ rfl pm (0) rfl [.string x.name, .bool x.up, .int .i64 x.clock, .bool x.known, .int .i64 x.seen, .slice b5 x.wants.length q5, .slice b6 x.runs.length q6, .slice b7 x.asks.length q7, .slice b8 x.gives.length q8] _ (fun _ h => h.1.rangeA) Try.underlying27 rfl isz_Mte) hS ?_
  simp only [pA, pB, pC, pD]
  refine ty 2 ⟨some 26, _, _, _, _, none⟩ (.bool m) rfl (by rfl) ?_ hS ?_
  ·intro wy hy
   clear hy
   go_simp
  simp only [pA, pB, pC, pD]
  refine rd1 3 ⟨some 27, _, _, _, _, none⟩ rfl (fun KK hKK => ?_)
  go_simp
  refine (specFall_own x b5 q5 b6 q6 b7 q7 b8 q8 m _ _ (L6.out.same (fun b _ h => HB.out.block b h)) ⟨by have := HFX.out.l5; omega, by have := HFX.out.l6; omega, by have := HFX.out.l7; omega, by have := HFX.out.l8; omega⟩).mono ?_
  rintro e wn ⟨yy, i5, j5, i6, j6, i7, j7, i8, j8, hyy, rfl, hl, hb⟩
  have eyy : yy = y := hyy.trans HY.out.symm
  clear hyy
  subst eyy
  have K3 := Hid.intro (KM.of_l hl HFY.out)
  replace HB := Hid.intro (HB.out.trans (hb.mono HB.out.size))
  refine hKK.out _ _ (HSB.out _ HB.out) (fun hS => ?_)
  clear hKK KK
  clear hb hl
  refine rd1 4 ⟨some 28, _, _, _, _, none⟩ rfl (fun KK hKK => ?_)
  go_simp
  refine (wmMte_any yy d5 g5 d6 g6 d7 g7 d8 g8 i5 j5 i6 j6 i7 j7 i8 j8 _ _ _ (KY6.out.below HB.out (Nat.le_refl _)).sv.s5 (KY6.out.below HB.out (Nat.le_refl _)).sv.s6 (KY6.out.below HB.out (Nat.le_refl _)).sv.s7 (KY6.out.below HB.out (Nat.le_refl _)).sv.s8 K3.out.sv.s5 K3.out.sv.s6 K3.out.sv.s7 K3.out.sv.s8 K3.out.sz.l5 K3.out.sz.l6 K3.out.sz.l7 K3.out.sz.l8).mono ?_
  rintro e wn ⟨rfl, hb⟩
  replace HB := Hid.intro (HB.out.trans (hb.mono HB.out.size))
  refine hKK.out _ _ (HSB.out _ HB.out) (fun hS => ?_)
  clear hKK KK
  clear hb K3
  refine ty 5 ⟨some 29, _, _, _, _, none⟩ (.bool false) rfl (by rfl) ?_ hS ?_
  ·intro wy hy
   clear hy
   go_simp
  simp only [pA, pB, pC, pD]
  refine ty 6 ⟨some 30, _, _, _, _, none⟩ (.bool false) rfl (by rfl) ?_ hS ?_
  ·intro wy hy
   clear hy
   go_simp
  simp only [pA, pB, pC, pD]
  refine tk 7 ⟨some 31, _, _, _, _, some (6, false)⟩ (.agg #[.string z.name, .bool z.up, .int .i64 z.clock, .bool z.known, .int .i64 z.seen, .slice r5 z.wants.length t5, .slice r6 z.runs.length t6, .slice r7 z.asks.length t7, .slice r8 z.gives.length t8]) rfl (yieldsIf_load_mid (by rfl) _ _ rfl pr (0) rfl [.string z.name, .bool z.up, .int .i64 z.clock, .bool z.known, .int .i64 z.seen, .slice r5 z.wants.length t5, .slice r6 z.runs.length t6, .slice r7 z.asks.length t7, .slice r8 z.gives.length t8] _ (fun _ h => h.2.2.rangeA) Try.underlying27 rfl isz_Mte) hS ?_
  simp only [pA, pB, pC, pD]
  refine tk 8 ⟨some 32, _, _, _, _, some (6, false)⟩ (.agg #[.string x.name, .bool x.up, .int .i64 x.clock, .bool x.known, .int .i64 x.seen, .slice b5 x.wants.length q5, .slice b6 x.runs.length q6, .slice b7 x.asks.length q7, .slice b8 x.gives.length q8]) rfl (yieldsIf_load_mid (by rfl) _ _ rfl pm (0) rfl [.string x.name, .bool x.up, .int .i64 x.clock, .bool x.known, .int .i64 x.seen, .slice b5 x.wants.length q5, .slice b6 x.runs.length q6, .slice b7 x.asks.length q7, .slice b8 x.gives.length q8] _ (fun _ h => h.1.rangeA) Try.underlying27 rfl isz_Mte) hS ?_
  simp only [pA, pB, pC, pD]
  refine ty 9 ⟨some 33, _, _, _, _, some (6, false)⟩ (.bool m) rfl (by rfl) ?_ hS ?_
  ·intro wy hy
   clear hy
   go_simp
  simp only [pA, pB, pC, pD]
  refine rd1 10 ⟨some 34, _, _, _, _, some (6, false)⟩ rfl (fun KK hKK => ?_)
  go_simp
  refine (specFall_own x b5 q5 b6 q6 b7 q7 b8 q8 m _ _ (L6.out.same (fun b _ h => HB.out.block b h)) ⟨by have := HFX.out.l5; omega, by have := HFX.out.l6; omega, by have := HFX.out.l7; omega, by have := HFX.out.l8; omega⟩).mono ?_
  rintro e wn ⟨y3, i5, j5, i6, j6, i7, j7, i8, j8, hyy, rfl, hl, hb⟩
  have eyy3 : y3 = yy := hyy.trans HY.out.symm
  clear hyy
  subst eyy3
  have K4 := Hid.intro (KM.of_l hl HFY.out)
  replace HB := Hid.intro (HB.out.trans (hb.mono HB.out.size))
  refine hKK.out _ _ (HSB.out _ HB.out) (fun hS => ?_)
  clear hKK KK
  clear hb hl
  refine rd1 11 ⟨some 35, _, _, _, _, some (6, false)⟩ rfl (fun KK hKK => ?_)
  go_simp
  refine (specRise_ok y3 i5 j5 i6 j6 i7 j7 i8 j8 _ _ K4.out.sv K4.out.nl K4.out.sz).mono ?_
  rintro e wn ⟨zz, k5, l5, k6, l6, k7, l7, k8, l8, hzz, rfl, n5, n6, n7, n8, hb, hok⟩
  have ezz : zz = z := hzz.trans HZ.out.symm
  clear hzz
  subst ezz
  have K3 : Hid (KM zz _ k5 l5 k6 l6 k7 l7 k8 l8 wn) := ⟨⟨n5, n6, n7, n8, hok.p5, hok.p6, hok.p7, hok.p8⟩, ⟨hok.e5, hok.e6, hok.e7, hok.e8⟩, KZ6.out.sz⟩
  replace HB := Hid.intro (HB.out.trans (hb.mono HB.out.size))
  refine hKK.out _ _ (HSB.out _ HB.out) (fun hS => ?_)
  clear hKK KK
  clear hb n5 n6 n7 n8 hok K4
  refine rd1 12 ⟨some 36, _, _, _, _, some (6, false)⟩ rfl (fun KK hKK => ?_)
  go_simp
  refine (wmMte_any zz r5 t5 r6 t6 r7 t7 r8 t8 k5 l5 k6 l6 k7 l7 k8 l8 _ _ _ (KZ6.out.below HB.out (Nat.le_refl _)).sv.s5 (KZ6.out.below HB.out (Nat.le_refl _)).sv.s6 (KZ6.out.below HB.out (Nat.le_refl _)).sv.s7 (KZ6.out.below HB.out (Nat.le_refl _)).sv.s8 K3.out.sv.s5 K3.out.sv.s6 K3.out.sv.s7 K3.out.sv.s8 K3.out.sz.l5 K3.out.sz.l6 K3.out.sz.l7 K3.out.sz.l8).mono ?_
  rintro e wn ⟨rfl, hb⟩
  replace HB := Hid.intro (HB.out.trans (hb.mono HB.out.size))
  refine hKK.out _ _ (HSB.out _ HB.out) (fun hS => ?_)
  clear hKK KK
  clear hb K3
  refine ty 13 ⟨some 37, _, _, _, _, some (6, false)⟩ (.bool false) rfl (by rfl) ?_ hS ?_
  ·intro wy hy
   clear hy
   go_simp
  simp only [pA, pB, pC, pD]
  refine ty 14 ⟨some 38, _, _, _, _, none⟩ (.bool false) rfl (by rfl) ?_ hS ?_
  ·intro wy hy
   clear hy
   go_simp
  simp only [pA, pB, pC, pD]
  refine wpAnyH_done (by kernel_rfl) ?_ _
  clear hS HSB
  go_wp2_with fail
  go_meet
  exact ⟨rfl, HB⟩
 case rest =>
  obtain ⟨rfl, HB⟩ := hcut
  have hb := HB.out
  clear HB
  generalize wc = w7 at *
  clear L6 HFX HFY
  have KX7 := Hid.intro (KX6.out.below hb (Nat.le_refl _))
  have PX7 := Hid.intro (PX6.out.below hb PX6.out.lt)
  have KY7 := Hid.intro (KY6.out.below hb (Nat.le_refl _))
  have PY7 := Hid.intro (PY6.out.below hb PY6.out.lt)
  have KZ7 := Hid.intro (KZ6.out.below hb (Nat.le_refl _))
  have PZ7 := Hid.intro (PZ6.out.below hb PZ6.out.lt)
  have hB7 := hB6.trans (hb.mono hB6.size)
  clear KX6 PX6 KY6 PY6 KZ6 PZ6 hB6 hb
  go_upto_region 8 with fail
  go_wp2_with (refine wpList_load_mid rfl 27 _ rfl pm 0 rfl [.string x.name, .bool x.up, .int .i64 x.clock, .bool x.known, .int .i64 x.seen, .slice b5 x.wants.length q5, .slice b6 x.runs.length q6, .slice b7 x.asks.length q7, .slice b8 x.gives.length q8] _ PX7.out.rangeA Try.underlying27 rfl isz_Mte ?_)
  refine (specValid_any x b5 q5 b6 q6 b7 q7 b8 q8 _ _ KX7.out.sl).mono ?_
  rintro e w8 ⟨rfl, hb⟩
  have KX8 := Hid.intro (KX7.out.below hb (Nat.le_refl _))
  have PX8 := Hid.intro (PX7.out.below hb PX7.out.lt)
  have KY8 := Hid.intro (KY7.out.below hb (Nat.le_refl _))
  have PY8 := Hid.intro (PY7.out.below hb PY7.out.lt)
  have KZ8 := Hid.intro (KZ7.out.below hb (Nat.le_refl _))
  have PZ8 := Hid.intro (PZ7.out.below hb PZ7.out.lt)
  have hB8 := hB7.trans (hb.mono hB7.size)
  clear KX7 PX7 KY7 PY7 KZ7 PZ7 hB7 hb
  cases hv : mvB x with
  | false =>
   have ey : y = noMte := by rw [HY.out]; exact fall_no m hv
   have ez : z = noMte := by rw [HZ.out, ey]; exact rise_no no_valid
   have kf : w8.cell? ⟨pf, 0, none⟩ = some (.string ⟨#[]⟩) := by rw [show (⟨#[]⟩ : ByteArray) = y.name by rw [ey]; rfl]; exact PY8.out.cell rfl
   have kr : w8.cell? ⟨pr, 0, none⟩ = some (.string ⟨#[]⟩) := by rw [show (⟨#[]⟩ : ByteArray) = z.name by rw [ez]; rfl]; exact PZ8.out.cell rfl
   clear ey ez KX8 KY8 KZ8 HY HZ
   go_wp2_with fail
   go_ret
   exact ⟨rfl, hB8⟩
  | true =>
   have hvy : mvB y = true := by rw [HY.out]; exact fall_valid m hv
   have hvz : mvB z = true := by rw [HZ.out]; exact rise_valid hvy
   have HYU : Hid (y.up = false) := by show _ = _; rw [HY.out]; exact (fall_up m hv).1
   have HZU : Hid (z.up = decide (x.clock < 1000000)) := by show _ = _; rw [HZ.out, HY.out]; exact rise_up m hv
   have HVY := Hid.intro hvy
   have HVZ := Hid.intro hvz
   clear hvy hvz
   have HAL : Hid ((if m = true then [] else x.runs.filter (fun q => alB q.state)) = y.runs.filter (fun q => alB q.state)) := by
    show _ = _
    rw [HY.out]
    cases m with
    | true => exact (alive_none x hv).symm
    | false => exact (alive_left x hv).symm
   clear hv HY HZ
   go_upto_region 10 with fail
   go_wp2_with (refine wpList_load_mid rfl 27 _ rfl pf 0 rfl [.string y.name, .bool y.up, .int .i64 y.clock, .bool y.known, .int .i64 y.seen, .slice d5 y.wants.length g5, .slice d6 y.runs.length g6, .slice d7 y.asks.length g7, .slice d8 y.gives.length g8] _ PY8.out.rangeA Try.underlying27 rfl isz_Mte ?_)
   refine (implValid_any y d5 g5 d6 g6 d7 g7 d8 g8 _ _ KY8.out.sl).mono ?_
   rintro e w9 ⟨rfl, hb⟩
   have KX9 := Hid.intro (KX8.out.below hb (Nat.le_refl _))
   have PX9 := Hid.intro (PX8.out.below hb PX8.out.lt)
   have KY9 := Hid.intro (KY8.out.below hb (Nat.le_refl _))
   have PY9 := Hid.intro (PY8.out.below hb PY8.out.lt)
   have KZ9 := Hid.intro (KZ8.out.below hb (Nat.le_refl _))
   have PZ9 := Hid.intro (PZ8.out.below hb PZ8.out.lt)
   have hB9 := hB8.trans (hb.mono hB8.size)
   clear KX8 PX8 KY8 PY8 KZ8 PZ8 hB8 hb
   rw [HVY.out]
   clear HVY
   have k0 : w9.cell? ⟨pr, 0, none⟩ = some (.string z.name) := PZ9.out.cell rfl
   have k1 : w9.cell? ⟨pr, 1, none⟩ = some (.bool z.up) := PZ9.out.cell rfl
   have k2 : w9.cell? ⟨pr, 2, none⟩ = some (.int .i64 z.clock) := PZ9.out.cell rfl
   have k3 : w9.cell? ⟨pr, 3, none⟩ = some (.bool z.known) := PZ9.out.cell rfl
   have k4 : w9.cell? ⟨pr, 4, none⟩ = some (.int .i64 z.seen) := PZ9.out.cell rfl
   have k5 : w9.cell? ⟨pr, 5, none⟩ = some (.slice r5 z.wants.length t5) := PZ9.out.cell rfl
   have k6 : w9.cell? ⟨pr, 6, none⟩ = some (.slice r6 z.runs.length t6) := PZ9.out.cell rfl
   have k7 : w9.cell? ⟨pr, 7, none⟩ = some (.slice r7 z.asks.length t7) := PZ9.out.cell rfl
   have k8 : w9.cell? ⟨pr, 8, none⟩ = some (.slice r8 z.gives.length t8) := PZ9.out.cell rfl
   go_wp2_with fail
   clear k0 k1 k2 k3 k4 k5 k6 k7 k8
   refine (implValid_any z r5 t5 r6 t6 r7 t7 r8 t8 _ _ KZ9.out.sl).mono ?_
   rintro e w10 ⟨rfl, hb⟩
   have KX10 := Hid.intro (KX9.out.below hb (Nat.le_refl _))
   have PX10 := Hid.intro (PX9.out.below hb PX9.out.lt)
   have KY10 := Hid.intro (KY9.out.below hb (Nat.le_refl _))
   have PY10 := Hid.intro (PY9.out.below hb PY9.out.lt)
   have KZ10 := Hid.intro (KZ9.out.below hb (Nat.le_refl _))
   have PZ10 := Hid.intro (PZ9.out.below hb PZ9.out.lt)
   have hB10 := hB9.trans (hb.mono hB9.size)
   clear KX9 PX9 KY9 PY9 KZ9 PZ9 hB9 hb
   rw [HVZ.out]
   clear HVZ
   have kf : w10.cell? ⟨pf, 1, none⟩ = some (.bool false) := by rw [← HYU.out]; exact PY10.out.cell rfl
   have kr : w10.cell? ⟨pr, 1, none⟩ = some (.bool (decide (x.clock < 1000000))) := by rw [← HZU.out]; exact PZ10.out.cell rfl
   have kc : w10.cell? ⟨pm, 2, none⟩ = some (.int .i64 x.clock) := PX10.out.cell rfl
   clear HYU HZU KZ10 PZ10
   go_upto_region 12 with fail
   clear kf kr kc
   go_wp2_with fail
   go_loopw [7, 8] (fun l i wr => ∃ (j : Nat) (ys : List Rn) (g q : Nat), j ≤ x.runs.length ∧ (m = true → j = 0) ∧ i = .int .i64 j ∧ l = .slice (some ⟨g, 0, none⟩) ys.length q ∧ Hid (ys = (x.runs.take j).filter (fun q => alB q.state)) ∧ ys.length ≤ j ∧ Hid (wr.ownsRow w10.heap.size 38 11 (.slice (some ⟨g, 0, none⟩) ys.length q) ys.length (rvRn ys)) ∧ Below w10.heap.size w10 wr) (fun _ i _ => 21 - (intOf i).toNat)
   case atStart => exact ⟨0, [], w10.heap.size, 0, Nat.zero_le _, fun _ => rfl, rfl, rfl, Hid.intro rfl, Nat.zero_le _, Hid.intro (World.ownsRow_made w10 #[] 0 (Nat.le_refl _) (Nat.zero_le _) rfl), (Below.refl _ w10).alloc (Nat.le_refl _) _⟩
   case round =>
    obtain ⟨j, ys, g, q, hj, hm0, rfl, rfl, HYS, hyj, HO, hB⟩ := hrel
    have HM0 := Hid.intro hm0
    clear hm0
    have k60 : wr.cell? ⟨pm, 6, none⟩ = some (.slice b6 x.runs.length q6) := (PX10.out.below hB PX10.out.lt).cell rfl
    go_upto_region 14 with fail
    go_cut [79] (fun v wz => ∃ t : Bool, v = .bool t ∧ t = (decide (j < x.runs.length) && !m) ∧ wz = wr)
    case first =>
     by_cases hlt : j < x.runs.length
     case pos =>
      cases m with
      | true =>
       go_wp2_with fail
       go_meet
       exact ⟨false, rfl, by simp, rfl⟩
      | false =>
       go_wp2_with fail
       go_meet
       exact ⟨true, rfl, by simp [hlt], rfl⟩
     case neg =>
      go_wp2_with fail
      go_meet
      exact ⟨false, rfl, by simp [hlt], rfl⟩
    case rest =>
     obtain ⟨t, rfl, ht, hw⟩ := hcut
     have hw2 := hw.symm
     clear hw
     subst hw2
     clear k60
     skip
     cases t with
     | true =>
      have hlt : j < x.runs.length := by
       have h9 := ht.symm
       simp at h9
       exact h9.1
      have HMF : Hid (m = false) := by
       have h9 := ht.symm
       simp at h9
       exact h9.2
      clear ht
      obtain ⟨rn, hrn⟩ : ∃ z, x.runs[j]? = some z := ⟨x.runs[j], List.getElem?_eq_getElem hlt⟩
      have HRN := Hid.intro hrn
      obtain ⟨bb, ob, ea, _, hbl, hcl⟩ := (KX10.out.below hB (Nat.le_refl _)).sv.s6.at hrn
      subst ea
      have HRA := Hid.intro (range_of_cells hcl)
      have hgb : w10.heap.size ≤ g := own_block HO.out g rfl
      have hgl : g < wr.heap.size := (HO.out.lt g rfl).2
      have hwr : w10.heap.size ≤ wr.heap.size := hB.size
      clear hcl hrn
      have k6 : wr.cell? ⟨pm, 6, none⟩ = some (.slice (some ⟨bb, ob, none⟩) x.runs.length q6) := (PX10.out.below hB PX10.out.lt).cell rfl
      go_wp2_with (refine wpList_load_mid rfl 38 _ rfl bb (ob + j * 11) (by first | rfl | (simp [go_sem]; done)) [.string rn.want.copy, .int .i64 rn.want.version, .string rn.want.hold, .int .i64 rn.want.pull, .int .i64 rn.want.start, .int .i64 rn.want.dies, .int .i64 rn.want.grace, .int .i64 rn.state, .int .i64 rn.left, .int .i64 rn.falls, .int .i64 rn.until_] _ HRA.out Try.underlying38 rfl isz_Rn ?_)
      refine (specAlive_any rn _).mono ?_
      rintro e w5 ⟨rfl, hb5⟩
      have HO5 := Hid.intro (ownsRow_below HO.out hb5)
      have hB5 := hB.trans (hb5.mono hB.size)
      have HRA5 : Hid (w5.rangeAt bb (ob + j * 11) [.string rn.want.copy, .int .i64 rn.want.version, .string rn.want.hold, .int .i64 rn.want.pull, .int .i64 rn.want.start, .int .i64 rn.want.dies, .int .i64 rn.want.grace, .int .i64 rn.state, .int .i64 rn.left, .int .i64 rn.falls, .int .i64 rn.until_]) := fun i u h => (hb5.cell (p := ⟨bb, ob + j * 11 + i, none⟩) hbl).trans (HRA.out i u h)
      have k65 : w5.cell? ⟨pm, 6, none⟩ = some (.slice (some ⟨bb, ob, none⟩) x.runs.length q6) := (PX10.out.below hB5 PX10.out.lt).cell rfl
      clear hb5 HO hB HRA k6
      cases ha : alB rn.state with
      | false =>
       go_wp2_with fail
       go_roundw
       case rel => first | exact ⟨j + 1, ys, g, q, by omega, fun e => (by rw [HMF.out] at e; cases e), by go_num, rfl, Hid.intro (by show ys = _; rw [List.take_add_one, HRN.out, List.filter_append]; simp [ha, HYS.out]), by omega, HO5, hB5⟩ | ((repeat apply Exists.intro); exact ⟨⟨j + 1, ys, g, q, by omega, fun e => (by rw [HMF.out] at e; cases e), by go_num, rfl, Hid.intro (by show ys = _; rw [List.take_add_one, HRN.out, List.filter_append]; simp [ha, HYS.out]), by omega, HO5, hB5⟩, rfl⟩)
       case measure => simp [intOf]; omega
      | true =>
       obtain ⟨NV, hnv⟩ : ∃ l, l = rcRn rn := ⟨_, rfl⟩
       have HNV := Hid.intro hnv
       have HNN : Hid (∀ j u, NV[j]? = some u → (w5.alloc (Obj.cells #[.string rn.want.copy, .int .i64 rn.want.version, .string rn.want.hold, .int .i64 rn.want.pull, .int .i64 rn.want.start, .int .i64 rn.want.dies, .int .i64 rn.want.grace, .int .i64 rn.state, .int .i64 rn.left, .int .i64 rn.falls, .int .i64 rn.until_] 38)).cell? ((⟨w5.heap.size, 0, none⟩ : Addr).add j) = some u) := by
        intro j u hj
        rw [Addr.add_mid]
        rw [hnv] at hj
        exact (Blk.alloc w5 #[.string rn.want.copy, .int .i64 rn.want.version, .string rn.want.hold, .int .i64 rn.want.pull, .int .i64 rn.want.start, .int .i64 rn.want.dies, .int .i64 rn.want.grace, .int .i64 rn.state, .int .i64 rn.left, .int .i64 rn.falls, .int .i64 rn.until_] 38).rangeA j u hj
       have HN1 : Hid (∀ u ∈ NV, u.oneCell' = true) := fun u hu => rvRn_one [rn] u (by simp only [rvRn, List.append_nil]; rw [← hnv]; exact hu)
       have HNL : Hid (NV.length = 1 * 11) := by show _ = _; rw [hnv]; rfl
       have HOA := Hid.intro (HO5.out.alloc (Obj.cells #[.string rn.want.copy, .int .i64 rn.want.version, .string rn.want.hold, .int .i64 rn.want.pull, .int .i64 rn.want.start, .int .i64 rn.want.dies, .int .i64 rn.want.grace, .int .i64 rn.state, .int .i64 rn.left, .int .i64 rn.falls, .int .i64 rn.until_] 38))
       have h5b : w10.heap.size ≤ w5.heap.size := hB5.size
       clear hnv
       go_wp2_with (first | (refine wpList_load_mid rfl 38 _ rfl bb (ob + j * 11) (by first | rfl | (simp [go_sem]; done)) [.string rn.want.copy, .int .i64 rn.want.version, .string rn.want.hold, .int .i64 rn.want.pull, .int .i64 rn.want.start, .int .i64 rn.want.dies, .int .i64 rn.want.grace, .int .i64 rn.state, .int .i64 rn.left, .int .i64 rn.falls, .int .i64 rn.until_] _ HRA5.out Try.underlying38 rfl isz_Rn ?_) | (at_builtin; refine wpList_append_own_at _ rfl _ _ 24 rfl w10.heap.size 38 i0 _ 11 104 Try.underlying24 hi hz0 hz1 hz2 rfl (by decide) (.slice (some ⟨g, 0, none⟩) ys.length q) ys.length _ rfl HOA.out ⟨w5.heap.size, 0, none⟩ 1 1 NV rfl HNL.out HNN.out HN1.out (by unfold maxLen; omega) (by omega) (by simp; omega) ?_; intro v' w8 hown8 hgrow8 hnil8 hblk8; have hv8 : v' ≠ .slice none 0 0 := (fun e => by have h9 := (hnil8.1 e).2; cases h9); obtain ⟨g8, q8, rfl⟩ := rowf hown8 hv8))
       have hyl : (ys ++ [rn]).length = ys.length + 1 := by simp
       have HO8 : Hid (w8.ownsRow w10.heap.size 38 11 (.slice (some ⟨g8, 0, none⟩) (ys ++ [rn]).length q8) (ys ++ [rn]).length (rvRn (ys ++ [rn]))) := by
        show World.ownsRow _ _ _ _ _ _ _
        rw [hyl, rvR_app]
        simp only [rvRn, List.append_nil]
        rw [← HNV.out]
        exact hown8
       have hB8 : Below w10.heap.size w10 w8 := (hB5.alloc hB5.size _).grown hgrow8 (by have := hB5.size; simp; omega) (by intro j hj; cases hj; exact hgb)
       clear hown8 hgrow8 hnil8 hv8 hblk8 HNN HN1 HNL HOA HNV
       go_roundw
       case rel => first | exact ⟨j + 1, ys ++ [rn], g8, q8, by omega, fun e => (by rw [HMF.out] at e; cases e), by go_num, by rw [hyl], Hid.intro (by show ys ++ [rn] = _; rw [List.take_add_one, HRN.out, List.filter_append]; simp [ha, HYS.out]), by rw [hyl]; omega, HO8, hB8⟩ | ((repeat apply Exists.intro); exact ⟨⟨j + 1, ys ++ [rn], g8, q8, by omega, fun e => (by rw [HMF.out] at e; cases e), by go_num, by rw [hyl], Hid.intro (by show ys ++ [rn] = _; rw [List.take_add_one, HRN.out, List.filter_append]; simp [ha, HYS.out]), by rw [hyl]; omega, HO8, hB8⟩, rfl⟩)
       case measure => simp [intOf]; omega
     | false =>
      have HYE : Hid (ys = if m = true then [] else x.runs.filter (fun q => alB q.state)) := by
       show ys = _
       rw [HYS.out]
       cases m with
       | true => rw [HM0.out rfl]; rfl
       | false =>
        have h9 : ¬ j < x.runs.length := by simpa using ht.symm
        rw [List.take_of_length_le (by omega)]; rfl
      clear ht HM0 HYS
      have HYA : Hid (ys = y.runs.filter (fun q => alB q.state)) := HYE.out.trans HAL.out
      clear HYE HAL
      have KY11 := Hid.intro (KY10.out.below hB (Nat.le_refl _))
      have PY11 := Hid.intro (PY10.out.below hB PY10.out.lt)
      have hB11 := hB10.trans (hB.mono hB10.size)
      have HL20 : Hid (ys.length ≤ 20) := (by show ys.length ≤ 20; omega)
      have hyl6 : y.runs.length ≤ 1048576 := KY10.out.sz.l6
      have HO11 := HO
      clear HO hB hyj hB10 KY10 PY10 KX10 PX10 hj
      generalize hw10 : w10.heap.size = lo10 at HO11
      clear hw10
      generalize hL1 : ys = L1 at *
      clear hL1
      generalize hG1 : g = g1 at *
      clear hG1
      generalize hQ1 : q = q1 at *
      clear hQ1
      generalize wr = w11 at *
      skip
      go_wp2_with fail
      go_loopw [9, 10] (fun l i wr => ∃ (j : Nat) (ys : List Rn) (g q : Nat), j ≤ y.runs.length ∧ i = .int .i64 j ∧ l = .slice (some ⟨g, 0, none⟩) ys.length q ∧ Hid (ys = (y.runs.take j).filter (fun q => alB q.state)) ∧ ys.length ≤ j ∧ Hid (wr.ownsRow w11.heap.size 38 11 (.slice (some ⟨g, 0, none⟩) ys.length q) ys.length (rvRn ys)) ∧ Below w11.heap.size w11 wr) (fun _ i _ => y.runs.length - (intOf i).toNat)
      case atStart => exact ⟨0, [], w11.heap.size, 0, Nat.zero_le _, rfl, rfl, Hid.intro rfl, Nat.zero_le _, Hid.intro (World.ownsRow_made w11 #[] 0 (Nat.le_refl _) (Nat.zero_le _) rfl), (Below.refl _ w11).alloc (Nat.le_refl _) _⟩
      case round =>
       obtain ⟨j, ys, g, q, hj, rfl, rfl, HYS, hyj, HO, hB⟩ := hrel
       have k60 : wr.cell? ⟨pf, 6, none⟩ = some (.slice d6 y.runs.length g6) := (PY11.out.below hB PY11.out.lt).cell rfl
       by_cases hlt : j < y.runs.length
       case pos =>
        clear k60
        obtain ⟨rn, hrn⟩ : ∃ z, y.runs[j]? = some z := ⟨y.runs[j], List.getElem?_eq_getElem hlt⟩
        have HRN := Hid.intro hrn
        obtain ⟨bb, ob, ea, _, hbl, hcl⟩ := (KY11.out.below hB (Nat.le_refl _)).sv.s6.at hrn
        subst ea
        have HRA := Hid.intro (range_of_cells hcl)
        have hgb : w11.heap.size ≤ g := own_block HO.out g rfl
        have hgl : g < wr.heap.size := (HO.out.lt g rfl).2
        have hwr : w11.heap.size ≤ wr.heap.size := hB.size
        clear hcl hrn
        have k6 : wr.cell? ⟨pf, 6, none⟩ = some (.slice (some ⟨bb, ob, none⟩) y.runs.length g6) := (PY11.out.below hB PY11.out.lt).cell rfl
        go_wp2_with (refine wpList_load_mid rfl 38 _ rfl bb (ob + j * 11) (by first | rfl | (simp [go_sem]; done)) [.string rn.want.copy, .int .i64 rn.want.version, .string rn.want.hold, .int .i64 rn.want.pull, .int .i64 rn.want.start, .int .i64 rn.want.dies, .int .i64 rn.want.grace, .int .i64 rn.state, .int .i64 rn.left, .int .i64 rn.falls, .int .i64 rn.until_] _ HRA.out Try.underlying38 rfl isz_Rn ?_)
        refine (implAlive_any rn _).mono ?_
        rintro e w5 ⟨rfl, hb5⟩
        have HO5 := Hid.intro (ownsRow_below HO.out hb5)
        have hB5 := hB.trans (hb5.mono hB.size)
        have HRA5 : Hid (w5.rangeAt bb (ob + j * 11) [.string rn.want.copy, .int .i64 rn.want.version, .string rn.want.hold, .int .i64 rn.want.pull, .int .i64 rn.want.start, .int .i64 rn.want.dies, .int .i64 rn.want.grace, .int .i64 rn.state, .int .i64 rn.left, .int .i64 rn.falls, .int .i64 rn.until_]) := fun i u h => (hb5.cell (p := ⟨bb, ob + j * 11 + i, none⟩) hbl).trans (HRA.out i u h)
        have k65 : w5.cell? ⟨pf, 6, none⟩ = some (.slice (some ⟨bb, ob, none⟩) y.runs.length g6) := (PY11.out.below hB5 PY11.out.lt).cell rfl
        clear hb5 HO hB HRA k6
        cases ha : alB rn.state with
        | false =>
         go_wp2_with fail
         go_roundw
         case rel => first | exact ⟨j + 1, ys, g, q, by omega, by go_num, rfl, Hid.intro (by show ys = _; rw [List.take_add_one, HRN.out, List.filter_append]; simp [ha, HYS.out]), by omega, HO5, hB5⟩ | ((repeat apply Exists.intro); exact ⟨⟨j + 1, ys, g, q, by omega, by go_num, rfl, Hid.intro (by show ys = _; rw [List.take_add_one, HRN.out, List.filter_append]; simp [ha, HYS.out]), by omega, HO5, hB5⟩, rfl⟩)
         case measure => simp [intOf]; omega
        | true =>
         obtain ⟨NV, hnv⟩ : ∃ l, l = rcRn rn := ⟨_, rfl⟩
         have HNV := Hid.intro hnv
         have HNN : Hid (∀ j u, NV[j]? = some u → (w5.alloc (Obj.cells #[.string rn.want.copy, .int .i64 rn.want.version, .string rn.want.hold, .int .i64 rn.want.pull, .int .i64 rn.want.start, .int .i64 rn.want.dies, .int .i64 rn.want.grace, .int .i64 rn.state, .int .i64 rn.left, .int .i64 rn.falls, .int .i64 rn.until_] 38)).cell? ((⟨w5.heap.size, 0, none⟩ : Addr).add j) = some u) := by
          intro j u hj
          rw [Addr.add_mid]
          rw [hnv] at hj
          exact (Blk.alloc w5 #[.string rn.want.copy, .int .i64 rn.want.version, .string rn.want.hold, .int .i64 rn.want.pull, .int .i64 rn.want.start, .int .i64 rn.want.dies, .int .i64 rn.want.grace, .int .i64 rn.state, .int .i64 rn.left, .int .i64 rn.falls, .int .i64 rn.until_] 38).rangeA j u hj
         have HN1 : Hid (∀ u ∈ NV, u.oneCell' = true) := fun u hu => rvRn_one [rn] u (by simp only [rvRn, List.append_nil]; rw [← hnv]; exact hu)
         have HNL : Hid (NV.length = 1 * 11) := by show _ = _; rw [hnv]; rfl
         have HOA := Hid.intro (HO5.out.alloc (Obj.cells #[.string rn.want.copy, .int .i64 rn.want.version, .string rn.want.hold, .int .i64 rn.want.pull, .int .i64 rn.want.start, .int .i64 rn.want.dies, .int .i64 rn.want.grace, .int .i64 rn.state, .int .i64 rn.left, .int .i64 rn.falls, .int .i64 rn.until_] 38))
         have h5b : w11.heap.size ≤ w5.heap.size := hB5.size
         clear hnv
         go_wp2_with (first | (refine wpList_load_mid rfl 38 _ rfl bb (ob + j * 11) (by first | rfl | (simp [go_sem]; done)) [.string rn.want.copy, .int .i64 rn.want.version, .string rn.want.hold, .int .i64 rn.want.pull, .int .i64 rn.want.start, .int .i64 rn.want.dies, .int .i64 rn.want.grace, .int .i64 rn.state, .int .i64 rn.left, .int .i64 rn.falls, .int .i64 rn.until_] _ HRA5.out Try.underlying38 rfl isz_Rn ?_) | (at_builtin; refine wpList_append_own_at _ rfl _ _ 24 rfl w11.heap.size 38 i0 _ 11 104 Try.underlying24 hi hz0 hz1 hz2 rfl (by decide) (.slice (some ⟨g, 0, none⟩) ys.length q) ys.length _ rfl HOA.out ⟨w5.heap.size, 0, none⟩ 1 1 NV rfl HNL.out HNN.out HN1.out (by unfold maxLen; omega) (by omega) (by simp; omega) ?_; intro v' w8 hown8 hgrow8 hnil8 hblk8; have hv8 : v' ≠ .slice none 0 0 := (fun e => by have h9 := (hnil8.1 e).2; cases h9); obtain ⟨g8, q8, rfl⟩ := rowf hown8 hv8))
         have hyl : (ys ++ [rn]).length = ys.length + 1 := by simp
         have HO8 : Hid (w8.ownsRow w11.heap.size 38 11 (.slice (some ⟨g8, 0, none⟩) (ys ++ [rn]).length q8) (ys ++ [rn]).length (rvRn (ys ++ [rn]))) := by
          show World.ownsRow _ _ _ _ _ _ _
          rw [hyl, rvR_app]
          simp only [rvRn, List.append_nil]
          rw [← HNV.out]
          exact hown8
         have hB8 : Below w11.heap.size w11 w8 := (hB5.alloc hB5.size _).grown hgrow8 (by have := hB5.size; simp; omega) (by intro j hj; cases hj; exact hgb)
         clear hown8 hgrow8 hnil8 hv8 hblk8 HNN HN1 HNL HOA HNV
         go_roundw
         case rel => first | exact ⟨j + 1, ys ++ [rn], g8, q8, by omega, by go_num, by rw [hyl], Hid.intro (by show ys ++ [rn] = _; rw [List.take_add_one, HRN.out, List.filter_append]; simp [ha, HYS.out]), by rw [hyl]; omega, HO8, hB8⟩ | ((repeat apply Exists.intro); exact ⟨⟨j + 1, ys ++ [rn], g8, q8, by omega, by go_num, by rw [hyl], Hid.intro (by show ys ++ [rn] = _; rw [List.take_add_one, HRN.out, List.filter_append]; simp [ha, HYS.out]), by rw [hyl]; omega, HO8, hB8⟩, rfl⟩)
         case measure => simp [intOf]; omega
       have HE2 : Hid (ys = L1) := by
        show ys = _
        rw [HYS.out, HYA.out, List.take_of_length_le (by omega)]
       have hsz : SzRn L1 1048576 := by rw [HYA.out]; exact sz_filter KY11.out.sz.z6 _
       have h20 : L1.length ≤ 20 := HL20.out
       have hll : ys.length = L1.length := by rw [HE2.out]
       have HOX : Hid (wr.ownsRow w11.heap.size 38 11 (.slice (some ⟨g, 0, none⟩) L1.length q) L1.length (rvRn L1)) := by rw [← HE2.out]; exact HO
       have HS1 := Hid.intro (rowslRn (ownsRow_below HO11.out hB) (by omega) hsz)
       have HS2 := Hid.intro (rowslRn HOX.out (by omega) hsz)
       have hBz := hB11.trans (hB.mono hB11.size)
       rw [hll]
       clear HE2 hll HYS HYA HO HOX HO11 hyj hsz KY11 PY11
       go_wp2_with fail
       refine (wmRn_any L1 _ _ _ _ _ _ _ HS1.out HS2.out (by omega)).mono ?_
       rintro e wz ⟨rfl, hb⟩
       go_wp2_with fail
       go_ret
       exact ⟨rfl, hBz.trans (hb.mono hBz.size)⟩

end Go.Proofs.Ytnifmiacobfplaa
