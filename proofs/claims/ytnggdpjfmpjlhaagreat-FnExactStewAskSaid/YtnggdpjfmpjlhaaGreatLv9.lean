import Derived.Test.YtnggdpjfmpjlhaaGreatTkw
import Derived.Test.YtnggdpjfmpjlhaaGreatLv8
namespace Go.Proofs.YtnggdpjfmpjlhaaGreat
open Go.RowKit

set_option maxHeartbeats 8000000 in
set_option maxRecDepth 100000 in
theorem keepCount_any (x : Sbk) (a1 : Option Addr) (c1 : Nat) (b2 o2 c2 : Nat) (a3 : Option Addr) (c3 : Nat) (p m n lo q : Nat) (Wb : World) (v : Ssv) (lv : Int) (w : World) (hF : FndS x a1 c1 (some ⟨b2, o2, none⟩) c2 a3 c3 p m n lo Wb) (hv : SVal x) (hcap : x.copies.length ≤ c2) (hK : SgL x p q Wb v lv w) (hN : SvNum v) (hlv : 0 ≤ lv ∧ lv ≤ 200) :
  Calls Tryz.prog 85 #[.pointer (some ⟨q, 0, none⟩)] w fun e w' => ActP (kcP x v (cntL x.copies v.name v.image) lv) w e w' := by
 have hb1 : Below w.heap.size w (w.alloc (Obj.cells #[.string ⟨#[]⟩, .int .i64 0, .int .i64 0, .int .i64 0, .int .i64 0, .bool false, .slice none 0 0, .bool false] 47)) := by go_grown
 have HA1 : Hid (Blk w.heap.size #[.string ⟨#[]⟩, .int .i64 0, .int .i64 0, .int .i64 0, .int .i64 0, .bool false, .slice none 0 0, .bool false] 47 (w.alloc (Obj.cells #[.string ⟨#[]⟩, .int .i64 0, .int .i64 0, .int .i64 0, .int .i64 0, .bool false, .slice none 0 0, .bool false] 47))) := Blk.alloc _ _ _
 have hbd := cnt_small hv v
 have HF := Hid.intro hF
 have HV := Hid.intro hv
 have HCAP := Hid.intro hcap
 obtain ⟨T, HT⟩ : ∃ T, Hid (cntL x.copies v.name v.image = T) := ⟨_, rfl⟩
 obtain ⟨R, HR⟩ : ∃ R, Hid (rlV x v = R) := ⟨_, rfl⟩
 have HTK : Hid (∀ W, SgT p q Wb v T R lv W → SgL x p q Wb v lv W) := fun W h => by rw [← HT.out, ← HR.out] at h; exact h
 have hK2 : SgT p q Wb v T R lv w := by rw [← HT.out, ← HR.out]; exact hK
 have HK1 := Hid.intro (hK2.below hb1)
 have HSW : Hid (Wb.heap.size ≤ w.heap.size ∧ q < w.heap.size) := ⟨hK.1.size, hK.2.lt⟩
 rw [HT.out] at hbd
 rw [HT.out]
 obtain ⟨b1, b2', b3, b4, b5, b6, b7, b8, b9, b10⟩ := hbd
 have HBD : Hid (0 ≤ T.live ∧ T.live ≤ 200 ∧ 0 ≤ T.old ∧ T.old ≤ 200 ∧ 0 ≤ v.want ∧ v.want ≤ 10 ∧ 0 ≤ v.over ∧ v.over ≤ 10 ∧ 0 ≤ lv ∧ lv ≤ 200) := ⟨b1, by omega, b5, by omega, hN.want.1, hN.want.2, hN.over.1, hN.over.2, hlv.1, hlv.2⟩
 have HN := Hid.intro hN
 have HLV := Hid.intro hlv
 clear hF hv hcap hK hK2 hN hlv b1 b2' b3 b4 b5 b6 b7 b8 b9 b10
 go_enter Tryz.func85, Tryz.ntmps85
 go_upto_region 1 with fail
 generalize w.alloc (Obj.cells #[.string ⟨#[]⟩, .int .i64 0, .int .i64 0, .int .i64 0, .int .i64 0, .bool false, .slice none 0 0, .bool false] 47) = w1 at *
 obtain ⟨Bv, HBv⟩ : ∃ Bv, Hid (Bv = decide ((0 < T.old ∨ 0 < lv) ∧ T.live ≤ v.want + v.over)) := ⟨_, rfl⟩
 go_cut [3] (fun r wz => r = .bool Bv ∧ Hid (SgT p q Wb v T R lv wz) ∧ Hid (Blk w.heap.size #[.string ⟨#[]⟩, .int .i64 0, .int .i64 0, .int .i64 0, .int .i64 0, .bool false, .slice none 0 0, .bool false] 47 wz) ∧ Below w.heap.size w wz)
 case first =>
  by_cases c1 : 0 < T.old
  ·by_cases c3 : T.live ≤ v.want + v.over
   ·have HC1 := Hid.intro c1
    have HC3 := Hid.intro c3
    clear c1 c3
    refine wp_region_held_drew (S := fun wy => SgT p q Wb v T R lv wy ∧ Blk w.heap.size #[.string ⟨#[]⟩, .int .i64 0, .int .i64 0, .int .i64 0, .int .i64 0, .bool false, .slice none 0 0, .bool false] 47 wy) (by kernel_rfl) ⟨HK1.out.below (Below.refl _ _).drew, HA1.out.drew⟩ (fun hS => ?_)
    have hb1 := hb1.drew
    clear HK1 HA1
    generalize w1.drew = w1d at *
    refine tz 0 4 (.pointer (some ⟨q, 0, none⟩)) rfl hS ?_
    simp only [pA,pB,pC,pD]
    refine tz 1 5 (.pointer (some ⟨q, 0, none⟩)) rfl hS ?_
    simp only [pA,pB,pC,pD]
    refine tz 2 6 (.pointer (some ⟨q, 13, none⟩)) rfl hS ?_
    simp only [pA,pB,pC,pD]
    refine tz 3 7 (.pointer (some ⟨q, 15, none⟩)) rfl hS ?_
    simp only [pA,pB,pC,pD]
    refine tl 4 8 (.int .i64 T.old) ⟨q, 15, none⟩ rfl (fun wy hy => hy.1.2.cell rfl) hS ?_
    simp only [pA,pB,pC,pD]
    refine ty 5 ⟨some 9, _, _, _, _, none⟩ (.bool true) rfl (by rfl) ?_ hS ?_
    ·intro wy hy
     have f0 := HC1.out
     have f1 := HC3.out
     have f2 := HBD.out
     clear hy
     (first | (go_simp; done) | (go_simp; omega))
    simp only [pA,pB,pC,pD]
    refine tz 6 10 (.bool true) rfl hS ?_
    simp only [pA,pB,pC,pD]
    refine ts 7 11 rfl hS ?_
    simp only [pA,pB,pC,pD]
    refine ts 8 12 rfl hS ?_
    simp only [pA,pB,pC,pD]
    refine ts 9 13 rfl hS ?_
    simp only [pA,pB,pC,pD]
    refine ts 10 14 rfl hS ?_
    simp only [pA,pB,pC,pD]
    refine ts 11 15 rfl hS ?_
    simp only [pA,pB,pC,pD]
    refine tz 12 16 (.bool true) rfl hS ?_
    simp only [pA,pB,pC,pD]
    refine tz 13 17 (.bool true) rfl hS ?_
    simp only [pA,pB,pC,pD]
    refine tz 14 18 (.pointer (some ⟨q, 0, none⟩)) rfl hS ?_
    simp only [pA,pB,pC,pD]
    refine tz 15 19 (.pointer (some ⟨q, 0, none⟩)) rfl hS ?_
    simp only [pA,pB,pC,pD]
    refine tz 16 20 (.pointer (some ⟨q, 13, none⟩)) rfl hS ?_
    simp only [pA,pB,pC,pD]
    refine tz 17 21 (.pointer (some ⟨q, 13, none⟩)) rfl hS ?_
    simp only [pA,pB,pC,pD]
    refine tl 18 22 (.int .i64 T.live) ⟨q, 13, none⟩ rfl (fun wy hy => hy.1.2.cell rfl) hS ?_
    simp only [pA,pB,pC,pD]
    refine tz 19 23 (.pointer (some ⟨q, 0, none⟩)) rfl hS ?_
    simp only [pA,pB,pC,pD]
    refine tz 20 24 (.pointer (some ⟨q, 0, none⟩)) rfl hS ?_
    simp only [pA,pB,pC,pD]
    refine tz 21 25 (.pointer (some ⟨q, 0, none⟩)) rfl hS ?_
    simp only [pA,pB,pC,pD]
    refine tz 22 26 (.pointer (some ⟨q, 4, none⟩)) rfl hS ?_
    simp only [pA,pB,pC,pD]
    refine tl 23 27 (.int .i64 v.want) ⟨q, 4, none⟩ rfl (fun wy hy => hy.1.2.cell rfl) hS ?_
    simp only [pA,pB,pC,pD]
    refine tz 24 28 (.pointer (some ⟨q, 0, none⟩)) rfl hS ?_
    simp only [pA,pB,pC,pD]
    refine tz 25 29 (.pointer (some ⟨q, 0, none⟩)) rfl hS ?_
    simp only [pA,pB,pC,pD]
    refine tz 26 30 (.pointer (some ⟨q, 0, none⟩)) rfl hS ?_
    simp only [pA,pB,pC,pD]
    refine tz 27 31 (.pointer (some ⟨q, 6, none⟩)) rfl hS ?_
    simp only [pA,pB,pC,pD]
    refine tl 28 32 (.int .i64 v.over) ⟨q, 6, none⟩ rfl (fun wy hy => hy.1.2.cell rfl) hS ?_
    simp only [pA,pB,pC,pD]
    refine ty 29 ⟨some 33, _, _, _, _, some (13, true)⟩ (.int .i64 (v.want + v.over)) rfl (by rfl) ?_ hS ?_
    ·intro wy hy
     have f0 := HC1.out
     have f1 := HC3.out
     have f2 := HBD.out
     clear hy
     (go_simp; rw [IntKind.wrap_i64]; omega)
    simp only [pA,pB,pC,pD]
    refine ty 30 ⟨some 34, _, _, _, _, some (13, true)⟩ (.bool true) rfl (by rfl) ?_ hS ?_
    ·intro wy hy
     have f0 := HC1.out
     have f1 := HC3.out
     have f2 := HBD.out
     clear hy
     (first | (go_simp; done) | (go_simp; omega))
    simp only [pA,pB,pC,pD]
    refine tz 31 35 (.bool true) rfl hS ?_
    simp only [pA,pB,pC,pD]
    refine tz 32 3 (.bool true) rfl hS ?_
    simp only [pA,pB,pC,pD]
    have HK1 := Hid.intro hS.1
    have HA1 := Hid.intro hS.2
    refine wpAnyH_done (by kernel_rfl) ?_ _
    clear hS
    go_wp2_with fail
    go_meet
    exact ⟨by rw [HBv.out]; rw [decide_eq_true (⟨.inl HC1.out, HC3.out⟩ : (0 < T.old ∨ 0 < lv) ∧ T.live ≤ v.want + v.over)], HK1, HA1, hb1⟩
   ·have HC1 := Hid.intro c1
    have HC3 : Hid (v.want + v.over < T.live) := by show _ < _; omega
    clear c1 c3
    refine wp_region_held_drew (S := fun wy => SgT p q Wb v T R lv wy ∧ Blk w.heap.size #[.string ⟨#[]⟩, .int .i64 0, .int .i64 0, .int .i64 0, .int .i64 0, .bool false, .slice none 0 0, .bool false] 47 wy) (by kernel_rfl) ⟨HK1.out.below (Below.refl _ _).drew, HA1.out.drew⟩ (fun hS => ?_)
    have hb1 := hb1.drew
    clear HK1 HA1
    generalize w1.drew = w1d at *
    refine tz 0 4 (.pointer (some ⟨q, 0, none⟩)) rfl hS ?_
    simp only [pA,pB,pC,pD]
    refine tz 1 5 (.pointer (some ⟨q, 0, none⟩)) rfl hS ?_
    simp only [pA,pB,pC,pD]
    refine tz 2 6 (.pointer (some ⟨q, 13, none⟩)) rfl hS ?_
    simp only [pA,pB,pC,pD]
    refine tz 3 7 (.pointer (some ⟨q, 15, none⟩)) rfl hS ?_
    simp only [pA,pB,pC,pD]
    refine tl 4 8 (.int .i64 T.old) ⟨q, 15, none⟩ rfl (fun wy hy => hy.1.2.cell rfl) hS ?_
    simp only [pA,pB,pC,pD]
    refine ty 5 ⟨some 9, _, _, _, _, none⟩ (.bool true) rfl (by rfl) ?_ hS ?_
    ·intro wy hy
     have f0 := HC1.out
     have f1 := HC3.out
     have f2 := HBD.out
     clear hy
     (first | (go_simp; done) | (go_simp; omega))
    simp only [pA,pB,pC,pD]
    refine tz 6 10 (.bool true) rfl hS ?_
    simp only [pA,pB,pC,pD]
    refine ts 7 11 rfl hS ?_
    simp only [pA,pB,pC,pD]
    refine ts 8 12 rfl hS ?_
    simp only [pA,pB,pC,pD]
    refine ts 9 13 rfl hS ?_
    simp only [pA,pB,pC,pD]
    refine ts 10 14 rfl hS ?_
    simp only [pA,pB,pC,pD]
    refine ts 11 15 rfl hS ?_
    simp only [pA,pB,pC,pD]
    refine tz 12 16 (.bool true) rfl hS ?_
    simp only [pA,pB,pC,pD]
    refine tz 13 17 (.bool true) rfl hS ?_
    simp only [pA,pB,pC,pD]
    refine tz 14 18 (.pointer (some ⟨q, 0, none⟩)) rfl hS ?_
    simp only [pA,pB,pC,pD]
    refine tz 15 19 (.pointer (some ⟨q, 0, none⟩)) rfl hS ?_
    simp only [pA,pB,pC,pD]
    refine tz 16 20 (.pointer (some ⟨q, 13, none⟩)) rfl hS ?_
    simp only [pA,pB,pC,pD]
    refine tz 17 21 (.pointer (some ⟨q, 13, none⟩)) rfl hS ?_
    simp only [pA,pB,pC,pD]
    refine tl 18 22 (.int .i64 T.live) ⟨q, 13, none⟩ rfl (fun wy hy => hy.1.2.cell rfl) hS ?_
    simp only [pA,pB,pC,pD]
    refine tz 19 23 (.pointer (some ⟨q, 0, none⟩)) rfl hS ?_
    simp only [pA,pB,pC,pD]
    refine tz 20 24 (.pointer (some ⟨q, 0, none⟩)) rfl hS ?_
    simp only [pA,pB,pC,pD]
    refine tz 21 25 (.pointer (some ⟨q, 0, none⟩)) rfl hS ?_
    simp only [pA,pB,pC,pD]
    refine tz 22 26 (.pointer (some ⟨q, 4, none⟩)) rfl hS ?_
    simp only [pA,pB,pC,pD]
    refine tl 23 27 (.int .i64 v.want) ⟨q, 4, none⟩ rfl (fun wy hy => hy.1.2.cell rfl) hS ?_
    simp only [pA,pB,pC,pD]
    refine tz 24 28 (.pointer (some ⟨q, 0, none⟩)) rfl hS ?_
    simp only [pA,pB,pC,pD]
    refine tz 25 29 (.pointer (some ⟨q, 0, none⟩)) rfl hS ?_
    simp only [pA,pB,pC,pD]
    refine tz 26 30 (.pointer (some ⟨q, 0, none⟩)) rfl hS ?_
    simp only [pA,pB,pC,pD]
    refine tz 27 31 (.pointer (some ⟨q, 6, none⟩)) rfl hS ?_
    simp only [pA,pB,pC,pD]
    refine tl 28 32 (.int .i64 v.over) ⟨q, 6, none⟩ rfl (fun wy hy => hy.1.2.cell rfl) hS ?_
    simp only [pA,pB,pC,pD]
    refine ty 29 ⟨some 33, _, _, _, _, some (13, true)⟩ (.int .i64 (v.want + v.over)) rfl (by rfl) ?_ hS ?_
    ·intro wy hy
     have f0 := HC1.out
     have f1 := HC3.out
     have f2 := HBD.out
     clear hy
     (go_simp; rw [IntKind.wrap_i64]; omega)
    simp only [pA,pB,pC,pD]
    refine ty 30 ⟨some 34, _, _, _, _, some (13, true)⟩ (.bool false) rfl (by rfl) ?_ hS ?_
    ·intro wy hy
     have f0 := HC1.out
     have f1 := HC3.out
     have f2 := HBD.out
     clear hy
     (first | (go_simp; done) | (go_simp; omega))
    simp only [pA,pB,pC,pD]
    refine tz 31 35 (.bool false) rfl hS ?_
    simp only [pA,pB,pC,pD]
    refine tz 32 3 (.bool false) rfl hS ?_
    simp only [pA,pB,pC,pD]
    have HK1 := Hid.intro hS.1
    have HA1 := Hid.intro hS.2
    refine wpAnyH_done (by kernel_rfl) ?_ _
    clear hS
    go_wp2_with fail
    go_meet
    exact ⟨by rw [HBv.out]; rw [decide_eq_false (fun h => by have := HC3.out; omega)], HK1, HA1, hb1⟩
  ·have HC1 : Hid (T.old ≤ 0) := by show _ ≤ _; omega
   clear c1
   by_cases c2 : 0 < lv
   ·by_cases c3 : T.live ≤ v.want + v.over
    ·have HC2 := Hid.intro c2
     have HC3 := Hid.intro c3
     clear c2 c3
     refine wp_region_held_drew (S := fun wy => SgT p q Wb v T R lv wy ∧ Blk w.heap.size #[.string ⟨#[]⟩, .int .i64 0, .int .i64 0, .int .i64 0, .int .i64 0, .bool false, .slice none 0 0, .bool false] 47 wy) (by kernel_rfl) ⟨HK1.out.below (Below.refl _ _).drew, HA1.out.drew⟩ (fun hS => ?_)
     have hb1 := hb1.drew
     clear HK1 HA1
     generalize w1.drew = w1d at *
     refine tz 0 4 (.pointer (some ⟨q, 0, none⟩)) rfl hS ?_
     simp only [pA,pB,pC,pD]
     refine tz 1 5 (.pointer (some ⟨q, 0, none⟩)) rfl hS ?_
     simp only [pA,pB,pC,pD]
     refine tz 2 6 (.pointer (some ⟨q, 13, none⟩)) rfl hS ?_
     simp only [pA,pB,pC,pD]
     refine tz 3 7 (.pointer (some ⟨q, 15, none⟩)) rfl hS ?_
     simp only [pA,pB,pC,pD]
     refine tl 4 8 (.int .i64 T.old) ⟨q, 15, none⟩ rfl (fun wy hy => hy.1.2.cell rfl) hS ?_
     simp only [pA,pB,pC,pD]
     refine ty 5 ⟨some 9, _, _, _, _, none⟩ (.bool false) rfl (by rfl) ?_ hS ?_
     ·intro wy hy
      have f0 := HC1.out
      have f1 := HC2.out
      have f2 := HC3.out
      have f3 := HBD.out
      clear hy
      (first | (go_simp; done) | (go_simp; omega))
     simp only [pA,pB,pC,pD]
     refine tz 6 10 (.bool false) rfl hS ?_
     simp only [pA,pB,pC,pD]
     refine tz 7 11 (.pointer (some ⟨q, 0, none⟩)) rfl hS ?_
     simp only [pA,pB,pC,pD]
     refine tz 8 12 (.pointer (some ⟨q, 0, none⟩)) rfl hS ?_
     simp only [pA,pB,pC,pD]
     refine tz 9 13 (.pointer (some ⟨q, 18, none⟩)) rfl hS ?_
     simp only [pA,pB,pC,pD]
     refine tl 10 14 (.int .i64 lv) ⟨q, 18, none⟩ rfl (fun wy hy => hy.1.2.cell rfl) hS ?_
     simp only [pA,pB,pC,pD]
     refine ty 11 ⟨some 15, _, _, _, _, some (6, false)⟩ (.bool true) rfl (by rfl) ?_ hS ?_
     ·intro wy hy
      have f0 := HC1.out
      have f1 := HC2.out
      have f2 := HC3.out
      have f3 := HBD.out
      clear hy
      (first | (go_simp; done) | (go_simp; omega))
     simp only [pA,pB,pC,pD]
     refine tz 12 16 (.bool true) rfl hS ?_
     simp only [pA,pB,pC,pD]
     refine tz 13 17 (.bool true) rfl hS ?_
     simp only [pA,pB,pC,pD]
     refine tz 14 18 (.pointer (some ⟨q, 0, none⟩)) rfl hS ?_
     simp only [pA,pB,pC,pD]
     refine tz 15 19 (.pointer (some ⟨q, 0, none⟩)) rfl hS ?_
     simp only [pA,pB,pC,pD]
     refine tz 16 20 (.pointer (some ⟨q, 13, none⟩)) rfl hS ?_
     simp only [pA,pB,pC,pD]
     refine tz 17 21 (.pointer (some ⟨q, 13, none⟩)) rfl hS ?_
     simp only [pA,pB,pC,pD]
     refine tl 18 22 (.int .i64 T.live) ⟨q, 13, none⟩ rfl (fun wy hy => hy.1.2.cell rfl) hS ?_
     simp only [pA,pB,pC,pD]
     refine tz 19 23 (.pointer (some ⟨q, 0, none⟩)) rfl hS ?_
     simp only [pA,pB,pC,pD]
     refine tz 20 24 (.pointer (some ⟨q, 0, none⟩)) rfl hS ?_
     simp only [pA,pB,pC,pD]
     refine tz 21 25 (.pointer (some ⟨q, 0, none⟩)) rfl hS ?_
     simp only [pA,pB,pC,pD]
     refine tz 22 26 (.pointer (some ⟨q, 4, none⟩)) rfl hS ?_
     simp only [pA,pB,pC,pD]
     refine tl 23 27 (.int .i64 v.want) ⟨q, 4, none⟩ rfl (fun wy hy => hy.1.2.cell rfl) hS ?_
     simp only [pA,pB,pC,pD]
     refine tz 24 28 (.pointer (some ⟨q, 0, none⟩)) rfl hS ?_
     simp only [pA,pB,pC,pD]
     refine tz 25 29 (.pointer (some ⟨q, 0, none⟩)) rfl hS ?_
     simp only [pA,pB,pC,pD]
     refine tz 26 30 (.pointer (some ⟨q, 0, none⟩)) rfl hS ?_
     simp only [pA,pB,pC,pD]
     refine tz 27 31 (.pointer (some ⟨q, 6, none⟩)) rfl hS ?_
     simp only [pA,pB,pC,pD]
     refine tl 28 32 (.int .i64 v.over) ⟨q, 6, none⟩ rfl (fun wy hy => hy.1.2.cell rfl) hS ?_
     simp only [pA,pB,pC,pD]
     refine ty 29 ⟨some 33, _, _, _, _, some (13, true)⟩ (.int .i64 (v.want + v.over)) rfl (by rfl) ?_ hS ?_
     ·intro wy hy
      have f0 := HC1.out
      have f1 := HC2.out
      have f2 := HC3.out
      have f3 := HBD.out
      clear hy
      (go_simp; rw [IntKind.wrap_i64]; omega)
     simp only [pA,pB,pC,pD]
     refine ty 30 ⟨some 34, _, _, _, _, some (13, true)⟩ (.bool true) rfl (by rfl) ?_ hS ?_
     ·intro wy hy
      have f0 := HC1.out
      have f1 := HC2.out
      have f2 := HC3.out
      have f3 := HBD.out
      clear hy
      (first | (go_simp; done) | (go_simp; omega))
     simp only [pA,pB,pC,pD]
     refine tz 31 35 (.bool true) rfl hS ?_
     simp only [pA,pB,pC,pD]
     refine tz 32 3 (.bool true) rfl hS ?_
     simp only [pA,pB,pC,pD]
     have HK1 := Hid.intro hS.1
     have HA1 := Hid.intro hS.2
     refine wpAnyH_done (by kernel_rfl) ?_ _
     clear hS
     go_wp2_with fail
     go_meet
     exact ⟨by rw [HBv.out]; rw [decide_eq_true (⟨.inr HC2.out, HC3.out⟩ : (0 < T.old ∨ 0 < lv) ∧ T.live ≤ v.want + v.over)], HK1, HA1, hb1⟩
    ·have HC2 := Hid.intro c2
     have HC3 : Hid (v.want + v.over < T.live) := by show _ < _; omega
     clear c2 c3
     refine wp_region_held_drew (S := fun wy => SgT p q Wb v T R lv wy ∧ Blk w.heap.size #[.string ⟨#[]⟩, .int .i64 0, .int .i64 0, .int .i64 0, .int .i64 0, .bool false, .slice none 0 0, .bool false] 47 wy) (by kernel_rfl) ⟨HK1.out.below (Below.refl _ _).drew, HA1.out.drew⟩ (fun hS => ?_)
     have hb1 := hb1.drew
     clear HK1 HA1
     generalize w1.drew = w1d at *
     refine tz 0 4 (.pointer (some ⟨q, 0, none⟩)) rfl hS ?_
     simp only [pA,pB,pC,pD]
     refine tz 1 5 (.pointer (some ⟨q, 0, none⟩)) rfl hS ?_
     simp only [pA,pB,pC,pD]
     refine tz 2 6 (.pointer (some ⟨q, 13, none⟩)) rfl hS ?_
     simp only [pA,pB,pC,pD]
     refine tz 3 7 (.pointer (some ⟨q, 15, none⟩)) rfl hS ?_
     simp only [pA,pB,pC,pD]
     refine tl 4 8 (.int .i64 T.old) ⟨q, 15, none⟩ rfl (fun wy hy => hy.1.2.cell rfl) hS ?_
     simp only [pA,pB,pC,pD]
     refine ty 5 ⟨some 9, _, _, _, _, none⟩ (.bool false) rfl (by rfl) ?_ hS ?_
     ·intro wy hy
      have f0 := HC1.out
      have f1 := HC2.out
      have f2 := HC3.out
      have f3 := HBD.out
      clear hy
      (first | (go_simp; done) | (go_simp; omega))
     simp only [pA,pB,pC,pD]
     refine tz 6 10 (.bool false) rfl hS ?_
     simp only [pA,pB,pC,pD]
     refine tz 7 11 (.pointer (some ⟨q, 0, none⟩)) rfl hS ?_
     simp only [pA,pB,pC,pD]
     refine tz 8 12 (.pointer (some ⟨q, 0, none⟩)) rfl hS ?_
     simp only [pA,pB,pC,pD]
     refine tz 9 13 (.pointer (some ⟨q, 18, none⟩)) rfl hS ?_
     simp only [pA,pB,pC,pD]
     refine tl 10 14 (.int .i64 lv) ⟨q, 18, none⟩ rfl (fun wy hy => hy.1.2.cell rfl) hS ?_
     simp only [pA,pB,pC,pD]
     refine ty 11 ⟨some 15, _, _, _, _, some (6, false)⟩ (.bool true) rfl (by rfl) ?_ hS ?_
     ·intro wy hy
      have f0 := HC1.out
      have f1 := HC2.out
      have f2 := HC3.out
      have f3 := HBD.out
      clear hy
      (first | (go_simp; done) | (go_simp; omega))
     simp only [pA,pB,pC,pD]
     refine tz 12 16 (.bool true) rfl hS ?_
     simp only [pA,pB,pC,pD]
     refine tz 13 17 (.bool true) rfl hS ?_
     simp only [pA,pB,pC,pD]
     refine tz 14 18 (.pointer (some ⟨q, 0, none⟩)) rfl hS ?_
     simp only [pA,pB,pC,pD]
     refine tz 15 19 (.pointer (some ⟨q, 0, none⟩)) rfl hS ?_
     simp only [pA,pB,pC,pD]
     refine tz 16 20 (.pointer (some ⟨q, 13, none⟩)) rfl hS ?_
     simp only [pA,pB,pC,pD]
     refine tz 17 21 (.pointer (some ⟨q, 13, none⟩)) rfl hS ?_
     simp only [pA,pB,pC,pD]
     refine tl 18 22 (.int .i64 T.live) ⟨q, 13, none⟩ rfl (fun wy hy => hy.1.2.cell rfl) hS ?_
     simp only [pA,pB,pC,pD]
     refine tz 19 23 (.pointer (some ⟨q, 0, none⟩)) rfl hS ?_
     simp only [pA,pB,pC,pD]
     refine tz 20 24 (.pointer (some ⟨q, 0, none⟩)) rfl hS ?_
     simp only [pA,pB,pC,pD]
     refine tz 21 25 (.pointer (some ⟨q, 0, none⟩)) rfl hS ?_
     simp only [pA,pB,pC,pD]
     refine tz 22 26 (.pointer (some ⟨q, 4, none⟩)) rfl hS ?_
     simp only [pA,pB,pC,pD]
     refine tl 23 27 (.int .i64 v.want) ⟨q, 4, none⟩ rfl (fun wy hy => hy.1.2.cell rfl) hS ?_
     simp only [pA,pB,pC,pD]
     refine tz 24 28 (.pointer (some ⟨q, 0, none⟩)) rfl hS ?_
     simp only [pA,pB,pC,pD]
     refine tz 25 29 (.pointer (some ⟨q, 0, none⟩)) rfl hS ?_
     simp only [pA,pB,pC,pD]
     refine tz 26 30 (.pointer (some ⟨q, 0, none⟩)) rfl hS ?_
     simp only [pA,pB,pC,pD]
     refine tz 27 31 (.pointer (some ⟨q, 6, none⟩)) rfl hS ?_
     simp only [pA,pB,pC,pD]
     refine tl 28 32 (.int .i64 v.over) ⟨q, 6, none⟩ rfl (fun wy hy => hy.1.2.cell rfl) hS ?_
     simp only [pA,pB,pC,pD]
     refine ty 29 ⟨some 33, _, _, _, _, some (13, true)⟩ (.int .i64 (v.want + v.over)) rfl (by rfl) ?_ hS ?_
     ·intro wy hy
      have f0 := HC1.out
      have f1 := HC2.out
      have f2 := HC3.out
      have f3 := HBD.out
      clear hy
      (go_simp; rw [IntKind.wrap_i64]; omega)
     simp only [pA,pB,pC,pD]
     refine ty 30 ⟨some 34, _, _, _, _, some (13, true)⟩ (.bool false) rfl (by rfl) ?_ hS ?_
     ·intro wy hy
      have f0 := HC1.out
      have f1 := HC2.out
      have f2 := HC3.out
      have f3 := HBD.out
      clear hy
      (first | (go_simp; done) | (go_simp; omega))
     simp only [pA,pB,pC,pD]
     refine tz 31 35 (.bool false) rfl hS ?_
     simp only [pA,pB,pC,pD]
     refine tz 32 3 (.bool false) rfl hS ?_
     simp only [pA,pB,pC,pD]
     have HK1 := Hid.intro hS.1
     have HA1 := Hid.intro hS.2
     refine wpAnyH_done (by kernel_rfl) ?_ _
     clear hS
     go_wp2_with fail
     go_meet
     exact ⟨by rw [HBv.out]; rw [decide_eq_false (fun h => by have := HC3.out; omega)], HK1, HA1, hb1⟩
   ·have HC2 : Hid (lv ≤ 0) := by show _ ≤ _; omega
    clear c2
    refine wp_region_held_drew (S := fun wy => SgT p q Wb v T R lv wy ∧ Blk w.heap.size #[.string ⟨#[]⟩, .int .i64 0, .int .i64 0, .int .i64 0, .int .i64 0, .bool false, .slice none 0 0, .bool false] 47 wy) (by kernel_rfl) ⟨HK1.out.below (Below.refl _ _).drew, HA1.out.drew⟩ (fun hS => ?_)
    have hb1 := hb1.drew
    clear HK1 HA1
    generalize w1.drew = w1d at *
    refine tz 0 4 (.pointer (some ⟨q, 0, none⟩)) rfl hS ?_
    simp only [pA,pB,pC,pD]
    refine tz 1 5 (.pointer (some ⟨q, 0, none⟩)) rfl hS ?_
    simp only [pA,pB,pC,pD]
    refine tz 2 6 (.pointer (some ⟨q, 13, none⟩)) rfl hS ?_
    simp only [pA,pB,pC,pD]
    refine tz 3 7 (.pointer (some ⟨q, 15, none⟩)) rfl hS ?_
    simp only [pA,pB,pC,pD]
    refine tl 4 8 (.int .i64 T.old) ⟨q, 15, none⟩ rfl (fun wy hy => hy.1.2.cell rfl) hS ?_
    simp only [pA,pB,pC,pD]
    refine ty 5 ⟨some 9, _, _, _, _, none⟩ (.bool false) rfl (by rfl) ?_ hS ?_
    ·intro wy hy
     have f0 := HC1.out
     have f1 := HC2.out
     have f2 := HBD.out
     clear hy
     (first | (go_simp; done) | (go_simp; omega))
    simp only [pA,pB,pC,pD]
    refine tz 6 10 (.bool false) rfl hS ?_
    simp only [pA,pB,pC,pD]
    refine tz 7 11 (.pointer (some ⟨q, 0, none⟩)) rfl hS ?_
    simp only [pA,pB,pC,pD]
    refine tz 8 12 (.pointer (some ⟨q, 0, none⟩)) rfl hS ?_
    simp only [pA,pB,pC,pD]
    refine tz 9 13 (.pointer (some ⟨q, 18, none⟩)) rfl hS ?_
    simp only [pA,pB,pC,pD]
    refine tl 10 14 (.int .i64 lv) ⟨q, 18, none⟩ rfl (fun wy hy => hy.1.2.cell rfl) hS ?_
    simp only [pA,pB,pC,pD]
    refine ty 11 ⟨some 15, _, _, _, _, some (6, false)⟩ (.bool false) rfl (by rfl) ?_ hS ?_
    ·intro wy hy
     have f0 := HC1.out
     have f1 := HC2.out
     have f2 := HBD.out
     clear hy
     (first | (go_simp; done) | (go_simp; omega))
    simp only [pA,pB,pC,pD]
    refine tz 12 16 (.bool false) rfl hS ?_
    simp only [pA,pB,pC,pD]
    refine tz 13 17 (.bool false) rfl hS ?_
    simp only [pA,pB,pC,pD]
    refine ts 14 18 rfl hS ?_
    simp only [pA,pB,pC,pD]
    refine ts 15 19 rfl hS ?_
    simp only [pA,pB,pC,pD]
    refine ts 16 20 rfl hS ?_
    simp only [pA,pB,pC,pD]
    refine ts 17 21 rfl hS ?_
    simp only [pA,pB,pC,pD]
    refine ts 18 22 rfl hS ?_
    simp only [pA,pB,pC,pD]
    refine ts 19 23 rfl hS ?_
    simp only [pA,pB,pC,pD]
    refine ts 20 24 rfl hS ?_
    simp only [pA,pB,pC,pD]
    refine ts 21 25 rfl hS ?_
    simp only [pA,pB,pC,pD]
    refine ts 22 26 rfl hS ?_
    simp only [pA,pB,pC,pD]
    refine ts 23 27 rfl hS ?_
    simp only [pA,pB,pC,pD]
    refine ts 24 28 rfl hS ?_
    simp only [pA,pB,pC,pD]
    refine ts 25 29 rfl hS ?_
    simp only [pA,pB,pC,pD]
    refine ts 26 30 rfl hS ?_
    simp only [pA,pB,pC,pD]
    refine ts 27 31 rfl hS ?_
    simp only [pA,pB,pC,pD]
    refine ts 28 32 rfl hS ?_
    simp only [pA,pB,pC,pD]
    refine ts 29 33 rfl hS ?_
    simp only [pA,pB,pC,pD]
    refine ts 30 34 rfl hS ?_
    simp only [pA,pB,pC,pD]
    refine tz 31 35 (.bool false) rfl hS ?_
    simp only [pA,pB,pC,pD]
    refine tz 32 3 (.bool false) rfl hS ?_
    simp only [pA,pB,pC,pD]
    have HK1 := Hid.intro hS.1
    have HA1 := Hid.intro hS.2
    refine wpAnyH_done (by kernel_rfl) ?_ _
    clear hS
    go_wp2_with fail
    go_meet
    exact ⟨by rw [HBv.out]; rw [decide_eq_false (fun h => by have := HC1.out; have := HC2.out; omega)], HK1, HA1, hb1⟩
 case rest =>
  clear HK1 HA1 hb1
  obtain ⟨rfl, HK1, HA1, hb1⟩ := hcut
  go_upto_region 2 with fail
  cases hg : v.gone with
  | true =>
   have HEQ : Hid (kcP x v T lv = nA) := if_pos (.inl hg)
   have HG := Hid.intro hg
   clear hg
   refine wp_region_held_drew (S := fun wy => SgT p q Wb v T R lv wy ∧ Blk w.heap.size #[.string ⟨#[]⟩, .int .i64 0, .int .i64 0, .int .i64 0, .int .i64 0, .bool false, .slice none 0 0, .bool false] 47 wy) (by kernel_rfl) ⟨HK1.out.below (Below.refl _ _).drew, HA1.out.drew⟩ (fun hS => ?_)
   have hb1 := hb1.drew
   clear HK1 HA1
   generalize wc.drew = wcd at *
   refine tz 0 37 (.pointer (some ⟨q, 0, none⟩)) rfl hS ?_
   simp only [pA,pB,pC,pD]
   refine tz 1 38 (.pointer (some ⟨q, 0, none⟩)) rfl hS ?_
   simp only [pA,pB,pC,pD]
   refine tz 2 39 (.pointer (some ⟨q, 0, none⟩)) rfl hS ?_
   simp only [pA,pB,pC,pD]
   refine tz 3 40 (.pointer (some ⟨q, 2, none⟩)) rfl hS ?_
   simp only [pA,pB,pC,pD]
   refine ty 4 ⟨some 41, _, _, _, _, none⟩ (.bool true) rfl (by rfl) ?_ hS ?_
   ·intro wy hy
    have h0 : wy.cell? ⟨q, 2, none⟩ = some (.bool v.gone) := hy.1.2.cell rfl
    have f0 := HG.out
    clear hy
    (first | (go_simp; done) | (go_simp; simp [*]))
   simp only [pA,pB,pC,pD]
   refine tz 5 42 (.bool true) rfl hS ?_
   simp only [pA,pB,pC,pD]
   refine ts 6 43 rfl hS ?_
   simp only [pA,pB,pC,pD]
   refine ts 7 44 rfl hS ?_
   simp only [pA,pB,pC,pD]
   refine ts 8 45 rfl hS ?_
   simp only [pA,pB,pC,pD]
   refine ts 9 46 rfl hS ?_
   simp only [pA,pB,pC,pD]
   refine ts 10 47 rfl hS ?_
   simp only [pA,pB,pC,pD]
   refine ts 11 48 rfl hS ?_
   simp only [pA,pB,pC,pD]
   refine ts 12 49 rfl hS ?_
   simp only [pA,pB,pC,pD]
   refine ts 13 50 rfl hS ?_
   simp only [pA,pB,pC,pD]
   refine ts 14 51 rfl hS ?_
   simp only [pA,pB,pC,pD]
   refine ts 15 52 rfl hS ?_
   simp only [pA,pB,pC,pD]
   refine ts 16 53 rfl hS ?_
   simp only [pA,pB,pC,pD]
   refine tz 17 54 (.bool true) rfl hS ?_
   simp only [pA,pB,pC,pD]
   refine tz 18 36 (.bool true) rfl hS ?_
   simp only [pA,pB,pC,pD]
   have HK1 := Hid.intro hS.1
   have HA1 := Hid.intro hS.2
   refine wpAnyH_done (by kernel_rfl) ?_ _
   clear hS
   have HTA := Hid.intro HA1.out.there
   obtain ⟨wf, HE⟩ : ∃ wf, Hid (wf = wcd.setCells w.heap.size 0 [.string ⟨#[]⟩, .int .i64 0, .int .i64 0, .int .i64 0, .int .i64 0, .bool false, .slice none 0 0, .bool false]) := ⟨_, rfl⟩
   have HRf : Hid (wf.rangeAt w.heap.size 0 [.string ⟨#[]⟩, .int .i64 0, .int .i64 0, .int .i64 0, .int .i64 0, .bool false, .slice none 0 0, .bool false]) := by
    show World.rangeAt _ _ _ _
    rw [HE.out]
    exact World.rangeAt_setCells_same _ _ _ _ HTA.out
   have HBf : Hid (Below w.heap.size w wf) := by
    show Below _ _ _
    rw [HE.out]
    exact below_setCells (Nat.le_refl _) _ _ _ hb1
   go_wp2_with (refine wpList_store_to rfl 47 _ _ rfl w.heap.size 0 #[.string ⟨#[]⟩, .int .i64 0, .int .i64 0, .int .i64 0, .int .i64 0, .bool false, .slice none 0 0, .bool false] (by first | rfl | (simp [go_sem]; done)) rfl HTA.out isz_Sac (by simp [Value.oneCell']) wf HE.out ?_)
   exact bodyPost_ret (results_cell_mid rfl _ _ w.heap.size [.string ⟨#[]⟩, .int .i64 0, .int .i64 0, .int .i64 0, .int .i64 0, .bool false, .slice none 0 0, .bool false] _ rfl HRf.out Tryz.underlying47 rfl isz_Sac) rfl (by rw [HEQ.out]; exact ⟨none, 0, rfl, World.ownsRow_nil _ _ _ _, HBf.out⟩)
  | false =>
   have HG := Hid.intro hg
   by_cases c4 : T.live = v.want
   ·have HEQ : Hid (kcP x v T lv = nA) := if_pos (.inr c4)
    have HC4 := Hid.intro c4
    clear hg c4
    refine wp_region_held_drew (S := fun wy => SgT p q Wb v T R lv wy ∧ Blk w.heap.size #[.string ⟨#[]⟩, .int .i64 0, .int .i64 0, .int .i64 0, .int .i64 0, .bool false, .slice none 0 0, .bool false] 47 wy) (by kernel_rfl) ⟨HK1.out.below (Below.refl _ _).drew, HA1.out.drew⟩ (fun hS => ?_)
    have hb1 := hb1.drew
    clear HK1 HA1
    generalize wc.drew = wcd at *
    refine tz 0 37 (.pointer (some ⟨q, 0, none⟩)) rfl hS ?_
    simp only [pA,pB,pC,pD]
    refine tz 1 38 (.pointer (some ⟨q, 0, none⟩)) rfl hS ?_
    simp only [pA,pB,pC,pD]
    refine tz 2 39 (.pointer (some ⟨q, 0, none⟩)) rfl hS ?_
    simp only [pA,pB,pC,pD]
    refine tz 3 40 (.pointer (some ⟨q, 2, none⟩)) rfl hS ?_
    simp only [pA,pB,pC,pD]
    refine ty 4 ⟨some 41, _, _, _, _, none⟩ (.bool false) rfl (by rfl) ?_ hS ?_
    ·intro wy hy
     have h0 : wy.cell? ⟨q, 2, none⟩ = some (.bool v.gone) := hy.1.2.cell rfl
     have f0 := HG.out
     have f1 := HC4.out
     clear hy
     (first | (go_simp; done) | (go_simp; simp [*]))
    simp only [pA,pB,pC,pD]
    refine tz 5 42 (.bool false) rfl hS ?_
    simp only [pA,pB,pC,pD]
    refine tz 6 43 (.pointer (some ⟨q, 0, none⟩)) rfl hS ?_
    simp only [pA,pB,pC,pD]
    refine tz 7 44 (.pointer (some ⟨q, 0, none⟩)) rfl hS ?_
    simp only [pA,pB,pC,pD]
    refine tz 8 45 (.pointer (some ⟨q, 13, none⟩)) rfl hS ?_
    simp only [pA,pB,pC,pD]
    refine tz 9 46 (.pointer (some ⟨q, 13, none⟩)) rfl hS ?_
    simp only [pA,pB,pC,pD]
    refine tl 10 47 (.int .i64 T.live) ⟨q, 13, none⟩ rfl (fun wy hy => hy.1.2.cell rfl) hS ?_
    simp only [pA,pB,pC,pD]
    refine tz 11 48 (.pointer (some ⟨q, 0, none⟩)) rfl hS ?_
    simp only [pA,pB,pC,pD]
    refine tz 12 49 (.pointer (some ⟨q, 0, none⟩)) rfl hS ?_
    simp only [pA,pB,pC,pD]
    refine tz 13 50 (.pointer (some ⟨q, 0, none⟩)) rfl hS ?_
    simp only [pA,pB,pC,pD]
    refine tz 14 51 (.pointer (some ⟨q, 4, none⟩)) rfl hS ?_
    simp only [pA,pB,pC,pD]
    refine tl 15 52 (.int .i64 v.want) ⟨q, 4, none⟩ rfl (fun wy hy => hy.1.2.cell rfl) hS ?_
    simp only [pA,pB,pC,pD]
    refine ty 16 ⟨some 53, _, _, _, _, some (5, false)⟩ (.bool true) rfl (by rfl) ?_ hS ?_
    ·intro wy hy
     have f0 := HG.out
     have f1 := HC4.out
     clear hy
     (first | (go_simp; done) | (go_simp; omega))
    simp only [pA,pB,pC,pD]
    refine tz 17 54 (.bool true) rfl hS ?_
    simp only [pA,pB,pC,pD]
    refine tz 18 36 (.bool true) rfl hS ?_
    simp only [pA,pB,pC,pD]
    have HK1 := Hid.intro hS.1
    have HA1 := Hid.intro hS.2
    refine wpAnyH_done (by kernel_rfl) ?_ _
    clear hS
    have HTA := Hid.intro HA1.out.there
    obtain ⟨wf, HE⟩ : ∃ wf, Hid (wf = wcd.setCells w.heap.size 0 [.string ⟨#[]⟩, .int .i64 0, .int .i64 0, .int .i64 0, .int .i64 0, .bool false, .slice none 0 0, .bool false]) := ⟨_, rfl⟩
    have HRf : Hid (wf.rangeAt w.heap.size 0 [.string ⟨#[]⟩, .int .i64 0, .int .i64 0, .int .i64 0, .int .i64 0, .bool false, .slice none 0 0, .bool false]) := by
     show World.rangeAt _ _ _ _
     rw [HE.out]
     exact World.rangeAt_setCells_same _ _ _ _ HTA.out
    have HBf : Hid (Below w.heap.size w wf) := by
     show Below _ _ _
     rw [HE.out]
     exact below_setCells (Nat.le_refl _) _ _ _ hb1
    go_wp2_with (refine wpList_store_to rfl 47 _ _ rfl w.heap.size 0 #[.string ⟨#[]⟩, .int .i64 0, .int .i64 0, .int .i64 0, .int .i64 0, .bool false, .slice none 0 0, .bool false] (by first | rfl | (simp [go_sem]; done)) rfl HTA.out isz_Sac (by simp [Value.oneCell']) wf HE.out ?_)
    exact bodyPost_ret (results_cell_mid rfl _ _ w.heap.size [.string ⟨#[]⟩, .int .i64 0, .int .i64 0, .int .i64 0, .int .i64 0, .bool false, .slice none 0 0, .bool false] _ rfl HRf.out Tryz.underlying47 rfl isz_Sac) rfl (by rw [HEQ.out]; exact ⟨none, 0, rfl, World.ownsRow_nil _ _ _ _, HBf.out⟩)
   ·have HC4 := Hid.intro c4
    clear hg c4
    refine wp_region_held_drew (S := fun wy => SgT p q Wb v T R lv wy ∧ Blk w.heap.size #[.string ⟨#[]⟩, .int .i64 0, .int .i64 0, .int .i64 0, .int .i64 0, .bool false, .slice none 0 0, .bool false] 47 wy) (by kernel_rfl) ⟨HK1.out.below (Below.refl _ _).drew, HA1.out.drew⟩ (fun hS => ?_)
    have hb1 := hb1.drew
    clear HK1 HA1
    generalize wc.drew = wcd at *
    refine tz 0 37 (.pointer (some ⟨q, 0, none⟩)) rfl hS ?_
    simp only [pA,pB,pC,pD]
    refine tz 1 38 (.pointer (some ⟨q, 0, none⟩)) rfl hS ?_
    simp only [pA,pB,pC,pD]
    refine tz 2 39 (.pointer (some ⟨q, 0, none⟩)) rfl hS ?_
    simp only [pA,pB,pC,pD]
    refine tz 3 40 (.pointer (some ⟨q, 2, none⟩)) rfl hS ?_
    simp only [pA,pB,pC,pD]
    refine ty 4 ⟨some 41, _, _, _, _, none⟩ (.bool false) rfl (by rfl) ?_ hS ?_
    ·intro wy hy
     have h0 : wy.cell? ⟨q, 2, none⟩ = some (.bool v.gone) := hy.1.2.cell rfl
     have f0 := HG.out
     have f1 := HC4.out
     clear hy
     (first | (go_simp; done) | (go_simp; simp [*]))
    simp only [pA,pB,pC,pD]
    refine tz 5 42 (.bool false) rfl hS ?_
    simp only [pA,pB,pC,pD]
    refine tz 6 43 (.pointer (some ⟨q, 0, none⟩)) rfl hS ?_
    simp only [pA,pB,pC,pD]
    refine tz 7 44 (.pointer (some ⟨q, 0, none⟩)) rfl hS ?_
    simp only [pA,pB,pC,pD]
    refine tz 8 45 (.pointer (some ⟨q, 13, none⟩)) rfl hS ?_
    simp only [pA,pB,pC,pD]
    refine tz 9 46 (.pointer (some ⟨q, 13, none⟩)) rfl hS ?_
    simp only [pA,pB,pC,pD]
    refine tl 10 47 (.int .i64 T.live) ⟨q, 13, none⟩ rfl (fun wy hy => hy.1.2.cell rfl) hS ?_
    simp only [pA,pB,pC,pD]
    refine tz 11 48 (.pointer (some ⟨q, 0, none⟩)) rfl hS ?_
    simp only [pA,pB,pC,pD]
    refine tz 12 49 (.pointer (some ⟨q, 0, none⟩)) rfl hS ?_
    simp only [pA,pB,pC,pD]
    refine tz 13 50 (.pointer (some ⟨q, 0, none⟩)) rfl hS ?_
    simp only [pA,pB,pC,pD]
    refine tz 14 51 (.pointer (some ⟨q, 4, none⟩)) rfl hS ?_
    simp only [pA,pB,pC,pD]
    refine tl 15 52 (.int .i64 v.want) ⟨q, 4, none⟩ rfl (fun wy hy => hy.1.2.cell rfl) hS ?_
    simp only [pA,pB,pC,pD]
    refine ty 16 ⟨some 53, _, _, _, _, some (5, false)⟩ (.bool false) rfl (by rfl) ?_ hS ?_
    ·intro wy hy
     have f0 := HG.out
     have f1 := HC4.out
     clear hy
     (first | (go_simp; done) | (go_simp; omega))
    simp only [pA,pB,pC,pD]
    refine tz 17 54 (.bool false) rfl hS ?_
    simp only [pA,pB,pC,pD]
    refine tz 18 36 (.bool false) rfl hS ?_
    simp only [pA,pB,pC,pD]
    have HK1 := Hid.intro hS.1
    have HA1 := Hid.intro hS.2
    refine wpAnyH_done (by kernel_rfl) ?_ _
    clear hS
    go_upto_region 4 with fail
    by_cases c5 : T.live < v.want
    ·have HEQ : Hid (kcP x v T lv = ⟨⟨#[]⟩, 0, v.want - T.live, 0, 0, false, [], false⟩) := by show _ = _; unfold kcP; rw [if_neg (fun h => by rcases h with h | h; (rw [HG.out] at h; cases h); exact HC4.out h), if_pos c5]
     have HC5 := Hid.intro c5
     clear c5
     refine wp_region_held_drew (S := fun wy => SgT p q Wb v T R lv wy ∧ Blk w.heap.size #[.string ⟨#[]⟩, .int .i64 0, .int .i64 0, .int .i64 0, .int .i64 0, .bool false, .slice none 0 0, .bool false] 47 wy) (by kernel_rfl) ⟨HK1.out.below (Below.refl _ _).drew, HA1.out.drew⟩ (fun hS => ?_)
     have hb1 := hb1.drew
     clear HK1 HA1
     generalize wcd.drew = wcdd at *
     refine tz 0 57 (.pointer (some ⟨q, 0, none⟩)) rfl hS ?_
     simp only [pA,pB,pC,pD]
     refine tz 1 58 (.pointer (some ⟨q, 0, none⟩)) rfl hS ?_
     simp only [pA,pB,pC,pD]
     refine tz 2 59 (.pointer (some ⟨q, 13, none⟩)) rfl hS ?_
     simp only [pA,pB,pC,pD]
     refine tz 3 60 (.pointer (some ⟨q, 13, none⟩)) rfl hS ?_
     simp only [pA,pB,pC,pD]
     refine tl 4 61 (.int .i64 T.live) ⟨q, 13, none⟩ rfl (fun wy hy => hy.1.2.cell rfl) hS ?_
     simp only [pA,pB,pC,pD]
     refine tz 5 62 (.pointer (some ⟨q, 0, none⟩)) rfl hS ?_
     simp only [pA,pB,pC,pD]
     refine tz 6 63 (.pointer (some ⟨q, 0, none⟩)) rfl hS ?_
     simp only [pA,pB,pC,pD]
     refine tz 7 64 (.pointer (some ⟨q, 0, none⟩)) rfl hS ?_
     simp only [pA,pB,pC,pD]
     refine tz 8 65 (.pointer (some ⟨q, 4, none⟩)) rfl hS ?_
     simp only [pA,pB,pC,pD]
     refine tl 9 66 (.int .i64 v.want) ⟨q, 4, none⟩ rfl (fun wy hy => hy.1.2.cell rfl) hS ?_
     simp only [pA,pB,pC,pD]
     refine ty 10 ⟨some 67, _, _, _, _, none⟩ (.bool true) rfl (by rfl) ?_ hS ?_
     ·intro wy hy
      have f0 := HC5.out
      clear hy
      (first | (go_simp; done) | (go_simp; omega))
     simp only [pA,pB,pC,pD]
     refine tz 11 56 (.bool true) rfl hS ?_
     simp only [pA,pB,pC,pD]
     have HK1 := Hid.intro hS.1
     have HA1 := Hid.intro hS.2
     refine wpAnyH_done (by kernel_rfl) ?_ _
     clear hS
     go_upto_region 5 with fail
     refine wp_region_held_drew (S := fun wy => SgT p q Wb v T R lv wy) (by kernel_rfl) (HK1.out.below (Below.refl _ _).drew) (fun hS => ?_)
     have hb1 := hb1.drew
     have HA1 := Hid.intro HA1.out.drew
     clear HK1
     generalize wcdd.drew = w2 at *
     refine tz 0 68 (.pointer (some ⟨q, 0, none⟩)) rfl hS ?_
     simp only [pA,pB,pC,pD]
     refine tz 1 69 (.pointer (some ⟨q, 0, none⟩)) rfl hS ?_
     simp only [pA,pB,pC,pD]
     refine tz 2 70 (.pointer (some ⟨q, 0, none⟩)) rfl hS ?_
     simp only [pA,pB,pC,pD]
     refine tz 3 71 (.pointer (some ⟨q, 4, none⟩)) rfl hS ?_
     simp only [pA,pB,pC,pD]
     refine tl 4 72 (.int .i64 v.want) ⟨q, 4, none⟩ rfl (fun wy hy => hy.2.cell rfl) hS ?_
     simp only [pA,pB,pC,pD]
     refine tz 5 73 (.pointer (some ⟨q, 0, none⟩)) rfl hS ?_
     simp only [pA,pB,pC,pD]
     refine tz 6 74 (.pointer (some ⟨q, 0, none⟩)) rfl hS ?_
     simp only [pA,pB,pC,pD]
     refine tz 7 75 (.pointer (some ⟨q, 13, none⟩)) rfl hS ?_
     simp only [pA,pB,pC,pD]
     refine tz 8 76 (.pointer (some ⟨q, 13, none⟩)) rfl hS ?_
     simp only [pA,pB,pC,pD]
     refine tl 9 77 (.int .i64 T.live) ⟨q, 13, none⟩ rfl (fun wy hy => hy.2.cell rfl) hS ?_
     simp only [pA,pB,pC,pD]
     refine ty 10 ⟨some 78, _, _, _, _, none⟩ (.int .i64 (v.want - T.live)) rfl (by rfl) ?_ hS ?_
     ·intro wy hy
      have f0 := HBD.out
      clear hy
      (go_simp; rw [IntKind.wrap_i64]; omega)
     simp only [pA,pB,pC,pD]
     refine tz 11 79 (.agg #[.string ⟨#[]⟩, .int .i64 0, .int .i64 (v.want - T.live), .int .i64 0, .int .i64 0, .bool false, .slice none 0 0, .bool false]) rfl hS ?_
     simp only [pA,pB,pC,pD]
     refine rd1 12 ⟨none, _, _, _, _, none⟩ rfl (fun K hK => ?_)
     rw [if_pos (by rfl)]
     refine wp_store_mid 47 (.tmp 2) (.tmp 79) (by rfl) w.heap.size 0 #[.string ⟨#[]⟩, .int .i64 0, .int .i64 (v.want - T.live), .int .i64 0, .int .i64 0, .bool false, .slice none 0 0, .bool false] (by rfl) (by rfl) HA1.out.there isz_Sac (by simp [Value.oneCell']) ?_
     have HRf : Hid ((w2.setCells w.heap.size 0 [.string ⟨#[]⟩, .int .i64 0, .int .i64 (v.want - T.live), .int .i64 0, .int .i64 0, .bool false, .slice none 0 0, .bool false]).rangeAt w.heap.size 0 [.string ⟨#[]⟩, .int .i64 0, .int .i64 (v.want - T.live), .int .i64 0, .int .i64 0, .bool false, .slice none 0 0, .bool false]) := World.rangeAt_setCells_same _ _ _ _ HA1.out.there
     have HBf : Hid (Below w.heap.size w (w2.setCells w.heap.size 0 [.string ⟨#[]⟩, .int .i64 0, .int .i64 (v.want - T.live), .int .i64 0, .int .i64 0, .bool false, .slice none 0 0, .bool false])) := below_setCells (Nat.le_refl _) _ _ _ hb1
     have hW1 := HSW.out
     refine hK.out _ _ ⟨below_setCells hW1.1 _ _ _ hS.1, blk_setCells_other (by omega) _ _ _ hS.2⟩ (fun hS => ?_)
     clear hK K
     generalize w2.setCells w.heap.size 0 [.string ⟨#[]⟩, .int .i64 0, .int .i64 (v.want - T.live), .int .i64 0, .int .i64 0, .bool false, .slice none 0 0, .bool false] = wf at *
     refine wpAnyH_done (by kernel_rfl) ?_ _
     clear hS
     go_wp2_with fail
     exact bodyPost_ret (results_cell_mid rfl _ _ w.heap.size [.string ⟨#[]⟩, .int .i64 0, .int .i64 (v.want - T.live), .int .i64 0, .int .i64 0, .bool false, .slice none 0 0, .bool false] _ rfl HRf.out Tryz.underlying47 rfl isz_Sac) rfl (by rw [HEQ.out]; exact ⟨none, 0, rfl, World.ownsRow_nil _ _ _ _, HBf.out⟩)
    ·have HC5 : Hid (v.want ≤ T.live) := by show _ ≤ _; omega
     clear c5
     refine wp_region_held_drew (S := fun wy => SgT p q Wb v T R lv wy ∧ Blk w.heap.size #[.string ⟨#[]⟩, .int .i64 0, .int .i64 0, .int .i64 0, .int .i64 0, .bool false, .slice none 0 0, .bool false] 47 wy) (by kernel_rfl) ⟨HK1.out.below (Below.refl _ _).drew, HA1.out.drew⟩ (fun hS => ?_)
     have hb1 := hb1.drew
     clear HK1 HA1
     generalize wcd.drew = wcdd at *
     refine tz 0 57 (.pointer (some ⟨q, 0, none⟩)) rfl hS ?_
     simp only [pA,pB,pC,pD]
     refine tz 1 58 (.pointer (some ⟨q, 0, none⟩)) rfl hS ?_
     simp only [pA,pB,pC,pD]
     refine tz 2 59 (.pointer (some ⟨q, 13, none⟩)) rfl hS ?_
     simp only [pA,pB,pC,pD]
     refine tz 3 60 (.pointer (some ⟨q, 13, none⟩)) rfl hS ?_
     simp only [pA,pB,pC,pD]
     refine tl 4 61 (.int .i64 T.live) ⟨q, 13, none⟩ rfl (fun wy hy => hy.1.2.cell rfl) hS ?_
     simp only [pA,pB,pC,pD]
     refine tz 5 62 (.pointer (some ⟨q, 0, none⟩)) rfl hS ?_
     simp only [pA,pB,pC,pD]
     refine tz 6 63 (.pointer (some ⟨q, 0, none⟩)) rfl hS ?_
     simp only [pA,pB,pC,pD]
     refine tz 7 64 (.pointer (some ⟨q, 0, none⟩)) rfl hS ?_
     simp only [pA,pB,pC,pD]
     refine tz 8 65 (.pointer (some ⟨q, 4, none⟩)) rfl hS ?_
     simp only [pA,pB,pC,pD]
     refine tl 9 66 (.int .i64 v.want) ⟨q, 4, none⟩ rfl (fun wy hy => hy.1.2.cell rfl) hS ?_
     simp only [pA,pB,pC,pD]
     refine ty 10 ⟨some 67, _, _, _, _, none⟩ (.bool false) rfl (by rfl) ?_ hS ?_
     ·intro wy hy
      have f0 := HC5.out
      clear hy
      (first | (go_simp; done) | (go_simp; omega))
     simp only [pA,pB,pC,pD]
     refine tz 11 56 (.bool false) rfl hS ?_
     simp only [pA,pB,pC,pD]
     have HK1 := Hid.intro hS.1
     have HA1 := Hid.intro hS.2
     refine wpAnyH_done (by kernel_rfl) ?_ _
     clear hS
     cases Bv with
     | true =>
      have HEQ : Hid (kcP x v T lv = nA) := by show _ = _; unfold kcP; rw [if_neg (fun h => by rcases h with h | h; (rw [HG.out] at h; cases h); exact HC4.out h), if_neg (by have := HC5.out; omega), if_pos (of_decide_eq_true HBv.out.symm)]
      have HTA := Hid.intro HA1.out.there
      obtain ⟨wf, HE⟩ : ∃ wf, Hid (wf = wcdd.setCells w.heap.size 0 [.string ⟨#[]⟩, .int .i64 0, .int .i64 0, .int .i64 0, .int .i64 0, .bool false, .slice none 0 0, .bool false]) := ⟨_, rfl⟩
      have HRf : Hid (wf.rangeAt w.heap.size 0 [.string ⟨#[]⟩, .int .i64 0, .int .i64 0, .int .i64 0, .int .i64 0, .bool false, .slice none 0 0, .bool false]) := by
       show World.rangeAt _ _ _ _
       rw [HE.out]
       exact World.rangeAt_setCells_same _ _ _ _ HTA.out
      have HBf : Hid (Below w.heap.size w wf) := by
       show Below _ _ _
       rw [HE.out]
       exact below_setCells (Nat.le_refl _) _ _ _ hb1
      go_wp2_with (refine wpList_store_to rfl 47 _ _ rfl w.heap.size 0 #[.string ⟨#[]⟩, .int .i64 0, .int .i64 0, .int .i64 0, .int .i64 0, .bool false, .slice none 0 0, .bool false] (by first | rfl | (simp [go_sem]; done)) rfl HTA.out isz_Sac (by simp [Value.oneCell']) wf HE.out ?_)
      exact bodyPost_ret (results_cell_mid rfl _ _ w.heap.size [.string ⟨#[]⟩, .int .i64 0, .int .i64 0, .int .i64 0, .int .i64 0, .bool false, .slice none 0 0, .bool false] _ rfl HRf.out Tryz.underlying47 rfl isz_Sac) rfl (by rw [HEQ.out]; exact ⟨none, 0, rfl, World.ownsRow_nil _ _ _ _, HBf.out⟩)
     | false =>
      have HEQ : Hid (kcP x v T lv = eA (firC x v (lvF x v.name (fun _ => true)))) := by show _ = _; unfold kcP; rw [if_neg (fun h => by rcases h with h | h; (rw [HG.out] at h; cases h); exact HC4.out h), if_neg (by have := HC5.out; omega), if_neg (of_decide_eq_false HBv.out.symm)]
      go_wp2_with fail
      refine (endFirst_any x a1 c1 b2 o2 c2 a3 c3 p m n lo q Wb v 119 #[] (fun _ => true) _ HF.out HV.out HCAP.out ⟨lv, HTK.out _ HK1.out⟩ (anyCopy_is x p q Wb v) (enters_of Tryz.func119 (by kernel_rfl) rfl)).mono ?_
      rintro e w5 ⟨ae, ce, rfl, ho5, hb5⟩
      have hb5' := hb1.trans (hb5.mono hb1.size)
      have HA5 := Hid.intro (HA1.out.below hb5 HA1.out.lt)
      have hg5 := HA1.out.lt
      have HO5 := Hid.intro ho5
      clear ho5 hb5 HA1 HK1
      generalize (eA (firC x v (lvF x v.name (fun _ => true)))) = A at *
      have HTA := Hid.intro HA5.out.there
      obtain ⟨wf, HE⟩ : ∃ wf, Hid (wf = w5.setCells w.heap.size 0 [.string A.service, .int .i64 A.seen, .int .i64 A.create, .int .i64 A.want, .int .i64 A.cool, .bool A.scale, .slice ae A.ends.length ce, .bool A.drop]) := ⟨_, rfl⟩
      have HRf : Hid (wf.rangeAt w.heap.size 0 [.string A.service, .int .i64 A.seen, .int .i64 A.create, .int .i64 A.want, .int .i64 A.cool, .bool A.scale, .slice ae A.ends.length ce, .bool A.drop]) := by
       show World.rangeAt _ _ _ _
       rw [HE.out]
       exact World.rangeAt_setCells_same _ _ _ _ HTA.out
      have HBf : Hid (Below w.heap.size w wf) := by
       show Below _ _ _
       rw [HE.out]
       exact below_setCells (Nat.le_refl _) _ _ _ hb5'
      have HOf := Hid.intro (own_store (o := 0) (vs := [.string A.service, .int .i64 A.seen, .int .i64 A.create, .int .i64 A.want, .int .i64 A.cool, .bool A.scale, .slice ae A.ends.length ce, .bool A.drop]) HO5.out hg5)
      rw [← HE.out] at HOf
      go_wp2_with (refine wpList_store_to rfl 47 _ _ rfl w.heap.size 0 #[.string A.service, .int .i64 A.seen, .int .i64 A.create, .int .i64 A.want, .int .i64 A.cool, .bool A.scale, .slice ae A.ends.length ce, .bool A.drop] (by first | rfl | (simp [go_sem]; done)) rfl HTA.out isz_Sac (by simp [Value.oneCell']) wf HE.out ?_)
      exact bodyPost_ret (results_cell_mid rfl _ _ w.heap.size [.string A.service, .int .i64 A.seen, .int .i64 A.create, .int .i64 A.want, .int .i64 A.cool, .bool A.scale, .slice ae A.ends.length ce, .bool A.drop] _ rfl HRf.out Tryz.underlying47 rfl isz_Sac) rfl (by rw [HEQ.out]; exact ⟨ae, ce, rfl, HOf.out, HBf.out⟩)

end Go.Proofs.YtnggdpjfmpjlhaaGreat
