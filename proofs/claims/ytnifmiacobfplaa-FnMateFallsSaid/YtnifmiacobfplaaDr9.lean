import Derived.Test.YtnifmiacobfplaaJ3
import Derived.Test.YtnifmiacobfplaaDr3
import Derived.Test.YtnifmiacobfplaaFlp
import Derived.Test.YtnifmiacobfplaaFl1
namespace Go.Proofs.Ytnifmiacobfplaa
open Go.RowKit

theorem bt_grown {p B : Nat} {w w' : World} {v : Option Nat} (h : w.grownBy w' v) (hv : ∀ j, v = some j → B ≤ j) (hB : B ≤ w.heap.size := by omega) : Bt p B w w' :=
 ⟨h.os, h.tape, h.output, h.size, fun k hk _ => h.block k (by omega) (fun e => by have := hv k e.symm; omega)⟩

theorem RdS.grown {p K B : Nat} {w w' : World} {v : Option Nat} (h : RdS p K w) (hg : w.grownBy w' v) (hv : ∀ j, v = some j → B ≤ j) (hp : p < B) : RdS p K w' := by
 obtain ⟨xs, a, cap, c1, c2, c3⟩ := h
 have hl := c2.lt
 refine ⟨xs, a, cap, fun k x hk => ?_, (hg.block p hl (fun e => by have := hv p e.symm; omega)).trans c2, c3⟩
 obtain ⟨b, o, e, hc, hx, hb⟩ := c1 k x hk
 exact ⟨b, o, e, (World.cell?_of_block (w := w) (a := ⟨b, o + k, none⟩) (hg.block b (by omega) (fun e => by have := hv b e.symm; omega))).trans hc, hx, hb⟩

theorem ownsRow_bt {p base : Nat} {w w' : World} {e : TypeId} {s n : Nat} {v : Value} {cs : List Value} (h : w.ownsRow base e s v n cs) (hb : Bt p w.heap.size w w') (hp : p < base) : w'.ownsRow base e s v n cs := by
 refine ⟨h.1, ?_⟩
 rcases h.2 with h1 | ⟨g, cap, cur, rfl, h2, h3, r⟩
 ·exact .inl h1
 ·exact .inr ⟨g, cap, cur, rfl, h2, (hb.block g (Array.getElem?_eq_some_iff.1 h3).1 (by omega)).trans h3, r⟩

set_option maxHeartbeats 8000000 in
set_option maxRecDepth 100000 in
theorem runs11_any (p k0 : Nat) (clock : Int) (w : World) (hR : RdS p k0 w) (hK0 : k0 ≤ 700000) (hc0 : 0 ≤ clock) (hc1 : clock ≤ 1000) :
  Calls Try.prog 54 #[.pointer (some ⟨p, 0, none⟩), .int .i64 clock, .bool true] w fun e w' => ∃ (xs : List Rn) (b : Option Addr) (q K : Nat), e = .returned (.slice b xs.length q) ∧ xs.length ≤ 4 ∧ w'.ownsRow w.heap.size 38 11 (.slice b xs.length q) xs.length (rvRn xs) ∧ (∀ z ∈ xs, z.want.copy.size ≤ 100 ∧ z.want.hold.size ≤ 100) ∧ K ≤ k0 + 48 ∧ RdS p K w' ∧ Bt p w.heap.size w w' := by
 obtain ⟨i0, hi, hz0, hz1, hz2⟩ := info_parts info_Rn
 have hp : p < w.heap.size := hR.lt
 have HR0 : Hid (RdS p k0 (w.alloc (Obj.cells #[] 38))) := hR.below ((Below.refl _ _).alloc (Nat.le_refl _) _) hR.lt
 clear hR
 go_enter Try.func54, Try.ntmps54
 go_wp2_with fail
 go_loopw [7, 8] (fun v i wr => ∃ (j : Nat) (xs : List Rn) (b : Option Addr) (q K : Nat), j ≤ 4 ∧ i = .int .i64 j ∧ v = .slice b xs.length q ∧ xs.length ≤ j ∧ Hid (wr.ownsRow w.heap.size 38 11 (.slice b xs.length q) xs.length (rvRn xs)) ∧ Hid (∀ z ∈ xs, z.want.copy.size ≤ 100 ∧ z.want.hold.size ≤ 100) ∧ K ≤ k0 + j * 12 ∧ Hid (RdS p K wr) ∧ Bt p w.heap.size w wr) (fun _ i _ => 4 - (intOf i).toNat)
 case atStart => exact ⟨0, [], some ⟨w.heap.size, 0, none⟩, 0, k0, by omega, rfl, rfl, Nat.le_refl _, World.ownsRow_made w #[] 0 (Nat.le_refl _) (Nat.zero_le _) rfl, (fun z hz => by cases hz), by omega, HR0, Bt.of_below ((Below.refl _ _).alloc (Nat.le_refl _) _)⟩
 case round =>
  clear HR0
  obtain ⟨j, xs, b, q, K, hj, rfl, rfl, hxj, HO, HS, hK, HR, hT⟩ := hrel
  by_cases hlt : j < 4
  case neg =>
   go_wp2_with fail
   go_ret
   exact ⟨xs, b, q, K, rfl, by omega, HO.out, HS.out, by omega, HR.out, hT⟩
  go_wp2_with fail
  refine (pick_rd p K 2 _ HR.out (by omega) (by omega) (by omega)).mono ?_
  rintro e w1 ⟨v, rfl, hv, hr1, hb1, -⟩
  have HR1 := Hid.intro hr1
  have HO1 := Hid.intro (ownsRow_bt HO.out hb1 hp)
  have hT1 : Bt p w.heap.size w w1 := hT.trans (hb1.mono hT.size)
  clear hr1 hb1 HR HO hT
  by_cases hv0 : v = 0
  case neg =>
   have hv1 : ((v : Int) == 0) = false := by simp; omega
   go_wp2_with fail
   go_roundw
   case rel => exact ⟨j + 1, xs, b, q, K + 1, by omega, by go_num, rfl, by omega, HO1, HS, by omega, HR1, hT1⟩
   case measure => simp [intOf]; omega
  subst hv0
  go_wp2_with fail
  refine (dec_any j _ (by omega)).mono ?_
  rintro e w2 ⟨s, rfl, hs, hb2⟩
  have HR2 := Hid.intro (HR1.out.below hb2 HR1.out.lt)
  have HO2 := Hid.intro (ownsRow_below HO1.out hb2)
  have hT2 : Bt p w.heap.size w w2 := hT1.trans (Bt.of_below (hb2.mono hT1.size))
  clear hb2 HR1 HO1 hT1
  go_wp2_with fail
  obtain ⟨t, ht⟩ : ∃ t : ByteArray, t = ({ data := #[99] } : ByteArray) ++ s := ⟨_, rfl⟩
  have hts : t.size ≤ 100 := by rw [ht, ByteArray.size_append, hs]; decide
  rw [← ht]
  clear ht hs
  refine (draw11_any p (K + 1) t clock _ HR2.out (by omega) hts hc0 hc1).mono ?_
  rintro e w3 ⟨x, k3, rfl, hs0, hs2, hk3, hr3, hb3⟩
  have HR3 := Hid.intro hr3
  have HO3 := Hid.intro (ownsRow_bt HO2.out hb3 hp)
  have hT3 : Bt p w.heap.size w w3 := hT2.trans (hb3.mono hT2.size)
  clear hr3 hb3 HR2 HO2 hT2
  have hb4 : Below w3.heap.size w3 (w3.alloc (Obj.cells #[.string x.want.copy, .int .i64 x.want.version, .string x.want.hold, .int .i64 x.want.pull, .int .i64 x.want.start, .int .i64 x.want.dies, .int .i64 x.want.grace, .int .i64 x.state, .int .i64 x.left, .int .i64 x.falls, .int .i64 x.until_] 38)) := (Below.refl _ _).alloc (Nat.le_refl _) _
  have HX4 : Hid (Blk w3.heap.size #[.string x.want.copy, .int .i64 x.want.version, .string x.want.hold, .int .i64 x.want.pull, .int .i64 x.want.start, .int .i64 x.want.dies, .int .i64 x.want.grace, .int .i64 x.state, .int .i64 x.left, .int .i64 x.falls, .int .i64 x.until_] 38 (w3.alloc (Obj.cells #[.string x.want.copy, .int .i64 x.want.version, .string x.want.hold, .int .i64 x.want.pull, .int .i64 x.want.start, .int .i64 x.want.dies, .int .i64 x.want.grace, .int .i64 x.state, .int .i64 x.left, .int .i64 x.falls, .int .i64 x.until_] 38))) := Blk.alloc _ _ _
  have HR4 := Hid.intro (HR3.out.below hb4 HR3.out.lt)
  have HO4 := Hid.intro (ownsRow_below HO3.out hb4)
  have hT4 : Bt p w.heap.size w (w3.alloc (Obj.cells #[.string x.want.copy, .int .i64 x.want.version, .string x.want.hold, .int .i64 x.want.pull, .int .i64 x.want.start, .int .i64 x.want.dies, .int .i64 x.want.grace, .int .i64 x.state, .int .i64 x.left, .int .i64 x.falls, .int .i64 x.until_] 38)) := hT3.trans (Bt.of_below (hb4.mono hT3.size))
  have hgo : ∀ g c, Value.slice b xs.length q = .slice (some ⟨g, 0, none⟩) xs.length c → g ≠ w3.heap.size := fun g c e => by have := HO3.out.lt g (by rw [e]; rfl); omega
  have hpx : p < w3.heap.size := HR3.out.lt
  have hwx : w.heap.size ≤ w3.heap.size := hT3.size
  clear hb4 HR3 HO3 hT3
  go_upto_region 7 with fail
  generalize w3.alloc (Obj.cells #[.string x.want.copy, .int .i64 x.want.version, .string x.want.hold, .int .i64 x.want.pull, .int .i64 x.want.start, .int .i64 x.want.dies, .int .i64 x.want.grace, .int .i64 x.state, .int .i64 x.left, .int .i64 x.falls, .int .i64 x.until_] 38) = w4 at *
  generalize w3.heap.size = gx at *
  have d0 : w4.cell? ⟨gx, 0, none⟩ = some (.string x.want.copy) := HX4.out.cell rfl
  have d1 : w4.cell? ⟨gx, 1, none⟩ = some (.int .i64 x.want.version) := HX4.out.cell rfl
  have d2 : w4.cell? ⟨gx, 2, none⟩ = some (.string x.want.hold) := HX4.out.cell rfl
  have d3 : w4.cell? ⟨gx, 3, none⟩ = some (.int .i64 x.want.pull) := HX4.out.cell rfl
  have d4 : w4.cell? ⟨gx, 4, none⟩ = some (.int .i64 x.want.start) := HX4.out.cell rfl
  have d5 : w4.cell? ⟨gx, 5, none⟩ = some (.int .i64 x.want.dies) := HX4.out.cell rfl
  have d6 : w4.cell? ⟨gx, 6, none⟩ = some (.int .i64 x.want.grace) := HX4.out.cell rfl
  have d7 : w4.cell? ⟨gx, 7, none⟩ = some (.int .i64 x.state) := HX4.out.cell rfl
  have d8 : w4.cell? ⟨gx, 8, none⟩ = some (.int .i64 x.left) := HX4.out.cell rfl
  have d9 : w4.cell? ⟨gx, 9, none⟩ = some (.int .i64 x.falls) := HX4.out.cell rfl
  have d10 : w4.cell? ⟨gx, 10, none⟩ = some (.int .i64 x.until_) := HX4.out.cell rfl
  go_wp2_with fail
  clear d0 d1 d2 d3 d4 d5 d6 d7 d8 d9 d10
  refine (runOk11_any x clock _ (by unfold maxLen; omega) (by unfold maxLen; omega)).mono ?_
  rintro e w5 ⟨rfl, hb5⟩
  have HX5 := Hid.intro (HX4.out.below hb5 HX4.out.lt)
  have HR5 := Hid.intro (HR4.out.below hb5 HR4.out.lt)
  have HO5 := Hid.intro (ownsRow_below HO4.out hb5)
  have hT5 : Bt p w.heap.size w w5 := hT4.trans (Bt.of_below (hb5.mono hT4.size))
  clear hb5 HX4 HR4 HO4 hT4
  cases ro : roB x clock with
  | true =>
   go_upto_region 10 with fail
   clear ro
   obtain ⟨NV, hnv⟩ : ∃ l, l = rcRn x := ⟨_, rfl⟩
   have HNV := Hid.intro hnv
   clear hnv
   have HNL : Hid (NV.length = 1 * 11) := by show _ = _; rw [HNV.out]; rfl
   have HNN : Hid (∀ j u, NV[j]? = some u → (w5.alloc (Obj.cells #[.string x.want.copy, .int .i64 x.want.version, .string x.want.hold, .int .i64 x.want.pull, .int .i64 x.want.start, .int .i64 x.want.dies, .int .i64 x.want.grace, .int .i64 x.state, .int .i64 x.left, .int .i64 x.falls, .int .i64 x.until_] 38)).cell? ((⟨w5.heap.size, 0, none⟩ : Addr).add j) = some u) := by
    intro j u hj
    rw [Addr.add_mid]
    rw [HNV.out] at hj
    exact (Blk.alloc w5 #[.string x.want.copy, .int .i64 x.want.version, .string x.want.hold, .int .i64 x.want.pull, .int .i64 x.want.start, .int .i64 x.want.dies, .int .i64 x.want.grace, .int .i64 x.state, .int .i64 x.left, .int .i64 x.falls, .int .i64 x.until_] 38).rangeA j u hj
   have HN1 : Hid (∀ u ∈ NV, u.oneCell' = true) := by
    intro u hu
    rw [HNV.out] at hu
    exact rvRn_one [x] u (by simp only [rvRn, List.append_nil]; exact hu)
   have HOA := Hid.intro (HO5.out.alloc (Obj.cells #[.string x.want.copy, .int .i64 x.want.version, .string x.want.hold, .int .i64 x.want.pull, .int .i64 x.want.start, .int .i64 x.want.dies, .int .i64 x.want.grace, .int .i64 x.state, .int .i64 x.left, .int .i64 x.falls, .int .i64 x.until_] 38))
   have hws : w.heap.size ≤ w5.heap.size := hT5.size
   go_wp2_with (first | (refine wpList_load_mid rfl 38 _ rfl gx 0 rfl [.string x.want.copy, .int .i64 x.want.version, .string x.want.hold, .int .i64 x.want.pull, .int .i64 x.want.start, .int .i64 x.want.dies, .int .i64 x.want.grace, .int .i64 x.state, .int .i64 x.left, .int .i64 x.falls, .int .i64 x.until_] _ HX5.out.rangeA Try.underlying38 rfl isz_Rn ?_) | (at_builtin; refine wpList_append_own _ rfl _ _ 24 rfl w.heap.size 38 i0 _ 11 104 Try.underlying24 hi hz0 hz1 hz2 rfl (by decide) _ xs.length _ rfl HOA.out ⟨w5.heap.size, 0, none⟩ 1 1 NV rfl HNL.out HNN.out HN1.out (by unfold maxLen; omega) (by omega) (by simp; omega) ?_; intro v' w8 hown8 hgrow8 hnil8; have hv8 : v' ≠ .slice none 0 0 := (fun e => by have h9 := (hnil8.1 e).2; cases h9); obtain ⟨g8, q8, rfl⟩ := rowf hown8 hv8))
   have HO8 : Hid (w8.ownsRow w.heap.size 38 11 (.slice (some ⟨g8, 0, none⟩) (xs ++ [x]).length q8) (xs ++ [x]).length (rvRn (xs ++ [x]))) := by
    show World.ownsRow _ _ _ _ _ _ _
    rw [rvRn_app, show (xs ++ [x]).length = xs.length + 1 by simp]
    rw [HNV.out] at hown8
    simp only [rvRn, List.append_nil]
    exact hown8
   have hb8 : Below w5.heap.size w5 (w5.alloc (Obj.cells #[.string x.want.copy, .int .i64 x.want.version, .string x.want.hold, .int .i64 x.want.pull, .int .i64 x.want.start, .int .i64 x.want.dies, .int .i64 x.want.grace, .int .i64 x.state, .int .i64 x.left, .int .i64 x.falls, .int .i64 x.until_] 38)) := (Below.refl _ _).alloc (Nat.le_refl _) _
   have hT8 : Bt p w.heap.size w w8 := (hT5.trans (Bt.of_below (hb8.mono hws))).trans (bt_grown hgrow8 (own_blk HO5.out) (by simp; omega))
   have HR8 := Hid.intro ((HR5.out.below hb8 HR5.out.lt).grown hgrow8 (own_blk HO5.out) hp)
   have hxl : (xs ++ [x]).length = xs.length + 1 := by simp
   have HS8 : Hid (∀ z ∈ xs ++ [x], z.want.copy.size ≤ 100 ∧ z.want.hold.size ≤ 100) := fun z hz => by
    rcases List.mem_append.1 hz with h | h
    ·exact HS.out z h
    ·rw [List.mem_singleton.1 h]
     exact ⟨hs0, hs2⟩
   clear hown8 hgrow8 hnil8 hv8 hb8 HOA HNN HN1 HNL HNV
   go_wp2_with fail
   go_roundw
   case rel => exact ⟨j + 1, xs ++ [x], some ⟨g8, 0, none⟩, q8, k3, by omega, by go_num, by rw [hxl], by rw [hxl]; omega, HO8, HS8, by omega, HR8, hT8⟩
   case measure => simp [intOf]; omega
  | false =>
   have k7 : w5.cell? ⟨gx, 7, none⟩ = some (.int .i64 x.state) := HX5.out.cell rfl
   have f7 : w5.frozen? ⟨gx, 7, none⟩ = false := HX5.out.frozen _
   have HX6 : Hid (Blk gx #[.string x.want.copy, .int .i64 x.want.version, .string x.want.hold, .int .i64 x.want.pull, .int .i64 x.want.start, .int .i64 x.want.dies, .int .i64 x.want.grace, .int .i64 2, .int .i64 x.left, .int .i64 x.falls, .int .i64 x.until_] 38 (w5.setCell ⟨gx, 7, none⟩ (.int .i64 2))) := HX5.out.set 7 _
   have k8 : (w5.setCell ⟨gx, 7, none⟩ (.int .i64 2)).cell? ⟨gx, 8, none⟩ = some (.int .i64 x.left) := HX6.out.cell rfl
   have f8 : (w5.setCell ⟨gx, 7, none⟩ (.int .i64 2)).frozen? ⟨gx, 8, none⟩ = false := HX6.out.frozen _
   have HX7 : Hid (Blk gx #[.string x.want.copy, .int .i64 x.want.version, .string x.want.hold, .int .i64 x.want.pull, .int .i64 x.want.start, .int .i64 x.want.dies, .int .i64 x.want.grace, .int .i64 2, .int .i64 0, .int .i64 x.falls, .int .i64 x.until_] 38 ((w5.setCell ⟨gx, 7, none⟩ (.int .i64 2)).setCell ⟨gx, 8, none⟩ (.int .i64 0))) := HX6.out.set 8 _
   have hb7 : Below gx w5 ((w5.setCell ⟨gx, 7, none⟩ (.int .i64 2)).setCell ⟨gx, 8, none⟩ (.int .i64 0)) := ((Below.refl gx w5).setCell (p := ⟨gx, 7, none⟩) (Nat.le_refl _) _).setCell (p := ⟨gx, 8, none⟩) (Nat.le_refl _) _
   have HR7 := Hid.intro (HR5.out.below hb7 hpx)
   have HO7 : Hid (((w5.setCell ⟨gx, 7, none⟩ (.int .i64 2)).setCell ⟨gx, 8, none⟩ (.int .i64 0)).ownsRow w.heap.size 38 11 (.slice b xs.length q) xs.length (rvRn xs)) := ownsRow_set_oth (a := ⟨gx, 8, none⟩) (ownsRow_set_oth (a := ⟨gx, 7, none⟩) HO5.out _ hgo) _ hgo
   have hT7 : Bt p w.heap.size w ((w5.setCell ⟨gx, 7, none⟩ (.int .i64 2)).setCell ⟨gx, 8, none⟩ (.int .i64 0)) := hT5.trans (Bt.of_below (hb7.mono hwx))
   clear ro
   go_upto_region 10 with fail
   clear k7 f7 k8 f8 hb7 HX5 HX6 HR5 HO5 hT5
   generalize ((w5.setCell ⟨gx, 7, none⟩ (.int .i64 2)).setCell ⟨gx, 8, none⟩ (.int .i64 0)) = w7 at *
   obtain ⟨NV, hnv⟩ : ∃ l, l = rcRn ({ x with state := 2, left := 0 } : Rn) := ⟨_, rfl⟩
   have HNV := Hid.intro hnv
   clear hnv
   have HNL : Hid (NV.length = 1 * 11) := by show _ = _; rw [HNV.out]; rfl
   have HNN : Hid (∀ j u, NV[j]? = some u → (w7.alloc (Obj.cells #[.string x.want.copy, .int .i64 x.want.version, .string x.want.hold, .int .i64 x.want.pull, .int .i64 x.want.start, .int .i64 x.want.dies, .int .i64 x.want.grace, .int .i64 2, .int .i64 0, .int .i64 x.falls, .int .i64 x.until_] 38)).cell? ((⟨w7.heap.size, 0, none⟩ : Addr).add j) = some u) := by
    intro j u hj
    rw [Addr.add_mid]
    rw [HNV.out] at hj
    exact (Blk.alloc w7 #[.string x.want.copy, .int .i64 x.want.version, .string x.want.hold, .int .i64 x.want.pull, .int .i64 x.want.start, .int .i64 x.want.dies, .int .i64 x.want.grace, .int .i64 2, .int .i64 0, .int .i64 x.falls, .int .i64 x.until_] 38).rangeA j u hj
   have HN1 : Hid (∀ u ∈ NV, u.oneCell' = true) := by
    intro u hu
    rw [HNV.out] at hu
    exact rvRn_one [({ x with state := 2, left := 0 } : Rn)] u (by simp only [rvRn, List.append_nil]; exact hu)
   have HOA := Hid.intro (HO7.out.alloc (Obj.cells #[.string x.want.copy, .int .i64 x.want.version, .string x.want.hold, .int .i64 x.want.pull, .int .i64 x.want.start, .int .i64 x.want.dies, .int .i64 x.want.grace, .int .i64 2, .int .i64 0, .int .i64 x.falls, .int .i64 x.until_] 38))
   have hws : w.heap.size ≤ w7.heap.size := hT7.size
   go_wp2_with (first | (refine wpList_load_mid rfl 38 _ rfl gx 0 rfl [.string x.want.copy, .int .i64 x.want.version, .string x.want.hold, .int .i64 x.want.pull, .int .i64 x.want.start, .int .i64 x.want.dies, .int .i64 x.want.grace, .int .i64 2, .int .i64 0, .int .i64 x.falls, .int .i64 x.until_] _ HX7.out.rangeA Try.underlying38 rfl isz_Rn ?_) | (at_builtin; refine wpList_append_own _ rfl _ _ 24 rfl w.heap.size 38 i0 _ 11 104 Try.underlying24 hi hz0 hz1 hz2 rfl (by decide) _ xs.length _ rfl HOA.out ⟨w7.heap.size, 0, none⟩ 1 1 NV rfl HNL.out HNN.out HN1.out (by unfold maxLen; omega) (by omega) (by simp; omega) ?_; intro v' w8 hown8 hgrow8 hnil8; have hv8 : v' ≠ .slice none 0 0 := (fun e => by have h9 := (hnil8.1 e).2; cases h9); obtain ⟨g8, q8, rfl⟩ := rowf hown8 hv8))
   have HO8 : Hid (w8.ownsRow w.heap.size 38 11 (.slice (some ⟨g8, 0, none⟩) (xs ++ [({ x with state := 2, left := 0 } : Rn)]).length q8) (xs ++ [({ x with state := 2, left := 0 } : Rn)]).length (rvRn (xs ++ [({ x with state := 2, left := 0 } : Rn)]))) := by
    show World.ownsRow _ _ _ _ _ _ _
    rw [rvRn_app, show (xs ++ [({ x with state := 2, left := 0 } : Rn)]).length = xs.length + 1 by simp]
    rw [HNV.out] at hown8
    simp only [rvRn, List.append_nil]
    exact hown8
   have hb8 : Below w7.heap.size w7 (w7.alloc (Obj.cells #[.string x.want.copy, .int .i64 x.want.version, .string x.want.hold, .int .i64 x.want.pull, .int .i64 x.want.start, .int .i64 x.want.dies, .int .i64 x.want.grace, .int .i64 2, .int .i64 0, .int .i64 x.falls, .int .i64 x.until_] 38)) := (Below.refl _ _).alloc (Nat.le_refl _) _
   have hT8 : Bt p w.heap.size w w8 := (hT7.trans (Bt.of_below (hb8.mono hws))).trans (bt_grown hgrow8 (own_blk HO7.out) (by simp; omega))
   have HR8 := Hid.intro ((HR7.out.below hb8 HR7.out.lt).grown hgrow8 (own_blk HO7.out) hp)
   have hxl : (xs ++ [({ x with state := 2, left := 0 } : Rn)]).length = xs.length + 1 := by simp
   have HS8 : Hid (∀ z ∈ xs ++ [({ x with state := 2, left := 0 } : Rn)], z.want.copy.size ≤ 100 ∧ z.want.hold.size ≤ 100) := fun z hz => by
    rcases List.mem_append.1 hz with h | h
    ·exact HS.out z h
    ·rw [List.mem_singleton.1 h]
     exact ⟨hs0, hs2⟩
   clear hown8 hgrow8 hnil8 hv8 hb8 HOA HNN HN1 HNL HNV
   go_wp2_with fail
   go_roundw
   case rel => exact ⟨j + 1, xs ++ [({ x with state := 2, left := 0 } : Rn)], some ⟨g8, 0, none⟩, q8, k3, by omega, by go_num, by rw [hxl], by rw [hxl]; omega, HO8, HS8, by omega, HR8, hT8⟩
   case measure => simp [intOf]; omega

end Go.Proofs.Ytnifmiacobfplaa
