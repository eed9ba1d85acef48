import Derived.Test.YtnggdpjfmpjlhaaGreatTkw
import Derived.Test.YtnggdpjfmpjlhaaGreatLv8
namespace Go.Proofs.YtnggdpjfmpjlhaaGreat
open Go.RowKit

def dueQ (v : Ssv) : Int := (v.load + v.per - 1).tdiv v.per
def dueM (v : Ssv) : Int := if v.most < dueQ v then v.most else dueQ v
def dueI (v : Ssv) : Int := if dueM v < v.least then v.least else dueM v
def scP (a c : Int) : Sac := ⟨⟨#[]⟩, 0, 0, a, c, true, [], false⟩

set_option maxHeartbeats 4000000 in
set_option maxRecDepth 100000 in
theorem due_any (v : Ssv) (w : World) (hN : SvNum v) (hp : 0 < v.per) :
  Calls Tryz.prog 124 #[.agg #[.string v.name, .int .i64 v.version, .bool v.gone, .int .i64 v.image, .int .i64 v.want, .int .i64 v.down, .int .i64 v.over, .int .i64 v.next, .int .i64 v.per, .int .i64 v.least, .int .i64 v.most, .int .i64 v.load, .int .i64 v.cool]] w fun e w' => e = .returned (.int .i64 (dueI v)) ∧ Below w.heap.size w w' := by
 have hb1 : Below w.heap.size w (w.alloc (Obj.cells #[.string v.name, .int .i64 v.version, .bool v.gone, .int .i64 v.image, .int .i64 v.want, .int .i64 v.down, .int .i64 v.over, .int .i64 v.next, .int .i64 v.per, .int .i64 v.least, .int .i64 v.most, .int .i64 v.load, .int .i64 v.cool] 50)) := by go_grown
 have HK : Hid (Blk w.heap.size #[.string v.name, .int .i64 v.version, .bool v.gone, .int .i64 v.image, .int .i64 v.want, .int .i64 v.down, .int .i64 v.over, .int .i64 v.next, .int .i64 v.per, .int .i64 v.least, .int .i64 v.most, .int .i64 v.load, .int .i64 v.cool] 50 (w.alloc (Obj.cells #[.string v.name, .int .i64 v.version, .bool v.gone, .int .i64 v.image, .int .i64 v.want, .int .i64 v.down, .int .i64 v.over, .int .i64 v.next, .int .i64 v.per, .int .i64 v.least, .int .i64 v.most, .int .i64 v.load, .int .i64 v.cool] 50))) := Blk.alloc _ _ _
 obtain ⟨hper, hload, _, _, _⟩ := hN
 have hq0 : 0 ≤ (v.load + v.per - 1).tdiv v.per := Int.tdiv_nonneg (by omega) (by omega)
 have hq1 : (v.load + v.per - 1).tdiv v.per ≤ 2000000 := by
  have h1 : (v.load + v.per - 1).tdiv v.per ≤ v.load + v.per - 1 := by
   rw [Int.tdiv_eq_ediv_of_nonneg (by omega)]
   exact Int.ediv_le_self _ (by omega)
  omega
 have HW1 : Hid (IntKind.i64.wrap (v.load + v.per) = v.load + v.per) := by show _ = _; rw [IntKind.wrap_i64]; omega
 have HW2 : Hid (IntKind.i64.wrap (v.load + v.per - 1) = v.load + v.per - 1) := by show _ = _; rw [IntKind.wrap_i64]; omega
 have HW3 : Hid (IntKind.i64.wrap (dueQ v) = dueQ v) := by show _ = _; unfold dueQ; rw [IntKind.wrap_i64]; omega
 have HZ : Hid ((v.per == 0) = false ∧ ¬ v.per = 0) := ⟨by simp; omega, by omega⟩
 clear hq0 hq1 hper hload
 go_enter Tryz.func124, Tryz.ntmps124
 go_upto_region 1 with fail
 generalize w.alloc (Obj.cells #[.string v.name, .int .i64 v.version, .bool v.gone, .int .i64 v.image, .int .i64 v.want, .int .i64 v.down, .int .i64 v.over, .int .i64 v.next, .int .i64 v.per, .int .i64 v.least, .int .i64 v.most, .int .i64 v.load, .int .i64 v.cool] 50) = w1 at *
 refine wp_region_held_drew (S := fun wy => Blk w.heap.size #[.string v.name, .int .i64 v.version, .bool v.gone, .int .i64 v.image, .int .i64 v.want, .int .i64 v.down, .int .i64 v.over, .int .i64 v.next, .int .i64 v.per, .int .i64 v.least, .int .i64 v.most, .int .i64 v.load, .int .i64 v.cool] 50 wy) (by kernel_rfl) HK.out.drew (fun hS => ?_)
 have hb2 := hb1.drew
 clear HK hb1
 generalize w1.drew = w2 at *
 refine tz 0 3 (.pointer (some ⟨w.heap.size, 9, none⟩)) rfl hS ?_
 simp only [pA,pB,pC,pD]
 refine tl 1 4 (.int .i64 v.least) ⟨w.heap.size, 9, none⟩ rfl (fun wy hy => hy.cell rfl) hS ?_
 simp only [pA,pB,pC,pD]
 refine tz 2 5 (.pointer (some ⟨w.heap.size, 10, none⟩)) rfl hS ?_
 simp only [pA,pB,pC,pD]
 refine tl 3 6 (.int .i64 v.most) ⟨w.heap.size, 10, none⟩ rfl (fun wy hy => hy.cell rfl) hS ?_
 simp only [pA,pB,pC,pD]
 refine tz 4 7 (.pointer (some ⟨w.heap.size, 11, none⟩)) rfl hS ?_
 simp only [pA,pB,pC,pD]
 refine tl 5 8 (.int .i64 v.load) ⟨w.heap.size, 11, none⟩ rfl (fun wy hy => hy.cell rfl) hS ?_
 simp only [pA,pB,pC,pD]
 refine tz 6 9 (.pointer (some ⟨w.heap.size, 8, none⟩)) rfl hS ?_
 simp only [pA,pB,pC,pD]
 refine tl 7 10 (.int .i64 v.per) ⟨w.heap.size, 8, none⟩ rfl (fun wy hy => hy.cell rfl) hS ?_
 simp only [pA,pB,pC,pD]
 refine ty 8 ⟨some 11, _, _, _, _, none⟩ (.int .i64 (v.load + v.per)) rfl (by rfl) ?_ hS ?_
 ·intro wy hy
  have h1 := HW1.out
  clear hy
  go_simp
 simp only [pA,pB,pC,pD]
 refine ty 9 ⟨some 12, _, _, _, _, none⟩ (.int .i64 (v.load + v.per - 1)) rfl (by rfl) ?_ hS ?_
 ·intro wy hy
  have h1 := HW2.out
  clear hy
  go_simp
 simp only [pA,pB,pC,pD]
 refine tz 10 13 (.pointer (some ⟨w.heap.size, 8, none⟩)) rfl hS ?_
 simp only [pA,pB,pC,pD]
 refine tl 11 14 (.int .i64 v.per) ⟨w.heap.size, 8, none⟩ rfl (fun wy hy => hy.cell rfl) hS ?_
 simp only [pA,pB,pC,pD]
 refine ty 12 ⟨some 15, _, _, _, _, none⟩ (.int .i64 (dueQ v)) rfl (by rfl) ?_ hS ?_
 ·intro wy hy
  have h1 := HW3.out
  have h2 := HZ.out.1
  have h3 := HZ.out.2
  unfold dueQ at h1 ⊢
  clear hy
  go_simp
 simp only [pA,pB,pC,pD]
 refine ty 13 ⟨some 16, _, _, _, _, none⟩ (.int .i64 (dueM v)) rfl (by rfl) ?_ hS ?_
 ·intro wy hy
  clear hy
  (unfold dueM; by_cases h : v.most < dueQ v; (rw [if_pos h]; go_simp; try omega); (rw [if_neg h]; have h9 : dueQ v ≤ v.most := (by omega); go_simp; try omega))
 simp only [pA,pB,pC,pD]
 refine ty 14 ⟨some 17, _, _, _, _, none⟩ (.int .i64 (dueI v)) rfl (by rfl) ?_ hS ?_
 ·intro wy hy
  clear hy
  (unfold dueI; by_cases h : dueM v < v.least; (rw [if_pos h]; go_simp; try omega); (rw [if_neg h]; have h9 : v.least ≤ dueM v := (by omega); go_simp; try omega))
 simp only [pA,pB,pC,pD]
 refine tz 15 2 (.int .i64 (dueI v)) rfl hS ?_
 simp only [pA,pB,pC,pD]
 refine wpAnyH_done (by kernel_rfl) ?_ _
 clear hS
 go_wp2_with fail
 go_ret
 exact ⟨rfl, hb2⟩

set_option maxHeartbeats 4000000 in
set_option maxRecDepth 100000 in
theorem scaleTo_any (a c : Int) (w : World) : Calls Tryz.prog 125 #[.int .i64 a, .int .i64 c] w fun e w' => ActP (scP a c) w e w' := by
 have hb1 : Below w.heap.size w (w.alloc (Obj.cells #[.string ⟨#[]⟩, .int .i64 0, .int .i64 0, .int .i64 0, .int .i64 0, .bool false, .slice none 0 0, .bool false] 47)) := by go_grown
 have HA1 : Hid (Blk w.heap.size #[.string ⟨#[]⟩, .int .i64 0, .int .i64 0, .int .i64 0, .int .i64 0, .bool false, .slice none 0 0, .bool false] 47 (w.alloc (Obj.cells #[.string ⟨#[]⟩, .int .i64 0, .int .i64 0, .int .i64 0, .int .i64 0, .bool false, .slice none 0 0, .bool false] 47))) := Blk.alloc _ _ _
 have HEQ : Hid (scP a c = ⟨⟨#[]⟩, 0, 0, a, c, true, [], false⟩) := rfl
 go_enter Tryz.func125, Tryz.ntmps125
 go_upto_region 1 with fail
 generalize w.alloc (Obj.cells #[.string ⟨#[]⟩, .int .i64 0, .int .i64 0, .int .i64 0, .int .i64 0, .bool false, .slice none 0 0, .bool false] 47) = w1 at *
 have HTA := Hid.intro HA1.out.there
 obtain ⟨wf, HE⟩ : ∃ wf, Hid (wf = w1.setCells w.heap.size 0 [.string ⟨#[]⟩, .int .i64 0, .int .i64 0, .int .i64 a, .int .i64 c, .bool true, .slice none 0 0, .bool false]) := ⟨_, rfl⟩
 have HRf : Hid (wf.rangeAt w.heap.size 0 [.string ⟨#[]⟩, .int .i64 0, .int .i64 0, .int .i64 a, .int .i64 c, .bool true, .slice none 0 0, .bool false]) := by
  show World.rangeAt _ _ _ _
  rw [HE.out]
  exact World.rangeAt_setCells_same _ _ _ _ HTA.out
 have HBf : Hid (Below w.heap.size w wf) := by
  show Below _ _ _
  rw [HE.out]
  exact below_setCells (Nat.le_refl _) _ _ _ hb1
 go_wp2_with (refine wpList_store_to rfl 47 _ _ rfl w.heap.size 0 #[.string ⟨#[]⟩, .int .i64 0, .int .i64 0, .int .i64 a, .int .i64 c, .bool true, .slice none 0 0, .bool false] (by first | rfl | (simp [go_sem]; done)) rfl HTA.out isz_Sac (by simp [Value.oneCell']) wf HE.out ?_)
 exact bodyPost_ret (results_cell_mid rfl _ _ w.heap.size [.string ⟨#[]⟩, .int .i64 0, .int .i64 0, .int .i64 a, .int .i64 c, .bool true, .slice none 0 0, .bool false] _ rfl HRf.out Tryz.underlying47 rfl isz_Sac) rfl (by rw [HEQ.out]; exact ⟨none, 0, rfl, World.ownsRow_nil _ _ _ _, HBf.out⟩)

def flP (v : Ssv) : Sac :=
 if v.gone = true ∨ v.per = 0 then nA
 else if v.want < v.least then scP v.least 0
 else if v.most < v.want then scP v.most 0
 else if v.want < dueI v then scP (dueI v) 0
 else if dueI v < v.want ∧ v.cool = 3 then scP (v.want - 1) 0
 else if dueI v < v.want then scP v.want (v.cool + 1)
 else if v.cool ≠ 0 then scP v.want 0
 else nA

theorem range_pre {w : World} {b o : Nat} {xs ys : List Value} (h : w.rangeAt b o (xs ++ ys)) : w.rangeAt b o xs := fun j u hj => h j u (by rw [List.getElem?_append_left (lt_of_some hj)]; exact hj)

set_option maxHeartbeats 8000000 in
set_option maxRecDepth 100000 in
theorem followLoad_any (x : Sbk) (a1 : Option Addr) (c1 : Nat) (b2 o2 c2 : Nat) (a3 : Option Addr) (c3 : Nat) (p m n lo q : Nat) (Wb : World) (v : Ssv) (lv : Int) (w : World) (hF : FndS x a1 c1 (some ⟨b2, o2, none⟩) c2 a3 c3 p m n lo Wb) (hv : SVal x) (hcap : x.copies.length ≤ c2) (hK : SgL x p q Wb v lv w) (hN : SvNum v) (hlv : 0 ≤ lv ∧ lv ≤ 200) :
  Calls Tryz.prog 88 #[.pointer (some ⟨q, 0, none⟩)] w fun e w' => ActP (flP v) w e w' := by
 have hb1 : Below w.heap.size w (w.alloc (Obj.cells #[.string ⟨#[]⟩, .int .i64 0, .int .i64 0, .int .i64 0, .int .i64 0, .bool false, .slice none 0 0, .bool false] 47)) := by go_grown
 have HA1 : Hid (Blk w.heap.size #[.string ⟨#[]⟩, .int .i64 0, .int .i64 0, .int .i64 0, .int .i64 0, .bool false, .slice none 0 0, .bool false] 47 (w.alloc (Obj.cells #[.string ⟨#[]⟩, .int .i64 0, .int .i64 0, .int .i64 0, .int .i64 0, .bool false, .slice none 0 0, .bool false] 47))) := Blk.alloc _ _ _
 have hbd := cnt_small hv v
 have HF := Hid.intro hF
 have HV := Hid.intro hv
 have HCAP := Hid.intro hcap
 obtain ⟨T, HT⟩ : ∃ T, Hid (cntL x.copies v.name v.image = T) := ⟨_, rfl⟩
 obtain ⟨R, HR⟩ : ∃ R, Hid (rlV x v = R) := ⟨_, rfl⟩
 have HTK : Hid (∀ W, SgT p q Wb v T R lv W → SgL x p q Wb v lv W) := fun W h => by rw [← HT.out, ← HR.out] at h; exact h
 have hK2 : SgT p q Wb v T R lv w := by rw [← HT.out, ← HR.out]; exact hK
 have HK1 := Hid.intro (hK2.below hb1)
 have HSW : Hid (Wb.heap.size ≤ w.heap.size ∧ q < w.heap.size) := ⟨hK.1.size, hK.2.lt⟩
 rw [HT.out] at hbd
 obtain ⟨b1, b2', b3, b4, b5, b6, b7, b8, b9, b10⟩ := hbd
 have HBD : Hid (0 ≤ T.live ∧ T.live ≤ 200 ∧ 0 ≤ T.old ∧ T.old ≤ 200 ∧ 0 ≤ v.want ∧ v.want ≤ 10 ∧ 0 ≤ v.over ∧ v.over ≤ 10 ∧ 0 ≤ lv ∧ lv ≤ 200) := ⟨b1, by omega, b5, by omega, hN.want.1, hN.want.2, hN.over.1, hN.over.2, hlv.1, hlv.2⟩
 have HN := Hid.intro hN
 have HLV := Hid.intro hlv
 clear hF hv hcap hK hK2 hN hlv b1 b2' b3 b4 b5 b6 b7 b8 b9 b10
 go_enter Tryz.func88, Tryz.ntmps88
 go_upto_region 1 with fail
 generalize w.alloc (Obj.cells #[.string ⟨#[]⟩, .int .i64 0, .int .i64 0, .int .i64 0, .int .i64 0, .bool false, .slice none 0 0, .bool false] 47) = w1 at *
 have HCO : Hid (0 ≤ v.cool ∧ v.cool ≤ 3) := HN.out.cool
 have hW1 : IntKind.i64.wrap (v.want - 1) = v.want - 1 := by have h9 := HN.out.want; rw [IntKind.wrap_i64]; omega
 have kg : w1.cell? ⟨q, 2, none⟩ = some (.bool v.gone) := HK1.out.2.cell rfl
 have kp : w1.cell? ⟨q, 8, none⟩ = some (.int .i64 v.per) := HK1.out.2.cell rfl
 cases hg : v.gone with
 | true =>
  have HEQ : Hid (flP v = nA) := if_pos (.inl hg)
  rw [hg] at kg
  clear hg
  have HTA := Hid.intro HA1.out.there
  obtain ⟨wf, HE⟩ : ∃ wf, Hid (wf = w1.setCells w.heap.size 0 [.string ⟨#[]⟩, .int .i64 0, .int .i64 0, .int .i64 0, .int .i64 0, .bool false, .slice none 0 0, .bool false]) := ⟨_, rfl⟩
  have HRf : Hid (wf.rangeAt w.heap.size 0 [.string ⟨#[]⟩, .int .i64 0, .int .i64 0, .int .i64 0, .int .i64 0, .bool false, .slice none 0 0, .bool false]) := by
   show World.rangeAt _ _ _ _
   rw [HE.out]
   exact World.rangeAt_setCells_same _ _ _ _ HTA.out
  have HBf : Hid (Below w.heap.size w wf) := by
   show Below _ _ _
   rw [HE.out]
   exact below_setCells (Nat.le_refl _) _ _ _ hb1
  go_wp2_with (refine wpList_store_to rfl 47 _ _ rfl w.heap.size 0 #[.string ⟨#[]⟩, .int .i64 0, .int .i64 0, .int .i64 0, .int .i64 0, .bool false, .slice none 0 0, .bool false] (by first | rfl | (simp [go_sem]; done)) rfl HTA.out isz_Sac (by simp [Value.oneCell']) wf HE.out ?_)
  exact bodyPost_ret (results_cell_mid rfl _ _ w.heap.size [.string ⟨#[]⟩, .int .i64 0, .int .i64 0, .int .i64 0, .int .i64 0, .bool false, .slice none 0 0, .bool false] _ rfl HRf.out Tryz.underlying47 rfl isz_Sac) rfl (by rw [HEQ.out]; exact ⟨none, 0, rfl, World.ownsRow_nil _ _ _ _, HBf.out⟩)
 | false =>
  rw [hg] at kg
  by_cases hp : v.per = 0
  ·have HEQ : Hid (flP v = nA) := if_pos (.inr hp)
   have e1 : (v.per == 0) = true := by simpa using hp
   clear hg hp
   have HTA := Hid.intro HA1.out.there
   obtain ⟨wf, HE⟩ : ∃ wf, Hid (wf = w1.setCells w.heap.size 0 [.string ⟨#[]⟩, .int .i64 0, .int .i64 0, .int .i64 0, .int .i64 0, .bool false, .slice none 0 0, .bool false]) := ⟨_, rfl⟩
   have HRf : Hid (wf.rangeAt w.heap.size 0 [.string ⟨#[]⟩, .int .i64 0, .int .i64 0, .int .i64 0, .int .i64 0, .bool false, .slice none 0 0, .bool false]) := by
    show World.rangeAt _ _ _ _
    rw [HE.out]
    exact World.rangeAt_setCells_same _ _ _ _ HTA.out
   have HBf : Hid (Below w.heap.size w wf) := by
    show Below _ _ _
    rw [HE.out]
    exact below_setCells (Nat.le_refl _) _ _ _ hb1
   go_wp2_with (refine wpList_store_to rfl 47 _ _ rfl w.heap.size 0 #[.string ⟨#[]⟩, .int .i64 0, .int .i64 0, .int .i64 0, .int .i64 0, .bool false, .slice none 0 0, .bool false] (by first | rfl | (simp [go_sem]; done)) rfl HTA.out isz_Sac (by simp [Value.oneCell']) wf HE.out ?_)
   exact bodyPost_ret (results_cell_mid rfl _ _ w.heap.size [.string ⟨#[]⟩, .int .i64 0, .int .i64 0, .int .i64 0, .int .i64 0, .bool false, .slice none 0 0, .bool false] _ rfl HRf.out Tryz.underlying47 rfl isz_Sac) rfl (by rw [HEQ.out]; exact ⟨none, 0, rfl, World.ownsRow_nil _ _ _ _, HBf.out⟩)
  ·have e1 : (v.per == 0) = false := by simpa using hp
   have HPP : Hid (0 < v.per) := by have h9 := HN.out.per; show _ < _; omega
   have HF0 : Hid (flP v = if v.want < v.least then scP v.least 0 else if v.most < v.want then scP v.most 0 else if v.want < dueI v then scP (dueI v) 0 else if dueI v < v.want ∧ v.cool = 3 then scP (v.want - 1) 0 else if dueI v < v.want then scP v.want (v.cool + 1) else if v.cool ≠ 0 then scP v.want 0 else nA) := if_neg (fun h => by rcases h with h | h; (rw [hg] at h; cases h); exact hp h)
   clear hg hp
   have HRG : Hid (w1.rangeAt q 0 [.string v.name, .int .i64 v.version, .bool v.gone, .int .i64 v.image, .int .i64 v.want, .int .i64 v.down, .int .i64 v.over, .int .i64 v.next, .int .i64 v.per, .int .i64 v.least, .int .i64 v.most, .int .i64 v.load, .int .i64 v.cool]) := range_pre (ys := [.int .i64 T.live, .int .i64 T.ready, .int .i64 T.old, .int .i64 T.failed, .int .i64 T.ending, .int .i64 lv, R, .pointer (some ⟨p, 0, none⟩)]) HK1.out.2.rangeA
   go_wp2_with (refine wpList_load_mid rfl 50 _ rfl q 0 (by first | rfl | (simp [go_sem]; done)) [.string v.name, .int .i64 v.version, .bool v.gone, .int .i64 v.image, .int .i64 v.want, .int .i64 v.down, .int .i64 v.over, .int .i64 v.next, .int .i64 v.per, .int .i64 v.least, .int .i64 v.most, .int .i64 v.load, .int .i64 v.cool] _ HRG.out Tryz.underlying50 rfl isz_Ssv ?_)
   refine (due_any v _ HN.out HPP.out).mono ?_
   rintro e w3 ⟨rfl, hb3⟩
   have HK3 := Hid.intro (HK1.out.below hb3)
   have HA3 := Hid.intro (HA1.out.below hb3 HA1.out.lt)
   have hb3 := hb1.trans (hb3.mono hb1.size)
   clear HRG kg kp e1 HK1 HA1 hb1
   have HK1 := HK3
   have HA1 := HA3
   have hb1 := hb3
   clear HK3 HA3 hb3
   generalize dueI v = d at *
   go_upto_region 4 with fail
   by_cases c1 : v.want < v.least
   ·have HEQ : Hid (flP v = scP v.least 0) := by show _ = _; rw [HF0.out, if_pos c1]
    have HC1 := Hid.intro c1
    clear c1
    refine wp_region_held_drew (S := fun wy => SgT p q Wb v T R lv wy ∧ Blk w.heap.size #[.string ⟨#[]⟩, .int .i64 0, .int .i64 0, .int .i64 0, .int .i64 0, .bool false, .slice none 0 0, .bool false] 47 wy) (by kernel_rfl) ⟨HK1.out.below (Below.refl _ _).drew, HA1.out.drew⟩ (fun hS => ?_)
    have hb1 := hb1.drew
    clear HK1 HA1
    generalize w3.drew = w3d at *
    refine tz 0 24 (.pointer (some ⟨q, 0, none⟩)) rfl hS ?_
    simp only [pA,pB,pC,pD]
    refine tz 1 25 (.pointer (some ⟨q, 0, none⟩)) rfl hS ?_
    simp only [pA,pB,pC,pD]
    refine tz 2 26 (.pointer (some ⟨q, 0, none⟩)) rfl hS ?_
    simp only [pA,pB,pC,pD]
    refine tz 3 27 (.pointer (some ⟨q, 4, none⟩)) rfl hS ?_
    simp only [pA,pB,pC,pD]
    refine tl 4 28 (.int .i64 v.want) ⟨q, 4, none⟩ rfl (fun wy hy => hy.1.2.cell rfl) hS ?_
    simp only [pA,pB,pC,pD]
    refine tz 5 29 (.pointer (some ⟨q, 0, none⟩)) rfl hS ?_
    simp only [pA,pB,pC,pD]
    refine tz 6 30 (.pointer (some ⟨q, 0, none⟩)) rfl hS ?_
    simp only [pA,pB,pC,pD]
    refine tz 7 31 (.pointer (some ⟨q, 0, none⟩)) rfl hS ?_
    simp only [pA,pB,pC,pD]
    refine tz 8 32 (.pointer (some ⟨q, 9, none⟩)) rfl hS ?_
    simp only [pA,pB,pC,pD]
    refine tl 9 33 (.int .i64 v.least) ⟨q, 9, none⟩ rfl (fun wy hy => hy.1.2.cell rfl) hS ?_
    simp only [pA,pB,pC,pD]
    refine ty 10 ⟨some 34, _, _, _, _, none⟩ (.bool true) rfl (by rfl) ?_ hS ?_
    ·intro wy hy
     have f0 := HC1.out
     clear hy
     (first | (go_simp; done) | (go_simp; omega))
    simp only [pA,pB,pC,pD]
    refine tz 11 23 (.bool true) rfl hS ?_
    simp only [pA,pB,pC,pD]
    have HK1 := Hid.intro hS.1
    have HA1 := Hid.intro hS.2
    refine wpAnyH_done (by kernel_rfl) ?_ _
    clear hS
    have kw : w3d.cell? ⟨q, 4, none⟩ = some (.int .i64 v.want) := HK1.out.2.cell rfl
    have kl : w3d.cell? ⟨q, 9, none⟩ = some (.int .i64 v.least) := HK1.out.2.cell rfl
    have km : w3d.cell? ⟨q, 10, none⟩ = some (.int .i64 v.most) := HK1.out.2.cell rfl
    have kc : w3d.cell? ⟨q, 12, none⟩ = some (.int .i64 v.cool) := HK1.out.2.cell rfl
    go_wp2_with fail
    refine (scaleTo_any v.least 0 _).mono ?_
    rintro e w5 ⟨ae, ce, rfl, ho5, hb5⟩
    have hb5' := hb1.trans (hb5.mono hb1.size)
    have HA5 := Hid.intro (HA1.out.below hb5 HA1.out.lt)
    have hg5 := HA1.out.lt
    have HO5 := Hid.intro ho5
    clear ho5 hb5 HA1 HK1
    generalize (scP v.least 0) = A at *
    have HTA := Hid.intro HA5.out.there
    obtain ⟨wf, HE⟩ : ∃ wf, Hid (wf = w5.setCells w.heap.size 0 [.string A.service, .int .i64 A.seen, .int .i64 A.create, .int .i64 A.want, .int .i64 A.cool, .bool A.scale, .slice ae A.ends.length ce, .bool A.drop]) := ⟨_, rfl⟩
    have HRf : Hid (wf.rangeAt w.heap.size 0 [.string A.service, .int .i64 A.seen, .int .i64 A.create, .int .i64 A.want, .int .i64 A.cool, .bool A.scale, .slice ae A.ends.length ce, .bool A.drop]) := by
     show World.rangeAt _ _ _ _
     rw [HE.out]
     exact World.rangeAt_setCells_same _ _ _ _ HTA.out
    have HBf : Hid (Below w.heap.size w wf) := by
     show Below _ _ _
     rw [HE.out]
     exact below_setCells (Nat.le_refl _) _ _ _ hb5'
    have HOf := Hid.intro (own_store (o := 0) (vs := [.string A.service, .int .i64 A.seen, .int .i64 A.create, .int .i64 A.want, .int .i64 A.cool, .bool A.scale, .slice ae A.ends.length ce, .bool A.drop]) HO5.out hg5)
    rw [← HE.out] at HOf
    go_wp2_with (refine wpList_store_to rfl 47 _ _ rfl w.heap.size 0 #[.string A.service, .int .i64 A.seen, .int .i64 A.create, .int .i64 A.want, .int .i64 A.cool, .bool A.scale, .slice ae A.ends.length ce, .bool A.drop] (by first | rfl | (simp [go_sem]; done)) rfl HTA.out isz_Sac (by simp [Value.oneCell']) wf HE.out ?_)
    exact bodyPost_ret (results_cell_mid rfl _ _ w.heap.size [.string A.service, .int .i64 A.seen, .int .i64 A.create, .int .i64 A.want, .int .i64 A.cool, .bool A.scale, .slice ae A.ends.length ce, .bool A.drop] _ rfl HRf.out Tryz.underlying47 rfl isz_Sac) rfl (by rw [HEQ.out]; exact ⟨ae, ce, rfl, HOf.out, HBf.out⟩)
   ·have HC1 : Hid (v.least ≤ v.want) := by show _ ≤ _; omega
    rw [if_neg c1] at HF0
    clear c1
    refine wp_region_held_drew (S := fun wy => SgT p q Wb v T R lv wy ∧ Blk w.heap.size #[.string ⟨#[]⟩, .int .i64 0, .int .i64 0, .int .i64 0, .int .i64 0, .bool false, .slice none 0 0, .bool false] 47 wy) (by kernel_rfl) ⟨HK1.out.below (Below.refl _ _).drew, HA1.out.drew⟩ (fun hS => ?_)
    have hb1 := hb1.drew
    clear HK1 HA1
    generalize w3.drew = w3d at *
    refine tz 0 24 (.pointer (some ⟨q, 0, none⟩)) rfl hS ?_
    simp only [pA,pB,pC,pD]
    refine tz 1 25 (.pointer (some ⟨q, 0, none⟩)) rfl hS ?_
    simp only [pA,pB,pC,pD]
    refine tz 2 26 (.pointer (some ⟨q, 0, none⟩)) rfl hS ?_
    simp only [pA,pB,pC,pD]
    refine tz 3 27 (.pointer (some ⟨q, 4, none⟩)) rfl hS ?_
    simp only [pA,pB,pC,pD]
    refine tl 4 28 (.int .i64 v.want) ⟨q, 4, none⟩ rfl (fun wy hy => hy.1.2.cell rfl) hS ?_
    simp only [pA,pB,pC,pD]
    refine tz 5 29 (.pointer (some ⟨q, 0, none⟩)) rfl hS ?_
    simp only [pA,pB,pC,pD]
    refine tz 6 30 (.pointer (some ⟨q, 0, none⟩)) rfl hS ?_
    simp only [pA,pB,pC,pD]
    refine tz 7 31 (.pointer (some ⟨q, 0, none⟩)) rfl hS ?_
    simp only [pA,pB,pC,pD]
    refine tz 8 32 (.pointer (some ⟨q, 9, none⟩)) rfl hS ?_
    simp only [pA,pB,pC,pD]
    refine tl 9 33 (.int .i64 v.least) ⟨q, 9, none⟩ rfl (fun wy hy => hy.1.2.cell rfl) hS ?_
    simp only [pA,pB,pC,pD]
    refine ty 10 ⟨some 34, _, _, _, _, none⟩ (.bool false) rfl (by rfl) ?_ hS ?_
    ·intro wy hy
     have f0 := HC1.out
     clear hy
     (first | (go_simp; done) | (go_simp; omega))
    simp only [pA,pB,pC,pD]
    refine tz 11 23 (.bool false) rfl hS ?_
    simp only [pA,pB,pC,pD]
    have HK1 := Hid.intro hS.1
    have HA1 := Hid.intro hS.2
    refine wpAnyH_done (by kernel_rfl) ?_ _
    clear hS
    go_upto_region 6 with fail
    by_cases c2 : v.most < v.want
    ·have HEQ : Hid (flP v = scP v.most 0) := by show _ = _; rw [HF0.out, if_pos c2]
     have HC2 := Hid.intro c2
     clear c2
     refine wp_region_held_drew (S := fun wy => SgT p q Wb v T R lv wy ∧ Blk w.heap.size #[.string ⟨#[]⟩, .int .i64 0, .int .i64 0, .int .i64 0, .int .i64 0, .bool false, .slice none 0 0, .bool false] 47 wy) (by kernel_rfl) ⟨HK1.out.below (Below.refl _ _).drew, HA1.out.drew⟩ (fun hS => ?_)
     have hb1 := hb1.drew
     clear HK1 HA1
     generalize w3d.drew = w3dd at *
     refine tz 0 42 (.pointer (some ⟨q, 0, none⟩)) rfl hS ?_
     simp only [pA,pB,pC,pD]
     refine tz 1 43 (.pointer (some ⟨q, 0, none⟩)) rfl hS ?_
     simp only [pA,pB,pC,pD]
     refine tz 2 44 (.pointer (some ⟨q, 0, none⟩)) rfl hS ?_
     simp only [pA,pB,pC,pD]
     refine tz 3 45 (.pointer (some ⟨q, 4, none⟩)) rfl hS ?_
     simp only [pA,pB,pC,pD]
     refine tl 4 46 (.int .i64 v.want) ⟨q, 4, none⟩ rfl (fun wy hy => hy.1.2.cell rfl) hS ?_
     simp only [pA,pB,pC,pD]
     refine tz 5 47 (.pointer (some ⟨q, 0, none⟩)) rfl hS ?_
     simp only [pA,pB,pC,pD]
     refine tz 6 48 (.pointer (some ⟨q, 0, none⟩)) rfl hS ?_
     simp only [pA,pB,pC,pD]
     refine tz 7 49 (.pointer (some ⟨q, 0, none⟩)) rfl hS ?_
     simp only [pA,pB,pC,pD]
     refine tz 8 50 (.pointer (some ⟨q, 10, none⟩)) rfl hS ?_
     simp only [pA,pB,pC,pD]
     refine tl 9 51 (.int .i64 v.most) ⟨q, 10, none⟩ rfl (fun wy hy => hy.1.2.cell rfl) hS ?_
     simp only [pA,pB,pC,pD]
     refine ty 10 ⟨some 52, _, _, _, _, none⟩ (.bool true) rfl (by rfl) ?_ hS ?_
     ·intro wy hy
      have f0 := HC2.out
      clear hy
      (first | (go_simp; done) | (go_simp; omega))
     simp only [pA,pB,pC,pD]
     refine tz 11 41 (.bool true) rfl hS ?_
     simp only [pA,pB,pC,pD]
     have HK1 := Hid.intro hS.1
     have HA1 := Hid.intro hS.2
     refine wpAnyH_done (by kernel_rfl) ?_ _
     clear hS
     have kw : w3dd.cell? ⟨q, 4, none⟩ = some (.int .i64 v.want) := HK1.out.2.cell rfl
     have kl : w3dd.cell? ⟨q, 9, none⟩ = some (.int .i64 v.least) := HK1.out.2.cell rfl
     have km : w3dd.cell? ⟨q, 10, none⟩ = some (.int .i64 v.most) := HK1.out.2.cell rfl
     have kc : w3dd.cell? ⟨q, 12, none⟩ = some (.int .i64 v.cool) := HK1.out.2.cell rfl
     go_wp2_with fail
     refine (scaleTo_any v.most 0 _).mono ?_
     rintro e w5 ⟨ae, ce, rfl, ho5, hb5⟩
     have hb5' := hb1.trans (hb5.mono hb1.size)
     have HA5 := Hid.intro (HA1.out.below hb5 HA1.out.lt)
     have hg5 := HA1.out.lt
     have HO5 := Hid.intro ho5
     clear ho5 hb5 HA1 HK1
     generalize (scP v.most 0) = A at *
     have HTA := Hid.intro HA5.out.there
     obtain ⟨wf, HE⟩ : ∃ wf, Hid (wf = w5.setCells w.heap.size 0 [.string A.service, .int .i64 A.seen, .int .i64 A.create, .int .i64 A.want, .int .i64 A.cool, .bool A.scale, .slice ae A.ends.length ce, .bool A.drop]) := ⟨_, rfl⟩
     have HRf : Hid (wf.rangeAt w.heap.size 0 [.string A.service, .int .i64 A.seen, .int .i64 A.create, .int .i64 A.want, .int .i64 A.cool, .bool A.scale, .slice ae A.ends.length ce, .bool A.drop]) := by
      show World.rangeAt _ _ _ _
      rw [HE.out]
      exact World.rangeAt_setCells_same _ _ _ _ HTA.out
     have HBf : Hid (Below w.heap.size w wf) := by
      show Below _ _ _
      rw [HE.out]
      exact below_setCells (Nat.le_refl _) _ _ _ hb5'
     have HOf := Hid.intro (own_store (o := 0) (vs := [.string A.service, .int .i64 A.seen, .int .i64 A.create, .int .i64 A.want, .int .i64 A.cool, .bool A.scale, .slice ae A.ends.length ce, .bool A.drop]) HO5.out hg5)
     rw [← HE.out] at HOf
     go_wp2_with (refine wpList_store_to rfl 47 _ _ rfl w.heap.size 0 #[.string A.service, .int .i64 A.seen, .int .i64 A.create, .int .i64 A.want, .int .i64 A.cool, .bool A.scale, .slice ae A.ends.length ce, .bool A.drop] (by first | rfl | (simp [go_sem]; done)) rfl HTA.out isz_Sac (by simp [Value.oneCell']) wf HE.out ?_)
     exact bodyPost_ret (results_cell_mid rfl _ _ w.heap.size [.string A.service, .int .i64 A.seen, .int .i64 A.create, .int .i64 A.want, .int .i64 A.cool, .bool A.scale, .slice ae A.ends.length ce, .bool A.drop] _ rfl HRf.out Tryz.underlying47 rfl isz_Sac) rfl (by rw [HEQ.out]; exact ⟨ae, ce, rfl, HOf.out, HBf.out⟩)
    ·have HC2 : Hid (v.want ≤ v.most) := by show _ ≤ _; omega
     rw [if_neg c2] at HF0
     clear c2
     refine wp_region_held_drew (S := fun wy => SgT p q Wb v T R lv wy ∧ Blk w.heap.size #[.string ⟨#[]⟩, .int .i64 0, .int .i64 0, .int .i64 0, .int .i64 0, .bool false, .slice none 0 0, .bool false] 47 wy) (by kernel_rfl) ⟨HK1.out.below (Below.refl _ _).drew, HA1.out.drew⟩ (fun hS => ?_)
     have hb1 := hb1.drew
     clear HK1 HA1
     generalize w3d.drew = w3dd at *
     refine tz 0 42 (.pointer (some ⟨q, 0, none⟩)) rfl hS ?_
     simp only [pA,pB,pC,pD]
     refine tz 1 43 (.pointer (some ⟨q, 0, none⟩)) rfl hS ?_
     simp only [pA,pB,pC,pD]
     refine tz 2 44 (.pointer (some ⟨q, 0, none⟩)) rfl hS ?_
     simp only [pA,pB,pC,pD]
     refine tz 3 45 (.pointer (some ⟨q, 4, none⟩)) rfl hS ?_
     simp only [pA,pB,pC,pD]
     refine tl 4 46 (.int .i64 v.want) ⟨q, 4, none⟩ rfl (fun wy hy => hy.1.2.cell rfl) hS ?_
     simp only [pA,pB,pC,pD]
     refine tz 5 47 (.pointer (some ⟨q, 0, none⟩)) rfl hS ?_
     simp only [pA,pB,pC,pD]
     refine tz 6 48 (.pointer (some ⟨q, 0, none⟩)) rfl hS ?_
     simp only [pA,pB,pC,pD]
     refine tz 7 49 (.pointer (some ⟨q, 0, none⟩)) rfl hS ?_
     simp only [pA,pB,pC,pD]
     refine tz 8 50 (.pointer (some ⟨q, 10, none⟩)) rfl hS ?_
     simp only [pA,pB,pC,pD]
     refine tl 9 51 (.int .i64 v.most) ⟨q, 10, none⟩ rfl (fun wy hy => hy.1.2.cell rfl) hS ?_
     simp only [pA,pB,pC,pD]
     refine ty 10 ⟨some 52, _, _, _, _, none⟩ (.bool false) rfl (by rfl) ?_ hS ?_
     ·intro wy hy
      have f0 := HC2.out
      clear hy
      (first | (go_simp; done) | (go_simp; omega))
     simp only [pA,pB,pC,pD]
     refine tz 11 41 (.bool false) rfl hS ?_
     simp only [pA,pB,pC,pD]
     have HK1 := Hid.intro hS.1
     have HA1 := Hid.intro hS.2
     refine wpAnyH_done (by kernel_rfl) ?_ _
     clear hS
     have kw : w3dd.cell? ⟨q, 4, none⟩ = some (.int .i64 v.want) := HK1.out.2.cell rfl
     have kl : w3dd.cell? ⟨q, 9, none⟩ = some (.int .i64 v.least) := HK1.out.2.cell rfl
     have km : w3dd.cell? ⟨q, 10, none⟩ = some (.int .i64 v.most) := HK1.out.2.cell rfl
     have kc : w3dd.cell? ⟨q, 12, none⟩ = some (.int .i64 v.cool) := HK1.out.2.cell rfl
     by_cases c3 : v.want < d
     ·have HEQ : Hid (flP v = scP d 0) := by show _ = _; rw [HF0.out, if_pos c3]
      go_wp2_with fail
      refine (scaleTo_any d 0 _).mono ?_
      rintro e w5 ⟨ae, ce, rfl, ho5, hb5⟩
      have hb5' := hb1.trans (hb5.mono hb1.size)
      have HA5 := Hid.intro (HA1.out.below hb5 HA1.out.lt)
      have hg5 := HA1.out.lt
      have HO5 := Hid.intro ho5
      clear ho5 hb5 HA1 HK1
      generalize (scP d 0) = A at *
      have HTA := Hid.intro HA5.out.there
      obtain ⟨wf, HE⟩ : ∃ wf, Hid (wf = w5.setCells w.heap.size 0 [.string A.service, .int .i64 A.seen, .int .i64 A.create, .int .i64 A.want, .int .i64 A.cool, .bool A.scale, .slice ae A.ends.length ce, .bool A.drop]) := ⟨_, rfl⟩
      have HRf : Hid (wf.rangeAt w.heap.size 0 [.string A.service, .int .i64 A.seen, .int .i64 A.create, .int .i64 A.want, .int .i64 A.cool, .bool A.scale, .slice ae A.ends.length ce, .bool A.drop]) := by
       show World.rangeAt _ _ _ _
       rw [HE.out]
       exact World.rangeAt_setCells_same _ _ _ _ HTA.out
      have HBf : Hid (Below w.heap.size w wf) := by
       show Below _ _ _
       rw [HE.out]
       exact below_setCells (Nat.le_refl _) _ _ _ hb5'
      have HOf := Hid.intro (own_store (o := 0) (vs := [.string A.service, .int .i64 A.seen, .int .i64 A.create, .int .i64 A.want, .int .i64 A.cool, .bool A.scale, .slice ae A.ends.length ce, .bool A.drop]) HO5.out hg5)
      rw [← HE.out] at HOf
      go_wp2_with (refine wpList_store_to rfl 47 _ _ rfl w.heap.size 0 #[.string A.service, .int .i64 A.seen, .int .i64 A.create, .int .i64 A.want, .int .i64 A.cool, .bool A.scale, .slice ae A.ends.length ce, .bool A.drop] (by first | rfl | (simp [go_sem]; done)) rfl HTA.out isz_Sac (by simp [Value.oneCell']) wf HE.out ?_)
      exact bodyPost_ret (results_cell_mid rfl _ _ w.heap.size [.string A.service, .int .i64 A.seen, .int .i64 A.create, .int .i64 A.want, .int .i64 A.cool, .bool A.scale, .slice ae A.ends.length ce, .bool A.drop] _ rfl HRf.out Tryz.underlying47 rfl isz_Sac) rfl (by rw [HEQ.out]; exact ⟨ae, ce, rfl, HOf.out, HBf.out⟩)
     ·rw [if_neg c3] at HF0
      have c3a : d ≤ v.want := by omega
      have c3b : decide (v.want < d) = false := by simpa using c3
      clear c3
      by_cases c4 : d < v.want
      ·by_cases c5 : v.cool = 3
       ·have HEQ : Hid (flP v = scP (v.want - 1) 0) := by show _ = _; rw [HF0.out, if_pos ⟨c4, c5⟩]
        have e5 : (v.cool == 3) = true := by simpa using c5
        clear c5
        go_wp2_with fail
        refine (scaleTo_any (v.want - 1) 0 _).mono ?_
        rintro e w5 ⟨ae, ce, rfl, ho5, hb5⟩
        have hb5' := hb1.trans (hb5.mono hb1.size)
        have HA5 := Hid.intro (HA1.out.below hb5 HA1.out.lt)
        have hg5 := HA1.out.lt
        have HO5 := Hid.intro ho5
        clear ho5 hb5 HA1 HK1
        generalize (scP (v.want - 1) 0) = A at *
        have HTA := Hid.intro HA5.out.there
        obtain ⟨wf, HE⟩ : ∃ wf, Hid (wf = w5.setCells w.heap.size 0 [.string A.service, .int .i64 A.seen, .int .i64 A.create, .int .i64 A.want, .int .i64 A.cool, .bool A.scale, .slice ae A.ends.length ce, .bool A.drop]) := ⟨_, rfl⟩
        have HRf : Hid (wf.rangeAt w.heap.size 0 [.string A.service, .int .i64 A.seen, .int .i64 A.create, .int .i64 A.want, .int .i64 A.cool, .bool A.scale, .slice ae A.ends.length ce, .bool A.drop]) := by
         show World.rangeAt _ _ _ _
         rw [HE.out]
         exact World.rangeAt_setCells_same _ _ _ _ HTA.out
        have HBf : Hid (Below w.heap.size w wf) := by
         show Below _ _ _
         rw [HE.out]
         exact below_setCells (Nat.le_refl _) _ _ _ hb5'
        have HOf := Hid.intro (own_store (o := 0) (vs := [.string A.service, .int .i64 A.seen, .int .i64 A.create, .int .i64 A.want, .int .i64 A.cool, .bool A.scale, .slice ae A.ends.length ce, .bool A.drop]) HO5.out hg5)
        rw [← HE.out] at HOf
        go_wp2_with (refine wpList_store_to rfl 47 _ _ rfl w.heap.size 0 #[.string A.service, .int .i64 A.seen, .int .i64 A.create, .int .i64 A.want, .int .i64 A.cool, .bool A.scale, .slice ae A.ends.length ce, .bool A.drop] (by first | rfl | (simp [go_sem]; done)) rfl HTA.out isz_Sac (by simp [Value.oneCell']) wf HE.out ?_)
        exact bodyPost_ret (results_cell_mid rfl _ _ w.heap.size [.string A.service, .int .i64 A.seen, .int .i64 A.create, .int .i64 A.want, .int .i64 A.cool, .bool A.scale, .slice ae A.ends.length ce, .bool A.drop] _ rfl HRf.out Tryz.underlying47 rfl isz_Sac) rfl (by rw [HEQ.out]; exact ⟨ae, ce, rfl, HOf.out, HBf.out⟩)
       ·have HEQ : Hid (flP v = scP v.want (v.cool + 1)) := by show _ = _; rw [HF0.out, if_neg (fun h => c5 h.2), if_pos c4]
        have e5 : (v.cool == 3) = false := by simpa using c5
        clear c5
        go_upto_region 13 with fail
        clear kw kl km kc
        refine wp_region_held_drew (S := fun wy => SgT p q Wb v T R lv wy) (by kernel_rfl) (HK1.out.below (Below.refl _ _).drew) (fun hS => ?_)
        have hb1 := hb1.drew
        have HA1 := Hid.intro HA1.out.drew
        clear HK1
        generalize w3dd.drew = w4 at *
        refine tz 0 100 (.pointer (some ⟨q, 0, none⟩)) rfl hS ?_
        simp only [pA,pB,pC,pD]
        refine tz 1 101 (.pointer (some ⟨q, 0, none⟩)) rfl hS ?_
        simp only [pA,pB,pC,pD]
        refine tz 2 102 (.pointer (some ⟨q, 0, none⟩)) rfl hS ?_
        simp only [pA,pB,pC,pD]
        refine tz 3 103 (.pointer (some ⟨q, 4, none⟩)) rfl hS ?_
        simp only [pA,pB,pC,pD]
        refine tl 4 104 (.int .i64 v.want) ⟨q, 4, none⟩ rfl (fun wy hy => hy.2.cell rfl) hS ?_
        simp only [pA,pB,pC,pD]
        refine tz 5 105 (.pointer (some ⟨q, 0, none⟩)) rfl hS ?_
        simp only [pA,pB,pC,pD]
        refine tz 6 106 (.pointer (some ⟨q, 0, none⟩)) rfl hS ?_
        simp only [pA,pB,pC,pD]
        refine tz 7 107 (.pointer (some ⟨q, 0, none⟩)) rfl hS ?_
        simp only [pA,pB,pC,pD]
        refine tz 8 108 (.pointer (some ⟨q, 12, none⟩)) rfl hS ?_
        simp only [pA,pB,pC,pD]
        refine tl 9 109 (.int .i64 v.cool) ⟨q, 12, none⟩ rfl (fun wy hy => hy.2.cell rfl) hS ?_
        simp only [pA,pB,pC,pD]
        refine ty 10 ⟨some 110, _, _, _, _, none⟩ (.int .i64 (v.cool + 1)) rfl (by rfl) ?_ hS ?_
        ·intro wy hy
         have f0 := HCO.out
         clear hy
         (go_simp; rw [IntKind.wrap_i64]; omega)
        simp only [pA,pB,pC,pD]
        refine rd1 11 ⟨some 111, _, _, _, _, none⟩ rfl (fun K hK => ?_)
        go_simp
        refine (scaleTo_any v.want (v.cool + 1) _).mono ?_
        rintro e w5 ⟨ae, ce, rfl, ho5, hb5⟩
        have hb5' := hb1.trans (hb5.mono hb1.size)
        have HA5 := Hid.intro (HA1.out.below hb5 HA1.out.lt)
        have hg5 := HA1.out.lt
        have HO5 := Hid.intro ho5
        refine hK.out _ _ (hS.below hb5) (fun hS => ?_)
        clear hK K ho5 hb5 HA1
        generalize (scP v.want (v.cool + 1)) = A at *
        refine rd1 12 ⟨none, _, _, _, _, none⟩ rfl (fun K hK => ?_)
        rw [if_pos (by rfl)]
        refine wp_store_mid 47 (.tmp 2) (.tmp 111) (by rfl) w.heap.size 0 #[.string A.service, .int .i64 A.seen, .int .i64 A.create, .int .i64 A.want, .int .i64 A.cool, .bool A.scale, .slice ae A.ends.length ce, .bool A.drop] (by rfl) (by rfl) HA5.out.there isz_Sac (by simp [Value.oneCell']) ?_
        have HRf : Hid ((w5.setCells w.heap.size 0 [.string A.service, .int .i64 A.seen, .int .i64 A.create, .int .i64 A.want, .int .i64 A.cool, .bool A.scale, .slice ae A.ends.length ce, .bool A.drop]).rangeAt w.heap.size 0 [.string A.service, .int .i64 A.seen, .int .i64 A.create, .int .i64 A.want, .int .i64 A.cool, .bool A.scale, .slice ae A.ends.length ce, .bool A.drop]) := World.rangeAt_setCells_same _ _ _ _ HA5.out.there
        have HBf : Hid (Below w.heap.size w (w5.setCells w.heap.size 0 [.string A.service, .int .i64 A.seen, .int .i64 A.create, .int .i64 A.want, .int .i64 A.cool, .bool A.scale, .slice ae A.ends.length ce, .bool A.drop])) := below_setCells (Nat.le_refl _) _ _ _ hb5'
        have HOf := Hid.intro (own_store (o := 0) (vs := [.string A.service, .int .i64 A.seen, .int .i64 A.create, .int .i64 A.want, .int .i64 A.cool, .bool A.scale, .slice ae A.ends.length ce, .bool A.drop]) HO5.out hg5)
        have hW2 := HSW.out
        refine hK.out _ _ ⟨below_setCells hW2.1 _ _ _ hS.1, blk_setCells_other (by omega) _ _ _ hS.2⟩ (fun hS => ?_)
        clear hK K
        generalize w5.setCells w.heap.size 0 [.string A.service, .int .i64 A.seen, .int .i64 A.create, .int .i64 A.want, .int .i64 A.cool, .bool A.scale, .slice ae A.ends.length ce, .bool A.drop] = wf at *
        refine wpAnyH_done (by kernel_rfl) ?_ _
        clear hS
        go_wp2_with fail
        exact bodyPost_ret (results_cell_mid rfl _ _ w.heap.size [.string A.service, .int .i64 A.seen, .int .i64 A.create, .int .i64 A.want, .int .i64 A.cool, .bool A.scale, .slice ae A.ends.length ce, .bool A.drop] _ rfl HRf.out Tryz.underlying47 rfl isz_Sac) rfl (by rw [HEQ.out]; exact ⟨ae, ce, rfl, HOf.out, HBf.out⟩)
      ·have c4a : v.want ≤ d := by omega
       have c4b : decide (d < v.want) = false := by simpa using c4
       rw [if_neg (fun h => c4 h.1), if_neg c4] at HF0
       clear c4
       by_cases c6 : v.cool = 0
       ·have HEQ : Hid (flP v = nA) := by show _ = _; rw [HF0.out, if_neg (fun h => h c6)]
        have e6 : (v.cool == 0) = true := by simpa using c6
        have e7 : (v.cool != 0) = false := by simp [c6]
        clear c6
        have HTA := Hid.intro HA1.out.there
        obtain ⟨wf, HE⟩ : ∃ wf, Hid (wf = w3dd.setCells w.heap.size 0 [.string ⟨#[]⟩, .int .i64 0, .int .i64 0, .int .i64 0, .int .i64 0, .bool false, .slice none 0 0, .bool false]) := ⟨_, rfl⟩
        have HRf : Hid (wf.rangeAt w.heap.size 0 [.string ⟨#[]⟩, .int .i64 0, .int .i64 0, .int .i64 0, .int .i64 0, .bool false, .slice none 0 0, .bool false]) := by
         show World.rangeAt _ _ _ _
         rw [HE.out]
         exact World.rangeAt_setCells_same _ _ _ _ HTA.out
        have HBf : Hid (Below w.heap.size w wf) := by
         show Below _ _ _
         rw [HE.out]
         exact below_setCells (Nat.le_refl _) _ _ _ hb1
        go_wp2_with (refine wpList_store_to rfl 47 _ _ rfl w.heap.size 0 #[.string ⟨#[]⟩, .int .i64 0, .int .i64 0, .int .i64 0, .int .i64 0, .bool false, .slice none 0 0, .bool false] (by first | rfl | (simp [go_sem]; done)) rfl HTA.out isz_Sac (by simp [Value.oneCell']) wf HE.out ?_)
        exact bodyPost_ret (results_cell_mid rfl _ _ w.heap.size [.string ⟨#[]⟩, .int .i64 0, .int .i64 0, .int .i64 0, .int .i64 0, .bool false, .slice none 0 0, .bool false] _ rfl HRf.out Tryz.underlying47 rfl isz_Sac) rfl (by rw [HEQ.out]; exact ⟨none, 0, rfl, World.ownsRow_nil _ _ _ _, HBf.out⟩)
       ·have HEQ : Hid (flP v = scP v.want 0) := by show _ = _; rw [HF0.out, if_pos c6]
        have e6 : (v.cool == 0) = false := by simpa using c6
        have e7 : (v.cool != 0) = true := by simpa using c6
        clear c6
        go_wp2_with fail
        refine (scaleTo_any v.want 0 _).mono ?_
        rintro e w5 ⟨ae, ce, rfl, ho5, hb5⟩
        have hb5' := hb1.trans (hb5.mono hb1.size)
        have HA5 := Hid.intro (HA1.out.below hb5 HA1.out.lt)
        have hg5 := HA1.out.lt
        have HO5 := Hid.intro ho5
        clear ho5 hb5 HA1 HK1
        generalize (scP v.want 0) = A at *
        have HTA := Hid.intro HA5.out.there
        obtain ⟨wf, HE⟩ : ∃ wf, Hid (wf = w5.setCells w.heap.size 0 [.string A.service, .int .i64 A.seen, .int .i64 A.create, .int .i64 A.want, .int .i64 A.cool, .bool A.scale, .slice ae A.ends.length ce, .bool A.drop]) := ⟨_, rfl⟩
        have HRf : Hid (wf.rangeAt w.heap.size 0 [.string A.service, .int .i64 A.seen, .int .i64 A.create, .int .i64 A.want, .int .i64 A.cool, .bool A.scale, .slice ae A.ends.length ce, .bool A.drop]) := by
         show World.rangeAt _ _ _ _
         rw [HE.out]
         exact World.rangeAt_setCells_same _ _ _ _ HTA.out
        have HBf : Hid (Below w.heap.size w wf) := by
         show Below _ _ _
         rw [HE.out]
         exact below_setCells (Nat.le_refl _) _ _ _ hb5'
        have HOf := Hid.intro (own_store (o := 0) (vs := [.string A.service, .int .i64 A.seen, .int .i64 A.create, .int .i64 A.want, .int .i64 A.cool, .bool A.scale, .slice ae A.ends.length ce, .bool A.drop]) HO5.out hg5)
        rw [← HE.out] at HOf
        go_wp2_with (refine wpList_store_to rfl 47 _ _ rfl w.heap.size 0 #[.string A.service, .int .i64 A.seen, .int .i64 A.create, .int .i64 A.want, .int .i64 A.cool, .bool A.scale, .slice ae A.ends.length ce, .bool A.drop] (by first | rfl | (simp [go_sem]; done)) rfl HTA.out isz_Sac (by simp [Value.oneCell']) wf HE.out ?_)
        exact bodyPost_ret (results_cell_mid rfl _ _ w.heap.size [.string A.service, .int .i64 A.seen, .int .i64 A.create, .int .i64 A.want, .int .i64 A.cool, .bool A.scale, .slice ae A.ends.length ce, .bool A.drop] _ rfl HRf.out Tryz.underlying47 rfl isz_Sac) rfl (by rw [HEQ.out]; exact ⟨ae, ce, rfl, HOf.out, HBf.out⟩)

end Go.Proofs.YtnggdpjfmpjlhaaGreat
