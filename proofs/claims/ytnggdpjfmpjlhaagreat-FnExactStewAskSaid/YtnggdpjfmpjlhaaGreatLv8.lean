import Derived.Test.YtnggdpjfmpjlhaaGreatTkw
import Derived.Test.YtnggdpjfmpjlhaaGreatLv7
import Derived.Test.YtnggdpjfmpjlhaaGreatSk5
namespace Go.Proofs.YtnggdpjfmpjlhaaGreat
open Go.RowKit

def SgT (p q : Nat) (Wb : World) (v : Ssv) (T : Sct) (R : Value) (lv : Int) (w : World) : Prop := Below Wb.heap.size Wb w ∧ Blk q #[.string v.name, .int .i64 v.version, .bool v.gone, .int .i64 v.image, .int .i64 v.want, .int .i64 v.down, .int .i64 v.over, .int .i64 v.next, .int .i64 v.per, .int .i64 v.least, .int .i64 v.most, .int .i64 v.load, .int .i64 v.cool, .int .i64 T.live, .int .i64 T.ready, .int .i64 T.old, .int .i64 T.failed, .int .i64 T.ending, .int .i64 lv, R, .pointer (some ⟨p, 0, none⟩)] 111 w
theorem SgT.below {p q : Nat} {Wb : World} {v : Ssv} {T : Sct} {R : Value} {lv : Int} {w w' : World} (h : SgT p q Wb v T R lv w) (hb : Below w.heap.size w w') : SgT p q Wb v T R lv w' := ⟨h.1.trans (hb.mono h.1.size), h.2.below hb h.2.lt⟩

theorem cnt_small {x : Sbk} (hv : SVal x) (v : Ssv) : BndT (cntL x.copies v.name v.image) 200 := by
 have h := cqL_bd v.image (x.copies.filter (fun c => decide (c.service = v.name)))
 rw [← cnt_filter] at h
 have h2 := List.length_filter_le (fun c : Scp => decide (c.service = v.name)) x.copies
 have h3 := hv.l2
 obtain ⟨q1, q2, q3, q4, q5, q6, q7, q8, q9, q10⟩ := h
 exact ⟨q1, by omega, q3, by omega, q5, by omega, q7, by omega, q9, by omega⟩

theorem own_store {w : World} {b g : Nat} {e : TypeId} {s : Nat} {u : Value} {k : Nat} {xs : List Value} {o : Nat} {vs : List Value} (h : w.ownsRow b e s u k xs) (hg : g < b) : (w.setCells g o vs).ownsRow g e s u k xs :=
 own_mono (h.kept (grown_setCells g vs o w) (by
  rcases h.2 with ⟨h9, _⟩ | ⟨g9, c9, cur, h9, hb9, _⟩
  ·rw [h9]; exact .inl rfl
  ·rw [h9]
   refine .inr (fun e => ?_)
   have h8 : some g9 = some g := e
   have := Option.some.inj h8
   omega)) (Nat.le_of_lt hg)

def rpP (x : Sbk) (v : Ssv) (T : Sct) (f : Scp → Bool) : Sac := if T.live < v.want then nA else if T.live < v.want + v.over then ⟨⟨#[]⟩, 0, 1, 0, 0, false, [], false⟩ else eA (firC x v (lvF x v.name f))
def rnP (x : Sbk) (v : Ssv) (T : Sct) : Sac := if v.gone = true ∨ T.old = 0 then nA else rpP x v T (fun c => c.image != v.image)
def dnP (x : Sbk) (v : Ssv) (T : Sct) (lv : Int) : Sac := if v.gone = true ∨ 0 < T.old ∨ lv = 0 then nA else rpP x v T (fun c => dnB x c.berth)
def mdP (x : Sbk) (v : Ssv) : Sac := eA ((lvF x v.name (fun c => c.state == 4)).map enC)
def swP (x : Sbk) (v : Ssv) (T : Sct) : Sac := if v.gone = true then ⟨⟨#[]⟩, 0, 0, 0, 0, false, (lvF x v.name (fun _ => true)).map enC, (T.live == 0) && (T.ending == 0)⟩ else nA
def kcP (x : Sbk) (v : Ssv) (T : Sct) (lv : Int) : Sac := if v.gone = true ∨ T.live = v.want then nA else if T.live < v.want then ⟨⟨#[]⟩, 0, v.want - T.live, 0, 0, false, [], false⟩ else if (0 < T.old ∨ 0 < lv) ∧ T.live ≤ v.want + v.over then nA else eA (firC x v (lvF x v.name (fun _ => true)))

set_option maxHeartbeats 8000000 in
set_option maxRecDepth 100000 in
theorem replace_any2 (x : Sbk) (a1 : Option Addr) (c1 : Nat) (b2 o2 c2 : Nat) (a3 : Option Addr) (c3 : Nat) (p m n lo q : Nat) (Wb : World) (v : Ssv) (lv : Int) (f : Nat) (bd : Array Value) (qf : Scp → Bool) (w : World) (hF : FndS x a1 c1 (some ⟨b2, o2, none⟩) c2 a3 c3 p m n lo Wb) (hv : SVal x) (hcap : x.copies.length ≤ c2) (hK : SgL x p q Wb v lv w) (hN : SvNum v) (hlv : 0 ≤ lv ∧ lv ≤ 200) (hsay : IsF x p q Wb v f bd qf) (heg : ∀ args w, (callFunc f args).run Tryz.prog w = .ok (.enter f args) w) :
  Calls Tryz.prog 120 #[.pointer (some ⟨q, 0, none⟩), .func (.func f) bd #[]] w fun e w' => ActP (rpP x v (cntL x.copies v.name v.image) qf) w e w' := by
 have hb1 : Below w.heap.size w (w.alloc (Obj.cells #[.string ⟨#[]⟩, .int .i64 0, .int .i64 0, .int .i64 0, .int .i64 0, .bool false, .slice none 0 0, .bool false] 47)) := by go_grown
 have HA1 : Hid (Blk w.heap.size #[.string ⟨#[]⟩, .int .i64 0, .int .i64 0, .int .i64 0, .int .i64 0, .bool false, .slice none 0 0, .bool false] 47 (w.alloc (Obj.cells #[.string ⟨#[]⟩, .int .i64 0, .int .i64 0, .int .i64 0, .int .i64 0, .bool false, .slice none 0 0, .bool false] 47))) := Blk.alloc _ _ _
 have hbd := cnt_small hv v
 have HF := Hid.intro hF
 have HV := Hid.intro hv
 have HCAP := Hid.intro hcap
 obtain ⟨T, HT⟩ : ∃ T, Hid (cntL x.copies v.name v.image = T) := ⟨_, rfl⟩
 obtain ⟨R, HR⟩ : ∃ R, Hid (rlV x v = R) := ⟨_, rfl⟩
 have HTK : Hid (∀ W, SgT p q Wb v T R lv W → SgL x p q Wb v lv W) := fun W h => by rw [← HT.out, ← HR.out] at h; exact h
 have hK2 : SgT p q Wb v T R lv w := by rw [← HT.out, ← HR.out]; exact hK
 have HK1 := Hid.intro (hK2.below hb1)
 have HSW : Hid (Wb.heap.size ≤ w.heap.size ∧ q < w.heap.size) := ⟨hK.1.size, hK.2.lt⟩
 rw [HT.out] at hbd
 rw [HT.out]
 obtain ⟨b1, b2', b3, b4, b5, b6, b7, b8, b9, b10⟩ := hbd
 have HBD : Hid (0 ≤ T.live ∧ T.live ≤ 200 ∧ 0 ≤ T.old ∧ T.old ≤ 200 ∧ 0 ≤ v.want ∧ v.want ≤ 10 ∧ 0 ≤ v.over ∧ v.over ≤ 10 ∧ 0 ≤ lv ∧ lv ≤ 200) := ⟨b1, by omega, b5, by omega, hN.want.1, hN.want.2, hN.over.1, hN.over.2, hlv.1, hlv.2⟩
 clear hF hv hcap hK hK2 hN hlv b1 b2' b3 b4 b5 b6 b7 b8 b9 b10
 go_enter Tryz.func120, Tryz.ntmps120
 go_upto_region 1 with fail
 generalize w.alloc (Obj.cells #[.string ⟨#[]⟩, .int .i64 0, .int .i64 0, .int .i64 0, .int .i64 0, .bool false, .slice none 0 0, .bool false] 47) = w1 at *
 have HSAY := Hid.intro hsay
 clear hsay
 by_cases c1 : T.live < v.want
 ·have HEQ : Hid (rpP x v T qf = nA) := if_pos c1
  have HC1 := Hid.intro c1
  clear c1
  refine wp_region_held_drew (S := fun wy => SgT p q Wb v T R lv wy ∧ Blk w.heap.size #[.string ⟨#[]⟩, .int .i64 0, .int .i64 0, .int .i64 0, .int .i64 0, .bool false, .slice none 0 0, .bool false] 47 wy) (by kernel_rfl) ⟨HK1.out.below (Below.refl _ _).drew, HA1.out.drew⟩ (fun hS => ?_)
  have hb1 := hb1.drew
  clear HK1 HA1
  generalize w1.drew = w1d at *
  refine tz 0 6 (.pointer (some ⟨q, 0, none⟩)) rfl hS ?_
  simp only [pA,pB,pC,pD]
  refine tz 1 7 (.pointer (some ⟨q, 0, none⟩)) rfl hS ?_
  simp only [pA,pB,pC,pD]
  refine tz 2 8 (.pointer (some ⟨q, 13, none⟩)) rfl hS ?_
  simp only [pA,pB,pC,pD]
  refine tz 3 9 (.pointer (some ⟨q, 13, none⟩)) rfl hS ?_
  simp only [pA,pB,pC,pD]
  refine tl 4 10 (.int .i64 T.live) ⟨q, 13, none⟩ rfl (fun wy hy => hy.1.2.cell rfl) hS ?_
  simp only [pA,pB,pC,pD]
  refine tz 5 11 (.pointer (some ⟨q, 0, none⟩)) rfl hS ?_
  simp only [pA,pB,pC,pD]
  refine tz 6 12 (.pointer (some ⟨q, 0, none⟩)) rfl hS ?_
  simp only [pA,pB,pC,pD]
  refine tz 7 13 (.pointer (some ⟨q, 0, none⟩)) rfl hS ?_
  simp only [pA,pB,pC,pD]
  refine tz 8 14 (.pointer (some ⟨q, 4, none⟩)) rfl hS ?_
  simp only [pA,pB,pC,pD]
  refine tl 9 15 (.int .i64 v.want) ⟨q, 4, none⟩ rfl (fun wy hy => hy.1.2.cell rfl) hS ?_
  simp only [pA,pB,pC,pD]
  refine ty 10 ⟨some 16, _, _, _, _, none⟩ (.bool true) rfl (by rfl) ?_ hS ?_
  ·intro wy hy
   have f0 := HC1.out
   clear hy
   (first | (go_simp; done) | (go_simp; omega))
  simp only [pA,pB,pC,pD]
  refine tz 11 5 (.bool true) rfl hS ?_
  simp only [pA,pB,pC,pD]
  have HK1 := Hid.intro hS.1
  have HA1 := Hid.intro hS.2
  refine wpAnyH_done (by kernel_rfl) ?_ _
  clear hS
  have HTA := Hid.intro HA1.out.there
  obtain ⟨wf, HE⟩ : ∃ wf, Hid (wf = w1d.setCells w.heap.size 0 [.string ⟨#[]⟩, .int .i64 0, .int .i64 0, .int .i64 0, .int .i64 0, .bool false, .slice none 0 0, .bool false]) := ⟨_, rfl⟩
  have HRf : Hid (wf.rangeAt w.heap.size 0 [.string ⟨#[]⟩, .int .i64 0, .int .i64 0, .int .i64 0, .int .i64 0, .bool false, .slice none 0 0, .bool false]) := by
   show World.rangeAt _ _ _ _
   rw [HE.out]
   exact World.rangeAt_setCells_same _ _ _ _ HTA.out
  have HBf : Hid (Below w.heap.size w wf) := by
   show Below _ _ _
   rw [HE.out]
   exact below_setCells (Nat.le_refl _) _ _ _ hb1
  go_wp2_with (refine wpList_store_to rfl 47 _ _ rfl w.heap.size 0 #[.string ⟨#[]⟩, .int .i64 0, .int .i64 0, .int .i64 0, .int .i64 0, .bool false, .slice none 0 0, .bool false] (by first | rfl | (simp [go_sem]; done)) rfl HTA.out isz_Sac (by simp [Value.oneCell']) wf HE.out ?_)
  exact bodyPost_ret (results_cell_mid rfl _ _ w.heap.size [.string ⟨#[]⟩, .int .i64 0, .int .i64 0, .int .i64 0, .int .i64 0, .bool false, .slice none 0 0, .bool false] _ rfl HRf.out Tryz.underlying47 rfl isz_Sac) rfl (by rw [HEQ.out]; exact ⟨none, 0, rfl, World.ownsRow_nil _ _ _ _, HBf.out⟩)
 ·have HC1 : Hid (v.want ≤ T.live) := by show _ ≤ _; omega
  refine wp_region_held_drew (S := fun wy => SgT p q Wb v T R lv wy ∧ Blk w.heap.size #[.string ⟨#[]⟩, .int .i64 0, .int .i64 0, .int .i64 0, .int .i64 0, .bool false, .slice none 0 0, .bool false] 47 wy) (by kernel_rfl) ⟨HK1.out.below (Below.refl _ _).drew, HA1.out.drew⟩ (fun hS => ?_)
  have hb1 := hb1.drew
  clear HK1 HA1
  generalize w1.drew = w1d at *
  refine tz 0 6 (.pointer (some ⟨q, 0, none⟩)) rfl hS ?_
  simp only [pA,pB,pC,pD]
  refine tz 1 7 (.pointer (some ⟨q, 0, none⟩)) rfl hS ?_
  simp only [pA,pB,pC,pD]
  refine tz 2 8 (.pointer (some ⟨q, 13, none⟩)) rfl hS ?_
  simp only [pA,pB,pC,pD]
  refine tz 3 9 (.pointer (some ⟨q, 13, none⟩)) rfl hS ?_
  simp only [pA,pB,pC,pD]
  refine tl 4 10 (.int .i64 T.live) ⟨q, 13, none⟩ rfl (fun wy hy => hy.1.2.cell rfl) hS ?_
  simp only [pA,pB,pC,pD]
  refine tz 5 11 (.pointer (some ⟨q, 0, none⟩)) rfl hS ?_
  simp only [pA,pB,pC,pD]
  refine tz 6 12 (.pointer (some ⟨q, 0, none⟩)) rfl hS ?_
  simp only [pA,pB,pC,pD]
  refine tz 7 13 (.pointer (some ⟨q, 0, none⟩)) rfl hS ?_
  simp only [pA,pB,pC,pD]
  refine tz 8 14 (.pointer (some ⟨q, 4, none⟩)) rfl hS ?_
  simp only [pA,pB,pC,pD]
  refine tl 9 15 (.int .i64 v.want) ⟨q, 4, none⟩ rfl (fun wy hy => hy.1.2.cell rfl) hS ?_
  simp only [pA,pB,pC,pD]
  refine ty 10 ⟨some 16, _, _, _, _, none⟩ (.bool false) rfl (by rfl) ?_ hS ?_
  ·intro wy hy
   have f0 := HC1.out
   clear hy
   (first | (go_simp; done) | (go_simp; omega))
  simp only [pA,pB,pC,pD]
  refine tz 11 5 (.bool false) rfl hS ?_
  simp only [pA,pB,pC,pD]
  have HK1 := Hid.intro hS.1
  have HA1 := Hid.intro hS.2
  refine wpAnyH_done (by kernel_rfl) ?_ _
  clear hS
  go_upto_region 3 with fail
  by_cases c2 : T.live < v.want + v.over
  ·have HEQ : Hid (rpP x v T qf = ⟨⟨#[]⟩, 0, 1, 0, 0, false, [], false⟩) := by show _ = _; unfold rpP; rw [if_neg c1, if_pos c2]
   have HC2 := Hid.intro c2
   clear c1 c2
   refine wp_region_held_drew (S := fun wy => SgT p q Wb v T R lv wy ∧ Blk w.heap.size #[.string ⟨#[]⟩, .int .i64 0, .int .i64 0, .int .i64 0, .int .i64 0, .bool false, .slice none 0 0, .bool false] 47 wy) (by kernel_rfl) ⟨HK1.out.below (Below.refl _ _).drew, HA1.out.drew⟩ (fun hS => ?_)
   have hb1 := hb1.drew
   clear HK1 HA1
   generalize w1d.drew = w1dd at *
   refine tz 0 19 (.pointer (some ⟨q, 0, none⟩)) rfl hS ?_
   simp only [pA,pB,pC,pD]
   refine tz 1 20 (.pointer (some ⟨q, 0, none⟩)) rfl hS ?_
   simp only [pA,pB,pC,pD]
   refine tz 2 21 (.pointer (some ⟨q, 13, none⟩)) rfl hS ?_
   simp only [pA,pB,pC,pD]
   refine tz 3 22 (.pointer (some ⟨q, 13, none⟩)) rfl hS ?_
   simp only [pA,pB,pC,pD]
   refine tl 4 23 (.int .i64 T.live) ⟨q, 13, none⟩ rfl (fun wy hy => hy.1.2.cell rfl) hS ?_
   simp only [pA,pB,pC,pD]
   refine tz 5 24 (.pointer (some ⟨q, 0, none⟩)) rfl hS ?_
   simp only [pA,pB,pC,pD]
   refine tz 6 25 (.pointer (some ⟨q, 0, none⟩)) rfl hS ?_
   simp only [pA,pB,pC,pD]
   refine tz 7 26 (.pointer (some ⟨q, 0, none⟩)) rfl hS ?_
   simp only [pA,pB,pC,pD]
   refine tz 8 27 (.pointer (some ⟨q, 4, none⟩)) rfl hS ?_
   simp only [pA,pB,pC,pD]
   refine tl 9 28 (.int .i64 v.want) ⟨q, 4, none⟩ rfl (fun wy hy => hy.1.2.cell rfl) hS ?_
   simp only [pA,pB,pC,pD]
   refine tz 10 29 (.pointer (some ⟨q, 0, none⟩)) rfl hS ?_
   simp only [pA,pB,pC,pD]
   refine tz 11 30 (.pointer (some ⟨q, 0, none⟩)) rfl hS ?_
   simp only [pA,pB,pC,pD]
   refine tz 12 31 (.pointer (some ⟨q, 0, none⟩)) rfl hS ?_
   simp only [pA,pB,pC,pD]
   refine tz 13 32 (.pointer (some ⟨q, 6, none⟩)) rfl hS ?_
   simp only [pA,pB,pC,pD]
   refine tl 14 33 (.int .i64 v.over) ⟨q, 6, none⟩ rfl (fun wy hy => hy.1.2.cell rfl) hS ?_
   simp only [pA,pB,pC,pD]
   refine ty 15 ⟨some 34, _, _, _, _, none⟩ (.int .i64 (v.want + v.over)) rfl (by rfl) ?_ hS ?_
   ·intro wy hy
    have f0 := HC2.out
    have f1 := HBD.out
    clear hy
    (go_simp; rw [IntKind.wrap_i64]; omega)
   simp only [pA,pB,pC,pD]
   refine ty 16 ⟨some 35, _, _, _, _, none⟩ (.bool true) rfl (by rfl) ?_ hS ?_
   ·intro wy hy
    have f0 := HC2.out
    have f1 := HBD.out
    clear hy
    (first | (go_simp; done) | (go_simp; omega))
   simp only [pA,pB,pC,pD]
   refine tz 17 18 (.bool true) rfl hS ?_
   simp only [pA,pB,pC,pD]
   have HK1 := Hid.intro hS.1
   have HA1 := Hid.intro hS.2
   refine wpAnyH_done (by kernel_rfl) ?_ _
   clear hS
   have HTA := Hid.intro HA1.out.there
   obtain ⟨wf, HE⟩ : ∃ wf, Hid (wf = w1dd.setCells w.heap.size 0 [.string ⟨#[]⟩, .int .i64 0, .int .i64 1, .int .i64 0, .int .i64 0, .bool false, .slice none 0 0, .bool false]) := ⟨_, rfl⟩
   have HRf : Hid (wf.rangeAt w.heap.size 0 [.string ⟨#[]⟩, .int .i64 0, .int .i64 1, .int .i64 0, .int .i64 0, .bool false, .slice none 0 0, .bool false]) := by
    show World.rangeAt _ _ _ _
    rw [HE.out]
    exact World.rangeAt_setCells_same _ _ _ _ HTA.out
   have HBf : Hid (Below w.heap.size w wf) := by
    show Below _ _ _
    rw [HE.out]
    exact below_setCells (Nat.le_refl _) _ _ _ hb1
   go_wp2_with (refine wpList_store_to rfl 47 _ _ rfl w.heap.size 0 #[.string ⟨#[]⟩, .int .i64 0, .int .i64 1, .int .i64 0, .int .i64 0, .bool false, .slice none 0 0, .bool false] (by first | rfl | (simp [go_sem]; done)) rfl HTA.out isz_Sac (by simp [Value.oneCell']) wf HE.out ?_)
   exact bodyPost_ret (results_cell_mid rfl _ _ w.heap.size [.string ⟨#[]⟩, .int .i64 0, .int .i64 1, .int .i64 0, .int .i64 0, .bool false, .slice none 0 0, .bool false] _ rfl HRf.out Tryz.underlying47 rfl isz_Sac) rfl (by rw [HEQ.out]; exact ⟨none, 0, rfl, World.ownsRow_nil _ _ _ _, HBf.out⟩)
  ·have HEQ : Hid (rpP x v T qf = eA (firC x v (lvF x v.name qf))) := by show _ = _; unfold rpP; rw [if_neg c1, if_neg c2]
   have HC2 : Hid (v.want + v.over ≤ T.live) := by show _ ≤ _; omega
   clear c1 c2
   refine wp_region_held_drew (S := fun wy => SgT p q Wb v T R lv wy ∧ Blk w.heap.size #[.string ⟨#[]⟩, .int .i64 0, .int .i64 0, .int .i64 0, .int .i64 0, .bool false, .slice none 0 0, .bool false] 47 wy) (by kernel_rfl) ⟨HK1.out.below (Below.refl _ _).drew, HA1.out.drew⟩ (fun hS => ?_)
   have hb1 := hb1.drew
   clear HK1 HA1
   generalize w1d.drew = w1dd at *
   refine tz 0 19 (.pointer (some ⟨q, 0, none⟩)) rfl hS ?_
   simp only [pA,pB,pC,pD]
   refine tz 1 20 (.pointer (some ⟨q, 0, none⟩)) rfl hS ?_
   simp only [pA,pB,pC,pD]
   refine tz 2 21 (.pointer (some ⟨q, 13, none⟩)) rfl hS ?_
   simp only [pA,pB,pC,pD]
   refine tz 3 22 (.pointer (some ⟨q, 13, none⟩)) rfl hS ?_
   simp only [pA,pB,pC,pD]
   refine tl 4 23 (.int .i64 T.live) ⟨q, 13, none⟩ rfl (fun wy hy => hy.1.2.cell rfl) hS ?_
   simp only [pA,pB,pC,pD]
   refine tz 5 24 (.pointer (some ⟨q, 0, none⟩)) rfl hS ?_
   simp only [pA,pB,pC,pD]
   refine tz 6 25 (.pointer (some ⟨q, 0, none⟩)) rfl hS ?_
   simp only [pA,pB,pC,pD]
   refine tz 7 26 (.pointer (some ⟨q, 0, none⟩)) rfl hS ?_
   simp only [pA,pB,pC,pD]
   refine tz 8 27 (.pointer (some ⟨q, 4, none⟩)) rfl hS ?_
   simp only [pA,pB,pC,pD]
   refine tl 9 28 (.int .i64 v.want) ⟨q, 4, none⟩ rfl (fun wy hy => hy.1.2.cell rfl) hS ?_
   simp only [pA,pB,pC,pD]
   refine tz 10 29 (.pointer (some ⟨q, 0, none⟩)) rfl hS ?_
   simp only [pA,pB,pC,pD]
   refine tz 11 30 (.pointer (some ⟨q, 0, none⟩)) rfl hS ?_
   simp only [pA,pB,pC,pD]
   refine tz 12 31 (.pointer (some ⟨q, 0, none⟩)) rfl hS ?_
   simp only [pA,pB,pC,pD]
   refine tz 13 32 (.pointer (some ⟨q, 6, none⟩)) rfl hS ?_
   simp only [pA,pB,pC,pD]
   refine tl 14 33 (.int .i64 v.over) ⟨q, 6, none⟩ rfl (fun wy hy => hy.1.2.cell rfl) hS ?_
   simp only [pA,pB,pC,pD]
   refine ty 15 ⟨some 34, _, _, _, _, none⟩ (.int .i64 (v.want + v.over)) rfl (by rfl) ?_ hS ?_
   ·intro wy hy
    have f0 := HC2.out
    have f1 := HBD.out
    clear hy
    (go_simp; rw [IntKind.wrap_i64]; omega)
   simp only [pA,pB,pC,pD]
   refine ty 16 ⟨some 35, _, _, _, _, none⟩ (.bool false) rfl (by rfl) ?_ hS ?_
   ·intro wy hy
    have f0 := HC2.out
    have f1 := HBD.out
    clear hy
    (first | (go_simp; done) | (go_simp; omega))
   simp only [pA,pB,pC,pD]
   refine tz 17 18 (.bool false) rfl hS ?_
   simp only [pA,pB,pC,pD]
   have HK1 := Hid.intro hS.1
   have HA1 := Hid.intro hS.2
   refine wpAnyH_done (by kernel_rfl) ?_ _
   clear hS
   go_wp2_with fail
   refine (endFirst_any x a1 c1 b2 o2 c2 a3 c3 p m n lo q Wb v f bd qf _ HF.out HV.out HCAP.out ⟨lv, HTK.out _ HK1.out⟩ HSAY.out heg).mono ?_
   rintro e w5 ⟨ae, ce, rfl, ho5, hb5⟩
   have hb5' := hb1.trans (hb5.mono hb1.size)
   have HA5 := Hid.intro (HA1.out.below hb5 HA1.out.lt)
   have hg5 := HA1.out.lt
   have HO5 := Hid.intro ho5
   clear ho5 hb5 HA1 HK1
   generalize (eA (firC x v (lvF x v.name qf))) = A at *
   have HTA := Hid.intro HA5.out.there
   obtain ⟨wf, HE⟩ : ∃ wf, Hid (wf = w5.setCells w.heap.size 0 [.string A.service, .int .i64 A.seen, .int .i64 A.create, .int .i64 A.want, .int .i64 A.cool, .bool A.scale, .slice ae A.ends.length ce, .bool A.drop]) := ⟨_, rfl⟩
   have HRf : Hid (wf.rangeAt w.heap.size 0 [.string A.service, .int .i64 A.seen, .int .i64 A.create, .int .i64 A.want, .int .i64 A.cool, .bool A.scale, .slice ae A.ends.length ce, .bool A.drop]) := by
    show World.rangeAt _ _ _ _
    rw [HE.out]
    exact World.rangeAt_setCells_same _ _ _ _ HTA.out
   have HBf : Hid (Below w.heap.size w wf) := by
    show Below _ _ _
    rw [HE.out]
    exact below_setCells (Nat.le_refl _) _ _ _ hb5'
   have HOf := Hid.intro (own_store (o := 0) (vs := [.string A.service, .int .i64 A.seen, .int .i64 A.create, .int .i64 A.want, .int .i64 A.cool, .bool A.scale, .slice ae A.ends.length ce, .bool A.drop]) HO5.out hg5)
   rw [← HE.out] at HOf
   go_wp2_with (refine wpList_store_to rfl 47 _ _ rfl w.heap.size 0 #[.string A.service, .int .i64 A.seen, .int .i64 A.create, .int .i64 A.want, .int .i64 A.cool, .bool A.scale, .slice ae A.ends.length ce, .bool A.drop] (by first | rfl | (simp [go_sem]; done)) rfl HTA.out isz_Sac (by simp [Value.oneCell']) wf HE.out ?_)
   exact bodyPost_ret (results_cell_mid rfl _ _ w.heap.size [.string A.service, .int .i64 A.seen, .int .i64 A.create, .int .i64 A.want, .int .i64 A.cool, .bool A.scale, .slice ae A.ends.length ce, .bool A.drop] _ rfl HRf.out Tryz.underlying47 rfl isz_Sac) rfl (by rw [HEQ.out]; exact ⟨ae, ce, rfl, HOf.out, HBf.out⟩)

set_option maxHeartbeats 8000000 in
set_option maxRecDepth 100000 in
theorem renew_any (x : Sbk) (a1 : Option Addr) (c1 : Nat) (b2 o2 c2 : Nat) (a3 : Option Addr) (c3 : Nat) (p m n lo q : Nat) (Wb : World) (v : Ssv) (lv : Int) (w : World) (hF : FndS x a1 c1 (some ⟨b2, o2, none⟩) c2 a3 c3 p m n lo Wb) (hv : SVal x) (hcap : x.copies.length ≤ c2) (hK : SgL x p q Wb v lv w) (hN : SvNum v) (hlv : 0 ≤ lv ∧ lv ≤ 200) :
  Calls Tryz.prog 86 #[.pointer (some ⟨q, 0, none⟩)] w fun e w' => ActP (rnP x v (cntL x.copies v.name v.image)) w e w' := by
 have hb1 : Below w.heap.size w (w.alloc (Obj.cells #[.string ⟨#[]⟩, .int .i64 0, .int .i64 0, .int .i64 0, .int .i64 0, .bool false, .slice none 0 0, .bool false] 47)) := by go_grown
 have HA1 : Hid (Blk w.heap.size #[.string ⟨#[]⟩, .int .i64 0, .int .i64 0, .int .i64 0, .int .i64 0, .bool false, .slice none 0 0, .bool false] 47 (w.alloc (Obj.cells #[.string ⟨#[]⟩, .int .i64 0, .int .i64 0, .int .i64 0, .int .i64 0, .bool false, .slice none 0 0, .bool false] 47))) := Blk.alloc _ _ _
 have hbd := cnt_small hv v
 have HF := Hid.intro hF
 have HV := Hid.intro hv
 have HCAP := Hid.intro hcap
 obtain ⟨T, HT⟩ : ∃ T, Hid (cntL x.copies v.name v.image = T) := ⟨_, rfl⟩
 obtain ⟨R, HR⟩ : ∃ R, Hid (rlV x v = R) := ⟨_, rfl⟩
 have HTK : Hid (∀ W, SgT p q Wb v T R lv W → SgL x p q Wb v lv W) := fun W h => by rw [← HT.out, ← HR.out] at h; exact h
 have hK2 : SgT p q Wb v T R lv w := by rw [← HT.out, ← HR.out]; exact hK
 have HK1 := Hid.intro (hK2.below hb1)
 have HSW : Hid (Wb.heap.size ≤ w.heap.size ∧ q < w.heap.size) := ⟨hK.1.size, hK.2.lt⟩
 rw [HT.out] at hbd
 rw [HT.out]
 obtain ⟨b1, b2', b3, b4, b5, b6, b7, b8, b9, b10⟩ := hbd
 have HBD : Hid (0 ≤ T.live ∧ T.live ≤ 200 ∧ 0 ≤ T.old ∧ T.old ≤ 200 ∧ 0 ≤ v.want ∧ v.want ≤ 10 ∧ 0 ≤ v.over ∧ v.over ≤ 10 ∧ 0 ≤ lv ∧ lv ≤ 200) := ⟨b1, by omega, b5, by omega, hN.want.1, hN.want.2, hN.over.1, hN.over.2, hlv.1, hlv.2⟩
 have HN := Hid.intro hN
 have HLV := Hid.intro hlv
 clear hF hv hcap hK hK2 hN hlv b1 b2' b3 b4 b5 b6 b7 b8 b9 b10
 go_enter Tryz.func86, Tryz.ntmps86
 go_upto_region 1 with fail
 generalize w.alloc (Obj.cells #[.string ⟨#[]⟩, .int .i64 0, .int .i64 0, .int .i64 0, .int .i64 0, .bool false, .slice none 0 0, .bool false] 47) = w1 at *
 have kg : w1.cell? ⟨q, 2, none⟩ = some (.bool v.gone) := HK1.out.2.cell rfl
 have ko : w1.cell? ⟨q, 15, none⟩ = some (.int .i64 T.old) := HK1.out.2.cell rfl
 cases hg : v.gone with
 | true =>
  have HEQ : Hid (rnP x v T = nA) := if_pos (.inl hg)
  rw [hg] at kg
  clear hg
  have HTA := Hid.intro HA1.out.there
  obtain ⟨wf, HE⟩ : ∃ wf, Hid (wf = w1.setCells w.heap.size 0 [.string ⟨#[]⟩, .int .i64 0, .int .i64 0, .int .i64 0, .int .i64 0, .bool false, .slice none 0 0, .bool false]) := ⟨_, rfl⟩
  have HRf : Hid (wf.rangeAt w.heap.size 0 [.string ⟨#[]⟩, .int .i64 0, .int .i64 0, .int .i64 0, .int .i64 0, .bool false, .slice none 0 0, .bool false]) := by
   show World.rangeAt _ _ _ _
   rw [HE.out]
   exact World.rangeAt_setCells_same _ _ _ _ HTA.out
  have HBf : Hid (Below w.heap.size w wf) := by
   show Below _ _ _
   rw [HE.out]
   exact below_setCells (Nat.le_refl _) _ _ _ hb1
  go_wp2_with (refine wpList_store_to rfl 47 _ _ rfl w.heap.size 0 #[.string ⟨#[]⟩, .int .i64 0, .int .i64 0, .int .i64 0, .int .i64 0, .bool false, .slice none 0 0, .bool false] (by first | rfl | (simp [go_sem]; done)) rfl HTA.out isz_Sac (by simp [Value.oneCell']) wf HE.out ?_)
  exact bodyPost_ret (results_cell_mid rfl _ _ w.heap.size [.string ⟨#[]⟩, .int .i64 0, .int .i64 0, .int .i64 0, .int .i64 0, .bool false, .slice none 0 0, .bool false] _ rfl HRf.out Tryz.underlying47 rfl isz_Sac) rfl (by rw [HEQ.out]; exact ⟨none, 0, rfl, World.ownsRow_nil _ _ _ _, HBf.out⟩)
 | false =>
  rw [hg] at kg
  by_cases ho : T.old = 0
  ·have HEQ : Hid (rnP x v T = nA) := if_pos (.inr ho)
   have e1 : (T.old == 0) = true := by simpa using ho
   clear hg ho
   have HTA := Hid.intro HA1.out.there
   obtain ⟨wf, HE⟩ : ∃ wf, Hid (wf = w1.setCells w.heap.size 0 [.string ⟨#[]⟩, .int .i64 0, .int .i64 0, .int .i64 0, .int .i64 0, .bool false, .slice none 0 0, .bool false]) := ⟨_, rfl⟩
   have HRf : Hid (wf.rangeAt w.heap.size 0 [.string ⟨#[]⟩, .int .i64 0, .int .i64 0, .int .i64 0, .int .i64 0, .bool false, .slice none 0 0, .bool false]) := by
    show World.rangeAt _ _ _ _
    rw [HE.out]
    exact World.rangeAt_setCells_same _ _ _ _ HTA.out
   have HBf : Hid (Below w.heap.size w wf) := by
    show Below _ _ _
    rw [HE.out]
    exact below_setCells (Nat.le_refl _) _ _ _ hb1
   go_wp2_with (refine wpList_store_to rfl 47 _ _ rfl w.heap.size 0 #[.string ⟨#[]⟩, .int .i64 0, .int .i64 0, .int .i64 0, .int .i64 0, .bool false, .slice none 0 0, .bool false] (by first | rfl | (simp [go_sem]; done)) rfl HTA.out isz_Sac (by simp [Value.oneCell']) wf HE.out ?_)
   exact bodyPost_ret (results_cell_mid rfl _ _ w.heap.size [.string ⟨#[]⟩, .int .i64 0, .int .i64 0, .int .i64 0, .int .i64 0, .bool false, .slice none 0 0, .bool false] _ rfl HRf.out Tryz.underlying47 rfl isz_Sac) rfl (by rw [HEQ.out]; exact ⟨none, 0, rfl, World.ownsRow_nil _ _ _ _, HBf.out⟩)
  ·have HEQ : Hid (rnP x v T = rpP x v T (fun c => c.image != v.image)) := if_neg (by rw [hg]; simpa using ho)
   have e1 : (T.old == 0) = false := by simpa using ho
   clear hg ho
   go_wp2_with fail
   refine (replace_any2 x a1 c1 b2 o2 c2 a3 c3 p m n lo q Wb v lv 121 #[.pointer (some ⟨q, 0, none⟩)] (fun c => c.image != v.image) _ HF.out HV.out HCAP.out (HTK.out _ HK1.out) HN.out HLV.out (isOld_is x p q Wb v) (enters_of Tryz.func121 (by kernel_rfl) rfl)).mono ?_
   rintro e w5 ⟨ae, ce, rfl, ho5, hb5⟩
   rw [HT.out] at ho5 ⊢
   have hb5' := hb1.trans (hb5.mono hb1.size)
   have HA5 := Hid.intro (HA1.out.below hb5 HA1.out.lt)
   have hg5 := HA1.out.lt
   have HO5 := Hid.intro ho5
   clear ho5 hb5 HA1 HK1
   generalize (rpP x v T (fun c => c.image != v.image)) = A at *
   have HTA := Hid.intro HA5.out.there
   obtain ⟨wf, HE⟩ : ∃ wf, Hid (wf = w5.setCells w.heap.size 0 [.string A.service, .int .i64 A.seen, .int .i64 A.create, .int .i64 A.want, .int .i64 A.cool, .bool A.scale, .slice ae A.ends.length ce, .bool A.drop]) := ⟨_, rfl⟩
   have HRf : Hid (wf.rangeAt w.heap.size 0 [.string A.service, .int .i64 A.seen, .int .i64 A.create, .int .i64 A.want, .int .i64 A.cool, .bool A.scale, .slice ae A.ends.length ce, .bool A.drop]) := by
    show World.rangeAt _ _ _ _
    rw [HE.out]
    exact World.rangeAt_setCells_same _ _ _ _ HTA.out
   have HBf : Hid (Below w.heap.size w wf) := by
    show Below _ _ _
    rw [HE.out]
    exact below_setCells (Nat.le_refl _) _ _ _ hb5'
   have HOf := Hid.intro (own_store (o := 0) (vs := [.string A.service, .int .i64 A.seen, .int .i64 A.create, .int .i64 A.want, .int .i64 A.cool, .bool A.scale, .slice ae A.ends.length ce, .bool A.drop]) HO5.out hg5)
   rw [← HE.out] at HOf
   go_wp2_with (refine wpList_store_to rfl 47 _ _ rfl w.heap.size 0 #[.string A.service, .int .i64 A.seen, .int .i64 A.create, .int .i64 A.want, .int .i64 A.cool, .bool A.scale, .slice ae A.ends.length ce, .bool A.drop] (by first | rfl | (simp [go_sem]; done)) rfl HTA.out isz_Sac (by simp [Value.oneCell']) wf HE.out ?_)
   exact bodyPost_ret (results_cell_mid rfl _ _ w.heap.size [.string A.service, .int .i64 A.seen, .int .i64 A.create, .int .i64 A.want, .int .i64 A.cool, .bool A.scale, .slice ae A.ends.length ce, .bool A.drop] _ rfl HRf.out Tryz.underlying47 rfl isz_Sac) rfl (by rw [HEQ.out]; exact ⟨ae, ce, rfl, HOf.out, HBf.out⟩)

set_option maxHeartbeats 8000000 in
set_option maxRecDepth 100000 in
theorem drain_any (x : Sbk) (a1 : Option Addr) (c1 : Nat) (b2 o2 c2 : Nat) (a3 : Option Addr) (c3 : Nat) (p m n lo q : Nat) (Wb : World) (v : Ssv) (lv : Int) (w : World) (hF : FndS x a1 c1 (some ⟨b2, o2, none⟩) c2 a3 c3 p m n lo Wb) (hv : SVal x) (hcap : x.copies.length ≤ c2) (hK : SgL x p q Wb v lv w) (hN : SvNum v) (hlv : 0 ≤ lv ∧ lv ≤ 200) :
  Calls Tryz.prog 90 #[.pointer (some ⟨q, 0, none⟩)] w fun e w' => ActP (dnP x v (cntL x.copies v.name v.image) lv) w e w' := by
 have hb1 : Below w.heap.size w (w.alloc (Obj.cells #[.string ⟨#[]⟩, .int .i64 0, .int .i64 0, .int .i64 0, .int .i64 0, .bool false, .slice none 0 0, .bool false] 47)) := by go_grown
 have HA1 : Hid (Blk w.heap.size #[.string ⟨#[]⟩, .int .i64 0, .int .i64 0, .int .i64 0, .int .i64 0, .bool false, .slice none 0 0, .bool false] 47 (w.alloc (Obj.cells #[.string ⟨#[]⟩, .int .i64 0, .int .i64 0, .int .i64 0, .int .i64 0, .bool false, .slice none 0 0, .bool false] 47))) := Blk.alloc _ _ _
 have hbd := cnt_small hv v
 have HF := Hid.intro hF
 have HV := Hid.intro hv
 have HCAP := Hid.intro hcap
 obtain ⟨T, HT⟩ : ∃ T, Hid (cntL x.copies v.name v.image = T) := ⟨_, rfl⟩
 obtain ⟨R, HR⟩ : ∃ R, Hid (rlV x v = R) := ⟨_, rfl⟩
 have HTK : Hid (∀ W, SgT p q Wb v T R lv W → SgL x p q Wb v lv W) := fun W h => by rw [← HT.out, ← HR.out] at h; exact h
 have hK2 : SgT p q Wb v T R lv w := by rw [← HT.out, ← HR.out]; exact hK
 have HK1 := Hid.intro (hK2.below hb1)
 have HSW : Hid (Wb.heap.size ≤ w.heap.size ∧ q < w.heap.size) := ⟨hK.1.size, hK.2.lt⟩
 rw [HT.out] at hbd
 rw [HT.out]
 obtain ⟨b1, b2', b3, b4, b5, b6, b7, b8, b9, b10⟩ := hbd
 have HBD : Hid (0 ≤ T.live ∧ T.live ≤ 200 ∧ 0 ≤ T.old ∧ T.old ≤ 200 ∧ 0 ≤ v.want ∧ v.want ≤ 10 ∧ 0 ≤ v.over ∧ v.over ≤ 10 ∧ 0 ≤ lv ∧ lv ≤ 200) := ⟨b1, by omega, b5, by omega, hN.want.1, hN.want.2, hN.over.1, hN.over.2, hlv.1, hlv.2⟩
 have HN := Hid.intro hN
 have HLV := Hid.intro hlv
 clear hF hv hcap hK hK2 hN hlv b1 b2' b3 b4 b5 b6 b7 b8 b9 b10
 go_enter Tryz.func90, Tryz.ntmps90
 go_upto_region 1 with fail
 generalize w.alloc (Obj.cells #[.string ⟨#[]⟩, .int .i64 0, .int .i64 0, .int .i64 0, .int .i64 0, .bool false, .slice none 0 0, .bool false] 47) = w1 at *
 have kg : w1.cell? ⟨q, 2, none⟩ = some (.bool v.gone) := HK1.out.2.cell rfl
 have ko : w1.cell? ⟨q, 15, none⟩ = some (.int .i64 T.old) := HK1.out.2.cell rfl
 have kl : w1.cell? ⟨q, 18, none⟩ = some (.int .i64 lv) := HK1.out.2.cell rfl
 cases hg : v.gone with
 | true =>
  have HEQ : Hid (dnP x v T lv = nA) := if_pos (.inl hg)
  rw [hg] at kg
  clear hg
  have HTA := Hid.intro HA1.out.there
  obtain ⟨wf, HE⟩ : ∃ wf, Hid (wf = w1.setCells w.heap.size 0 [.string ⟨#[]⟩, .int .i64 0, .int .i64 0, .int .i64 0, .int .i64 0, .bool false, .slice none 0 0, .bool false]) := ⟨_, rfl⟩
  have HRf : Hid (wf.rangeAt w.heap.size 0 [.string ⟨#[]⟩, .int .i64 0, .int .i64 0, .int .i64 0, .int .i64 0, .bool false, .slice none 0 0, .bool false]) := by
   show World.rangeAt _ _ _ _
   rw [HE.out]
   exact World.rangeAt_setCells_same _ _ _ _ HTA.out
  have HBf : Hid (Below w.heap.size w wf) := by
   show Below _ _ _
   rw [HE.out]
   exact below_setCells (Nat.le_refl _) _ _ _ hb1
  go_wp2_with (refine wpList_store_to rfl 47 _ _ rfl w.heap.size 0 #[.string ⟨#[]⟩, .int .i64 0, .int .i64 0, .int .i64 0, .int .i64 0, .bool false, .slice none 0 0, .bool false] (by first | rfl | (simp [go_sem]; done)) rfl HTA.out isz_Sac (by simp [Value.oneCell']) wf HE.out ?_)
  exact bodyPost_ret (results_cell_mid rfl _ _ w.heap.size [.string ⟨#[]⟩, .int .i64 0, .int .i64 0, .int .i64 0, .int .i64 0, .bool false, .slice none 0 0, .bool false] _ rfl HRf.out Tryz.underlying47 rfl isz_Sac) rfl (by rw [HEQ.out]; exact ⟨none, 0, rfl, World.ownsRow_nil _ _ _ _, HBf.out⟩)
 | false =>
  rw [hg] at kg
  by_cases ho : 0 < T.old
  ·have HEQ : Hid (dnP x v T lv = nA) := if_pos (.inr (.inl ho))
   clear hg
   have HTA := Hid.intro HA1.out.there
   obtain ⟨wf, HE⟩ : ∃ wf, Hid (wf = w1.setCells w.heap.size 0 [.string ⟨#[]⟩, .int .i64 0, .int .i64 0, .int .i64 0, .int .i64 0, .bool false, .slice none 0 0, .bool false]) := ⟨_, rfl⟩
   have HRf : Hid (wf.rangeAt w.heap.size 0 [.string ⟨#[]⟩, .int .i64 0, .int .i64 0, .int .i64 0, .int .i64 0, .bool false, .slice none 0 0, .bool false]) := by
    show World.rangeAt _ _ _ _
    rw [HE.out]
    exact World.rangeAt_setCells_same _ _ _ _ HTA.out
   have HBf : Hid (Below w.heap.size w wf) := by
    show Below _ _ _
    rw [HE.out]
    exact below_setCells (Nat.le_refl _) _ _ _ hb1
   go_wp2_with (refine wpList_store_to rfl 47 _ _ rfl w.heap.size 0 #[.string ⟨#[]⟩, .int .i64 0, .int .i64 0, .int .i64 0, .int .i64 0, .bool false, .slice none 0 0, .bool false] (by first | rfl | (simp [go_sem]; done)) rfl HTA.out isz_Sac (by simp [Value.oneCell']) wf HE.out ?_)
   exact bodyPost_ret (results_cell_mid rfl _ _ w.heap.size [.string ⟨#[]⟩, .int .i64 0, .int .i64 0, .int .i64 0, .int .i64 0, .bool false, .slice none 0 0, .bool false] _ rfl HRf.out Tryz.underlying47 rfl isz_Sac) rfl (by rw [HEQ.out]; exact ⟨none, 0, rfl, World.ownsRow_nil _ _ _ _, HBf.out⟩)
  ·have e1 : decide (0 < T.old) = false := by simpa using ho
   have ho2 : T.old ≤ 0 := by omega
   by_cases hl : lv = 0
   ·have HEQ : Hid (dnP x v T lv = nA) := if_pos (.inr (.inr hl))
    have e2 : (lv == 0) = true := by simpa using hl
    clear hg ho hl
    have HTA := Hid.intro HA1.out.there
    obtain ⟨wf, HE⟩ : ∃ wf, Hid (wf = w1.setCells w.heap.size 0 [.string ⟨#[]⟩, .int .i64 0, .int .i64 0, .int .i64 0, .int .i64 0, .bool false, .slice none 0 0, .bool false]) := ⟨_, rfl⟩
    have HRf : Hid (wf.rangeAt w.heap.size 0 [.string ⟨#[]⟩, .int .i64 0, .int .i64 0, .int .i64 0, .int .i64 0, .bool false, .slice none 0 0, .bool false]) := by
     show World.rangeAt _ _ _ _
     rw [HE.out]
     exact World.rangeAt_setCells_same _ _ _ _ HTA.out
    have HBf : Hid (Below w.heap.size w wf) := by
     show Below _ _ _
     rw [HE.out]
     exact below_setCells (Nat.le_refl _) _ _ _ hb1
    go_wp2_with (refine wpList_store_to rfl 47 _ _ rfl w.heap.size 0 #[.string ⟨#[]⟩, .int .i64 0, .int .i64 0, .int .i64 0, .int .i64 0, .bool false, .slice none 0 0, .bool false] (by first | rfl | (simp [go_sem]; done)) rfl HTA.out isz_Sac (by simp [Value.oneCell']) wf HE.out ?_)
    exact bodyPost_ret (results_cell_mid rfl _ _ w.heap.size [.string ⟨#[]⟩, .int .i64 0, .int .i64 0, .int .i64 0, .int .i64 0, .bool false, .slice none 0 0, .bool false] _ rfl HRf.out Tryz.underlying47 rfl isz_Sac) rfl (by rw [HEQ.out]; exact ⟨none, 0, rfl, World.ownsRow_nil _ _ _ _, HBf.out⟩)
   ·have HEQ : Hid (dnP x v T lv = rpP x v T (fun c => dnB x c.berth)) := if_neg (by rw [hg]; intro h; rcases h with h | h | h; cases h; exact ho h; exact hl h)
    have e2 : (lv == 0) = false := by simpa using hl
    clear hg ho hl
    go_wp2_with fail
    refine (replace_any2 x a1 c1 b2 o2 c2 a3 c3 p m n lo q Wb v lv 61 #[.pointer (some ⟨q, 0, none⟩)] (fun c => dnB x c.berth) _ HF.out HV.out HCAP.out (HTK.out _ HK1.out) HN.out HLV.out (isLeaving_is x a1 c1 b2 o2 c2 a3 c3 p m n lo q Wb v HF.out HV.out) (enters_of Tryz.func61 (by kernel_rfl) rfl)).mono ?_
    rintro e w5 ⟨ae, ce, rfl, ho5, hb5⟩
    rw [HT.out] at ho5 ⊢
    have hb5' := hb1.trans (hb5.mono hb1.size)
    have HA5 := Hid.intro (HA1.out.below hb5 HA1.out.lt)
    have hg5 := HA1.out.lt
    have HO5 := Hid.intro ho5
    clear ho5 hb5 HA1 HK1
    generalize (rpP x v T (fun c => dnB x c.berth)) = A at *
    have HTA := Hid.intro HA5.out.there
    obtain ⟨wf, HE⟩ : ∃ wf, Hid (wf = w5.setCells w.heap.size 0 [.string A.service, .int .i64 A.seen, .int .i64 A.create, .int .i64 A.want, .int .i64 A.cool, .bool A.scale, .slice ae A.ends.length ce, .bool A.drop]) := ⟨_, rfl⟩
    have HRf : Hid (wf.rangeAt w.heap.size 0 [.string A.service, .int .i64 A.seen, .int .i64 A.create, .int .i64 A.want, .int .i64 A.cool, .bool A.scale, .slice ae A.ends.length ce, .bool A.drop]) := by
     show World.rangeAt _ _ _ _
     rw [HE.out]
     exact World.rangeAt_setCells_same _ _ _ _ HTA.out
    have HBf : Hid (Below w.heap.size w wf) := by
     show Below _ _ _
     rw [HE.out]
     exact below_setCells (Nat.le_refl _) _ _ _ hb5'
    have HOf := Hid.intro (own_store (o := 0) (vs := [.string A.service, .int .i64 A.seen, .int .i64 A.create, .int .i64 A.want, .int .i64 A.cool, .bool A.scale, .slice ae A.ends.length ce, .bool A.drop]) HO5.out hg5)
    rw [← HE.out] at HOf
    go_wp2_with (refine wpList_store_to rfl 47 _ _ rfl w.heap.size 0 #[.string A.service, .int .i64 A.seen, .int .i64 A.create, .int .i64 A.want, .int .i64 A.cool, .bool A.scale, .slice ae A.ends.length ce, .bool A.drop] (by first | rfl | (simp [go_sem]; done)) rfl HTA.out isz_Sac (by simp [Value.oneCell']) wf HE.out ?_)
    exact bodyPost_ret (results_cell_mid rfl _ _ w.heap.size [.string A.service, .int .i64 A.seen, .int .i64 A.create, .int .i64 A.want, .int .i64 A.cool, .bool A.scale, .slice ae A.ends.length ce, .bool A.drop] _ rfl HRf.out Tryz.underlying47 rfl isz_Sac) rfl (by rw [HEQ.out]; exact ⟨ae, ce, rfl, HOf.out, HBf.out⟩)

set_option maxHeartbeats 8000000 in
set_option maxRecDepth 100000 in
theorem mend_any (x : Sbk) (a1 : Option Addr) (c1 : Nat) (b2 o2 c2 : Nat) (a3 : Option Addr) (c3 : Nat) (p m n lo q : Nat) (Wb : World) (v : Ssv) (lv : Int) (w : World) (hF : FndS x a1 c1 (some ⟨b2, o2, none⟩) c2 a3 c3 p m n lo Wb) (hv : SVal x) (hcap : x.copies.length ≤ c2) (hK : SgL x p q Wb v lv w) (hN : SvNum v) (hlv : 0 ≤ lv ∧ lv ≤ 200) :
  Calls Tryz.prog 87 #[.pointer (some ⟨q, 0, none⟩)] w fun e w' => ActP (mdP x v) w e w' := by
 have hb1 : Below w.heap.size w (w.alloc (Obj.cells #[.string ⟨#[]⟩, .int .i64 0, .int .i64 0, .int .i64 0, .int .i64 0, .bool false, .slice none 0 0, .bool false] 47)) := by go_grown
 have HA1 : Hid (Blk w.heap.size #[.string ⟨#[]⟩, .int .i64 0, .int .i64 0, .int .i64 0, .int .i64 0, .bool false, .slice none 0 0, .bool false] 47 (w.alloc (Obj.cells #[.string ⟨#[]⟩, .int .i64 0, .int .i64 0, .int .i64 0, .int .i64 0, .bool false, .slice none 0 0, .bool false] 47))) := Blk.alloc _ _ _
 have hbd := cnt_small hv v
 have HF := Hid.intro hF
 have HV := Hid.intro hv
 have HCAP := Hid.intro hcap
 obtain ⟨T, HT⟩ : ∃ T, Hid (cntL x.copies v.name v.image = T) := ⟨_, rfl⟩
 obtain ⟨R, HR⟩ : ∃ R, Hid (rlV x v = R) := ⟨_, rfl⟩
 have HTK : Hid (∀ W, SgT p q Wb v T R lv W → SgL x p q Wb v lv W) := fun W h => by rw [← HT.out, ← HR.out] at h; exact h
 have hK2 : SgT p q Wb v T R lv w := by rw [← HT.out, ← HR.out]; exact hK
 have HK1 := Hid.intro (hK2.below hb1)
 have HSW : Hid (Wb.heap.size ≤ w.heap.size ∧ q < w.heap.size) := ⟨hK.1.size, hK.2.lt⟩
 rw [HT.out] at hbd
 obtain ⟨b1, b2', b3, b4, b5, b6, b7, b8, b9, b10⟩ := hbd
 have HBD : Hid (0 ≤ T.live ∧ T.live ≤ 200 ∧ 0 ≤ T.old ∧ T.old ≤ 200 ∧ 0 ≤ v.want ∧ v.want ≤ 10 ∧ 0 ≤ v.over ∧ v.over ≤ 10 ∧ 0 ≤ lv ∧ lv ≤ 200) := ⟨b1, by omega, b5, by omega, hN.want.1, hN.want.2, hN.over.1, hN.over.2, hlv.1, hlv.2⟩
 have HN := Hid.intro hN
 have HLV := Hid.intro hlv
 clear hF hv hcap hK hK2 hN hlv b1 b2' b3 b4 b5 b6 b7 b8 b9 b10
 go_enter Tryz.func87, Tryz.ntmps87
 go_upto_region 1 with fail
 generalize w.alloc (Obj.cells #[.string ⟨#[]⟩, .int .i64 0, .int .i64 0, .int .i64 0, .int .i64 0, .bool false, .slice none 0 0, .bool false] 47) = w1 at *
 have HEQ : Hid (mdP x v = eA ((lvF x v.name (fun c => c.state == 4)).map enC)) := rfl
 go_wp2_with fail
 refine (endsF_any x a1 c1 b2 o2 c2 a3 c3 p m n lo q Wb v 123 #[] (fun c => c.state == 4) _ HF.out HV.out HCAP.out ⟨lv, HTK.out _ HK1.out⟩ (failed_is x p q Wb v) (enters_of Tryz.func123 (by kernel_rfl) rfl)).mono ?_
 rintro e w5 ⟨ae, ce, rfl, ho5, hb5⟩
 have hb5' := hb1.trans (hb5.mono hb1.size)
 have HA5 := Hid.intro (HA1.out.below hb5 HA1.out.lt)
 have hg5 := HA1.out.lt
 have HO5 := Hid.intro ho5
 clear ho5 hb5 HA1 HK1
 generalize ((lvF x v.name (fun c => c.state == 4)).map enC) = es at *
 have HTA := Hid.intro HA5.out.there
 obtain ⟨wf, HE⟩ : ∃ wf, Hid (wf = w5.setCells w.heap.size 0 [.string ⟨#[]⟩, .int .i64 0, .int .i64 0, .int .i64 0, .int .i64 0, .bool false, .slice ae es.length ce, .bool false]) := ⟨_, rfl⟩
 have HRf : Hid (wf.rangeAt w.heap.size 0 [.string ⟨#[]⟩, .int .i64 0, .int .i64 0, .int .i64 0, .int .i64 0, .bool false, .slice ae es.length ce, .bool false]) := by
  show World.rangeAt _ _ _ _
  rw [HE.out]
  exact World.rangeAt_setCells_same _ _ _ _ HTA.out
 have HBf : Hid (Below w.heap.size w wf) := by
  show Below _ _ _
  rw [HE.out]
  exact below_setCells (Nat.le_refl _) _ _ _ hb5'
 have HOf := Hid.intro (own_store (o := 0) (vs := [.string ⟨#[]⟩, .int .i64 0, .int .i64 0, .int .i64 0, .int .i64 0, .bool false, .slice ae es.length ce, .bool false]) HO5.out hg5)
 rw [← HE.out] at HOf
 go_wp2_with (refine wpList_store_to rfl 47 _ _ rfl w.heap.size 0 #[.string ⟨#[]⟩, .int .i64 0, .int .i64 0, .int .i64 0, .int .i64 0, .bool false, .slice ae es.length ce, .bool false] (by first | rfl | (simp [go_sem]; done)) rfl HTA.out isz_Sac (by simp [Value.oneCell']) wf HE.out ?_)
 exact bodyPost_ret (results_cell_mid rfl _ _ w.heap.size [.string ⟨#[]⟩, .int .i64 0, .int .i64 0, .int .i64 0, .int .i64 0, .bool false, .slice ae es.length ce, .bool false] _ rfl HRf.out Tryz.underlying47 rfl isz_Sac) rfl (by rw [HEQ.out]; exact ⟨ae, ce, rfl, HOf.out, HBf.out⟩)

set_option maxHeartbeats 8000000 in
set_option maxRecDepth 100000 in
theorem sweep_any (x : Sbk) (a1 : Option Addr) (c1 : Nat) (b2 o2 c2 : Nat) (a3 : Option Addr) (c3 : Nat) (p m n lo q : Nat) (Wb : World) (v : Ssv) (lv : Int) (w : World) (hF : FndS x a1 c1 (some ⟨b2, o2, none⟩) c2 a3 c3 p m n lo Wb) (hv : SVal x) (hcap : x.copies.length ≤ c2) (hK : SgL x p q Wb v lv w) (hN : SvNum v) (hlv : 0 ≤ lv ∧ lv ≤ 200) :
  Calls Tryz.prog 89 #[.pointer (some ⟨q, 0, none⟩)] w fun e w' => ActP (swP x v (cntL x.copies v.name v.image)) w e w' := by
 have hb1 : Below w.heap.size w (w.alloc (Obj.cells #[.string ⟨#[]⟩, .int .i64 0, .int .i64 0, .int .i64 0, .int .i64 0, .bool false, .slice none 0 0, .bool false] 47)) := by go_grown
 have HA1 : Hid (Blk w.heap.size #[.string ⟨#[]⟩, .int .i64 0, .int .i64 0, .int .i64 0, .int .i64 0, .bool false, .slice none 0 0, .bool false] 47 (w.alloc (Obj.cells #[.string ⟨#[]⟩, .int .i64 0, .int .i64 0, .int .i64 0, .int .i64 0, .bool false, .slice none 0 0, .bool false] 47))) := Blk.alloc _ _ _
 have hbd := cnt_small hv v
 have HF := Hid.intro hF
 have HV := Hid.intro hv
 have HCAP := Hid.intro hcap
 obtain ⟨T, HT⟩ : ∃ T, Hid (cntL x.copies v.name v.image = T) := ⟨_, rfl⟩
 obtain ⟨R, HR⟩ : ∃ R, Hid (rlV x v = R) := ⟨_, rfl⟩
 have HTK : Hid (∀ W, SgT p q Wb v T R lv W → SgL x p q Wb v lv W) := fun W h => by rw [← HT.out, ← HR.out] at h; exact h
 have hK2 : SgT p q Wb v T R lv w := by rw [← HT.out, ← HR.out]; exact hK
 have HK1 := Hid.intro (hK2.below hb1)
 have HSW : Hid (Wb.heap.size ≤ w.heap.size ∧ q < w.heap.size) := ⟨hK.1.size, hK.2.lt⟩
 rw [HT.out] at hbd
 rw [HT.out]
 obtain ⟨b1, b2', b3, b4, b5, b6, b7, b8, b9, b10⟩ := hbd
 have HBD : Hid (0 ≤ T.live ∧ T.live ≤ 200 ∧ 0 ≤ T.old ∧ T.old ≤ 200 ∧ 0 ≤ v.want ∧ v.want ≤ 10 ∧ 0 ≤ v.over ∧ v.over ≤ 10 ∧ 0 ≤ lv ∧ lv ≤ 200) := ⟨b1, by omega, b5, by omega, hN.want.1, hN.want.2, hN.over.1, hN.over.2, hlv.1, hlv.2⟩
 have HN := Hid.intro hN
 have HLV := Hid.intro hlv
 clear hF hv hcap hK hK2 hN hlv b1 b2' b3 b4 b5 b6 b7 b8 b9 b10
 go_enter Tryz.func89, Tryz.ntmps89
 go_upto_region 1 with fail
 generalize w.alloc (Obj.cells #[.string ⟨#[]⟩, .int .i64 0, .int .i64 0, .int .i64 0, .int .i64 0, .bool false, .slice none 0 0, .bool false] 47) = w1 at *
 have kg : w1.cell? ⟨q, 2, none⟩ = some (.bool v.gone) := HK1.out.2.cell rfl
 cases hg : v.gone with
 | false =>
  have HEQ : Hid (swP x v T = nA) := if_neg (by rw [hg]; exact Bool.false_ne_true)
  rw [hg] at kg
  clear hg
  have HTA := Hid.intro HA1.out.there
  obtain ⟨wf, HE⟩ : ∃ wf, Hid (wf = w1.setCells w.heap.size 0 [.string ⟨#[]⟩, .int .i64 0, .int .i64 0, .int .i64 0, .int .i64 0, .bool false, .slice none 0 0, .bool false]) := ⟨_, rfl⟩
  have HRf : Hid (wf.rangeAt w.heap.size 0 [.string ⟨#[]⟩, .int .i64 0, .int .i64 0, .int .i64 0, .int .i64 0, .bool false, .slice none 0 0, .bool false]) := by
   show World.rangeAt _ _ _ _
   rw [HE.out]
   exact World.rangeAt_setCells_same _ _ _ _ HTA.out
  have HBf : Hid (Below w.heap.size w wf) := by
   show Below _ _ _
   rw [HE.out]
   exact below_setCells (Nat.le_refl _) _ _ _ hb1
  go_wp2_with (refine wpList_store_to rfl 47 _ _ rfl w.heap.size 0 #[.string ⟨#[]⟩, .int .i64 0, .int .i64 0, .int .i64 0, .int .i64 0, .bool false, .slice none 0 0, .bool false] (by first | rfl | (simp [go_sem]; done)) rfl HTA.out isz_Sac (by simp [Value.oneCell']) wf HE.out ?_)
  exact bodyPost_ret (results_cell_mid rfl _ _ w.heap.size [.string ⟨#[]⟩, .int .i64 0, .int .i64 0, .int .i64 0, .int .i64 0, .bool false, .slice none 0 0, .bool false] _ rfl HRf.out Tryz.underlying47 rfl isz_Sac) rfl (by rw [HEQ.out]; exact ⟨none, 0, rfl, World.ownsRow_nil _ _ _ _, HBf.out⟩)
 | true =>
  have HEQ : Hid (swP x v T = ⟨⟨#[]⟩, 0, 0, 0, 0, false, (lvF x v.name (fun _ => true)).map enC, (T.live == 0) && (T.ending == 0)⟩) := if_pos hg
  rw [hg] at kg
  clear hg
  go_upto_region 3 with fail
  clear kg
  have hW1 : Wb.heap.size ≤ w.heap.size ∧ q < w.heap.size := by
   obtain ⟨h8, h9⟩ := HSW.out
   exact ⟨h8, h9⟩
  refine wp_region_held_drew (S := fun wy => SgT p q Wb v T R lv wy) (by kernel_rfl) (HK1.out.below (Below.refl _ _).drew) (fun hS => ?_)
  have hb1 := hb1.drew
  have HA1 := Hid.intro HA1.out.drew
  clear HK1
  generalize w1.drew = w2 at *
  by_cases c1 : T.live = 0
  ·by_cases c2 : T.ending = 0
   ·skip
    have HC1 : Hid ((T.live == 0) = true) := by show _ = _; simpa using c1
    have HC2 : Hid ((T.ending == 0) = true) := by show _ = _; simpa using c2
    rw [HC1.out, HC2.out, Bool.and_self] at HEQ
    clear c1 c2
    refine tz 0 10 (.pointer (some ⟨q, 0, none⟩)) rfl hS ?_
    simp only [pA,pB,pC,pD]
    refine tz 2 12 (.pointer (some ⟨q, 0, none⟩)) rfl hS ?_
    simp only [pA,pB,pC,pD]
    refine tz 3 13 (.pointer (some ⟨q, 0, none⟩)) rfl hS ?_
    simp only [pA,pB,pC,pD]
    refine tz 4 14 (.pointer (some ⟨q, 13, none⟩)) rfl hS ?_
    simp only [pA,pB,pC,pD]
    refine tz 5 15 (.pointer (some ⟨q, 13, none⟩)) rfl hS ?_
    simp only [pA,pB,pC,pD]
    refine tl 6 16 (.int .i64 T.live) ⟨q, 13, none⟩ rfl (fun wy hy => hy.2.cell rfl) hS ?_
    simp only [pA,pB,pC,pD]
    refine ty 7 ⟨some 17, _, _, _, _, none⟩ (.bool true) rfl (by rfl) ?_ hS ?_
    ·intro wy hy
     have f0 := HC1.out
     have f1 := HC2.out
     clear hy
     (first | (go_simp; done) | (go_simp; omega) | (go_simp; simp [*]))
    simp only [pA,pB,pC,pD]
    refine rd1 1 ⟨some 11, _, _, _, _, none⟩ rfl (fun K hK => ?_)
    go_simp
    have HK1 := Hid.intro hS
    refine (endsF_any x a1 c1 b2 o2 c2 a3 c3 p m n lo q Wb v 119 #[] (fun _ => true) _ HF.out HV.out HCAP.out ⟨lv, HTK.out _ HK1.out⟩ (anyCopy_is x p q Wb v) (enters_of Tryz.func119 (by kernel_rfl) rfl)).mono ?_
    rintro e w5 ⟨ae, ce, rfl, ho5, hb5⟩
    have hb5' := hb1.trans (hb5.mono hb1.size)
    have HA5 := Hid.intro (HA1.out.below hb5 HA1.out.lt)
    have hg5 := HA1.out.lt
    have HO5 := Hid.intro ho5
    refine hK.out _ _ (hS.below hb5) (fun hS => ?_)
    clear hK K ho5 hb5 HA1 HK1
    generalize ((lvF x v.name (fun _ => true)).map enC) = es at *
    refine tz 8 18 (.bool true) rfl hS ?_
    simp only [pA,pB,pC,pD]
    refine tz 9 19 (.pointer (some ⟨q, 0, none⟩)) rfl hS ?_
    simp only [pA,pB,pC,pD]
    refine tz 10 20 (.pointer (some ⟨q, 0, none⟩)) rfl hS ?_
    simp only [pA,pB,pC,pD]
    refine tz 11 21 (.pointer (some ⟨q, 13, none⟩)) rfl hS ?_
    simp only [pA,pB,pC,pD]
    refine tz 12 22 (.pointer (some ⟨q, 17, none⟩)) rfl hS ?_
    simp only [pA,pB,pC,pD]
    refine tl 13 23 (.int .i64 T.ending) ⟨q, 17, none⟩ rfl (fun wy hy => hy.2.cell rfl) hS ?_
    simp only [pA,pB,pC,pD]
    refine ty 14 ⟨some 24, _, _, _, _, some (8, true)⟩ (.bool true) rfl (by rfl) ?_ hS ?_
    ·intro wy hy
     have f0 := HC1.out
     have f1 := HC2.out
     clear hy
     (first | (go_simp; done) | (go_simp; omega) | (go_simp; simp [*]))
    simp only [pA,pB,pC,pD]
    refine tz 15 25 (.bool true) rfl hS ?_
    simp only [pA,pB,pC,pD]
    refine tz 16 26 (.agg #[.string ⟨#[]⟩, .int .i64 0, .int .i64 0, .int .i64 0, .int .i64 0, .bool false, .slice ae es.length ce, .bool true]) rfl hS ?_
    simp only [pA,pB,pC,pD]
    refine rd1 17 ⟨none, _, _, _, _, none⟩ rfl (fun K hK => ?_)
    rw [if_pos (by rfl)]
    refine wp_store_mid 47 (.tmp 2) (.tmp 26) (by rfl) w.heap.size 0 #[.string ⟨#[]⟩, .int .i64 0, .int .i64 0, .int .i64 0, .int .i64 0, .bool false, .slice ae es.length ce, .bool true] (by rfl) (by rfl) HA5.out.there isz_Sac (by simp [Value.oneCell']) ?_
    have HRf : Hid ((w5.setCells w.heap.size 0 [.string ⟨#[]⟩, .int .i64 0, .int .i64 0, .int .i64 0, .int .i64 0, .bool false, .slice ae es.length ce, .bool true]).rangeAt w.heap.size 0 [.string ⟨#[]⟩, .int .i64 0, .int .i64 0, .int .i64 0, .int .i64 0, .bool false, .slice ae es.length ce, .bool true]) := World.rangeAt_setCells_same _ _ _ _ HA5.out.there
    have HBf : Hid (Below w.heap.size w (w5.setCells w.heap.size 0 [.string ⟨#[]⟩, .int .i64 0, .int .i64 0, .int .i64 0, .int .i64 0, .bool false, .slice ae es.length ce, .bool true])) := below_setCells (Nat.le_refl _) _ _ _ hb5'
    have HOf := Hid.intro (own_store (o := 0) (vs := [.string ⟨#[]⟩, .int .i64 0, .int .i64 0, .int .i64 0, .int .i64 0, .bool false, .slice ae es.length ce, .bool true]) HO5.out hg5)
    refine hK.out _ _ ⟨below_setCells hW1.1 _ _ _ hS.1, blk_setCells_other (by omega) _ _ _ hS.2⟩ (fun hS => ?_)
    clear hK K
    generalize w5.setCells w.heap.size 0 [.string ⟨#[]⟩, .int .i64 0, .int .i64 0, .int .i64 0, .int .i64 0, .bool false, .slice ae es.length ce, .bool true] = wf at *
    refine wpAnyH_done (by kernel_rfl) ?_ _
    clear hS
    go_wp2_with fail
    exact bodyPost_ret (results_cell_mid rfl _ _ w.heap.size [.string ⟨#[]⟩, .int .i64 0, .int .i64 0, .int .i64 0, .int .i64 0, .bool false, .slice ae es.length ce, .bool true] _ rfl HRf.out Tryz.underlying47 rfl isz_Sac) rfl (by rw [HEQ.out]; exact ⟨ae, ce, rfl, HOf.out, HBf.out⟩)
   ·skip
    have HC1 : Hid ((T.live == 0) = true) := by show _ = _; simpa using c1
    have HC2 : Hid ((T.ending == 0) = false) := by show _ = _; simpa using c2
    rw [HC1.out, HC2.out, Bool.and_false] at HEQ
    clear c1 c2
    refine tz 0 10 (.pointer (some ⟨q, 0, none⟩)) rfl hS ?_
    simp only [pA,pB,pC,pD]
    refine tz 2 12 (.pointer (some ⟨q, 0, none⟩)) rfl hS ?_
    simp only [pA,pB,pC,pD]
    refine tz 3 13 (.pointer (some ⟨q, 0, none⟩)) rfl hS ?_
    simp only [pA,pB,pC,pD]
    refine tz 4 14 (.pointer (some ⟨q, 13, none⟩)) rfl hS ?_
    simp only [pA,pB,pC,pD]
    refine tz 5 15 (.pointer (some ⟨q, 13, none⟩)) rfl hS ?_
    simp only [pA,pB,pC,pD]
    refine tl 6 16 (.int .i64 T.live) ⟨q, 13, none⟩ rfl (fun wy hy => hy.2.cell rfl) hS ?_
    simp only [pA,pB,pC,pD]
    refine ty 7 ⟨some 17, _, _, _, _, none⟩ (.bool true) rfl (by rfl) ?_ hS ?_
    ·intro wy hy
     have f0 := HC1.out
     have f1 := HC2.out
     clear hy
     (first | (go_simp; done) | (go_simp; omega) | (go_simp; simp [*]))
    simp only [pA,pB,pC,pD]
    refine rd1 1 ⟨some 11, _, _, _, _, none⟩ rfl (fun K hK => ?_)
    go_simp
    have HK1 := Hid.intro hS
    refine (endsF_any x a1 c1 b2 o2 c2 a3 c3 p m n lo q Wb v 119 #[] (fun _ => true) _ HF.out HV.out HCAP.out ⟨lv, HTK.out _ HK1.out⟩ (anyCopy_is x p q Wb v) (enters_of Tryz.func119 (by kernel_rfl) rfl)).mono ?_
    rintro e w5 ⟨ae, ce, rfl, ho5, hb5⟩
    have hb5' := hb1.trans (hb5.mono hb1.size)
    have HA5 := Hid.intro (HA1.out.below hb5 HA1.out.lt)
    have hg5 := HA1.out.lt
    have HO5 := Hid.intro ho5
    refine hK.out _ _ (hS.below hb5) (fun hS => ?_)
    clear hK K ho5 hb5 HA1 HK1
    generalize ((lvF x v.name (fun _ => true)).map enC) = es at *
    refine tz 8 18 (.bool true) rfl hS ?_
    simp only [pA,pB,pC,pD]
    refine tz 9 19 (.pointer (some ⟨q, 0, none⟩)) rfl hS ?_
    simp only [pA,pB,pC,pD]
    refine tz 10 20 (.pointer (some ⟨q, 0, none⟩)) rfl hS ?_
    simp only [pA,pB,pC,pD]
    refine tz 11 21 (.pointer (some ⟨q, 13, none⟩)) rfl hS ?_
    simp only [pA,pB,pC,pD]
    refine tz 12 22 (.pointer (some ⟨q, 17, none⟩)) rfl hS ?_
    simp only [pA,pB,pC,pD]
    refine tl 13 23 (.int .i64 T.ending) ⟨q, 17, none⟩ rfl (fun wy hy => hy.2.cell rfl) hS ?_
    simp only [pA,pB,pC,pD]
    refine ty 14 ⟨some 24, _, _, _, _, some (8, true)⟩ (.bool false) rfl (by rfl) ?_ hS ?_
    ·intro wy hy
     have f0 := HC1.out
     have f1 := HC2.out
     clear hy
     (first | (go_simp; done) | (go_simp; omega) | (go_simp; simp [*]))
    simp only [pA,pB,pC,pD]
    refine tz 15 25 (.bool false) rfl hS ?_
    simp only [pA,pB,pC,pD]
    refine tz 16 26 (.agg #[.string ⟨#[]⟩, .int .i64 0, .int .i64 0, .int .i64 0, .int .i64 0, .bool false, .slice ae es.length ce, .bool false]) rfl hS ?_
    simp only [pA,pB,pC,pD]
    refine rd1 17 ⟨none, _, _, _, _, none⟩ rfl (fun K hK => ?_)
    rw [if_pos (by rfl)]
    refine wp_store_mid 47 (.tmp 2) (.tmp 26) (by rfl) w.heap.size 0 #[.string ⟨#[]⟩, .int .i64 0, .int .i64 0, .int .i64 0, .int .i64 0, .bool false, .slice ae es.length ce, .bool false] (by rfl) (by rfl) HA5.out.there isz_Sac (by simp [Value.oneCell']) ?_
    have HRf : Hid ((w5.setCells w.heap.size 0 [.string ⟨#[]⟩, .int .i64 0, .int .i64 0, .int .i64 0, .int .i64 0, .bool false, .slice ae es.length ce, .bool false]).rangeAt w.heap.size 0 [.string ⟨#[]⟩, .int .i64 0, .int .i64 0, .int .i64 0, .int .i64 0, .bool false, .slice ae es.length ce, .bool false]) := World.rangeAt_setCells_same _ _ _ _ HA5.out.there
    have HBf : Hid (Below w.heap.size w (w5.setCells w.heap.size 0 [.string ⟨#[]⟩, .int .i64 0, .int .i64 0, .int .i64 0, .int .i64 0, .bool false, .slice ae es.length ce, .bool false])) := below_setCells (Nat.le_refl _) _ _ _ hb5'
    have HOf := Hid.intro (own_store (o := 0) (vs := [.string ⟨#[]⟩, .int .i64 0, .int .i64 0, .int .i64 0, .int .i64 0, .bool false, .slice ae es.length ce, .bool false]) HO5.out hg5)
    refine hK.out _ _ ⟨below_setCells hW1.1 _ _ _ hS.1, blk_setCells_other (by omega) _ _ _ hS.2⟩ (fun hS => ?_)
    clear hK K
    generalize w5.setCells w.heap.size 0 [.string ⟨#[]⟩, .int .i64 0, .int .i64 0, .int .i64 0, .int .i64 0, .bool false, .slice ae es.length ce, .bool false] = wf at *
    refine wpAnyH_done (by kernel_rfl) ?_ _
    clear hS
    go_wp2_with fail
    exact bodyPost_ret (results_cell_mid rfl _ _ w.heap.size [.string ⟨#[]⟩, .int .i64 0, .int .i64 0, .int .i64 0, .int .i64 0, .bool false, .slice ae es.length ce, .bool false] _ rfl HRf.out Tryz.underlying47 rfl isz_Sac) rfl (by rw [HEQ.out]; exact ⟨ae, ce, rfl, HOf.out, HBf.out⟩)
  ·skip
   have HC1 : Hid ((T.live == 0) = false) := by show _ = _; simpa using c1
   rw [HC1.out, Bool.false_and] at HEQ
   clear c1
   refine tz 0 10 (.pointer (some ⟨q, 0, none⟩)) rfl hS ?_
   simp only [pA,pB,pC,pD]
   refine tz 2 12 (.pointer (some ⟨q, 0, none⟩)) rfl hS ?_
   simp only [pA,pB,pC,pD]
   refine tz 3 13 (.pointer (some ⟨q, 0, none⟩)) rfl hS ?_
   simp only [pA,pB,pC,pD]
   refine tz 4 14 (.pointer (some ⟨q, 13, none⟩)) rfl hS ?_
   simp only [pA,pB,pC,pD]
   refine tz 5 15 (.pointer (some ⟨q, 13, none⟩)) rfl hS ?_
   simp only [pA,pB,pC,pD]
   refine tl 6 16 (.int .i64 T.live) ⟨q, 13, none⟩ rfl (fun wy hy => hy.2.cell rfl) hS ?_
   simp only [pA,pB,pC,pD]
   refine ty 7 ⟨some 17, _, _, _, _, none⟩ (.bool false) rfl (by rfl) ?_ hS ?_
   ·intro wy hy
    have f0 := HC1.out
    clear hy
    (first | (go_simp; done) | (go_simp; omega) | (go_simp; simp [*]))
   simp only [pA,pB,pC,pD]
   refine rd1 1 ⟨some 11, _, _, _, _, none⟩ rfl (fun K hK => ?_)
   go_simp
   have HK1 := Hid.intro hS
   refine (endsF_any x a1 c1 b2 o2 c2 a3 c3 p m n lo q Wb v 119 #[] (fun _ => true) _ HF.out HV.out HCAP.out ⟨lv, HTK.out _ HK1.out⟩ (anyCopy_is x p q Wb v) (enters_of Tryz.func119 (by kernel_rfl) rfl)).mono ?_
   rintro e w5 ⟨ae, ce, rfl, ho5, hb5⟩
   have hb5' := hb1.trans (hb5.mono hb1.size)
   have HA5 := Hid.intro (HA1.out.below hb5 HA1.out.lt)
   have hg5 := HA1.out.lt
   have HO5 := Hid.intro ho5
   refine hK.out _ _ (hS.below hb5) (fun hS => ?_)
   clear hK K ho5 hb5 HA1 HK1
   generalize ((lvF x v.name (fun _ => true)).map enC) = es at *
   refine tz 8 18 (.bool false) rfl hS ?_
   simp only [pA,pB,pC,pD]
   refine ts 9 19 rfl hS ?_
   simp only [pA,pB,pC,pD]
   refine ts 10 20 rfl hS ?_
   simp only [pA,pB,pC,pD]
   refine ts 11 21 rfl hS ?_
   simp only [pA,pB,pC,pD]
   refine ts 12 22 rfl hS ?_
   simp only [pA,pB,pC,pD]
   refine ts 13 23 rfl hS ?_
   simp only [pA,pB,pC,pD]
   refine ts 14 24 rfl hS ?_
   simp only [pA,pB,pC,pD]
   refine tz 15 25 (.bool false) rfl hS ?_
   simp only [pA,pB,pC,pD]
   refine tz 16 26 (.agg #[.string ⟨#[]⟩, .int .i64 0, .int .i64 0, .int .i64 0, .int .i64 0, .bool false, .slice ae es.length ce, .bool false]) rfl hS ?_
   simp only [pA,pB,pC,pD]
   refine rd1 17 ⟨none, _, _, _, _, none⟩ rfl (fun K hK => ?_)
   rw [if_pos (by rfl)]
   refine wp_store_mid 47 (.tmp 2) (.tmp 26) (by rfl) w.heap.size 0 #[.string ⟨#[]⟩, .int .i64 0, .int .i64 0, .int .i64 0, .int .i64 0, .bool false, .slice ae es.length ce, .bool false] (by rfl) (by rfl) HA5.out.there isz_Sac (by simp [Value.oneCell']) ?_
   have HRf : Hid ((w5.setCells w.heap.size 0 [.string ⟨#[]⟩, .int .i64 0, .int .i64 0, .int .i64 0, .int .i64 0, .bool false, .slice ae es.length ce, .bool false]).rangeAt w.heap.size 0 [.string ⟨#[]⟩, .int .i64 0, .int .i64 0, .int .i64 0, .int .i64 0, .bool false, .slice ae es.length ce, .bool false]) := World.rangeAt_setCells_same _ _ _ _ HA5.out.there
   have HBf : Hid (Below w.heap.size w (w5.setCells w.heap.size 0 [.string ⟨#[]⟩, .int .i64 0, .int .i64 0, .int .i64 0, .int .i64 0, .bool false, .slice ae es.length ce, .bool false])) := below_setCells (Nat.le_refl _) _ _ _ hb5'
   have HOf := Hid.intro (own_store (o := 0) (vs := [.string ⟨#[]⟩, .int .i64 0, .int .i64 0, .int .i64 0, .int .i64 0, .bool false, .slice ae es.length ce, .bool false]) HO5.out hg5)
   refine hK.out _ _ ⟨below_setCells hW1.1 _ _ _ hS.1, blk_setCells_other (by omega) _ _ _ hS.2⟩ (fun hS => ?_)
   clear hK K
   generalize w5.setCells w.heap.size 0 [.string ⟨#[]⟩, .int .i64 0, .int .i64 0, .int .i64 0, .int .i64 0, .bool false, .slice ae es.length ce, .bool false] = wf at *
   refine wpAnyH_done (by kernel_rfl) ?_ _
   clear hS
   go_wp2_with fail
   exact bodyPost_ret (results_cell_mid rfl _ _ w.heap.size [.string ⟨#[]⟩, .int .i64 0, .int .i64 0, .int .i64 0, .int .i64 0, .bool false, .slice ae es.length ce, .bool false] _ rfl HRf.out Tryz.underlying47 rfl isz_Sac) rfl (by rw [HEQ.out]; exact ⟨ae, ce, rfl, HOf.out, HBf.out⟩)

end Go.Proofs.YtnggdpjfmpjlhaaGreat
