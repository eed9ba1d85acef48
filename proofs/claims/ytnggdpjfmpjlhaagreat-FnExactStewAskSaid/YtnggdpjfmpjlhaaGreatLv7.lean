import Derived.Test.YtnggdpjfmpjlhaaGreatTkw
import Derived.Test.YtnggdpjfmpjlhaaGreatJ39
import Derived.Test.YtnggdpjfmpjlhaaGreatLv6
namespace Go.Proofs.YtnggdpjfmpjlhaaGreat
open Go.RowKit

def ActP (a : Sac) (w : World) (e : Ending) (w' : World) : Prop := ∃ (ae : Option Addr) (ce : Nat), e = .returned (.agg #[.string a.service, .int .i64 a.seen, .int .i64 a.create, .int .i64 a.want, .int .i64 a.cool, .bool a.scale, .slice ae a.ends.length ce, .bool a.drop]) ∧ w'.ownsRow w.heap.size 125 2 (.slice ae a.ends.length ce) a.ends.length (enV a.ends) ∧ Below w.heap.size w w'

def nA : Sac := ⟨⟨#[]⟩, 0, 0, 0, 0, false, [], false⟩
def eA (l : List Sen) : Sac := ⟨⟨#[]⟩, 0, 0, 0, 0, false, l, false⟩

def letB (x : Sbk) (v : Ssv) (c : Scp) : Bool := v.gone || krB c (cntL x.copies v.name v.image).ready (v.want - v.down)
def firC (x : Sbk) (v : Ssv) (l : List Scp) : List Sen := if (!l.isEmpty && letB x v (bestC x v.image l)) = true then [enC (bestC x v.image l)] else []

theorem own_mono {w : World} {b b' : Nat} {e : TypeId} {s : Nat} {u : Value} {k : Nat} {xs : List Value} (h : w.ownsRow b e s u k xs) (hb : b' ≤ b) : w.ownsRow b' e s u k xs :=
 ⟨h.1, h.2.imp id (fun ⟨g, c, cur, h1, h2, r⟩ => ⟨g, c, cur, h1, Nat.le_trans hb h2, r⟩)⟩
theorem ActP.mono {a : Sac} {w w0 : World} {e : Ending} {w' : World} (h : ActP a w e w') (hb : Below w0.heap.size w0 w) : ActP a w0 e w' := by
 obtain ⟨ae, ce, h1, h2, h3⟩ := h
 exact ⟨ae, ce, h1, own_mono h2 hb.size, hb.trans (h3.mono hb.size)⟩

set_option maxHeartbeats 8000000 in
set_option maxRecDepth 100000 in
theorem endFirst_any (x : Sbk) (a1 : Option Addr) (c1 : Nat) (b2 o2 c2 : Nat) (a3 : Option Addr) (c3 : Nat) (p m n lo q : Nat) (Wb : World) (v : Ssv) (f : Nat) (bd : Array Value) (qf : Scp → Bool) (w : World) (hF : FndS x a1 c1 (some ⟨b2, o2, none⟩) c2 a3 c3 p m n lo Wb) (hv : SVal x) (hcap : x.copies.length ≤ c2) (hK : SgK x p q Wb v w) (hsay : IsF x p q Wb v f bd qf) (heg : ∀ args w, (callFunc f args).run Tryz.prog w = .ok (.enter f args) w) :
  Calls Tryz.prog 118 #[.pointer (some ⟨q, 0, none⟩), .func (.func f) bd #[]] w fun e w' => ActP (eA (firC x v (lvF x v.name qf))) w e w' := by
 have hb1 : Below w.heap.size w (w.alloc (Obj.cells #[.string ⟨#[]⟩, .int .i64 0, .int .i64 0, .int .i64 0, .int .i64 0, .bool false, .slice none 0 0, .bool false] 47)) := by go_grown
 have HA1 : Hid (Blk w.heap.size #[.string ⟨#[]⟩, .int .i64 0, .int .i64 0, .int .i64 0, .int .i64 0, .bool false, .slice none 0 0, .bool false] 47 (w.alloc (Obj.cells #[.string ⟨#[]⟩, .int .i64 0, .int .i64 0, .int .i64 0, .int .i64 0, .bool false, .slice none 0 0, .bool false] 47))) := Blk.alloc _ _ _
 have HK1 := Hid.intro (hK.below hb1)
 have HF := Hid.intro hF
 have HV := Hid.intro hv
 have HCAP := Hid.intro hcap
 have HSAY := Hid.intro hsay
 have hR := cntL_ready x.copies v.name v.image
 have hl2 := hv.l2
 clear hF hv hcap hsay hK
 go_enter Tryz.func118, Tryz.ntmps118
 go_upto_region 1 with fail
 generalize w.alloc (Obj.cells #[.string ⟨#[]⟩, .int .i64 0, .int .i64 0, .int .i64 0, .int .i64 0, .bool false, .slice none 0 0, .bool false] 47) = w1 at *
 go_wp2_with fail
 refine (live_any q (.func (.func f) bd #[]) _ rfl).mono ?_
 rintro e w7 ⟨rfl, hw7⟩
 have hb7 : Below w1.heap.size w1 w7 := by rw [hw7]; exact ((Below.refl _ w1).alloc (Nat.le_refl _) _).alloc (by simp) _
 have HQ7 : Hid (Blk w1.heap.size #[.pointer (some ⟨q, 0, none⟩)] 62 w7) := by
  show Blk _ _ _ _
  rw [hw7]
  exact (Blk.alloc w1 _ _).below ((Below.refl _ _).alloc (Nat.le_refl _) _) (Blk.alloc w1 _ _).lt
 have HI7 : Hid (Blk (w1.heap.size + 1) #[.func (.func f) bd #[]] 115 w7) := by
  rw [hw7]
  have h := Blk.alloc (w1.alloc (Obj.cells #[.pointer (some ⟨q, 0, none⟩)] 62)) #[.func (.func f) bd #[]] 115
  show Blk _ _ _ _
  simpa using h
 have HK7 := Hid.intro (HK1.out.below hb7)
 have HA7 := Hid.intro (HA1.out.below hb7 HA1.out.lt)
 have hB7 : Below w.heap.size w w7 := hb1.trans (hb7.mono hb1.size)
 clear hw7 hb7 hb1 HK1 HA1
 generalize w1.heap.size + 1 = Bi at *
 generalize w1.heap.size = Bq at *
 go_wp2_with fail
 refine (best_any x a1 c1 b2 o2 c2 a3 c3 p m n lo q Wb v Bq Bi f bd qf _ HF.out HV.out HCAP.out HK7.out HQ7.out HI7.out HSAY.out heg).mono ?_
 rintro e w8 ⟨rfl, hb8⟩
 have HK8 := Hid.intro (HK7.out.below hb8)
 have HA8 := Hid.intro (HA7.out.below hb8 HA7.out.lt)
 have hB8 : Below w.heap.size w w8 := hB7.trans (hb8.mono hB7.size)
 clear hb8 hB7 HK7 HA7 HQ7 HI7
 generalize hL : lvF x v.name qf = L at *
 have HL := Hid.intro hL
 have HFI : Hid (firC x v L = if (!L.isEmpty && letB x v (bestC x v.image L)) = true then [enC (bestC x v.image L)] else []) := rfl
 generalize hbb : bestC x v.image L = b at *
 generalize hee : (!L.isEmpty) = E at *
 clear hL hbb hee
 have hza : Blk w8.heap.size #[.string ⟨#[]⟩, .int .i64 0, .int .i64 0, .int .i64 0, .int .i64 0, .bool false, .string ⟨#[]⟩] 87 (w8.alloc (Obj.cells #[.string ⟨#[]⟩, .int .i64 0, .int .i64 0, .int .i64 0, .int .i64 0, .bool false, .string ⟨#[]⟩] 87)) := Blk.alloc _ _ _
 have HTS : Hid ((w8.alloc (Obj.cells #[.string ⟨#[]⟩, .int .i64 0, .int .i64 0, .int .i64 0, .int .i64 0, .bool false, .string ⟨#[]⟩] 87)).there w8.heap.size 0 7) := hza.there
 obtain ⟨w9, HW9⟩ : ∃ w9, Hid (w9 = (w8.alloc (Obj.cells #[.string ⟨#[]⟩, .int .i64 0, .int .i64 0, .int .i64 0, .int .i64 0, .bool false, .string ⟨#[]⟩] 87)).setCells w8.heap.size 0 [.string b.service, .int .i64 b.number, .int .i64 b.version, .int .i64 b.image, .int .i64 b.state, .bool b.ending, .string b.berth]) := ⟨_, rfl⟩
 have HX9 : Hid (Blk w8.heap.size #[.string b.service, .int .i64 b.number, .int .i64 b.version, .int .i64 b.image, .int .i64 b.state, .bool b.ending, .string b.berth] 87 w9) := by
  show Blk _ _ _ _
  rw [HW9.out]
  exact hza.setAll #[.string b.service, .int .i64 b.number, .int .i64 b.version, .int .i64 b.image, .int .i64 b.state, .bool b.ending, .string b.berth] rfl
 have hb9 : Below w8.heap.size w8 w9 := by
  rw [HW9.out]
  exact below_setCells (Nat.le_refl _) _ _ _ ((Below.refl _ w8).alloc (Nat.le_refl _) _)
 have HK9 := Hid.intro (HK8.out.below hb9)
 have HA9 := Hid.intro (HA8.out.below hb9 HA8.out.lt)
 have hB9 : Below w.heap.size w w9 := hB8.trans (hb9.mono hB8.size)
 have hg9 : w.heap.size < w8.heap.size := HA8.out.lt
 clear hza hb9 hB8 HK8 HA8
 unfold bcA
 go_upto_region 2 with (refine wpList_store_to rfl 87 _ _ rfl w8.heap.size 0 #[.string b.service, .int .i64 b.number, .int .i64 b.version, .int .i64 b.image, .int .i64 b.state, .bool b.ending, .string b.berth] (by first | rfl | (simp [go_sem]; done)) rfl HTS.out isz_Scp (by simp [Value.oneCell']) w9 HW9.out ?_)
 clear HTS HW9
 generalize w8.heap.size = gF at *
 clear w8
 refine wp_region_held_drew (S := fun wy => SgK x p q Wb v wy ∧ Blk w.heap.size #[.string ⟨#[]⟩, .int .i64 0, .int .i64 0, .int .i64 0, .int .i64 0, .bool false, .slice none 0 0, .bool false] 47 wy ∧ Blk gF #[.string b.service, .int .i64 b.number, .int .i64 b.version, .int .i64 b.image, .int .i64 b.state, .bool b.ending, .string b.berth] 87 wy) (by kernel_rfl) ⟨HK9.out.below (Below.refl _ _).drew, HA9.out.drew, HX9.out.drew⟩ (fun hS => ?_)
 have hB2 := hB9.drew
 clear HK9 HA9 HX9 hB9
 generalize w9.drew = w2 at *
 cases E with
 | false =>
  rw [Bool.false_and, if_neg Bool.false_ne_true] at HFI
  refine tz 0 16 (.bool false) rfl hS ?_
  simp only [pA,pB,pC,pD]
  refine tz 1 17 (.bool true) rfl hS ?_
  simp only [pA,pB,pC,pD]
  refine tz 2 18 (.bool true) rfl hS ?_
  simp only [pA,pB,pC,pD]
  refine ts 3 19 rfl hS ?_
  simp only [pA,pB,pC,pD]
  refine ts 4 20 rfl hS ?_
  simp only [pA,pB,pC,pD]
  refine ts 5 21 rfl hS ?_
  simp only [pA,pB,pC,pD]
  refine ts 6 22 rfl hS ?_
  simp only [pA,pB,pC,pD]
  refine ts 7 23 rfl hS ?_
  simp only [pA,pB,pC,pD]
  refine ts 8 24 rfl hS ?_
  simp only [pA,pB,pC,pD]
  refine ts 9 25 rfl hS ?_
  simp only [pA,pB,pC,pD]
  refine tz 10 26 (.bool true) rfl hS ?_
  simp only [pA,pB,pC,pD]
  have HSS := Hid.intro hS
  refine wpAnyH_done (by kernel_rfl) ?_ _
  clear hS
  have hB3 := hB2
  generalize w2 = w3 at *
  have HTA := Hid.intro HSS.out.2.1.there
  obtain ⟨wf, HE⟩ : ∃ wf, Hid (wf = w3.setCells w.heap.size 0 [.string ⟨#[]⟩, .int .i64 0, .int .i64 0, .int .i64 0, .int .i64 0, .bool false, .slice none 0 0, .bool false]) := ⟨_, rfl⟩
  have HRf : Hid (wf.rangeAt w.heap.size 0 [.string ⟨#[]⟩, .int .i64 0, .int .i64 0, .int .i64 0, .int .i64 0, .bool false, .slice none 0 0, .bool false]) := by
   show World.rangeAt _ _ _ _
   rw [HE.out]
   exact World.rangeAt_setCells_same _ _ _ _ HTA.out
  have HBf : Hid (Below w.heap.size w wf) := by
   show Below _ _ _
   rw [HE.out]
   exact below_setCells (Nat.le_refl _) _ _ _ hB3
  go_wp2_with (refine wpList_store_to rfl 47 _ _ rfl w.heap.size 0 #[.string ⟨#[]⟩, .int .i64 0, .int .i64 0, .int .i64 0, .int .i64 0, .bool false, .slice none 0 0, .bool false] (by first | rfl | (simp [go_sem]; done)) rfl HTA.out isz_Sac (by simp [Value.oneCell']) wf HE.out ?_)
  exact bodyPost_ret (results_cell_mid rfl _ _ w.heap.size [.string ⟨#[]⟩, .int .i64 0, .int .i64 0, .int .i64 0, .int .i64 0, .bool false, .slice none 0 0, .bool false] _ rfl HRf.out Tryz.underlying47 rfl isz_Sac) rfl (by rw [HL.out, HFI.out]; exact ⟨none, 0, rfl, World.ownsRow_nil _ _ _ _, HBf.out⟩)
 | true =>
  rw [Bool.true_and] at HFI
  refine tz 0 16 (.bool true) rfl hS ?_
  simp only [pA,pB,pC,pD]
  refine tz 1 17 (.bool false) rfl hS ?_
  simp only [pA,pB,pC,pD]
  refine tz 2 18 (.bool false) rfl hS ?_
  simp only [pA,pB,pC,pD]
  refine tz 3 19 (.pointer (some ⟨q, 0, none⟩)) rfl hS ?_
  simp only [pA,pB,pC,pD]
  refine tz 4 20 (.pointer (some ⟨q, 0, none⟩)) rfl hS ?_
  simp only [pA,pB,pC,pD]
  refine tz 5 21 (.pointer (some ⟨q, 19, none⟩)) rfl hS ?_
  simp only [pA,pB,pC,pD]
  refine tl 6 22 (rlV x v) ⟨q, 19, none⟩ rfl (fun wy hy => by obtain ⟨lv, _, hb⟩ := hy.1; exact hb.cell rfl) hS ?_
  simp only [pA,pB,pC,pD]
  refine tm 7 23 gF 0 [.string b.service, .int .i64 b.number, .int .i64 b.version, .int .i64 b.image, .int .i64 b.state, .bool b.ending, .string b.berth] rfl (fun _ h => h.2.2.rangeA) Tryz.underlying87 isz_Scp hS ?_
  simp only [pA,pB,pC,pD]
  have hgo : v.gone = true ∨ v.gone = false := by cases v.gone <;> simp
  rcases hgo with hgo | hgo
  ·have HRL : Hid (rlV x v = .iface 140 (.agg #[])) := if_pos hgo
   have HLB : Hid (letB x v b = true) := by show _ = _; unfold letB; rw [hgo]; rfl
   clear hgo
   rw [HRL.out]
   refine rd1 8 ⟨some 24, _, _, _, _, some (2, false)⟩ rfl (fun K hK => ?_)
   refine step_methG (by rfl) (.tmp 22) _ #[.tmp 23] #[87] (by rfl) (.iface 140 (.agg #[])) (by first | rfl | exact HRL.out) #[.agg #[.string b.service, .int .i64 b.number, .int .i64 b.version, .int .i64 b.image, .int .i64 b.state, .bool b.ending, .string b.berth]] (map_oneX _ _) (f := 162) (bs' := #[.agg #[], .agg #[.string b.service, .int .i64 b.number, .int .i64 b.version, .int .i64 b.image, .int .i64 b.state, .bool b.ending, .string b.berth]]) (by kernel_rfl) (letAll_any b _) ?_
   rintro e w3 ⟨rfl, hbk⟩
   have hB3 : Below w.heap.size w w3 := hB2.trans (hbk.mono hB2.size)
   clear hB2
   refine ⟨_, rfl, ?_⟩
   refine hK.out _ _ ⟨hS.1.below hbk, hS.2.1.below hbk hS.2.1.lt, hS.2.2.below hbk hS.2.2.lt⟩ (fun hS => ?_)
   clear hK K hbk
   simp only [pA,pB,pC,pD]
   refine tz 9 25 (.bool false) rfl hS ?_
   simp only [pA,pB,pC,pD]
   refine tz 10 26 (.bool false) rfl hS ?_
   simp only [pA,pB,pC,pD]
   have HSS := Hid.intro hS
   refine wpAnyH_done (by kernel_rfl) ?_ _
   clear hS
   rw [HLB.out, if_pos rfl] at HFI
   have HX := Hid.intro HSS.out.2.2.rangeA
   have HA3 := Hid.intro HSS.out.2.1
   clear HSS
   go_wp2_with (first | (refine wpList_load_mid rfl 87 _ rfl gF 0 (by first | rfl | (simp [go_sem]; done)) [.string b.service, .int .i64 b.number, .int .i64 b.version, .int .i64 b.image, .int .i64 b.state, .bool b.ending, .string b.berth] _ HX.out Tryz.underlying87 rfl isz_Scp ?_))
   refine (endOf_any b _).mono ?_
   rintro e w4 ⟨rfl, hb4⟩
   have hB4 := hB3.trans (hb4.mono hB3.size)
   have HA4 := HA3.out.below hb4 HA3.out.lt
   clear hb4 hB3 HA3 HX
   have hbn : Below w4.heap.size w4 (w4.alloc (Obj.cells #[.int .i64 b.number, .int .i64 b.version] 125)) := (Below.refl _ _).alloc (Nat.le_refl _) _
   have HOW : Hid ((w4.alloc (Obj.cells #[.int .i64 b.number, .int .i64 b.version] 125)).ownsRow w.heap.size 125 2 (.slice (some ⟨w4.heap.size, 0, none⟩) 1 1) 1 (enV [enC b])) := ⟨by simp [enV], .inr ⟨w4.heap.size, 1, _, rfl, hB4.size, heap_alloc_new w4 _, Nat.le_refl _, by unfold maxLen; omega, rfl, rfl⟩⟩
   have HA5 := HA4.below hbn HA4.lt
   have HTA := Hid.intro HA5.there
   have hB5 := hB4.trans (hbn.mono hB4.size)
   have hg4 : w.heap.size ≠ w4.heap.size := by have := HA4.lt; omega
   obtain ⟨wf, HE⟩ : ∃ wf, Hid (wf = (w4.alloc (Obj.cells #[.int .i64 b.number, .int .i64 b.version] 125)).setCells w.heap.size 0 [.string ⟨#[]⟩, .int .i64 0, .int .i64 0, .int .i64 0, .int .i64 0, .bool false, .slice (some ⟨w4.heap.size, 0, none⟩) 1 1, .bool false]) := ⟨_, rfl⟩
   have HRf : Hid (wf.rangeAt w.heap.size 0 [.string ⟨#[]⟩, .int .i64 0, .int .i64 0, .int .i64 0, .int .i64 0, .bool false, .slice (some ⟨w4.heap.size, 0, none⟩) 1 1, .bool false]) := by
    show World.rangeAt _ _ _ _
    rw [HE.out]
    exact World.rangeAt_setCells_same _ _ _ _ HTA.out
   have HBf : Hid (Below w.heap.size w wf) := by
    show Below _ _ _
    rw [HE.out]
    exact below_setCells (Nat.le_refl _) _ _ _ hB5
   have HOf : Hid (wf.ownsRow w.heap.size 125 2 (.slice (some ⟨w4.heap.size, 0, none⟩) 1 1) 1 (enV [enC b])) := by
    show World.ownsRow _ _ _ _ _ _ _
    rw [HE.out]
    exact HOW.out.kept (grown_setCells _ _ _ _) (.inr (fun e => hg4 (by have h9 : some w4.heap.size = some w.heap.size := e; exact (Option.some.inj h9).symm)))
   clear HA4 HA5 hbn hB4 hB5 HOW
   go_wp2_with (refine wpList_store_to rfl 47 _ _ rfl w.heap.size 0 #[.string ⟨#[]⟩, .int .i64 0, .int .i64 0, .int .i64 0, .int .i64 0, .bool false, .slice (some ⟨w4.heap.size, 0, none⟩) 1 1, .bool false] (by first | rfl | (simp [go_sem]; done)) rfl HTA.out isz_Sac (by simp [Value.oneCell']) wf HE.out ?_)
   exact bodyPost_ret (results_cell_mid rfl _ _ w.heap.size [.string ⟨#[]⟩, .int .i64 0, .int .i64 0, .int .i64 0, .int .i64 0, .bool false, .slice (some ⟨w4.heap.size, 0, none⟩) 1 1, .bool false] _ rfl HRf.out Tryz.underlying47 rfl isz_Sac) rfl (by rw [HL.out, HFI.out]; exact ⟨_, 1, rfl, HOf.out, HBf.out⟩)
  ·have HRL : Hid (rlV x v = .iface 142 (.agg #[.int .i64 (cntL x.copies v.name v.image).ready, .int .i64 (v.want - v.down)])) := if_neg (by rw [hgo]; exact Bool.false_ne_true)
   have HLB : Hid (letB x v b = krB b (cntL x.copies v.name v.image).ready (v.want - v.down)) := by show _ = _; unfold letB; rw [hgo]; rfl
   clear hgo
   rw [HRL.out]
   generalize hKR : krB b (cntL x.copies v.name v.image).ready (v.want - v.down) = T at HLB
   have HKR := Hid.intro hKR
   clear hKR
   refine rd1 8 ⟨some 24, _, _, _, _, some (2, false)⟩ rfl (fun K hK => ?_)
   refine step_methG (by rfl) (.tmp 22) _ #[.tmp 23] #[87] (by rfl) (.iface 142 (.agg #[.int .i64 (cntL x.copies v.name v.image).ready, .int .i64 (v.want - v.down)])) (by first | rfl | exact HRL.out) #[.agg #[.string b.service, .int .i64 b.number, .int .i64 b.version, .int .i64 b.image, .int .i64 b.state, .bool b.ending, .string b.berth]] (map_oneX _ _) (f := 163) (bs' := #[.agg #[.int .i64 (cntL x.copies v.name v.image).ready, .int .i64 (v.want - v.down)], .agg #[.string b.service, .int .i64 b.number, .int .i64 b.version, .int .i64 b.image, .int .i64 b.state, .bool b.ending, .string b.berth]]) (by kernel_rfl) ((keepReady_any b (cntL x.copies v.name v.image).ready (v.want - v.down) _ ⟨hR.1, by omega⟩)) ?_
   rintro e w3 ⟨rfl, hbk⟩
   have hB3 : Below w.heap.size w w3 := hB2.trans (hbk.mono hB2.size)
   clear hB2
   refine ⟨_, rfl, ?_⟩
   refine hK.out _ _ ⟨hS.1.below hbk, hS.2.1.below hbk hS.2.1.lt, hS.2.2.below hbk hS.2.2.lt⟩ (fun hS => ?_)
   clear hK K hbk
   simp only [pA,pB,pC,pD]
   rw [HKR.out]
   refine tz 9 25 (.bool (!T)) rfl hS ?_
   simp only [pA,pB,pC,pD]
   refine tz 10 26 (.bool (!T)) rfl hS ?_
   simp only [pA,pB,pC,pD]
   have HSS := Hid.intro hS
   refine wpAnyH_done (by kernel_rfl) ?_ _
   clear hS
   cases T with
   | false =>
    rw [HLB.out, if_neg Bool.false_ne_true] at HFI
    have HTA := Hid.intro HSS.out.2.1.there
    obtain ⟨wf, HE⟩ : ∃ wf, Hid (wf = w3.setCells w.heap.size 0 [.string ⟨#[]⟩, .int .i64 0, .int .i64 0, .int .i64 0, .int .i64 0, .bool false, .slice none 0 0, .bool false]) := ⟨_, rfl⟩
    have HRf : Hid (wf.rangeAt w.heap.size 0 [.string ⟨#[]⟩, .int .i64 0, .int .i64 0, .int .i64 0, .int .i64 0, .bool false, .slice none 0 0, .bool false]) := by
     show World.rangeAt _ _ _ _
     rw [HE.out]
     exact World.rangeAt_setCells_same _ _ _ _ HTA.out
    have HBf : Hid (Below w.heap.size w wf) := by
     show Below _ _ _
     rw [HE.out]
     exact below_setCells (Nat.le_refl _) _ _ _ hB3
    go_wp2_with (refine wpList_store_to rfl 47 _ _ rfl w.heap.size 0 #[.string ⟨#[]⟩, .int .i64 0, .int .i64 0, .int .i64 0, .int .i64 0, .bool false, .slice none 0 0, .bool false] (by first | rfl | (simp [go_sem]; done)) rfl HTA.out isz_Sac (by simp [Value.oneCell']) wf HE.out ?_)
    exact bodyPost_ret (results_cell_mid rfl _ _ w.heap.size [.string ⟨#[]⟩, .int .i64 0, .int .i64 0, .int .i64 0, .int .i64 0, .bool false, .slice none 0 0, .bool false] _ rfl HRf.out Tryz.underlying47 rfl isz_Sac) rfl (by rw [HL.out, HFI.out]; exact ⟨none, 0, rfl, World.ownsRow_nil _ _ _ _, HBf.out⟩)
   | true =>
    rw [HLB.out, if_pos rfl] at HFI
    have HX := Hid.intro HSS.out.2.2.rangeA
    have HA3 := Hid.intro HSS.out.2.1
    clear HSS
    go_wp2_with (first | (refine wpList_load_mid rfl 87 _ rfl gF 0 (by first | rfl | (simp [go_sem]; done)) [.string b.service, .int .i64 b.number, .int .i64 b.version, .int .i64 b.image, .int .i64 b.state, .bool b.ending, .string b.berth] _ HX.out Tryz.underlying87 rfl isz_Scp ?_))
    refine (endOf_any b _).mono ?_
    rintro e w4 ⟨rfl, hb4⟩
    have hB4 := hB3.trans (hb4.mono hB3.size)
    have HA4 := HA3.out.below hb4 HA3.out.lt
    clear hb4 hB3 HA3 HX
    have hbn : Below w4.heap.size w4 (w4.alloc (Obj.cells #[.int .i64 b.number, .int .i64 b.version] 125)) := (Below.refl _ _).alloc (Nat.le_refl _) _
    have HOW : Hid ((w4.alloc (Obj.cells #[.int .i64 b.number, .int .i64 b.version] 125)).ownsRow w.heap.size 125 2 (.slice (some ⟨w4.heap.size, 0, none⟩) 1 1) 1 (enV [enC b])) := ⟨by simp [enV], .inr ⟨w4.heap.size, 1, _, rfl, hB4.size, heap_alloc_new w4 _, Nat.le_refl _, by unfold maxLen; omega, rfl, rfl⟩⟩
    have HA5 := HA4.below hbn HA4.lt
    have HTA := Hid.intro HA5.there
    have hB5 := hB4.trans (hbn.mono hB4.size)
    have hg4 : w.heap.size ≠ w4.heap.size := by have := HA4.lt; omega
    obtain ⟨wf, HE⟩ : ∃ wf, Hid (wf = (w4.alloc (Obj.cells #[.int .i64 b.number, .int .i64 b.version] 125)).setCells w.heap.size 0 [.string ⟨#[]⟩, .int .i64 0, .int .i64 0, .int .i64 0, .int .i64 0, .bool false, .slice (some ⟨w4.heap.size, 0, none⟩) 1 1, .bool false]) := ⟨_, rfl⟩
    have HRf : Hid (wf.rangeAt w.heap.size 0 [.string ⟨#[]⟩, .int .i64 0, .int .i64 0, .int .i64 0, .int .i64 0, .bool false, .slice (some ⟨w4.heap.size, 0, none⟩) 1 1, .bool false]) := by
     show World.rangeAt _ _ _ _
     rw [HE.out]
     exact World.rangeAt_setCells_same _ _ _ _ HTA.out
    have HBf : Hid (Below w.heap.size w wf) := by
     show Below _ _ _
     rw [HE.out]
     exact below_setCells (Nat.le_refl _) _ _ _ hB5
    have HOf : Hid (wf.ownsRow w.heap.size 125 2 (.slice (some ⟨w4.heap.size, 0, none⟩) 1 1) 1 (enV [enC b])) := by
     show World.ownsRow _ _ _ _ _ _ _
     rw [HE.out]
     exact HOW.out.kept (grown_setCells _ _ _ _) (.inr (fun e => hg4 (by have h9 : some w4.heap.size = some w.heap.size := e; exact (Option.some.inj h9).symm)))
    clear HA4 HA5 hbn hB4 hB5 HOW
    go_wp2_with (refine wpList_store_to rfl 47 _ _ rfl w.heap.size 0 #[.string ⟨#[]⟩, .int .i64 0, .int .i64 0, .int .i64 0, .int .i64 0, .bool false, .slice (some ⟨w4.heap.size, 0, none⟩) 1 1, .bool false] (by first | rfl | (simp [go_sem]; done)) rfl HTA.out isz_Sac (by simp [Value.oneCell']) wf HE.out ?_)
    exact bodyPost_ret (results_cell_mid rfl _ _ w.heap.size [.string ⟨#[]⟩, .int .i64 0, .int .i64 0, .int .i64 0, .int .i64 0, .bool false, .slice (some ⟨w4.heap.size, 0, none⟩) 1 1, .bool false] _ rfl HRf.out Tryz.underlying47 rfl isz_Sac) rfl (by rw [HL.out, HFI.out]; exact ⟨_, 1, rfl, HOf.out, HBf.out⟩)

end Go.Proofs.YtnggdpjfmpjlhaaGreat
