import Derived.Test.YtnggdpjfmpjlhaaGreatTkw
import Derived.Test.YtnggdpjfmpjlhaaGreatLv0
import Derived.Test.YtnggdpjfmpjlhaaGreatJ34
import Derived.Test.YtnggdpjfmpjlhaaGreatLv2
namespace Go.Proofs.YtnggdpjfmpjlhaaGreat
open Go.RowKit
attribute [local go_sem] Oper.semAt_some

def lvF (x : Sbk) (s : ByteArray) (f : Scp → Bool) : List Scp := (x.copies.filter (fun c => decide (c.service = s))).filter (fun c => !c.ending && f c)
def lvB2 (f : Scp → Bool) (c : Scp) : Bool := !c.ending && f c

theorem wp_normal' {P : Program} {c : Code} {Q : Exit → Act → World → Prop} {a : Act} {w : World} (h : c.wp P (fun e a' w' => e = Exit.normal ∧ Q Exit.normal a' w') a w) : c.wp P Q a w :=
 Code.wp_mono (by rintro e a w ⟨rfl, h⟩; exact h) h

set_option maxHeartbeats 1000000 in
theorem live_any (q : Nat) (fv : Value) (w : World) (hf : fv.oneCell' = true) :
  Calls Tryz.prog 60 #[.pointer (some ⟨q, 0, none⟩), fv] w fun e w' => e = .returned (.func (.func 83) #[] #[.pointer (some ⟨w.heap.size, 0, none⟩), .pointer (some ⟨w.heap.size + 1, 0, none⟩)]) ∧ w' = (w.alloc (Obj.cells #[.pointer (some ⟨q, 0, none⟩)] 62)).alloc (Obj.cells #[fv] 115) := by
 go_enter Tryz.func60, Tryz.ntmps60
 go_wp2_with fail
 go_ret
 exact ⟨rfl, rfl⟩

def IsF (x : Sbk) (p q : Nat) (Wb : World) (v : Ssv) (f : Nat) (bd : Array Value) (qf : Scp → Bool) : Prop := ∀ c ∈ x.copies, ∀ W, SgK x p q Wb v W → Calls Tryz.prog f (bd.push (.agg #[.string c.service, .int .i64 c.number, .int .i64 c.version, .int .i64 c.image, .int .i64 c.state, .bool c.ending, .string c.berth])) W fun e W' => e = .returned (.bool (qf c)) ∧ Below W.heap.size W W'

set_option maxHeartbeats 8000000 in
set_option maxRecDepth 100000 in
theorem live_all (x : Sbk) (a1 : Option Addr) (c1 : Nat) (b2 o2 c2 : Nat) (a3 : Option Addr) (c3 : Nat) (p m n lo q : Nat) (Wb : World) (v : Ssv) (Bq Bi f : Nat) (bd : Array Value) (qf : Scp → Bool) (G : Nat → Prop) (n₀ : Nat) (w : World)
  (hF : FndS x a1 c1 (some ⟨b2, o2, none⟩) c2 a3 c3 p m n lo Wb) (hv : SVal x) (hcap : x.copies.length ≤ c2) (hq : Blk Bq #[.pointer (some ⟨q, 0, none⟩)] 62 w) (hi : Blk Bi #[.func (.func f) bd #[]] 115 w) (hB : Below Wb.heap.size Wb w)
  (hn : Wb.heap.size ≤ n₀) (hG : ∀ k, G k → Wb.heap.size ≤ k) (hsay : IsF x p q Wb v f bd qf) (heg : ∀ args w, (callFunc f args).run Tryz.prog w = .ok (.enter f args) w) :
  SeqAll Tryz.prog 83 #[.pointer (some ⟨Bq, 0, none⟩), .pointer (some ⟨Bi, 0, none⟩)] (fun c : CpX x => cpEnc c.1) G n₀ (SgK x p q Wb v) 200 (fun xs => xs.map (·.1) = lvF x v.name qf) w := by
 intro l J W hbW hn2 hJ hJK hY h0
 have l2 := hv.l2
 have hpb : p < Wb.heap.size := hF.blk.lt
 have HF := Hid.intro hF
 have HV := Hid.intro hv
 have HCAP := Hid.intro hcap
 have HSAY := Hid.intro hsay
 have HJ := Hid.intro hJ
 have HJK := Hid.intro hJK
 have HY := Hid.intro hY
 have hGp : ¬ G p := fun h => by have := hG p h; omega
 have HG := Hid.intro hG
 have HBW : Hid (Below Wb.heap.size Wb W) := hB.trans (hbW.mono hB.size)
 have HQW : Hid (Blk Bq #[.pointer (some ⟨q, 0, none⟩)] 62 W) := hq.below hbW hq.lt
 have HIW : Hid (Blk Bi #[.func (.func f) bd #[]] 115 W) := hi.below hbW hi.lt
 have HKW : Hid (SgK x p q Wb v W) := hJK _ _ h0
 have H0 := Hid.intro h0
 have hn3 : n₀ ≤ W.heap.size := by omega
 clear hF hv hcap hsay hJ hJK hY hG hB hq hi h0 hbW
 have hb1 : Below W.heap.size W (W.alloc (Obj.cells #[.func (.yield l) #[] #[]] 115)) := by go_grown
 have HY1 : Hid (Blk W.heap.size #[.func (.yield l) #[] #[]] 115 (W.alloc (Obj.cells #[.func (.yield l) #[] #[]] 115))) := Blk.alloc _ _ _
 show Calls Tryz.prog 83 #[.func (.yield l) #[] #[], .pointer (some ⟨Bq, 0, none⟩), .pointer (some ⟨Bi, 0, none⟩)] W _
 refine (callsIn_wide (n := 7)).1 ?_
 refine callsIn_of_wp_marks Tryz.func83 rfl trivial ?_ rfl
 refine wpIn_wide.2 ?_
 simp only [Tryz.ntmps83, List.size_toArray, List.length_cons, List.length_nil, Nat.reduceAdd, Nat.reduceSub, Array.replicate_succ, Array.replicate_zero, List.push_toArray, List.append_toArray, List.nil_append, List.cons_append]
 go_upto_region 1 with fail
 generalize W.alloc (Obj.cells #[.func (.yield l) #[] #[]] 115) = w1 at *
 refine wp_normal' ?_
 refine wp_region_held_drew (S := fun wy => SgK x p q Wb v wy ∧ Blk Bq #[.pointer (some ⟨q, 0, none⟩)] 62 wy) (by kernel_rfl) ⟨(HKW.out.below hb1).below (Below.refl _ _).drew, (HQW.out.below hb1 HQW.out.lt).drew⟩ (fun hS => ?_)
 have hb2 : Below W.heap.size W w1.drew := hb1.drew
 have HY2 : Hid (Blk W.heap.size #[.func (.yield l) #[] #[]] 115 w1.drew) := HY1.out.drew
 have hs1 : w1.drew.heap.size = w1.heap.size := rfl
 clear hb1 HY1 HKW HQW
 generalize w1.drew = w2 at *
 clear hs1
 refine tl 0 5 (.pointer (some ⟨q, 0, none⟩)) ⟨Bq, 0, none⟩ rfl (fun wy hy => hy.2.cell rfl) hS ?_
 simp only [pA,pB,pC,pD]
 refine tz 1 6 (.pointer (some ⟨q, 0, none⟩)) rfl hS ?_
 simp only [pA,pB,pC,pD]
 refine tz 2 7 (.pointer (some ⟨q, 20, none⟩)) rfl hS ?_
 simp only [pA,pB,pC,pD]
 refine tl 3 8 (.pointer (some ⟨p, 0, none⟩)) ⟨q, 20, none⟩ rfl (fun wy hy => by obtain ⟨lv, _, hb⟩ := hy.1; exact hb.cell rfl) hS ?_
 simp only [pA,pB,pC,pD]
 refine tl 4 9 (.pointer (some ⟨q, 0, none⟩)) ⟨Bq, 0, none⟩ rfl (fun wy hy => hy.2.cell rfl) hS ?_
 simp only [pA,pB,pC,pD]
 refine tz 5 10 (.pointer (some ⟨q, 0, none⟩)) rfl hS ?_
 simp only [pA,pB,pC,pD]
 refine tz 6 11 (.pointer (some ⟨q, 0, none⟩)) rfl hS ?_
 simp only [pA,pB,pC,pD]
 refine tz 7 12 (.pointer (some ⟨q, 0, none⟩)) rfl hS ?_
 simp only [pA,pB,pC,pD]
 refine tl 8 13 (.string v.name) ⟨q, 0, none⟩ rfl (fun wy hy => by obtain ⟨lv, _, hb⟩ := hy.1; exact hb.cell rfl) hS ?_
 simp only [pA,pB,pC,pD]
 refine rd1 9 ⟨some 14, _, _, _, _, none⟩ rfl (fun K hK => ?_)
 go_simp
 refine (copiesOf_any p v.name _).mono ?_
 rintro e w6 ⟨rfl, hw6⟩
 have hb6 : Below w2.heap.size w2 w6 := by rw [hw6]; exact ((Below.refl _ w2).alloc (Nat.le_refl _) _).alloc (by simp) _
 have HX6 : Hid (Blk w2.heap.size #[.pointer (some ⟨p, 0, none⟩)] 54 w6) := by
  show Blk _ _ _ _
  rw [hw6]
  exact (Blk.alloc w2 _ _).below ((Below.refl _ _).alloc (Nat.le_refl _) _) (Blk.alloc w2 _ _).lt
 have HN6 : Hid (Blk (w2.heap.size + 1) #[.string v.name] 9 w6) := by
  rw [hw6]
  have h := Blk.alloc (w2.alloc (Obj.cells #[.pointer (some ⟨p, 0, none⟩)] 54)) #[.string v.name] 9
  show Blk _ _ _ _
  simpa using h
 clear hw6
 refine hK.out _ _ ⟨hS.1.below hb6, hS.2.below hb6 hS.2.lt⟩ (fun hS => ?_)
 clear hK K
 refine wpAnyH_done (by kernel_rfl) ?_ _
 clear hS
 refine ⟨rfl, ?_⟩
 have HB6 : Hid (Below W.heap.size W w6) := hb2.trans (hb6.mono hb2.size)
 have HY6 := Hid.intro (HY2.out.below hb6 HY2.out.lt)
 have HI6 := Hid.intro (HIW.out.below HB6.out HIW.out.lt)
 have H6 : Hid (J [] w6) := HJ.out [] W _ none H0.out (grown_below HB6.out) (fun r e => by cases e)
 have HW6 : Hid (Below Wb.heap.size Wb w6) := HBW.out.trans (HB6.out.mono HBW.out.size)
 have hWl : W.heap.size < w2.heap.size := HY2.out.lt
 have hs6 : w2.heap.size + 1 < w6.heap.size := HN6.out.lt
 have hord : W.heap.size < w6.heap.size := by omega
 clear hb2 hb6 HY2 HIW HBW H0
 generalize hB2 : w2.heap.size + 1 = B2 at *
 generalize hB1 : w2.heap.size = B1 at *
 generalize hBy : W.heap.size = By at *
 clear hS hB1 hB2 w2 hBy
 go_wp2_with fail
 refine wpIn_wide.1 (wpIn_rangeFunc_ownH (F := Fence.wide) (n := 6) rfl (by omega) (gf := 114) (lb := #[.pointer (some ⟨B1, 0, none⟩), .pointer (some ⟨B2, 0, none⟩)]) rfl trivial (enters_of Tryz.func114 (by kernel_rfl) rfl)
  (copies_stopsK p B1 B2 x b2 o2 c2 v.name lo Wb w6 (KpT G n₀) (fun wy => Blk B1 #[.pointer (some ⟨p, 0, none⟩)] 54 wy ∧ Blk B2 #[.string v.name] 9 wy ∧ Blk p #[.int .i64 x.now, .slice a1 x.services.length c1, .slice (some ⟨b2, o2, none⟩) x.copies.length c2, .slice a3 x.berths.length c3, .map (some m)] 60 wy)
   (fun W h => ⟨h.1.cell rfl, h.2.1.cell rfl, h.2.2.cell rfl⟩) (fun A B h hb => ⟨h.1.below hb h.1.lt, h.2.1.below hb h.2.1.lt, h.2.2.below hb h.2.2.lt⟩)
   (fun A B h hk => ⟨hk.blk h.1 (.inr (.inl rfl)), hk.blk h.2.1 (.inr (.inr rfl)), hk.blk' h.2.2 (by omega) hGp⟩) (fun A B hk => hk.below hn HG.out)
   HW6.out HF.out.n2 ⟨HX6.out, HN6.out, HF.out.blk.below HW6.out hpb⟩ l2 HCAP.out HV.out.c2)
  (fun h1 h2 => h1.trans h2) (fun W' l' o o' hl ho hc _ => KpT.putObj W' o' (by omega) ho hc) (Below.refl _ _) (fun _ => rfl)
  (fun pre W' => J (pre.filter (fun c => lvB2 qf c.1)) W' ∧ Blk By #[.func (.yield l) #[] #[]] 115 W' ∧ Blk Bi #[.func (.func f) bd #[]] 115 W' ∧ w6.heap.size ≤ W'.heap.size)
  (fun _ _ _ => False) ?_ ?_ ?_ (fun c a' W' => ∃ Bx, w6.heap.size ≤ Bx ∧ Blk Bx #[.string c.1.service, .int .i64 c.1.number, .int .i64 c.1.version, .int .i64 c.1.image, .int .i64 c.1.state, .bool c.1.ending, .string c.1.berth] 87 W' ∧ a' = { tmps := #[.func (.yield l) #[] #[], .pointer (some ⟨Bq, 0, none⟩), .pointer (some ⟨Bi, 0, none⟩), .pointer (some ⟨By, 0, none⟩), .pointer (some ⟨Bx, 0, none⟩), .pointer (some ⟨q, 0, none⟩), .pointer (some ⟨q, 0, none⟩), .pointer (some ⟨q, 20, none⟩), .pointer (some ⟨p, 0, none⟩), .pointer (some ⟨q, 0, none⟩), .pointer (some ⟨q, 0, none⟩), .pointer (some ⟨q, 0, none⟩), .pointer (some ⟨q, 0, none⟩), .string v.name, .func (.func 114) #[] #[.pointer (some ⟨B1, 0, none⟩), .pointer (some ⟨B2, 0, none⟩)], .agg #[.string c.1.service, .int .i64 c.1.number, .int .i64 c.1.version, .int .i64 c.1.image, .int .i64 c.1.state, .bool c.1.ending, .string c.1.berth], undef, undef, undef, undef, undef, undef, undef, undef, undef, undef, undef, undef, undef, undef], defers := [] }) ?_ ?_ ?_ ?_ ?_)
 ·rintro s A B row ⟨h1, h2, h3, h4⟩ hgr hr
  have hne : ∀ k, k < w6.heap.size → some k ≠ row := fun k hk e => by have := (hr _ e.symm).1; omega
  exact ⟨HJ.out _ A B row h1 hgr (fun r e => ⟨by have := (hr r e).1; omega, (hr r e).2⟩), h2.grown hgr (hne _ HY6.out.lt), h3.grown hgr (hne _ HI6.out.lt), Nat.le_trans h4 hgr.size⟩
 ·intro c s A B row h
  exact h.elim
 ·exact ⟨H6.out, HY6.out, HI6.out, Nat.le_refl _⟩
 ·rintro s a' _ A B row ⟨Bx, h1, h2, h3⟩ hgr hr
  refine ⟨Bx, h1, h2.grown hgr (fun e => ?_), h3⟩
  obtain ⟨_, o, ho, hc⟩ := hr _ e.symm
  rw [show A.heap[Bx]? = _ from h2] at ho
  cases ho
  cases hc
 ·rintro l' pre c W' K ⟨h1, h2, h3, h4⟩ hK
  have hKK := Hid.intro hK
  have H1 := Hid.intro h1
  clear hK h1
  have hza : Blk W'.heap.size #[.string ⟨#[]⟩, .int .i64 0, .int .i64 0, .int .i64 0, .int .i64 0, .bool false, .string ⟨#[]⟩] 87 (W'.alloc (Obj.cells #[.string ⟨#[]⟩, .int .i64 0, .int .i64 0, .int .i64 0, .int .i64 0, .bool false, .string ⟨#[]⟩] 87)) := Blk.alloc _ _ _
  have HTS : Hid ((W'.alloc (Obj.cells #[.string ⟨#[]⟩, .int .i64 0, .int .i64 0, .int .i64 0, .int .i64 0, .bool false, .string ⟨#[]⟩] 87)).there W'.heap.size 0 7) := hza.there
  obtain ⟨wz, HWZ⟩ : ∃ wz, Hid (wz = (W'.alloc (Obj.cells #[.string ⟨#[]⟩, .int .i64 0, .int .i64 0, .int .i64 0, .int .i64 0, .bool false, .string ⟨#[]⟩] 87)).setCells W'.heap.size 0 [.string c.1.service, .int .i64 c.1.number, .int .i64 c.1.version, .int .i64 c.1.image, .int .i64 c.1.state, .bool c.1.ending, .string c.1.berth]) := ⟨_, rfl⟩
  have HKZ : Hid (Blk W'.heap.size #[.string c.1.service, .int .i64 c.1.number, .int .i64 c.1.version, .int .i64 c.1.image, .int .i64 c.1.state, .bool c.1.ending, .string c.1.berth] 87 wz) := by
   show Blk _ _ _ _
   rw [HWZ.out]
   exact hza.setAll #[.string c.1.service, .int .i64 c.1.number, .int .i64 c.1.version, .int .i64 c.1.image, .int .i64 c.1.state, .bool c.1.ending, .string c.1.berth] rfl
  have hbz : Below W'.heap.size W' wz := by
   rw [HWZ.out]
   exact below_setCells (Nat.le_refl _) _ _ _ ((Below.refl _ W').alloc (Nat.le_refl _) _)
  have HBZ := Hid.intro hbz
  clear hza hbz
  gi_wp2_with (refine wpListIn_store_to rfl 87 _ _ rfl W'.heap.size 0 #[.string c.1.service, .int .i64 c.1.number, .int .i64 c.1.version, .int .i64 c.1.image, .int .i64 c.1.state, .bool c.1.ending, .string c.1.berth] rfl rfl HTS.out isz_Scp (by simp [Value.oneCell']) wz HWZ.out ?_)
  have hbz := HBZ.out
  exact hKK.out _ _ ⟨hbz.size, fun k o _ ho _ => (hbz.block k (Array.getElem?_eq_some_iff.1 ho).1).trans ho⟩ (KpT.of_below hbz (by omega)) ⟨HJ.out _ W' _ none H1.out (grown_below hbz) (fun r e => by cases e), h2.below hbz h2.lt, h3.below hbz h3.lt, Nat.le_trans h4 hbz.size⟩ ⟨W'.heap.size, h4, HKZ.out, rfl⟩
 ·rintro l' pre c a' W' hl' ⟨r', hr'⟩ ⟨h1, h2, h3, h4⟩ ⟨Bx, hBx, hbx, rfl⟩ hlt'
  have HK1 := Hid.intro (HJK.out _ _ h1)
  have H1 := Hid.intro h1
  have H2 := Hid.intro h2
  have H3 := Hid.intro h3
  have HX := Hid.intro hbx
  have y0 : W'.cell? ⟨Bx, 0, none⟩ = some (.string c.1.service) := hbx.cell rfl
  have y1 : W'.cell? ⟨Bx, 1, none⟩ = some (.int .i64 c.1.number) := hbx.cell rfl
  have y2 : W'.cell? ⟨Bx, 2, none⟩ = some (.int .i64 c.1.version) := hbx.cell rfl
  have y3 : W'.cell? ⟨Bx, 3, none⟩ = some (.int .i64 c.1.image) := hbx.cell rfl
  have y4 : W'.cell? ⟨Bx, 4, none⟩ = some (.int .i64 c.1.state) := hbx.cell rfl
  have y5 : W'.cell? ⟨Bx, 5, none⟩ = some (.bool c.1.ending) := hbx.cell rfl
  have y6 : W'.cell? ⟨Bx, 6, none⟩ = some (.string c.1.berth) := hbx.cell rfl
  have yi : W'.cell? ⟨Bi, 0, none⟩ = some (.func (.func f) bd #[]) := h3.cell rfl
  clear h1 h2 h3 hbx hr'
  cases hen : c.1.ending with
  | true =>
   rw [hen] at y5
   have HP : Hid (([c] : List (CpX x)).filter (fun c => lvB2 qf c.1) = []) := by
    show _ = _
    simp [lvB2, hen]
   clear hen
   gi_wp2_with fail
   refine ⟨fun _ h => (by cases h), ?_⟩
   gi_wp2_with fail
   exact ⟨KeepsFrom.refl _ _, KpT.refl _ _ _, by rw [List.filter_append, HP.out, List.append_nil]; exact H1.out, H2.out, H3.out, h4⟩
  | false =>
   rw [hen] at y5
   have hc := HSAY.out c.1 c.2 W' HK1.out
   rw [hen] at hc
   have HSN : Hid ((pre ++ [c]).filter (fun c => lvB2 qf c.1) = pre.filter (fun c => lvB2 qf c.1) ++ (if qf c.1 = true then [c] else [])) := by
    show _ = _
    rw [List.filter_append]
    cases hqf : qf c.1 <;> simp [lvB2, hen, hqf]
   have HLN : Hid ((pre.filter (fun c => lvB2 qf c.1)).length < 200) := by
    show _ < _
    have := List.length_filter_le (fun c : CpX x => lvB2 qf c.1) pre
    omega
   have HEN := Hid.intro hen
   clear hen HK1
   gi_wp2_with fail
   refine ⟨trivial, (CallsIn.inRound l' (callsIn_wide.2 hc)).mono ?_⟩
   rintro e w8 ⟨rfl, hb8⟩
   have HB8 := Hid.intro hb8
   have HJ8 : Hid (J (pre.filter (fun c => lvB2 qf c.1)) w8) := HJ.out _ W' _ none H1.out (grown_below hb8) (fun r e => by cases e)
   have H28 := Hid.intro (H2.out.below hb8 H2.out.lt)
   have H38 := Hid.intro (H3.out.below hb8 H3.out.lt)
   have hx8 := HX.out.below hb8 HX.out.lt
   have hk8 : KpT G n₀ W' w8 := KpT.of_below hb8 (by omega)
   have HK8 := Hid.intro hk8
   have HF8 : Hid (KeepsFrom w6.heap.size W' w8) := ⟨hb8.size, fun k o _ ho _ => (hb8.block k (Array.getElem?_eq_some_iff.1 ho).1).trans ho⟩
   have hs8 : w6.heap.size ≤ w8.heap.size := Nat.le_trans h4 hb8.size
   rw [HEN.out] at hx8
   clear hc y0 y1 y2 y3 y4 y5 y6 yi hb8 H1 H2 H3 HX hk8
   have y0 : w8.cell? ⟨Bx, 0, none⟩ = some (.string c.1.service) := hx8.cell rfl
   have y1 : w8.cell? ⟨Bx, 1, none⟩ = some (.int .i64 c.1.number) := hx8.cell rfl
   have y2 : w8.cell? ⟨Bx, 2, none⟩ = some (.int .i64 c.1.version) := hx8.cell rfl
   have y3 : w8.cell? ⟨Bx, 3, none⟩ = some (.int .i64 c.1.image) := hx8.cell rfl
   have y4 : w8.cell? ⟨Bx, 4, none⟩ = some (.int .i64 c.1.state) := hx8.cell rfl
   have y5 : w8.cell? ⟨Bx, 5, none⟩ = some (.bool false) := hx8.cell rfl
   have y6 : w8.cell? ⟨Bx, 6, none⟩ = some (.string c.1.berth) := hx8.cell rfl
   have yy : w8.cell? ⟨By, 0, none⟩ = some (.func (.yield l) #[] #[]) := H28.out.cell rfl
   clear hx8
   cases hqf : qf c.1 with
   | false =>
    rw [hqf] at HSN
    gi_wp2_with fail
    refine ⟨fun _ h => (by cases h), ?_⟩
    gi_wp2_with fail
    exact ⟨HF8.out, HK8.out, by rw [HSN.out, if_neg Bool.false_ne_true, List.append_nil]; exact HJ8.out, H28.out, H38.out, hs8⟩
   | true =>
    rw [hqf, if_pos rfl] at HSN
    obtain ⟨fn, tmps, assign, body, hy, hR⟩ := YieldAt.wide (m' := 3) (HY.out _ c w8 HJ8.out HLN.out) l'
    dsimp only [cpEnc] at hy
    rw [HEN.out] at hy
    have hR' := hR.mono (R' := fun e W9 => e = .returned (.bool true) ∧ Hid (J (pre.filter (fun c => lvB2 qf c.1) ++ [c]) W9 ∧ KpT G n₀ w8 W9 ∧ KeepsFrom (n₀ + 2) w8 W9)) (by
     rintro e W9 ⟨h1, h2, h3, h4⟩
     exact ⟨h1, h2, h3, h4⟩)
    clear hR
    gi_wp2_with (refine hR'.mono ?_; rintro e W9 ⟨rfl, hq9⟩)
    clear hR' hy
    gi_wp2_with fail
    obtain ⟨h1, h2, h3⟩ := hq9.out
    exact ⟨HF8.out.trans ⟨h3.size, fun k o hk ho hc => h3.same k o (by omega) ho hc⟩, HK8.out.trans h2, by rw [HSN.out]; exact h1, h2.blk H28.out (.inl rfl), h2.blk H38.out (.inl rfl), Nat.le_trans hs8 h2.size⟩
 ·rintro D xs W' hD hcame ⟨h1, h2, h3, h4⟩ hK
  refine ⟨by simp, .inl ⟨_, _, rfl, run_takeDeferred hK, ?_⟩⟩
  refine ⟨_, results_none rfl _ _ _, ⟨_, rfl⟩, xs.filter (fun c => lvB2 qf c.1), ?_, ?_⟩
  ·have h9 := List.filter_map (f := fun c : CpX x => c.1) (p := lvB2 qf) (l := xs)
   rw [hcame] at h9
   exact h9.symm
  ·exact HJ.out _ W' _ (some D) h1 (grownBy_putObj' W' D _) (fun r e => by cases e; exact ⟨by omega, _, hK, rfl⟩)
 ·intro D c pre W' _ _ h
  exact h.elim

end Go.Proofs.YtnggdpjfmpjlhaaGreat
