import Derived.Test.YtnggdpjfmpjlhaaGreatTkw
import Derived.Test.YtnggdpjfmpjlhaaGreatSi2
namespace Go.Proofs.YtnggdpjfmpjlhaaGreat
open Go.RowKit Go.WideMaps Go.Maps

structure FndS (x : Sbk) (a1 : Option Addr) (c1 : Nat) (a2 : Option Addr) (c2 : Nat) (a3 : Option Addr) (c3 : Nat) (p m n lo : Nat) (w : World) : Prop where
 blk : Blk p #[.int .i64 x.now, .slice a1 x.services.length c1, .slice a2 x.copies.length c2, .slice a3 x.berths.length c3, .map (some m)] 60 w
 own : OwnK w m n (plOf x)
 n1 : SliceC SsvC 13 lo w a1 x.services
 n2 : SliceC ScpC 7 lo w a2 x.copies
 n3 : SliceC SbtC 2 lo w a3 x.berths

theorem FndS.below {x : Sbk} {a1 : Option Addr} {c1 : Nat} {a2 : Option Addr} {c2 : Nat} {a3 : Option Addr} {c3 p m n lo : Nat} {w w' : World} (h : FndS x a1 c1 a2 c2 a3 c3 p m n lo w) (hb : Below w.heap.size w w') : FndS x a1 c1 a2 c2 a3 c3 p m n lo w' :=
 ⟨h.blk.below hb h.blk.lt, ownsMap_below h.own hb h.own.lt, h.n1.below SsvC.holds hb (Nat.le_refl _), h.n2.below ScpC.holds hb (Nat.le_refl _), h.n3.below SbtC.holds hb (Nat.le_refl _)⟩

theorem results_cell_tmp {P : Program} {fn : Func} {p t : Tmp} {ty : TypeId} (h : fn.results = #[.cell p ty, .tmp t]) (tmps : Array Value) (w : World) (g : Nat) (cs : List Value) (d : TypeDesc)
  (hp : tmps.getD p undef = .pointer (some ⟨g, 0, none⟩)) (hc : w.rangeAt g 0 cs) (hu : P.underlying ty = some d) (hd : d.isRow = true) (hi : (P.info? ty).map (·.size) = some cs.length) :
  (results fn tmps).run P w = .ok (.tuple #[.agg cs.toArray, tmps.getD t undef]) w := by
 have hp' : tmps[p]?.getD undef = .pointer (some ⟨g, 0, none⟩) := by simpa using hp
 simp [results, h, hp', asAddr, run_loadVar_mid w g 0 ty cs d hc hu hd hi]

theorem n01 : bytesBE 8 ((0 : Int) % 2 ^ 64).toNat ≠ bytesBE 8 ((1 : Int) % 2 ^ 64).toNat := by decide
theorem n02 : bytesBE 8 ((0 : Int) % 2 ^ 64).toNat ≠ bytesBE 8 ((2 : Int) % 2 ^ 64).toNat := by decide
theorem n12 : bytesBE 8 ((1 : Int) % 2 ^ 64).toNat ≠ bytesBE 8 ((2 : Int) % 2 ^ 64).toNat := by decide
theorem wfS (x : Sbk) : ∀ p ∈ ksS x, Wf p.2 := fun p hp => by obtain ⟨v, _, rfl⟩ := List.mem_map.1 hp; exact (by decide : Wf 0)
theorem wfB (x : Sbk) : ∀ p ∈ ksB x, Wf p.2 := fun p hp => by obtain ⟨v, _, rfl⟩ := List.mem_map.1 hp; exact (by decide : Wf 0)
theorem wfC {x : Sbk} (h : NumOk x) : ∀ p ∈ ksC x, Wf p.2 := fun p hp => by obtain ⟨v, hv, rfl⟩ := List.mem_map.1 hp; exact h v hv

theorem look_svc {x : Sbk} {m n : Nat} {w : World} {s : ByteArray} (h : OwnK w m n (plOf x)) (hs : s.size ≤ maxLen) :
  (Instr.lookup 58 (.map (some m)) (.agg #[.int .i64 0, .string s, .int .i64 0]) true).run Tryz.prog w = .ok (.tuple #[.int .i64 (((lastOf (ksS x) (s, 0) x.services.length).getD 0 : Nat) : Int), .bool (lastOf (ksS x) (s, 0) x.services.length).isSome]) w := by
 have hkey := keyOf_key (q := 0) (n := 0) (by decide) hs (by decide)
 obtain ⟨v, ps, hrun, hv⟩ := World.ownsMap.look_ok h law_key Tryz.underlying58 (zero_int w) (plainElem_int Tryz.underlying3 (a := 0) (by decide)) hkey
 obtain ⟨c, rfl, hc, _⟩ := plainElem_int_inv Tryz.underlying3 hv
 have h1 := congrArg Prod.fst hc
 simp only at h1
 have h3 := h1.symm.trans ((at_pl_other n02 _ _ s 0 _ _).trans ((at_pl_other n01 _ _ s 0 _ _).trans (at_pl (D := .map []) ⟨_, rfl⟩ (wfS x) (by decide) rfl x.services.length)))
 have h5 : c = (((lastOf (ksS x) (s, 0) x.services.length).getD 0 : Nat) : Int) := by simpa using h3
 rw [hrun, h5, has_pl_other n02, has_pl_other n01, has_pl ⟨_, rfl⟩ (wfS x) (by decide) rfl]

theorem look_bth {x : Sbk} {m n : Nat} {w : World} {s : ByteArray} (h : OwnK w m n (plOf x)) (hs : s.size ≤ maxLen) :
  (Instr.lookup 58 (.map (some m)) (.agg #[.int .i64 2, .string s, .int .i64 0]) true).run Tryz.prog w = .ok (.tuple #[.int .i64 (((lastOf (ksB x) (s, 0) x.berths.length).getD 0 : Nat) : Int), .bool (x.berths.any (fun t => decide (t.name = s)))]) w := by
 have hkey := keyOf_key (q := 2) (n := 0) (by decide) hs (by decide)
 obtain ⟨v, ps, hrun, hv⟩ := World.ownsMap.look_ok h law_key Tryz.underlying58 (zero_int w) (plainElem_int Tryz.underlying3 (a := 0) (by decide)) hkey
 obtain ⟨c, rfl, hc, _⟩ := plainElem_int_inv Tryz.underlying3 hv
 have h1 := congrArg Prod.fst hc
 simp only at h1
 have e0 : (plC x x.copies.length).atKey (kK 2 s 0) (.lit (.int .i64 0)) = .lit (.int .i64 0) := (at_pl_other n12.symm _ _ s 0 _ _).trans ((at_pl_other n02.symm (.map []) _ s 0 _ _).trans rfl)
 have e1 : has (plC x x.copies.length) (kK 2 s 0) = false := (has_pl_other n12.symm _ _ s 0 _).trans ((has_pl_other n02.symm (.map []) _ s 0 _).trans rfl)
 have h3 := h1.symm.trans (at_pl (pl_isMap (pl_isMap ⟨_, rfl⟩ _ _ _) _ _ _) (wfB x) (by decide) e0 x.berths.length)
 have h5 : c = (((lastOf (ksB x) (s, 0) x.berths.length).getD 0 : Nat) : Int) := by simpa using h3
 rw [hrun, h5, has_pl (pl_isMap (pl_isMap ⟨_, rfl⟩ _ _ _) _ _ _) (wfB x) (by decide) e1, last_bth]

theorem asc_uniq {xs : List Ssv} (h : ∀ (j : Nat) u v, xs[j]? = some u → xs[j + 1]? = some v → Op.bytesLess u.name.toList v.name.toList = true) : ∀ (j k : Nat) u v, xs[j]? = some u → xs[k]? = some v → u.name = v.name → j = k := by
 have hl : ∀ (d i : Nat) u v, xs[i]? = some u → xs[i + d + 1]? = some v → Op.bytesLess u.name.toList v.name.toList = true := by
  intro d
  induction d with
  | zero => exact fun i u v h1 h2 => h i u v h1 h2
  | succ d ih =>
   intro i u v h1 h2
   have hd : i + d + 1 < xs.length := by have := lt_of_some h2; omega
   have h3 : xs[i + d + 1]? = some xs[i + d + 1] := List.getElem?_eq_getElem hd
   exact bl_tr _ _ _ (ih i u _ h1 h3) (h _ _ _ h3 h2)
 intro j k u v hj hk he
 rcases Nat.lt_trichotomy j k with c | c | c
 ·have := hl (k - j - 1) j u v hj (by rw [show j + (k - j - 1) + 1 = k by omega]; exact hk)
  rw [he, bl_irr] at this
  cases this
 ·exact c
 ·have := hl (j - k - 1) k v u hk (by rw [show k + (j - k - 1) + 1 = j by omega]; exact hj)
  rw [he, bl_irr] at this
  cases this

def SvcRes (x : Sbk) (s : ByteArray) (w : World) (e : Ending) (w' : World) : Prop := ((∃ v, x.services.find? (fun b => decide (b.name = s)) = some v ∧ e = .returned (.tuple #[.agg #[.string v.name, .int .i64 v.version, .bool v.gone, .int .i64 v.image, .int .i64 v.want, .int .i64 v.down, .int .i64 v.over, .int .i64 v.next, .int .i64 v.per, .int .i64 v.least, .int .i64 v.most, .int .i64 v.load, .int .i64 v.cool], .bool true])) ∨ (x.services.find? (fun b => decide (b.name = s)) = none ∧ e = .returned (.tuple #[.agg #[.string ⟨#[]⟩, .int .i64 0, .bool false, .int .i64 0, .int .i64 0, .int .i64 0, .int .i64 0, .int .i64 0, .int .i64 0, .int .i64 0, .int .i64 0, .int .i64 0, .int .i64 0], .bool false]))) ∧ Below w.heap.size w w'

set_option maxHeartbeats 4000000 in
set_option maxRecDepth 100000 in
theorem fservice_any (x : Sbk) (a1 : Option Addr) (c1 : Nat) (a2 : Option Addr) (c2 : Nat) (a3 : Option Addr) (c3 : Nat) (p m n lo : Nat) (s : ByteArray) (w : World) (hF : FndS x a1 c1 a2 c2 a3 c3 p m n lo w) (hs : s.size ≤ maxLen) (hu : ∀ (j k : Nat) u v, x.services[j]? = some u → x.services[k]? = some v → u.name = v.name → j = k) :
  Calls Tryz.prog 135 #[.pointer (some ⟨p, 0, none⟩), .string s] w fun e w' => SvcRes x s w e w' := by
 have HZ : Hid (Blk w.heap.size #[.string ⟨#[]⟩, .int .i64 0, .bool false, .int .i64 0, .int .i64 0, .int .i64 0, .int .i64 0, .int .i64 0, .int .i64 0, .int .i64 0, .int .i64 0, .int .i64 0, .int .i64 0] 50 (w.alloc (Obj.cells #[.string ⟨#[]⟩, .int .i64 0, .bool false, .int .i64 0, .int .i64 0, .int .i64 0, .int .i64 0, .int .i64 0, .int .i64 0, .int .i64 0, .int .i64 0, .int .i64 0, .int .i64 0] 50))) := Blk.alloc _ _ _
 have hB1 : Below w.heap.size w (w.alloc (Obj.cells #[.string ⟨#[]⟩, .int .i64 0, .bool false, .int .i64 0, .int .i64 0, .int .i64 0, .int .i64 0, .int .i64 0, .int .i64 0, .int .i64 0, .int .i64 0, .int .i64 0, .int .i64 0] 50)) := by go_grown
 have HF1 := Hid.intro (hF.below hB1)
 have HU := Hid.intro (last_svc (s := s) hu)
 have HL : Hid (∀ wy, FndS x a1 c1 a2 c2 a3 c3 p m n lo wy → _) := fun wy hy => look_svc hy.own hs
 clear hF
 go_enter Tryz.func135, Tryz.ntmps135
 go_upto_region 1 with fail
 generalize w.alloc (Obj.cells #[.string ⟨#[]⟩, .int .i64 0, .bool false, .int .i64 0, .int .i64 0, .int .i64 0, .int .i64 0, .int .i64 0, .int .i64 0, .int .i64 0, .int .i64 0, .int .i64 0, .int .i64 0] 50) = w1 at *
 refine wp_region_held_drew (S := fun wy => FndS x a1 c1 a2 c2 a3 c3 p m n lo wy ∧ Blk w.heap.size #[.string ⟨#[]⟩, .int .i64 0, .bool false, .int .i64 0, .int .i64 0, .int .i64 0, .int .i64 0, .int .i64 0, .int .i64 0, .int .i64 0, .int .i64 0, .int .i64 0, .int .i64 0] 50 wy) (by kernel_rfl) ⟨HF1.out.below (Below.refl _ _).drew, HZ.out.drew⟩ (fun hS => ?_)
 have hB2 : Below w.heap.size w w1.drew := hB1.drew
 clear HF1 HZ hB1
 generalize w1.drew = w2 at *
 rcases HU.out with ⟨e1, e2⟩ | ⟨k, v, e1, e2, e3, e4⟩
 ·have HLK := HL.out
  rw [e1] at HLK
  simp only [Option.getD_none, Option.isSome_none] at HLK
  have HLK := Hid.intro HLK
  have HE2 := Hid.intro e2
  clear e1 e2 HU HL
  refine tz 0 9 (.pointer (some ⟨p, 0, none⟩)) rfl hS ?_
  simp only [pA,pB,pC,pD]
  refine tz 1 10 (.pointer (some ⟨p, 0, none⟩)) rfl hS ?_
  simp only [pA,pB,pC,pD]
  refine tz 2 11 (.pointer (some ⟨p, 4, none⟩)) rfl hS ?_
  simp only [pA,pB,pC,pD]
  refine tl 3 12 (.map (some m)) ⟨p, 4, none⟩ rfl (fun wy hy => hy.1.blk.cell rfl) hS ?_
  simp only [pA,pB,pC,pD]
  refine tz 4 13 (.string s) rfl hS ?_
  simp only [pA,pB,pC,pD]
  refine rd1 5 ⟨some 14, _, _, _, _, none⟩ rfl (fun K hK => ?_)
  go_simp
  refine (svcKey_any s _).mono ?_
  rintro e w3 ⟨rfl, hbk⟩
  have HF3 := Hid.intro (hS.1.below hbk)
  have HZ3 := Hid.intro (hS.2.below hbk hS.2.lt)
  have hB3 : Below w.heap.size w w3 := hB2.trans (hbk.mono hB2.size)
  clear hB2
  refine hK.out _ _ ⟨HF3.out, HZ3.out⟩ (fun hS => ?_)
  clear hK K
  refine ty 6 ⟨some 15, _, _, _, _, none⟩ (.tuple #[.int .i64 0, .bool false]) rfl (by rfl) ?_ hS ?_
  ·intro wy hy
   have h0 := HLK.out wy hy.1
   clear hy
   go_simp
  simp only [pA,pB,pC,pD]
  refine tz 7 8 (.tuple #[.int .i64 0, .bool false]) rfl hS ?_
  simp only [pA,pB,pC,pD]
  refine tz 8 16 (.int .i64 0) rfl hS ?_
  simp only [pA,pB,pC,pD]
  refine tz 9 17 (.bool false) rfl hS ?_
  simp only [pA,pB,pC,pD]
  refine tz 10 6 (.int .i64 0) rfl hS ?_
  simp only [pA,pB,pC,pD]
  refine tz 11 7 (.bool false) rfl hS ?_
  simp only [pA,pB,pC,pD]
  refine wpAnyH_done (by kernel_rfl) ?_ _
  clear hS
  clear HLK hbk
  have HTS := Hid.intro HZ3.out.there
  clear HZ3
  obtain ⟨wf, HE⟩ : ∃ wf, Hid (wf = w3.setCells w.heap.size 0 [.string ⟨#[]⟩, .int .i64 0, .bool false, .int .i64 0, .int .i64 0, .int .i64 0, .int .i64 0, .int .i64 0, .int .i64 0, .int .i64 0, .int .i64 0, .int .i64 0, .int .i64 0]) := ⟨_, rfl⟩
  have HRf : Hid (wf.rangeAt w.heap.size 0 [.string ⟨#[]⟩, .int .i64 0, .bool false, .int .i64 0, .int .i64 0, .int .i64 0, .int .i64 0, .int .i64 0, .int .i64 0, .int .i64 0, .int .i64 0, .int .i64 0, .int .i64 0]) := by
   show World.rangeAt _ _ _ _
   rw [HE.out]
   exact World.rangeAt_setCells_same _ _ _ _ HTS.out
  have HBf : Hid (Below w.heap.size w wf) := by
   show Below _ _ _
   rw [HE.out]
   exact below_setCells (Nat.le_refl _) _ _ _ hB3
  clear hB3
  go_wp2_with (refine wpList_store_to rfl 50 _ _ rfl w.heap.size 0 #[.string ⟨#[]⟩, .int .i64 0, .bool false, .int .i64 0, .int .i64 0, .int .i64 0, .int .i64 0, .int .i64 0, .int .i64 0, .int .i64 0, .int .i64 0, .int .i64 0, .int .i64 0] (by first | rfl | (simp [go_sem]; done)) rfl HTS.out isz_Ssv (by simp [Value.oneCell']) wf HE.out ?_)
  exact bodyPost_ret (results_cell_tmp rfl _ _ w.heap.size [.string ⟨#[]⟩, .int .i64 0, .bool false, .int .i64 0, .int .i64 0, .int .i64 0, .int .i64 0, .int .i64 0, .int .i64 0, .int .i64 0, .int .i64 0, .int .i64 0, .int .i64 0] _ rfl HRf.out Tryz.underlying50 rfl isz_Ssv) rfl ⟨.inr ⟨HE2.out, rfl⟩, HBf.out⟩
 ·have HLK := HL.out
  rw [e1] at HLK
  simp only [Option.getD_some, Option.isSome_some] at HLK
  have HLK := Hid.intro HLK
  have hkl : k < x.services.length := lt_of_some e2
  have HE2 := Hid.intro e2
  have HE4 := Hid.intro e4
  clear e1 e2 e3 e4 HU HL
  refine tz 0 9 (.pointer (some ⟨p, 0, none⟩)) rfl hS ?_
  simp only [pA,pB,pC,pD]
  refine tz 1 10 (.pointer (some ⟨p, 0, none⟩)) rfl hS ?_
  simp only [pA,pB,pC,pD]
  refine tz 2 11 (.pointer (some ⟨p, 4, none⟩)) rfl hS ?_
  simp only [pA,pB,pC,pD]
  refine tl 3 12 (.map (some m)) ⟨p, 4, none⟩ rfl (fun wy hy => hy.1.blk.cell rfl) hS ?_
  simp only [pA,pB,pC,pD]
  refine tz 4 13 (.string s) rfl hS ?_
  simp only [pA,pB,pC,pD]
  refine rd1 5 ⟨some 14, _, _, _, _, none⟩ rfl (fun K hK => ?_)
  go_simp
  refine (svcKey_any s _).mono ?_
  rintro e w3 ⟨rfl, hbk⟩
  have HF3 := Hid.intro (hS.1.below hbk)
  have HZ3 := Hid.intro (hS.2.below hbk hS.2.lt)
  have hB3 : Below w.heap.size w w3 := hB2.trans (hbk.mono hB2.size)
  clear hB2
  refine hK.out _ _ ⟨HF3.out, HZ3.out⟩ (fun hS => ?_)
  clear hK K
  refine ty 6 ⟨some 15, _, _, _, _, none⟩ (.tuple #[.int .i64 k, .bool true]) rfl (by rfl) ?_ hS ?_
  ·intro wy hy
   have h0 := HLK.out wy hy.1
   clear hy
   go_simp
  simp only [pA,pB,pC,pD]
  refine tz 7 8 (.tuple #[.int .i64 k, .bool true]) rfl hS ?_
  simp only [pA,pB,pC,pD]
  refine tz 8 16 (.int .i64 k) rfl hS ?_
  simp only [pA,pB,pC,pD]
  refine tz 9 17 (.bool true) rfl hS ?_
  simp only [pA,pB,pC,pD]
  refine tz 10 6 (.int .i64 k) rfl hS ?_
  simp only [pA,pB,pC,pD]
  refine tz 11 7 (.bool true) rfl hS ?_
  simp only [pA,pB,pC,pD]
  refine wpAnyH_done (by kernel_rfl) ?_ _
  clear hS
  clear HLK hbk
  have k1 : w3.cell? ⟨p, 1, none⟩ = some (.slice a1 x.services.length c1) := HF3.out.blk.cell rfl
  obtain ⟨b, o, ea, _, hbl, hc⟩ := HF3.out.n1.at HE2.out
  subst ea
  have HRY := Hid.intro (rngSsv hc)
  clear hc HE2
  have HTS := Hid.intro HZ3.out.there
  clear HZ3
  obtain ⟨wf, HE⟩ : ∃ wf, Hid (wf = w3.setCells w.heap.size 0 [.string v.name, .int .i64 v.version, .bool v.gone, .int .i64 v.image, .int .i64 v.want, .int .i64 v.down, .int .i64 v.over, .int .i64 v.next, .int .i64 v.per, .int .i64 v.least, .int .i64 v.most, .int .i64 v.load, .int .i64 v.cool]) := ⟨_, rfl⟩
  have HRf : Hid (wf.rangeAt w.heap.size 0 [.string v.name, .int .i64 v.version, .bool v.gone, .int .i64 v.image, .int .i64 v.want, .int .i64 v.down, .int .i64 v.over, .int .i64 v.next, .int .i64 v.per, .int .i64 v.least, .int .i64 v.most, .int .i64 v.load, .int .i64 v.cool]) := by
   show World.rangeAt _ _ _ _
   rw [HE.out]
   exact World.rangeAt_setCells_same _ _ _ _ HTS.out
  have HBf : Hid (Below w.heap.size w wf) := by
   show Below _ _ _
   rw [HE.out]
   exact below_setCells (Nat.le_refl _) _ _ _ hB3
  clear hB3
  go_wp2_with (first | (refine wpList_load_mid rfl 50 _ rfl b (o + k * 13) (by first | rfl | (simp [go_sem]; done)) [.string v.name, .int .i64 v.version, .bool v.gone, .int .i64 v.image, .int .i64 v.want, .int .i64 v.down, .int .i64 v.over, .int .i64 v.next, .int .i64 v.per, .int .i64 v.least, .int .i64 v.most, .int .i64 v.load, .int .i64 v.cool] _ HRY.out Tryz.underlying50 rfl isz_Ssv ?_) | (refine wpList_store_to rfl 50 _ _ rfl w.heap.size 0 #[.string v.name, .int .i64 v.version, .bool v.gone, .int .i64 v.image, .int .i64 v.want, .int .i64 v.down, .int .i64 v.over, .int .i64 v.next, .int .i64 v.per, .int .i64 v.least, .int .i64 v.most, .int .i64 v.load, .int .i64 v.cool] (by first | rfl | (simp [go_sem]; done)) rfl HTS.out isz_Ssv (by simp [Value.oneCell']) wf HE.out ?_))
  exact bodyPost_ret (results_cell_tmp rfl _ _ w.heap.size [.string v.name, .int .i64 v.version, .bool v.gone, .int .i64 v.image, .int .i64 v.want, .int .i64 v.down, .int .i64 v.over, .int .i64 v.next, .int .i64 v.per, .int .i64 v.least, .int .i64 v.most, .int .i64 v.load, .int .i64 v.cool] _ rfl HRf.out Tryz.underlying50 rfl isz_Ssv) rfl ⟨.inl ⟨v, HE4.out, rfl⟩, HBf.out⟩

set_option maxHeartbeats 2000000 in
set_option maxRecDepth 100000 in
theorem hasBerth_any (x : Sbk) (a1 : Option Addr) (c1 : Nat) (a2 : Option Addr) (c2 : Nat) (a3 : Option Addr) (c3 : Nat) (p m n lo : Nat) (s : ByteArray) (w : World) (hF : FndS x a1 c1 a2 c2 a3 c3 p m n lo w) (hs : s.size ≤ maxLen) :
  Calls Tryz.prog 136 #[.pointer (some ⟨p, 0, none⟩), .string s] w fun e w' => e = .returned (.bool (x.berths.any (fun t => decide (t.name = s)))) ∧ Below w.heap.size w w' := by
 have HL : Hid (∀ wy, FndS x a1 c1 a2 c2 a3 c3 p m n lo wy → _) := fun wy hy => look_bth hy.own hs
 have HF1 := Hid.intro hF
 clear hF
 generalize x.berths.any (fun t => decide (t.name = s)) = Q at *
 go_enter Tryz.func136, Tryz.ntmps136
 go_upto_region 1 with fail
 refine wp_region_held_drew (S := fun wy => FndS x a1 c1 a2 c2 a3 c3 p m n lo wy) (by kernel_rfl) (HF1.out.below (Below.refl _ _).drew) (fun hS => ?_)
 have hB2 : Below w.heap.size w w.drew := (Below.refl _ _).drew
 clear HF1
 obtain ⟨w2, HW2⟩ : ∃ w2, Hid (w2 = w.drew) := ⟨_, rfl⟩
 rw [← HW2.out] at hS hB2 ⊢
 clear HW2
 have HC := HL
 generalize (((lastOf (ksB x) (s, 0) x.berths.length).getD 0 : Nat) : Int) = c at *
 clear HL
 refine tz 0 8 (.pointer (some ⟨p, 0, none⟩)) rfl hS ?_
 simp only [pA,pB,pC,pD]
 refine tz 1 9 (.pointer (some ⟨p, 0, none⟩)) rfl hS ?_
 simp only [pA,pB,pC,pD]
 refine tz 2 10 (.pointer (some ⟨p, 4, none⟩)) rfl hS ?_
 simp only [pA,pB,pC,pD]
 refine tl 3 11 (.map (some m)) ⟨p, 4, none⟩ rfl (fun wy hy => hy.blk.cell rfl) hS ?_
 simp only [pA,pB,pC,pD]
 refine tz 4 12 (.string s) rfl hS ?_
 simp only [pA,pB,pC,pD]
 refine rd1 5 ⟨some 13, _, _, _, _, none⟩ rfl (fun K hK => ?_)
 go_simp
 refine (bthKey_any s _).mono ?_
 rintro e w3 ⟨rfl, hbk⟩
 have HF3 := Hid.intro (hS.below hbk)
 have hB3 : Below w.heap.size w w3 := hB2.trans (hbk.mono hB2.size)
 clear hB2
 refine hK.out _ _ HF3.out (fun hS => ?_)
 clear hK K
 refine ty 6 ⟨some 14, _, _, _, _, none⟩ (.tuple #[.int .i64 c, .bool Q]) rfl (by rfl) ?_ hS ?_
 ·intro wy hy
  have h0 := HC.out wy hy
  clear hy
  go_simp
 simp only [pA,pB,pC,pD]
 refine tz 7 7 (.tuple #[.int .i64 c, .bool Q]) rfl hS ?_
 simp only [pA,pB,pC,pD]
 refine tz 8 15 (.int .i64 c) rfl hS ?_
 simp only [pA,pB,pC,pD]
 refine tz 9 16 (.bool Q) rfl hS ?_
 simp only [pA,pB,pC,pD]
 refine tz 10 5 (.int .i64 c) rfl hS ?_
 simp only [pA,pB,pC,pD]
 refine tz 11 6 (.bool Q) rfl hS ?_
 simp only [pA,pB,pC,pD]
 refine wpAnyH_done (by kernel_rfl) ?_ _
 clear hS
 clear HC hbk HF3
 go_wp2_with fail
 go_ret
 exact ⟨rfl, hB3⟩

set_option maxHeartbeats 2000000 in
theorem isVersion_any (x : Sbk) (a1 : Option Addr) (c1 : Nat) (a2 : Option Addr) (c2 : Nat) (a3 : Option Addr) (c3 : Nat) (p m n lo : Nat) (v : Int) (w : World) (hF : FndS x a1 c1 a2 c2 a3 c3 p m n lo w) :
  Calls Tryz.prog 128 #[.pointer (some ⟨p, 0, none⟩), .int .i64 v] w fun e w' => e = .returned (.bool (inR v 1 x.now)) ∧ w' = w := by
 have k0 : w.cell? ⟨p, 0, none⟩ = some (.int .i64 x.now) := hF.blk.cell rfl
 clear hF
 go_enter Tryz.func128, Tryz.ntmps128
 go_wp2_with (go_at_call 57; refine (inP_any _ _ _ _).mono ?_; rintro e w' ⟨rfl, rfl⟩)
 go_ret
 exact ⟨rfl, rfl⟩

set_option maxHeartbeats 2000000 in
theorem nowOk_any (x : Sbk) (a1 : Option Addr) (c1 : Nat) (a2 : Option Addr) (c2 : Nat) (a3 : Option Addr) (c3 : Nat) (p m n lo : Nat) (w : World) (hF : FndS x a1 c1 a2 c2 a3 c3 p m n lo w) :
  Calls Tryz.prog 78 #[.pointer (some ⟨p, 0, none⟩)] w fun e w' => e = .returned (.bool (inR x.now 0 1000000)) ∧ w' = w := by
 have k0 : w.cell? ⟨p, 0, none⟩ = some (.int .i64 x.now) := hF.blk.cell rfl
 clear hF
 go_enter Tryz.func78, Tryz.ntmps78
 go_wp2_with (go_at_call 57; refine (inP_any _ _ _ _).mono ?_; rintro e w' ⟨rfl, rfl⟩)
 go_ret
 exact ⟨rfl, rfl⟩

set_option maxHeartbeats 4000000 in
set_option maxRecDepth 100000 in
theorem svChanged_any (x : Sbk) (a1 : Option Addr) (c1 : Nat) (a2 : Option Addr) (c2 : Nat) (a3 : Option Addr) (c3 : Nat) (p m n lo : Nat) (y : Ssv) (w : World) (hF : FndS x a1 c1 a2 c2 a3 c3 p m n lo w) :
  Calls Tryz.prog 99 #[.pointer (some ⟨p, 0, none⟩), .agg #[.string y.name, .int .i64 y.version, .bool y.gone, .int .i64 y.image, .int .i64 y.want, .int .i64 y.down, .int .i64 y.over, .int .i64 y.next, .int .i64 y.per, .int .i64 y.least, .int .i64 y.most, .int .i64 y.load, .int .i64 y.cool]] w fun e w' => e = .returned (.bool (inR y.version 1 x.now)) ∧ Below w.heap.size w w' := by
 have hB1 : Below w.heap.size w (w.alloc (Obj.cells #[.string y.name, .int .i64 y.version, .bool y.gone, .int .i64 y.image, .int .i64 y.want, .int .i64 y.down, .int .i64 y.over, .int .i64 y.next, .int .i64 y.per, .int .i64 y.least, .int .i64 y.most, .int .i64 y.load, .int .i64 y.cool] 50)) := by go_grown
 have HK : Hid (Blk w.heap.size #[.string y.name, .int .i64 y.version, .bool y.gone, .int .i64 y.image, .int .i64 y.want, .int .i64 y.down, .int .i64 y.over, .int .i64 y.next, .int .i64 y.per, .int .i64 y.least, .int .i64 y.most, .int .i64 y.load, .int .i64 y.cool] 50 (w.alloc (Obj.cells #[.string y.name, .int .i64 y.version, .bool y.gone, .int .i64 y.image, .int .i64 y.want, .int .i64 y.down, .int .i64 y.over, .int .i64 y.next, .int .i64 y.per, .int .i64 y.least, .int .i64 y.most, .int .i64 y.load, .int .i64 y.cool] 50))) := Blk.alloc _ _ _
 have HF1 := Hid.intro (hF.below hB1)
 clear hF
 go_enter Tryz.func99, Tryz.ntmps99
 go_upto_region 1 with fail
 generalize w.alloc (Obj.cells #[.string y.name, .int .i64 y.version, .bool y.gone, .int .i64 y.image, .int .i64 y.want, .int .i64 y.down, .int .i64 y.over, .int .i64 y.next, .int .i64 y.per, .int .i64 y.least, .int .i64 y.most, .int .i64 y.load, .int .i64 y.cool] 50) = w1 at *
 have k0 : w1.cell? ⟨w.heap.size, 0, none⟩ = some (.string y.name) := HK.out.cell rfl
 have k1 : w1.cell? ⟨w.heap.size, 1, none⟩ = some (.int .i64 y.version) := HK.out.cell rfl
 have k2 : w1.cell? ⟨w.heap.size, 2, none⟩ = some (.bool y.gone) := HK.out.cell rfl
 have k3 : w1.cell? ⟨w.heap.size, 3, none⟩ = some (.int .i64 y.image) := HK.out.cell rfl
 have k4 : w1.cell? ⟨w.heap.size, 4, none⟩ = some (.int .i64 y.want) := HK.out.cell rfl
 have k5 : w1.cell? ⟨w.heap.size, 5, none⟩ = some (.int .i64 y.down) := HK.out.cell rfl
 have k6 : w1.cell? ⟨w.heap.size, 6, none⟩ = some (.int .i64 y.over) := HK.out.cell rfl
 have k7 : w1.cell? ⟨w.heap.size, 7, none⟩ = some (.int .i64 y.next) := HK.out.cell rfl
 have k8 : w1.cell? ⟨w.heap.size, 8, none⟩ = some (.int .i64 y.per) := HK.out.cell rfl
 have k9 : w1.cell? ⟨w.heap.size, 9, none⟩ = some (.int .i64 y.least) := HK.out.cell rfl
 have k10 : w1.cell? ⟨w.heap.size, 10, none⟩ = some (.int .i64 y.most) := HK.out.cell rfl
 have k11 : w1.cell? ⟨w.heap.size, 11, none⟩ = some (.int .i64 y.load) := HK.out.cell rfl
 have k12 : w1.cell? ⟨w.heap.size, 12, none⟩ = some (.int .i64 y.cool) := HK.out.cell rfl
 clear HK
 go_wp2_with fail
 refine (isVersion_any x a1 c1 a2 c2 a3 c3 p m n lo y.version _ HF1.out).mono ?_
 rintro e w2 ⟨rfl, rfl⟩
 go_wp2_with fail
 go_ret
 exact ⟨rfl, hB1⟩

set_option maxHeartbeats 4000000 in
set_option maxRecDepth 100000 in
theorem cpChanged_any (x : Sbk) (a1 : Option Addr) (c1 : Nat) (a2 : Option Addr) (c2 : Nat) (a3 : Option Addr) (c3 : Nat) (p m n lo : Nat) (y : Scp) (w : World) (hF : FndS x a1 c1 a2 c2 a3 c3 p m n lo w) :
  Calls Tryz.prog 110 #[.pointer (some ⟨p, 0, none⟩), .agg #[.string y.service, .int .i64 y.number, .int .i64 y.version, .int .i64 y.image, .int .i64 y.state, .bool y.ending, .string y.berth]] w fun e w' => e = .returned (.bool (inR y.version 1 x.now)) ∧ Below w.heap.size w w' := by
 have hB1 : Below w.heap.size w (w.alloc (Obj.cells #[.string y.service, .int .i64 y.number, .int .i64 y.version, .int .i64 y.image, .int .i64 y.state, .bool y.ending, .string y.berth] 87)) := by go_grown
 have HK : Hid (Blk w.heap.size #[.string y.service, .int .i64 y.number, .int .i64 y.version, .int .i64 y.image, .int .i64 y.state, .bool y.ending, .string y.berth] 87 (w.alloc (Obj.cells #[.string y.service, .int .i64 y.number, .int .i64 y.version, .int .i64 y.image, .int .i64 y.state, .bool y.ending, .string y.berth] 87))) := Blk.alloc _ _ _
 have HF1 := Hid.intro (hF.below hB1)
 clear hF
 go_enter Tryz.func110, Tryz.ntmps110
 go_upto_region 1 with fail
 generalize w.alloc (Obj.cells #[.string y.service, .int .i64 y.number, .int .i64 y.version, .int .i64 y.image, .int .i64 y.state, .bool y.ending, .string y.berth] 87) = w1 at *
 have k0 : w1.cell? ⟨w.heap.size, 0, none⟩ = some (.string y.service) := HK.out.cell rfl
 have k1 : w1.cell? ⟨w.heap.size, 1, none⟩ = some (.int .i64 y.number) := HK.out.cell rfl
 have k2 : w1.cell? ⟨w.heap.size, 2, none⟩ = some (.int .i64 y.version) := HK.out.cell rfl
 have k3 : w1.cell? ⟨w.heap.size, 3, none⟩ = some (.int .i64 y.image) := HK.out.cell rfl
 have k4 : w1.cell? ⟨w.heap.size, 4, none⟩ = some (.int .i64 y.state) := HK.out.cell rfl
 have k5 : w1.cell? ⟨w.heap.size, 5, none⟩ = some (.bool y.ending) := HK.out.cell rfl
 have k6 : w1.cell? ⟨w.heap.size, 6, none⟩ = some (.string y.berth) := HK.out.cell rfl
 clear HK
 go_wp2_with fail
 refine (isVersion_any x a1 c1 a2 c2 a3 c3 p m n lo y.version _ HF1.out).mono ?_
 rintro e w2 ⟨rfl, rfl⟩
 go_wp2_with fail
 go_ret
 exact ⟨rfl, hB1⟩

def cvB (x : Sbk) (c : Scp) : Bool :=
 match x.services.find? (fun b => decide (b.name = c.service)) with
 | some v => inR c.number 1 (v.next - 1)
 | none => false

theorem cpB_parts (x : Sbk) (c : Scp) : cpB x c = (cvB x c && inR c.version 1 x.now && inR c.image 1 1000000 && inR c.state 1 4 && ctB x c) := by
 unfold cpB cvB
 cases x.services.find? (fun b => decide (b.name = c.service)) with
 | none => rfl
 | some v => rfl

set_option maxHeartbeats 4000000 in
set_option maxRecDepth 100000 in
theorem cpBerthed_any (x : Sbk) (a1 : Option Addr) (c1 : Nat) (a2 : Option Addr) (c2 : Nat) (a3 : Option Addr) (c3 : Nat) (p m n lo : Nat) (y : Scp) (w : World) (hF : FndS x a1 c1 a2 c2 a3 c3 p m n lo w) (z6 : y.berth.size ≤ maxLen) :
  Calls Tryz.prog 113 #[.pointer (some ⟨p, 0, none⟩), .agg #[.string y.service, .int .i64 y.number, .int .i64 y.version, .int .i64 y.image, .int .i64 y.state, .bool y.ending, .string y.berth]] w fun e w' => e = .returned (.bool (ctB x y)) ∧ Below w.heap.size w w' := by
 have hB1 : Below w.heap.size w (w.alloc (Obj.cells #[.string y.service, .int .i64 y.number, .int .i64 y.version, .int .i64 y.image, .int .i64 y.state, .bool y.ending, .string y.berth] 87)) := by go_grown
 have HK : Hid (Blk w.heap.size #[.string y.service, .int .i64 y.number, .int .i64 y.version, .int .i64 y.image, .int .i64 y.state, .bool y.ending, .string y.berth] 87 (w.alloc (Obj.cells #[.string y.service, .int .i64 y.number, .int .i64 y.version, .int .i64 y.image, .int .i64 y.state, .bool y.ending, .string y.berth] 87))) := Blk.alloc _ _ _
 have HF1 := Hid.intro (hF.below hB1)
 clear hF
 go_enter Tryz.func113, Tryz.ntmps113
 go_upto_region 1 with fail
 generalize w.alloc (Obj.cells #[.string y.service, .int .i64 y.number, .int .i64 y.version, .int .i64 y.image, .int .i64 y.state, .bool y.ending, .string y.berth] 87) = w1 at *
 have k0 : w1.cell? ⟨w.heap.size, 0, none⟩ = some (.string y.service) := HK.out.cell rfl
 have k1 : w1.cell? ⟨w.heap.size, 1, none⟩ = some (.int .i64 y.number) := HK.out.cell rfl
 have k2 : w1.cell? ⟨w.heap.size, 2, none⟩ = some (.int .i64 y.version) := HK.out.cell rfl
 have k3 : w1.cell? ⟨w.heap.size, 3, none⟩ = some (.int .i64 y.image) := HK.out.cell rfl
 have k4 : w1.cell? ⟨w.heap.size, 4, none⟩ = some (.int .i64 y.state) := HK.out.cell rfl
 have k5 : w1.cell? ⟨w.heap.size, 5, none⟩ = some (.bool y.ending) := HK.out.cell rfl
 have k6 : w1.cell? ⟨w.heap.size, 6, none⟩ = some (.string y.berth) := HK.out.cell rfl
 clear HK
 by_cases hs : y.state = 1
 ·have HE : Hid (ctB x y = (y.berth.toList == [])) := if_pos hs
  have hs2 : (y.state == 1) = true := by rw [hs]; rfl
  clear hs
  go_wp2_with fail
  go_ret
  exact ⟨ret_bool (by rw [HE.out]; cases y.berth.toList <;> rfl), hB1⟩
 ·have HE : Hid (ctB x y = x.berths.any (fun t => decide (t.name = y.berth))) := if_neg hs
  have hs2 : (y.state == 1) = false := by simpa using hs
  go_wp2_with fail
  refine (hasBerth_any x a1 c1 a2 c2 a3 c3 p m n lo y.berth _ HF1.out z6).mono ?_
  rintro e w2 ⟨rfl, hb2⟩
  have hB2 : Below w.heap.size w w2 := hB1.trans (hb2.mono hB1.size)
  clear hb2 hB1
  go_wp2_with fail
  go_ret
  exact ⟨ret_bool HE.out.symm, hB2⟩

set_option maxHeartbeats 4000000 in
set_option maxRecDepth 100000 in
theorem cpServed_any (x : Sbk) (a1 : Option Addr) (c1 : Nat) (a2 : Option Addr) (c2 : Nat) (a3 : Option Addr) (c3 : Nat) (p m n lo : Nat) (y : Scp) (w : World) (hF : FndS x a1 c1 a2 c2 a3 c3 p m n lo w) (z0 : y.service.size ≤ maxLen) (hu : ∀ (j k : Nat) u v, x.services[j]? = some u → x.services[k]? = some v → u.name = v.name → j = k) (hv : ∀ v ∈ x.services, 1 ≤ v.next ∧ v.next ≤ 1000000) :
  Calls Tryz.prog 109 #[.pointer (some ⟨p, 0, none⟩), .agg #[.string y.service, .int .i64 y.number, .int .i64 y.version, .int .i64 y.image, .int .i64 y.state, .bool y.ending, .string y.berth]] w fun e w' => e = .returned (.bool (cvB x y)) ∧ Below w.heap.size w w' := by
 have hB1 : Below w.heap.size w (w.alloc (Obj.cells #[.string y.service, .int .i64 y.number, .int .i64 y.version, .int .i64 y.image, .int .i64 y.state, .bool y.ending, .string y.berth] 87)) := by go_grown
 have HK : Hid (Blk w.heap.size #[.string y.service, .int .i64 y.number, .int .i64 y.version, .int .i64 y.image, .int .i64 y.state, .bool y.ending, .string y.berth] 87 (w.alloc (Obj.cells #[.string y.service, .int .i64 y.number, .int .i64 y.version, .int .i64 y.image, .int .i64 y.state, .bool y.ending, .string y.berth] 87))) := Blk.alloc _ _ _
 have HF1 := Hid.intro (hF.below hB1)
 clear hF
 go_enter Tryz.func109, Tryz.ntmps109
 go_upto_region 1 with fail
 generalize w.alloc (Obj.cells #[.string y.service, .int .i64 y.number, .int .i64 y.version, .int .i64 y.image, .int .i64 y.state, .bool y.ending, .string y.berth] 87) = w1 at *
 have k0 : w1.cell? ⟨w.heap.size, 0, none⟩ = some (.string y.service) := HK.out.cell rfl
 have k1 : w1.cell? ⟨w.heap.size, 1, none⟩ = some (.int .i64 y.number) := HK.out.cell rfl
 have k2 : w1.cell? ⟨w.heap.size, 2, none⟩ = some (.int .i64 y.version) := HK.out.cell rfl
 have k3 : w1.cell? ⟨w.heap.size, 3, none⟩ = some (.int .i64 y.image) := HK.out.cell rfl
 have k4 : w1.cell? ⟨w.heap.size, 4, none⟩ = some (.int .i64 y.state) := HK.out.cell rfl
 have k5 : w1.cell? ⟨w.heap.size, 5, none⟩ = some (.bool y.ending) := HK.out.cell rfl
 have k6 : w1.cell? ⟨w.heap.size, 6, none⟩ = some (.string y.berth) := HK.out.cell rfl
 go_wp2_with fail
 refine (fservice_any x a1 c1 a2 c2 a3 c3 p m n lo y.service _ HF1.out z0 hu).mono ?_
 rintro e w2 ⟨hr, hb2⟩
 have HK2 := Hid.intro (HK.out.below hb2 HK.out.lt)
 have hB2 : Below w.heap.size w w2 := hB1.trans (hb2.mono hB1.size)
 clear k0 k1 k2 k3 k4 k5 k6 HK HF1 hb2 hB1 hu
 have hza : Blk w2.heap.size #[.string ⟨#[]⟩, .int .i64 0, .bool false, .int .i64 0, .int .i64 0, .int .i64 0, .int .i64 0, .int .i64 0, .int .i64 0, .int .i64 0, .int .i64 0, .int .i64 0, .int .i64 0] 50 (w2.alloc (Obj.cells #[.string ⟨#[]⟩, .int .i64 0, .bool false, .int .i64 0, .int .i64 0, .int .i64 0, .int .i64 0, .int .i64 0, .int .i64 0, .int .i64 0, .int .i64 0, .int .i64 0, .int .i64 0] 50)) := Blk.alloc _ _ _
 have HTS : Hid ((w2.alloc (Obj.cells #[.string ⟨#[]⟩, .int .i64 0, .bool false, .int .i64 0, .int .i64 0, .int .i64 0, .int .i64 0, .int .i64 0, .int .i64 0, .int .i64 0, .int .i64 0, .int .i64 0, .int .i64 0] 50)).there w2.heap.size 0 13) := hza.there
 rcases hr with ⟨v, hf, rfl⟩ | ⟨hf, rfl⟩
 ·have HE : Hid (cvB x y = inR y.number 1 (v.next - 1)) := by show _ = _; unfold cvB; rw [hf]
  obtain ⟨v1, v2⟩ := hv v (List.mem_of_find?_eq_some hf)
  clear hf hv
  obtain ⟨w5, HW5⟩ : ∃ w5, Hid (w5 = (w2.alloc (Obj.cells #[.string ⟨#[]⟩, .int .i64 0, .bool false, .int .i64 0, .int .i64 0, .int .i64 0, .int .i64 0, .int .i64 0, .int .i64 0, .int .i64 0, .int .i64 0, .int .i64 0, .int .i64 0] 50)).setCells w2.heap.size 0 [.string v.name, .int .i64 v.version, .bool v.gone, .int .i64 v.image, .int .i64 v.want, .int .i64 v.down, .int .i64 v.over, .int .i64 v.next, .int .i64 v.per, .int .i64 v.least, .int .i64 v.most, .int .i64 v.load, .int .i64 v.cool]) := ⟨_, rfl⟩
  have HK5 : Hid (Blk w2.heap.size #[.string v.name, .int .i64 v.version, .bool v.gone, .int .i64 v.image, .int .i64 v.want, .int .i64 v.down, .int .i64 v.over, .int .i64 v.next, .int .i64 v.per, .int .i64 v.least, .int .i64 v.most, .int .i64 v.load, .int .i64 v.cool] 50 w5) := by
   show Blk _ _ _ _
   rw [HW5.out]
   exact hza.setAll #[.string v.name, .int .i64 v.version, .bool v.gone, .int .i64 v.image, .int .i64 v.want, .int .i64 v.down, .int .i64 v.over, .int .i64 v.next, .int .i64 v.per, .int .i64 v.least, .int .i64 v.most, .int .i64 v.load, .int .i64 v.cool] rfl
  have hbx : Below w2.heap.size w2 w5 := by
   rw [HW5.out]
   exact below_setCells (Nat.le_refl _) _ _ _ ((Below.refl _ w2).alloc (Nat.le_refl _) _)
  have hB5 : Below w.heap.size w w5 := hB2.trans (hbx.mono hB2.size)
  have HC5 := Hid.intro (HK2.out.below hbx HK2.out.lt)
  clear hza hbx hB2 HK2
  go_upto_region 2 with (refine wpList_store_to rfl 50 _ _ rfl w2.heap.size 0 #[.string v.name, .int .i64 v.version, .bool v.gone, .int .i64 v.image, .int .i64 v.want, .int .i64 v.down, .int .i64 v.over, .int .i64 v.next, .int .i64 v.per, .int .i64 v.least, .int .i64 v.most, .int .i64 v.load, .int .i64 v.cool] (by first | rfl | (simp [go_sem]; done)) rfl HTS.out isz_Ssv (by simp [Value.oneCell']) w5 HW5.out ?_)
  clear HTS HW5
  generalize w2.heap.size = g at *
  have k1 : w5.cell? ⟨w.heap.size, 1, none⟩ = some (.int .i64 y.number) := HC5.out.cell rfl
  have k2 : w5.cell? ⟨g, 7, none⟩ = some (.int .i64 v.next) := HK5.out.cell rfl
  have HWR : Hid (IntKind.i64.wrap (v.next - 1) = v.next - 1) := by show _ = _; rw [IntKind.wrap_i64]; omega
  go_wp2_with fail
  try rw [HWR.out]
  refine (inP_any y.number 1 (v.next - 1) _).mono ?_
  rintro e w6 ⟨rfl, rfl⟩
  generalize inR y.number 1 (v.next - 1) = Q at *
  go_wp2_with fail
  go_ret
  exact ⟨ret_bool HE.out.symm, hB5⟩
 ·have HE : Hid (cvB x y = false) := by show _ = _; unfold cvB; rw [hf]
  clear hf hv
  obtain ⟨w5, HW5⟩ : ∃ w5, Hid (w5 = (w2.alloc (Obj.cells #[.string ⟨#[]⟩, .int .i64 0, .bool false, .int .i64 0, .int .i64 0, .int .i64 0, .int .i64 0, .int .i64 0, .int .i64 0, .int .i64 0, .int .i64 0, .int .i64 0, .int .i64 0] 50)).setCells w2.heap.size 0 [.string ⟨#[]⟩, .int .i64 0, .bool false, .int .i64 0, .int .i64 0, .int .i64 0, .int .i64 0, .int .i64 0, .int .i64 0, .int .i64 0, .int .i64 0, .int .i64 0, .int .i64 0]) := ⟨_, rfl⟩
  have HK5 : Hid (Blk w2.heap.size #[.string ⟨#[]⟩, .int .i64 0, .bool false, .int .i64 0, .int .i64 0, .int .i64 0, .int .i64 0, .int .i64 0, .int .i64 0, .int .i64 0, .int .i64 0, .int .i64 0, .int .i64 0] 50 w5) := by
   show Blk _ _ _ _
   rw [HW5.out]
   exact hza.setAll #[.string ⟨#[]⟩, .int .i64 0, .bool false, .int .i64 0, .int .i64 0, .int .i64 0, .int .i64 0, .int .i64 0, .int .i64 0, .int .i64 0, .int .i64 0, .int .i64 0, .int .i64 0] rfl
  have hbx : Below w2.heap.size w2 w5 := by
   rw [HW5.out]
   exact below_setCells (Nat.le_refl _) _ _ _ ((Below.refl _ w2).alloc (Nat.le_refl _) _)
  have hB5 : Below w.heap.size w w5 := hB2.trans (hbx.mono hB2.size)
  have HC5 := Hid.intro (HK2.out.below hbx HK2.out.lt)
  clear hza hbx hB2 HK2
  go_upto_region 2 with (refine wpList_store_to rfl 50 _ _ rfl w2.heap.size 0 #[.string ⟨#[]⟩, .int .i64 0, .bool false, .int .i64 0, .int .i64 0, .int .i64 0, .int .i64 0, .int .i64 0, .int .i64 0, .int .i64 0, .int .i64 0, .int .i64 0, .int .i64 0] (by first | rfl | (simp [go_sem]; done)) rfl HTS.out isz_Ssv (by simp [Value.oneCell']) w5 HW5.out ?_)
  clear HTS HW5
  generalize w2.heap.size = g at *
  have k1 : w5.cell? ⟨w.heap.size, 1, none⟩ = some (.int .i64 y.number) := HC5.out.cell rfl
  go_wp2_with fail
  go_ret
  exact ⟨ret_bool HE.out.symm, hB5⟩

end Go.Proofs.YtnggdpjfmpjlhaaGreat
