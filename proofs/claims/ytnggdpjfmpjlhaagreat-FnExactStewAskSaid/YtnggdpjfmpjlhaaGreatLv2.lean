import Derived.Test.YtnggdpjfmpjlhaaGreatTkw
import Derived.Test.YtnggdpjfmpjlhaaGreatJ36
import Derived.Test.YtnggdpjfmpjlhaaGreatJ13
namespace Go.Proofs.YtnggdpjfmpjlhaaGreat
open Go.RowKit

def SgL (x : Sbk) (p q : Nat) (Wb : World) (v : Ssv) (lv : Int) (w : World) : Prop := Below Wb.heap.size Wb w ∧ Blk q #[.string v.name, .int .i64 v.version, .bool v.gone, .int .i64 v.image, .int .i64 v.want, .int .i64 v.down, .int .i64 v.over, .int .i64 v.next, .int .i64 v.per, .int .i64 v.least, .int .i64 v.most, .int .i64 v.load, .int .i64 v.cool, .int .i64 (cntL x.copies v.name v.image).live, .int .i64 (cntL x.copies v.name v.image).ready, .int .i64 (cntL x.copies v.name v.image).old, .int .i64 (cntL x.copies v.name v.image).failed, .int .i64 (cntL x.copies v.name v.image).ending, .int .i64 lv, rlV x v, .pointer (some ⟨p, 0, none⟩)] 111 w
def SgK (x : Sbk) (p q : Nat) (Wb : World) (v : Ssv) (w : World) : Prop := ∃ lv : Int, SgL x p q Wb v lv w

theorem SgL.below {x : Sbk} {p q : Nat} {Wb : World} {v : Ssv} {lv : Int} {w w' : World} (h : SgL x p q Wb v lv w) (hb : Below w.heap.size w w') : SgL x p q Wb v lv w' := ⟨h.1.trans (hb.mono h.1.size), h.2.below hb h.2.lt⟩
theorem SgK.below {x : Sbk} {p q : Nat} {Wb : World} {v : Ssv} {w w' : World} (h : SgK x p q Wb v w) (hb : Below w.heap.size w w') : SgK x p q Wb v w' := by
 obtain ⟨lv, h⟩ := h
 exact ⟨lv, h.below hb⟩

set_option maxHeartbeats 1000000 in
theorem anyCopy_any (c : Scp) (w : World) : Calls Tryz.prog 119 #[.agg #[.string c.service, .int .i64 c.number, .int .i64 c.version, .int .i64 c.image, .int .i64 c.state, .bool c.ending, .string c.berth]] w fun e w' => e = .returned (.bool true) ∧ Below w.heap.size w w' := by
 go_enter Tryz.func119, Tryz.ntmps119
 go_wp2_with fail
 go_ret
 exact ⟨rfl, by go_grown⟩

set_option maxHeartbeats 1000000 in
theorem failed_any (c : Scp) (w : World) : Calls Tryz.prog 123 #[.agg #[.string c.service, .int .i64 c.number, .int .i64 c.version, .int .i64 c.image, .int .i64 c.state, .bool c.ending, .string c.berth]] w fun e w' => e = .returned (.bool (c.state == 4)) ∧ Below w.heap.size w w' := by
 have hb : Below w.heap.size w (w.alloc (Obj.cells #[.string c.service, .int .i64 c.number, .int .i64 c.version, .int .i64 c.image, .int .i64 c.state, .bool c.ending, .string c.berth] 87)) := by go_grown
 have HC : Hid (Blk w.heap.size #[.string c.service, .int .i64 c.number, .int .i64 c.version, .int .i64 c.image, .int .i64 c.state, .bool c.ending, .string c.berth] 87 (w.alloc (Obj.cells #[.string c.service, .int .i64 c.number, .int .i64 c.version, .int .i64 c.image, .int .i64 c.state, .bool c.ending, .string c.berth] 87))) := Blk.alloc _ _ _
 go_enter Tryz.func123, Tryz.ntmps123
 go_upto_region 1 with fail
 generalize w.alloc (Obj.cells #[.string c.service, .int .i64 c.number, .int .i64 c.version, .int .i64 c.image, .int .i64 c.state, .bool c.ending, .string c.berth] 87) = w1 at *
 have k4 : w1.cell? ⟨w.heap.size, 4, none⟩ = some (.int .i64 c.state) := HC.out.cell rfl
 go_wp2_with fail
 go_ret
 exact ⟨rfl, hb⟩

set_option maxHeartbeats 1000000 in
theorem notReady_any (c : Scp) (w : World) : Calls Tryz.prog 145 #[.agg #[.string c.service, .int .i64 c.number, .int .i64 c.version, .int .i64 c.image, .int .i64 c.state, .bool c.ending, .string c.berth]] w fun e w' => e = .returned (.bool (c.state != 3)) ∧ Below w.heap.size w w' := by
 have hb : Below w.heap.size w (w.alloc (Obj.cells #[.string c.service, .int .i64 c.number, .int .i64 c.version, .int .i64 c.image, .int .i64 c.state, .bool c.ending, .string c.berth] 87)) := by go_grown
 have HC : Hid (Blk w.heap.size #[.string c.service, .int .i64 c.number, .int .i64 c.version, .int .i64 c.image, .int .i64 c.state, .bool c.ending, .string c.berth] 87 (w.alloc (Obj.cells #[.string c.service, .int .i64 c.number, .int .i64 c.version, .int .i64 c.image, .int .i64 c.state, .bool c.ending, .string c.berth] 87))) := Blk.alloc _ _ _
 go_enter Tryz.func145, Tryz.ntmps145
 go_upto_region 1 with fail
 generalize w.alloc (Obj.cells #[.string c.service, .int .i64 c.number, .int .i64 c.version, .int .i64 c.image, .int .i64 c.state, .bool c.ending, .string c.berth] 87) = w1 at *
 have k4 : w1.cell? ⟨w.heap.size, 4, none⟩ = some (.int .i64 c.state) := HC.out.cell rfl
 go_wp2_with fail
 go_ret
 exact ⟨rfl, hb⟩

set_option maxHeartbeats 1000000 in
theorem endOf_any (c : Scp) (w : World) : Calls Tryz.prog 140 #[.agg #[.string c.service, .int .i64 c.number, .int .i64 c.version, .int .i64 c.image, .int .i64 c.state, .bool c.ending, .string c.berth]] w fun e w' => e = .returned (.agg #[.int .i64 c.number, .int .i64 c.version]) ∧ Below w.heap.size w w' := by
 have hb : Below w.heap.size w ((w.alloc (Obj.cells #[.string c.service, .int .i64 c.number, .int .i64 c.version, .int .i64 c.image, .int .i64 c.state, .bool c.ending, .string c.berth] 87)).alloc (Obj.cells #[.int .i64 0, .int .i64 0] 125)) := by go_grown
 have HC0 : Blk w.heap.size #[.string c.service, .int .i64 c.number, .int .i64 c.version, .int .i64 c.image, .int .i64 c.state, .bool c.ending, .string c.berth] 87 (w.alloc (Obj.cells #[.string c.service, .int .i64 c.number, .int .i64 c.version, .int .i64 c.image, .int .i64 c.state, .bool c.ending, .string c.berth] 87)) := Blk.alloc _ _ _
 have HC : Hid (Blk w.heap.size #[.string c.service, .int .i64 c.number, .int .i64 c.version, .int .i64 c.image, .int .i64 c.state, .bool c.ending, .string c.berth] 87 ((w.alloc (Obj.cells #[.string c.service, .int .i64 c.number, .int .i64 c.version, .int .i64 c.image, .int .i64 c.state, .bool c.ending, .string c.berth] 87)).alloc (Obj.cells #[.int .i64 0, .int .i64 0] 125))) := HC0.below ((Below.refl _ _).alloc (Nat.le_refl _) _) HC0.lt
 have HZ : Hid (Blk (w.heap.size + 1) #[.int .i64 0, .int .i64 0] 125 ((w.alloc (Obj.cells #[.string c.service, .int .i64 c.number, .int .i64 c.version, .int .i64 c.image, .int .i64 c.state, .bool c.ending, .string c.berth] 87)).alloc (Obj.cells #[.int .i64 0, .int .i64 0] 125))) := by
  have := Blk.alloc (w.alloc (Obj.cells #[.string c.service, .int .i64 c.number, .int .i64 c.version, .int .i64 c.image, .int .i64 c.state, .bool c.ending, .string c.berth] 87)) #[.int .i64 0, .int .i64 0] 125
  show Blk _ _ _ _
  simpa using this
 clear HC0
 go_enter Tryz.func140, Tryz.ntmps140
 go_upto_region 1 with fail
 generalize (w.alloc (Obj.cells #[.string c.service, .int .i64 c.number, .int .i64 c.version, .int .i64 c.image, .int .i64 c.state, .bool c.ending, .string c.berth] 87)).alloc (Obj.cells #[.int .i64 0, .int .i64 0] 125) = w2 at *
 have hr : w.heap.size ≤ w.heap.size + 1 := by omega
 generalize w.heap.size + 1 = g at *
 have k1 : w2.cell? ⟨w.heap.size, 1, none⟩ = some (.int .i64 c.number) := HC.out.cell rfl
 have k2 : w2.cell? ⟨w.heap.size, 2, none⟩ = some (.int .i64 c.version) := HC.out.cell rfl
 have HTS := Hid.intro HZ.out.there
 obtain ⟨wf, HE⟩ : ∃ wf, Hid (wf = w2.setCells g 0 [.int .i64 c.number, .int .i64 c.version]) := ⟨_, rfl⟩
 have HRf : Hid (wf.rangeAt g 0 [.int .i64 c.number, .int .i64 c.version]) := by
  show World.rangeAt _ _ _ _
  rw [HE.out]
  exact World.rangeAt_setCells_same _ _ _ _ HTS.out
 have HBf : Hid (Below w.heap.size w wf) := by
  show Below _ _ _
  rw [HE.out]
  exact below_setCells hr _ _ _ hb
 clear hb HZ
 go_wp2_with (refine wpList_store_to rfl 125 _ _ rfl g 0 #[.int .i64 c.number, .int .i64 c.version] (by first | rfl | (simp [go_sem]; done)) rfl HTS.out isz_Sen (by simp [Value.oneCell']) wf HE.out ?_)
 exact bodyPost_ret (results_cell_mid rfl _ _ g [.int .i64 c.number, .int .i64 c.version] _ rfl HRf.out Tryz.underlying125 rfl isz_Sen) rfl ⟨rfl, HBf.out⟩

set_option maxHeartbeats 2000000 in
set_option maxRecDepth 100000 in
theorem isOld_any (x : Sbk) (p q : Nat) (Wb : World) (v : Ssv) (c : Scp) (w : World) (hK : SgK x p q Wb v w) :
  Calls Tryz.prog 121 #[.pointer (some ⟨q, 0, none⟩), .agg #[.string c.service, .int .i64 c.number, .int .i64 c.version, .int .i64 c.image, .int .i64 c.state, .bool c.ending, .string c.berth]] w fun e w' => e = .returned (.bool (c.image != v.image)) ∧ Below w.heap.size w w' := by
 have HK := Hid.intro hK
 clear hK
 have hb : Below w.heap.size w (w.alloc (Obj.cells #[.string c.service, .int .i64 c.number, .int .i64 c.version, .int .i64 c.image, .int .i64 c.state, .bool c.ending, .string c.berth] 87)) := by go_grown
 have HC : Hid (Blk w.heap.size #[.string c.service, .int .i64 c.number, .int .i64 c.version, .int .i64 c.image, .int .i64 c.state, .bool c.ending, .string c.berth] 87 (w.alloc (Obj.cells #[.string c.service, .int .i64 c.number, .int .i64 c.version, .int .i64 c.image, .int .i64 c.state, .bool c.ending, .string c.berth] 87))) := Blk.alloc _ _ _
 go_enter Tryz.func121, Tryz.ntmps121
 go_upto_region 1 with fail
 generalize w.alloc (Obj.cells #[.string c.service, .int .i64 c.number, .int .i64 c.version, .int .i64 c.image, .int .i64 c.state, .bool c.ending, .string c.berth] 87) = w1 at *
 refine wp_region_held_drew (S := fun wy => SgK x p q Wb v wy ∧ Blk w.heap.size #[.string c.service, .int .i64 c.number, .int .i64 c.version, .int .i64 c.image, .int .i64 c.state, .bool c.ending, .string c.berth] 87 wy) (by kernel_rfl) ⟨(HK.out.below hb).below (Below.refl _ _).drew, HC.out.drew⟩ (fun hS => ?_)
 have hB2 : Below w.heap.size w w1.drew := hb.drew
 clear HK HC hb
 generalize w1.drew = w2 at *
 refine tz 0 5 (.pointer (some ⟨w.heap.size, 3, none⟩)) rfl hS ?_
 simp only [pA,pB,pC,pD]
 refine tl 1 6 (.int .i64 c.image) ⟨w.heap.size, 3, none⟩ rfl (fun wy hy => hy.2.cell rfl) hS ?_
 simp only [pA,pB,pC,pD]
 refine tz 2 7 (.pointer (some ⟨q, 0, none⟩)) rfl hS ?_
 simp only [pA,pB,pC,pD]
 refine tz 3 8 (.pointer (some ⟨q, 0, none⟩)) rfl hS ?_
 simp only [pA,pB,pC,pD]
 refine tz 4 9 (.pointer (some ⟨q, 0, none⟩)) rfl hS ?_
 simp only [pA,pB,pC,pD]
 refine tz 5 10 (.pointer (some ⟨q, 3, none⟩)) rfl hS ?_
 simp only [pA,pB,pC,pD]
 refine tl 6 11 (.int .i64 v.image) ⟨q, 3, none⟩ rfl (fun wy hy => by obtain ⟨lv, _, hb⟩ := hy.1; exact hb.cell rfl) hS ?_
 simp only [pA,pB,pC,pD]
 refine tz 7 12 (.bool (c.image != v.image)) rfl hS ?_
 simp only [pA,pB,pC,pD]
 refine tz 8 4 (.bool (c.image != v.image)) rfl hS ?_
 simp only [pA,pB,pC,pD]
 refine wpAnyH_done (by kernel_rfl) ?_ _
 clear hS
 go_wp2_with fail
 go_ret
 exact ⟨rfl, hB2⟩

def dnB (x : Sbk) (s : ByteArray) : Bool := match x.berths.find? (fun t => decide (t.name = s)) with
 | some t => t.drain
 | none => false

theorem asc_uniqB {xs : List Sbt} (h : ∀ (j : Nat) u v, xs[j]? = some u → xs[j + 1]? = some v → Op.bytesLess u.name.toList v.name.toList = true) : ∀ (j k : Nat) u v, xs[j]? = some u → xs[k]? = some v → u.name = v.name → j = k := by
 have hl : ∀ (d i : Nat) u v, xs[i]? = some u → xs[i + d + 1]? = some v → Op.bytesLess u.name.toList v.name.toList = true := by
  intro d
  induction d with
  | zero => exact fun i u v h1 h2 => h i u v h1 h2
  | succ d ih =>
   intro i u v h1 h2
   have hd : i + d + 1 < xs.length := by have := lt_of_some h2; omega
   have h3 : xs[i + d + 1]? = some xs[i + d + 1] := List.getElem?_eq_getElem hd
   exact bl_tr _ _ _ (ih i u _ h1 h3) (h _ _ _ h3 h2)
 intro j k u v hj hk he
 rcases Nat.lt_trichotomy j k with c | c | c
 ·have := hl (k - j - 1) j u v hj (by rw [show j + (k - j - 1) + 1 = k by omega]; exact hk)
  rw [he, bl_irr] at this
  cases this
 ·exact c
 ·have := hl (j - k - 1) k v u hk (by rw [show k + (j - k - 1) + 1 = j by omega]; exact hj)
  rw [he, bl_irr] at this
  cases this

theorem last_bthU {x : Sbk} {s : ByteArray} (hu : ∀ (j k : Nat) u v, x.berths[j]? = some u → x.berths[k]? = some v → u.name = v.name → j = k) :
  (lastOf (ksB x) (s, 0) x.berths.length = none ∧ x.berths.find? (fun b => decide (b.name = s)) = none) ∨ ∃ (k : Nat) (v : Sbt), lastOf (ksB x) (s, 0) x.berths.length = some k ∧ x.berths[k]? = some v ∧ v.name = s ∧ x.berths.find? (fun b => decide (b.name = s)) = some v := by
 have e : (fun b : Sbt => decide ((b.name, (0 : Int)) = (s, 0))) = fun b => decide (b.name = s) := by funext b; simp
 have h := last_gen (fun v : Sbt => (v.name, (0 : Int))) (xs := x.berths) (s := (s, 0)) (fun j k u v h1 h2 h3 => hu j k u v h1 h2 (congrArg Prod.fst h3))
 rw [e] at h
 rcases h with h | ⟨k, v, h1, h2, h3, h4⟩
 ·exact .inl h
 ·exact .inr ⟨k, v, h1, h2, congrArg Prod.fst h3, h4⟩

set_option maxHeartbeats 4000000 in
set_option maxRecDepth 100000 in
theorem drains_any2 (x : Sbk) (a1 : Option Addr) (c1 : Nat) (b2 o2 c2 : Nat) (a3 : Option Addr) (c3 : Nat) (p m n lo : Nat) (s : ByteArray) (w : World) (hF : FndS x a1 c1 (some ⟨b2, o2, none⟩) c2 a3 c3 p m n lo w) (hs : s.size ≤ maxLen) (hu : ∀ (j k : Nat) u v, x.berths[j]? = some u → x.berths[k]? = some v → u.name = v.name → j = k) :
  Calls Tryz.prog 84 #[.pointer (some ⟨p, 0, none⟩), .string s] w fun e w' => e = .returned (.bool (dnB x s)) ∧ Below w.heap.size w w' := by
 have HU := Hid.intro (last_bthU (s := s) hu)
 have HL : Hid (∀ wy, FndS x a1 c1 (some ⟨b2, o2, none⟩) c2 a3 c3 p m n lo wy → _) := fun wy hy => look_bth hy.own hs
 have HB := Hid.intro (last_bth x s)
 have HF1 := Hid.intro hF
 clear hF
 go_enter Tryz.func84, Tryz.ntmps84
 go_upto_region 1 with fail
 refine wp_region_held_drew (S := fun wy => FndS x a1 c1 (some ⟨b2, o2, none⟩) c2 a3 c3 p m n lo wy) (by kernel_rfl) (HF1.out.below (Below.refl _ _).drew) (fun hS => ?_)
 have hB2 : Below w.heap.size w w.drew := (Below.refl _ _).drew
 clear HF1
 obtain ⟨w2, HW2⟩ : ∃ w2, Hid (w2 = w.drew) := ⟨_, rfl⟩
 rw [← HW2.out] at hS hB2 ⊢
 clear HW2
 rcases HU.out with ⟨e1, e2⟩ | ⟨k, v, e1, e2, e3, e4⟩
 ·have HLK := HL.out
  have h7 := HB.out
  rw [e1] at h7
  rw [← h7, e1] at HLK
  simp only [Option.getD_none, Option.isSome_none] at HLK
  have HLK := Hid.intro HLK
  have HE : Hid (dnB x s = false) := by show _ = _; unfold dnB; rw [e2]
  clear e1 e2 h7 HU HL HB
  refine tz 0 8 (.pointer (some ⟨p, 0, none⟩)) rfl hS ?_
  simp only [pA,pB,pC,pD]
  refine tz 1 9 (.pointer (some ⟨p, 0, none⟩)) rfl hS ?_
  simp only [pA,pB,pC,pD]
  refine tz 2 10 (.pointer (some ⟨p, 4, none⟩)) rfl hS ?_
  simp only [pA,pB,pC,pD]
  refine tl 3 11 (.map (some m)) ⟨p, 4, none⟩ rfl (fun wy hy => hy.blk.cell rfl) hS ?_
  simp only [pA,pB,pC,pD]
  refine tz 4 12 (.string s) rfl hS ?_
  simp only [pA,pB,pC,pD]
  refine rd1 5 ⟨some 13, _, _, _, _, none⟩ rfl (fun K hK => ?_)
  go_simp
  refine (bthKey_any s _).mono ?_
  rintro e w3 ⟨rfl, hbk⟩
  have HF3 := Hid.intro (hS.below hbk)
  have hB3 : Below w.heap.size w w3 := hB2.trans (hbk.mono hB2.size)
  clear hB2
  refine hK.out _ _ HF3.out (fun hS => ?_)
  clear hK K
  refine ty 6 ⟨some 14, _, _, _, _, none⟩ (.tuple #[.int .i64 0, .bool false]) rfl (by rfl) ?_ hS ?_
  ·intro wy hy
   have h0 := HLK.out wy hy
   clear hy
   go_simp
  simp only [pA,pB,pC,pD]
  refine tz 7 7 (.tuple #[.int .i64 0, .bool false]) rfl hS ?_
  simp only [pA,pB,pC,pD]
  refine tz 8 15 (.int .i64 0) rfl hS ?_
  simp only [pA,pB,pC,pD]
  refine tz 9 16 (.bool false) rfl hS ?_
  simp only [pA,pB,pC,pD]
  refine tz 10 5 (.int .i64 0) rfl hS ?_
  simp only [pA,pB,pC,pD]
  refine tz 11 6 (.bool false) rfl hS ?_
  simp only [pA,pB,pC,pD]
  refine wpAnyH_done (by kernel_rfl) ?_ _
  clear hS
  clear HLK hbk
  go_wp2_with fail
  go_ret
  exact ⟨ret_bool HE.out.symm, hB3⟩
 ·have HLK := HL.out
  have h7 := HB.out
  rw [e1] at h7
  rw [← h7, e1] at HLK
  simp only [Option.getD_some, Option.isSome_some] at HLK
  have HLK := Hid.intro HLK
  have HE : Hid (dnB x s = v.drain) := by show _ = _; unfold dnB; rw [e4]
  have hkl : k < x.berths.length := lt_of_some e2
  have HE2 := Hid.intro e2
  clear e1 e2 h7 HU HL HB e3 e4
  refine tz 0 8 (.pointer (some ⟨p, 0, none⟩)) rfl hS ?_
  simp only [pA,pB,pC,pD]
  refine tz 1 9 (.pointer (some ⟨p, 0, none⟩)) rfl hS ?_
  simp only [pA,pB,pC,pD]
  refine tz 2 10 (.pointer (some ⟨p, 4, none⟩)) rfl hS ?_
  simp only [pA,pB,pC,pD]
  refine tl 3 11 (.map (some m)) ⟨p, 4, none⟩ rfl (fun wy hy => hy.blk.cell rfl) hS ?_
  simp only [pA,pB,pC,pD]
  refine tz 4 12 (.string s) rfl hS ?_
  simp only [pA,pB,pC,pD]
  refine rd1 5 ⟨some 13, _, _, _, _, none⟩ rfl (fun K hK => ?_)
  go_simp
  refine (bthKey_any s _).mono ?_
  rintro e w3 ⟨rfl, hbk⟩
  have HF3 := Hid.intro (hS.below hbk)
  have hB3 : Below w.heap.size w w3 := hB2.trans (hbk.mono hB2.size)
  clear hB2
  refine hK.out _ _ HF3.out (fun hS => ?_)
  clear hK K
  refine ty 6 ⟨some 14, _, _, _, _, none⟩ (.tuple #[.int .i64 k, .bool true]) rfl (by rfl) ?_ hS ?_
  ·intro wy hy
   have h0 := HLK.out wy hy
   clear hy
   go_simp
  simp only [pA,pB,pC,pD]
  refine tz 7 7 (.tuple #[.int .i64 k, .bool true]) rfl hS ?_
  simp only [pA,pB,pC,pD]
  refine tz 8 15 (.int .i64 k) rfl hS ?_
  simp only [pA,pB,pC,pD]
  refine tz 9 16 (.bool true) rfl hS ?_
  simp only [pA,pB,pC,pD]
  refine tz 10 5 (.int .i64 k) rfl hS ?_
  simp only [pA,pB,pC,pD]
  refine tz 11 6 (.bool true) rfl hS ?_
  simp only [pA,pB,pC,pD]
  refine wpAnyH_done (by kernel_rfl) ?_ _
  clear hS
  clear HLK hbk
  have k3 : w3.cell? ⟨p, 3, none⟩ = some (.slice a3 x.berths.length c3) := HF3.out.blk.cell rfl
  obtain ⟨b, o, ea, _, hbl, hc⟩ := HF3.out.n3.at HE2.out
  subst ea
  have k4 : w3.cell? ⟨b, o + k * 2 + 1, none⟩ = some (.bool v.drain) := hc.2.1
  have hin : (k : Int) < (x.berths.length : Int) := by omega
  clear hc HE2
  go_wp2_with fail
  go_ret
  exact ⟨ret_bool HE.out.symm, hB3⟩

set_option maxHeartbeats 2000000 in
set_option maxRecDepth 100000 in
theorem isLeaving_any (x : Sbk) (a1 : Option Addr) (c1 : Nat) (b2 o2 c2 : Nat) (a3 : Option Addr) (c3 : Nat) (p m n lo q : Nat) (Wb : World) (v : Ssv) (c : Scp) (w : World) (hF : FndS x a1 c1 (some ⟨b2, o2, none⟩) c2 a3 c3 p m n lo Wb) (hK : SgK x p q Wb v w) (hz : c.berth.size ≤ maxLen) (hu : ∀ (j k : Nat) u v, x.berths[j]? = some u → x.berths[k]? = some v → u.name = v.name → j = k) :
  Calls Tryz.prog 61 #[.pointer (some ⟨q, 0, none⟩), .agg #[.string c.service, .int .i64 c.number, .int .i64 c.version, .int .i64 c.image, .int .i64 c.state, .bool c.ending, .string c.berth]] w fun e w' => e = .returned (.bool (dnB x c.berth)) ∧ Below w.heap.size w w' := by
 have HF := Hid.intro hF
 have HU := Hid.intro hu
 have HZ := Hid.intro hz
 have HK := Hid.intro hK
 clear hK hF hu hz
 have hb : Below w.heap.size w (w.alloc (Obj.cells #[.string c.service, .int .i64 c.number, .int .i64 c.version, .int .i64 c.image, .int .i64 c.state, .bool c.ending, .string c.berth] 87)) := by go_grown
 have HC : Hid (Blk w.heap.size #[.string c.service, .int .i64 c.number, .int .i64 c.version, .int .i64 c.image, .int .i64 c.state, .bool c.ending, .string c.berth] 87 (w.alloc (Obj.cells #[.string c.service, .int .i64 c.number, .int .i64 c.version, .int .i64 c.image, .int .i64 c.state, .bool c.ending, .string c.berth] 87))) := Blk.alloc _ _ _
 go_enter Tryz.func61, Tryz.ntmps61
 go_upto_region 1 with fail
 generalize w.alloc (Obj.cells #[.string c.service, .int .i64 c.number, .int .i64 c.version, .int .i64 c.image, .int .i64 c.state, .bool c.ending, .string c.berth] 87) = w1 at *
 refine wp_region_held_drew (S := fun wy => SgK x p q Wb v wy ∧ Blk w.heap.size #[.string c.service, .int .i64 c.number, .int .i64 c.version, .int .i64 c.image, .int .i64 c.state, .bool c.ending, .string c.berth] 87 wy) (by kernel_rfl) ⟨(HK.out.below hb).below (Below.refl _ _).drew, HC.out.drew⟩ (fun hS => ?_)
 have hB2 : Below w.heap.size w w1.drew := hb.drew
 clear HK HC hb
 generalize w1.drew = w2 at *
 refine tz 0 5 (.pointer (some ⟨q, 0, none⟩)) rfl hS ?_
 simp only [pA,pB,pC,pD]
 refine tz 1 6 (.pointer (some ⟨q, 0, none⟩)) rfl hS ?_
 simp only [pA,pB,pC,pD]
 refine tz 2 7 (.pointer (some ⟨q, 20, none⟩)) rfl hS ?_
 simp only [pA,pB,pC,pD]
 refine tl 3 8 (.pointer (some ⟨p, 0, none⟩)) ⟨q, 20, none⟩ rfl (fun wy hy => by obtain ⟨lv, _, hb⟩ := hy.1; exact hb.cell rfl) hS ?_
 simp only [pA,pB,pC,pD]
 refine tz 4 9 (.pointer (some ⟨w.heap.size, 6, none⟩)) rfl hS ?_
 simp only [pA,pB,pC,pD]
 refine tl 5 10 (.string c.berth) ⟨w.heap.size, 6, none⟩ rfl (fun wy hy => hy.2.cell rfl) hS ?_
 simp only [pA,pB,pC,pD]
 refine rd1 6 ⟨some 11, _, _, _, _, none⟩ rfl (fun K hK => ?_)
 go_simp
 refine (drains_any2 x a1 c1 b2 o2 c2 a3 c3 p m n lo c.berth _ (HF.out.below (by obtain ⟨lv, hb, _⟩ := hS.1; exact hb)) HZ.out HU.out).mono ?_
 rintro e w3 ⟨rfl, hbk⟩
 have hB3 : Below w.heap.size w w3 := hB2.trans (hbk.mono hB2.size)
 clear hB2
 refine hK.out _ _ ⟨hS.1.below hbk, hS.2.below hbk hS.2.lt⟩ (fun hS => ?_)
 clear hK K
 refine tz 7 4 (.bool (dnB x c.berth)) rfl hS ?_
 simp only [pA,pB,pC,pD]
 refine wpAnyH_done (by kernel_rfl) ?_ _
 clear hS
 go_wp2_with fail
 go_ret
 exact ⟨rfl, hB3⟩

end Go.Proofs.YtnggdpjfmpjlhaaGreat
