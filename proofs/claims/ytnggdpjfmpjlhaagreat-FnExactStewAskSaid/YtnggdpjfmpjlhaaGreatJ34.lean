import Derived.Test.YtnggdpjfmpjlhaaGreatTkw
import Derived.Test.YtnggdpjfmpjlhaaGreatJ33
import Derived.RangeFuncNested
import Derived.RangeFuncBound
import Derived.RangeFuncCalls
import Derived.RangeFuncLeaves
import Derived.Shelf.Abstract
import Derived.Shelf.RegionOpen
import Derived.OwnWalkIn
import Derived.TacticsInMore
import Derived.LoopNIn
import Derived.LoopIn
namespace Go.Proofs.YtnggdpjfmpjlhaaGreat
open Go.RowKit

structure But (p B : Nat) (w w' : World) : Prop where
 os : w'.os = w.os
 tape : w'.tape = w.tape
 output : w'.output = w.output
 size : w.heap.size ≤ w'.heap.size
 block : ∀ k, k < B → k ≠ p → w'.heap[k]? = w.heap[k]?

theorem But.refl (p B : Nat) (w : World) : But p B w w := ⟨rfl, rfl, rfl, Nat.le_refl _, fun _ _ _ => rfl⟩
theorem But.trans {p B : Nat} {a b c : World} (h : But p B a b) (k : But p B b c) : But p B a c :=
 ⟨k.os.trans h.os, k.tape.trans h.tape, k.output.trans h.output, Nat.le_trans h.size k.size, fun i hi hp => (k.block i hi hp).trans (h.block i hi hp)⟩
theorem But.mono {p B B' : Nat} {w w' : World} (h : But p B w w') (hB : B' ≤ B) : But p B' w w' := ⟨h.os, h.tape, h.output, h.size, fun k hk => h.block k (Nat.lt_of_lt_of_le hk hB)⟩
theorem But.of_below {p B : Nat} {w w' : World} (h : Below B w w') : But p B w w' := ⟨h.os, h.tape, h.output, h.size, fun k hk _ => h.block k hk⟩
theorem But.set {p B : Nat} {a w : World} (h : But p B a w) (o : Nat) (v : Value) : But p B a (w.setCell ⟨p, o, none⟩ v) :=
 h.trans ⟨rfl, rfl, rfl, by simp [World.setCell], fun k _ hp => Below.heap_setCell _ _ _ _ hp⟩
theorem But.drew {p B : Nat} {a w : World} (h : But p B a w) : But p B a w.drew := ⟨h.os, h.tape, h.output, h.size, h.block⟩
theorem But.below {p B B' : Nat} {w w' : World} (h : But p B w w') (hB : B' ≤ B) (hp : B' ≤ p) : Below B' w w' := ⟨h.os, h.tape, h.output, h.size, fun k hk => h.block k (by omega) (by omega)⟩

theorem But.cell {p B : Nat} {w w' : World} (h : But p B w w') {a : Addr} (h1 : a.block < B) (h2 : a.block ≠ p) : w'.cell? a = w.cell? a := World.cell?_of_block (w := w) (h.block a.block h1 h2)

theorem grown_below {w w' : World} (h : Below w.heap.size w w') : w.grownBy w' none := ⟨h.os, h.tape, h.output, h.size, fun k hk _ => h.block k hk⟩

set_option maxHeartbeats 1000000 in
theorem copiesOf_any (p : Nat) (s : ByteArray) (w : World) :
  Calls Tryz.prog 82 #[.pointer (some ⟨p, 0, none⟩), .string s] w fun e w' => e = .returned (.func (.func 114) #[] #[.pointer (some ⟨w.heap.size, 0, none⟩), .pointer (some ⟨w.heap.size + 1, 0, none⟩)]) ∧ w' = (w.alloc (Obj.cells #[.pointer (some ⟨p, 0, none⟩)] 54)).alloc (Obj.cells #[.string s] 9) := by
 go_enter Tryz.func82, Tryz.ntmps82
 go_wp2_with fail
 go_ret
 exact ⟨rfl, rfl⟩

theorem asc_le {xs : List Scp} (h : ∀ (j : Nat) u v, xs[j]? = some u → xs[j + 1]? = some v → ahB u v = true) : ∀ (d j : Nat) u v, xs[j]? = some u → xs[j + d]? = some v → Op.bytesLess u.service.data.toList v.service.data.toList = true ∨ u.service.data.toList = v.service.data.toList := by
 have hs : ∀ u v : Scp, ahB u v = true → Op.bytesLess u.service.data.toList v.service.data.toList = true ∨ u.service.data.toList = v.service.data.toList := by
  intro u v huv
  unfold ahB at huv
  rw [ByteArray.toList_eq, ByteArray.toList_eq] at huv
  simp only [Bool.or_eq_true, Bool.and_eq_true, beq_iff_eq] at huv
  rcases huv with h1 | h1
  ·exact .inl h1
  ·exact .inr h1.1
 intro d
 induction d with
 | zero =>
  intro j u v h1 h2
  have : u = v := Option.some.inj (h1.symm.trans h2)
  rw [this]
  exact .inr rfl
 | succ d ih =>
  intro j u v h1 h2
  have hd : j + d < xs.length := by have := lt_of_some h2; omega
  have h4 : xs[j + d]? = some xs[j + d] := List.getElem?_eq_getElem hd
  rcases ih j u _ h1 h4 with h5 | h5 <;> rcases hs _ _ (h (j + d) _ _ h4 h2) with h6 | h6
  ·exact .inl (bl_tr _ _ _ h5 h6)
  ·exact .inl (h6 ▸ h5)
  ·exact .inl (h5 ▸ h6)
  ·exact .inr (h5.trans h6)

theorem data_inj {a b : ByteArray} (h : a.data.toList = b.data.toList) : a = b := by
 cases a with | mk x => cases b with | mk y => cases x; cases y; simp at h; simp [h]

theorem told_all {xs : List Scp} {s : ByteArray} (h : ∀ (j : Nat) u v, xs[j]? = some u → xs[j + 1]? = some v → ahB u v = true) {i k : Nat} (hA : ∀ (j : Nat) u, j < i → xs[j]? = some u → Lib.compareBytes u.service.data.toList s.data.toList < 0) (hC : ∀ (j : Nat) u, i ≤ j → xs[j]? = some u → 0 ≤ Lib.compareBytes u.service.data.toList s.data.toList)
  (hK : ∀ (j : Nat) u, j < k → xs[i + j]? = some u → u.service = s) (hE : xs.length ≤ i + k ∨ ∃ u, xs[i + k]? = some u ∧ u.service ≠ s) : xs.filter (fun c => decide (c.service = s)) = (xs.drop i).take k := by
 have e1 : xs = xs.take i ++ ((xs.drop i).take k ++ (xs.drop i).drop k) := by rw [List.take_append_drop, List.take_append_drop]
 have f1 : (xs.take i).filter (fun c => decide (c.service = s)) = [] := by
  rw [List.filter_eq_nil_iff]
  intro c hc
  obtain ⟨j, hj⟩ := List.getElem?_of_mem hc
  rw [List.getElem?_take] at hj
  split at hj
  next hji =>
   have h9 := hA j c hji hj
   intro e
   have e : c.service = s := by simpa using e
   rw [e] at h9
   rcases cmpL_cases s.data.toList s.data.toList with ⟨_, _, _, e4⟩ | ⟨e1, _, _, _⟩ | ⟨_, _, _, e4⟩
   ·exact e4 rfl
   ·rw [e1] at h9; omega
   ·exact e4 rfl
  next => cases hj
 have f2 : ((xs.drop i).take k).filter (fun c => decide (c.service = s)) = (xs.drop i).take k := by
  rw [List.filter_eq_self]
  intro c hc
  obtain ⟨j, hj⟩ := List.getElem?_of_mem hc
  rw [List.getElem?_take] at hj
  split at hj
  next hji =>
   rw [List.getElem?_drop] at hj
   exact decide_eq_true (hK j c hji hj)
  next => cases hj
 have f3 : ((xs.drop i).drop k).filter (fun c => decide (c.service = s)) = [] := by
  rw [List.filter_eq_nil_iff]
  intro c hc
  obtain ⟨j, hj⟩ := List.getElem?_of_mem hc
  rw [List.getElem?_drop, List.getElem?_drop] at hj
  have hjl := lt_of_some hj
  intro e
  have e : c.service = s := by simpa using e
  rcases hE with hE | ⟨u, hu, hne⟩
  ·omega
  ·have h5 := asc_le h j (i + k) u c hu (by rw [show i + k + j = i + (k + j) by omega]; exact hj)
   rw [e] at h5
   have h6 := hC (i + k) u (by omega) hu
   rcases cmpL_cases u.service.data.toList s.data.toList with ⟨e1, e2, e3, e4⟩ | ⟨e1, e2, e3, e4⟩ | ⟨e1, e2, e3, e4⟩
   ·rw [e1] at h6; omega
   ·exact hne (data_inj e4)
   ·rcases h5 with h5 | h5
    ·rw [e2] at h5; cases h5
    ·exact e4 h5
 conv => lhs; rw [e1]
 rw [List.filter_append, List.filter_append, f1, f2, f3]
 simp

abbrev cpEnc (c : Scp) : Array Value := #[.agg #[.string c.service, .int .i64 c.number, .int .i64 c.version, .int .i64 c.image, .int .i64 c.state, .bool c.ending, .string c.berth]]

def CpIn (p B1 B2 b o c2 : Nat) (x : Sbk) (s : ByteArray) (w : World) : Prop := w.cell? ⟨B1, 0, none⟩ = some (.pointer (some ⟨p, 0, none⟩)) ∧ w.cell? ⟨B2, 0, none⟩ = some (.string s) ∧ w.cell? ⟨p, 2, none⟩ = some (.slice (some ⟨b, o, none⟩) x.copies.length c2)

theorem CpIn.below {p B1 B2 b o c2 : Nat} {x : Sbk} {s : ByteArray} {w w' : World} (h : CpIn p B1 B2 b o c2 x s w) (hb : Below w.heap.size w w') : CpIn p B1 B2 b o c2 x s w' :=
 ⟨(hb.cell (p := ⟨B1, 0, none⟩) (block_lt_of_cell h.1)).trans h.1, (hb.cell (p := ⟨B2, 0, none⟩) (block_lt_of_cell h.2.1)).trans h.2.1, (hb.cell (p := ⟨p, 2, none⟩) (block_lt_of_cell h.2.2)).trans h.2.2⟩

theorem CpIn.but {p B1 B2 b o c2 : Nat} {x : Sbk} {s : ByteArray} {w w' : World} {g n₀ : Nat} (h : CpIn p B1 B2 b o c2 x s w) (hb : But g n₀ w w') (k1 : B1 < n₀ ∧ B1 ≠ g) (k2 : B2 < n₀ ∧ B2 ≠ g) (k3 : p < n₀ ∧ p ≠ g) : CpIn p B1 B2 b o c2 x s w' :=
 ⟨(hb.cell (a := ⟨B1, 0, none⟩) k1.1 k1.2).trans h.1, (hb.cell (a := ⟨B2, 0, none⟩) k2.1 k2.2).trans h.2.1, (hb.cell (a := ⟨p, 2, none⟩) k3.1 k3.2).trans h.2.2⟩

set_option maxHeartbeats 8000000 in
set_option maxRecDepth 100000 in
theorem copies_stops (p B1 B2 g n₀ : Nat) (x : Sbk) (b o c2 : Nat) (s : ByteArray) (lo : Nat) (W0 w : World) (hW : Below W0.heap.size W0 w) (n2 : SliceC ScpC 7 lo W0 (some ⟨b, o, none⟩) x.copies) (hI : CpIn p B1 B2 b o c2 x s w) (l2 : x.copies.length ≤ 200) (hcap : x.copies.length ≤ c2)
  (hv : ∀ (j : Nat) u v, x.copies[j]? = some u → x.copies[j + 1]? = some v → ahB u v = true) (hn0 : W0.heap.size ≤ n₀) (hg : W0.heap.size ≤ g) (hn : n₀ ≤ w.heap.size) (k1 : B1 < n₀ ∧ B1 ≠ g) (k2 : B2 < n₀ ∧ B2 ≠ g) (k3 : p < n₀ ∧ p ≠ g) :
  SeqStopsK Fence.wide 5 Tryz.prog 114 #[.pointer (some ⟨B1, 0, none⟩), .pointer (some ⟨B2, 0, none⟩)] cpEnc (But g n₀) (fun xs => xs = x.copies.filter (fun c => decide (c.service = s))) (fun _ => True) 200 w := by
 intro l J Jx W hbW hJ _ hY h0
 refine callsIn_wide.2 ?_
 have N2 := Hid.intro n2
 have HV := Hid.intro hv
 have HW : Hid (Below W0.heap.size W0 W) := hW.trans (hbW.mono hW.size)
 have HI := Hid.intro (hI.below hbW)
 have HY := Hid.intro hY
 have HJ := Hid.intro hJ
 have H0 := Hid.intro h0
 have hWs : n₀ ≤ W.heap.size := Nat.le_trans hn hbW.size
 clear n2 hW hI hbW hJ hY h0 hv
 show Calls Tryz.prog 114 #[.func (.yield l) #[] #[], .pointer (some ⟨B1, 0, none⟩), .pointer (some ⟨B2, 0, none⟩)] W _
 go_enter Tryz.func114, Tryz.ntmps114
 go_wp2_with fail
 refine wp_region_held_drew (S := fun wy => CpIn p B1 B2 b o c2 x s wy) (by kernel_rfl) HI.out (fun hS => ?_)
 have HW2 : Hid (Below W0.heap.size W0 W.drew) := HW.out.drew
 have H2 : Hid (J [] W.drew) := HJ.out [] W _ none H0.out ⟨rfl, rfl, rfl, Nat.le_refl _, fun _ _ _ => rfl⟩ (fun r e => by cases e)
 have hs2 : W.heap.size ≤ W.drew.heap.size := Nat.le_refl _
 clear HI HW H0
 generalize hwd : W.drew = wd at *
 clear hwd
 refine ty 0 ⟨some 9, _, _, _, _, none⟩ (.pointer (some ⟨p, 0, none⟩)) rfl (by rfl) ?_ hS ?_
 ·intro wy hy
  have h0 := hy.1
  clear hy
  go_simp
 simp only [pA,pB,pC,pD]
 refine tz 1 10 (.pointer (some ⟨p, 0, none⟩)) rfl hS ?_
 simp only [pA,pB,pC,pD]
 refine tz 2 11 (.pointer (some ⟨p, 0, none⟩)) rfl hS ?_
 simp only [pA,pB,pC,pD]
 refine tz 3 12 (.pointer (some ⟨p, 2, none⟩)) rfl hS ?_
 simp only [pA,pB,pC,pD]
 refine ty 4 ⟨some 13, _, _, _, _, none⟩ (.slice (some ⟨b, o, none⟩) x.copies.length c2) rfl (by rfl) ?_ hS ?_
 ·intro wy hy
  have h0 := hy.2.2
  clear hy
  go_simp
 simp only [pA,pB,pC,pD]
 refine ty 5 ⟨some 14, _, _, _, _, none⟩ (.string s) rfl (by rfl) ?_ hS ?_
 ·intro wy hy
  have h0 := hy.2.1
  clear hy
  go_simp
 simp only [pA,pB,pC,pD]
 refine rd1 6 ⟨some 15, _, _, _, _, none⟩ rfl (fun K hK => ?_)
 go_simp
 refine (bsCopies_any x.copies s (some ⟨b, o, none⟩) c2 lo _ (N2.out.below ScpC.holds HW2.out (Nat.le_refl _)) (by omega) (asc_mono HV.out s)).mono ?_
 rintro e w3 ⟨i, q, rfl, hil, hA, hC, hb3⟩
 have HW3 := Hid.intro (HW2.out.trans (hb3.mono HW2.out.size))
 have H3 : Hid (J [] w3) := HJ.out [] wd _ none H2.out (grown_below hb3) (fun r e => by cases e)
 have hs3 : W.heap.size ≤ w3.heap.size := Nat.le_trans hs2 hb3.size
 have HA := Hid.intro hA
 have HC := Hid.intro hC
 refine hK.out _ _ (hS.below hb3) (fun hS => ?_)
 clear hK K
 clear hb3 HW2 H2 hs2 hA hC
 refine tz 7 8 (.tuple #[.int .i64 i, .bool q]) rfl hS ?_
 simp only [pA,pB,pC,pD]
 refine tz 8 16 (.int .i64 i) rfl hS ?_
 simp only [pA,pB,pC,pD]
 refine tz 9 17 (.bool q) rfl hS ?_
 simp only [pA,pB,pC,pD]
 refine tz 10 4 (.int .i64 i) rfl hS ?_
 simp only [pA,pB,pC,pD]
 refine tz 11 5 (.bool q) rfl hS ?_
 simp only [pA,pB,pC,pD]
 have HI3 := Hid.intro hS
 refine wpAnyH_done (by kernel_rfl) ?_ _
 clear hS
 have i0 := HI3.out.1
 have i1 := HI3.out.2.1
 have i2 := HI3.out.2.2
 have hi1 : (i : Int) ≤ (x.copies.length : Int) := by omega
 by_cases hie : i = x.copies.length
 ·have HE : Hid (([] : List Scp) = x.copies.filter (fun c => decide (c.service = s))) := by
   show _ = _
   rw [told_all (k := 0) HV.out HA.out HC.out (fun j u h => by omega) (.inl (by omega))]
   simp
  have hlz : x.copies.length - i = 0 := by omega
  go_wp2_with fail
  all_goals
   go_loopw [26] (fun v wr => v = .int .i64 0 ∧ wr = w3) (fun _ _ => 0)
   case atStart => exact ⟨rfl, rfl⟩
   case round =>
    obtain ⟨rfl, rfl⟩ := hrel
    go_wp2_with fail
    first | go_end0 | ((try simp only [Exit.inBlock, Exit.then]); refine bodyPost_ret (results_none rfl _ _ _) rfl ?_)
    exact ⟨⟨_, rfl⟩, Or.inl ⟨[], HE.out, H3.out⟩⟩
 have hlt : i < x.copies.length := by omega
 have hne : ¬ c2 = i := by omega
 have hin : (i : Int) < (x.copies.length : Int) := by omega
 have HIE := Hid.intro hlt
 go_wp2_with fail
 clear i0 i1 i2 hi1 hin hie hlt
 go_loopw [26] (fun v wr => ∃ (k : Nat) (pre : List Scp), k ≤ x.copies.length - i ∧ v = .int .i64 k ∧ Hid (pre = (x.copies.drop i).take k) ∧ Hid (∀ (j : Nat) u, j < k → x.copies[i + j]? = some u → u.service = s) ∧ Hid (J pre wr) ∧ Hid (CpIn p B1 B2 b o c2 x s wr) ∧ Hid (Below W0.heap.size W0 wr) ∧ W.heap.size ≤ wr.heap.size) (fun v _ => x.copies.length - i - (intOf v).toNat)
 case atStart => exact ⟨0, [], Nat.zero_le _, rfl, (by show _ = _; simp), fun j u h => by omega, H3, HI3, HW3, hs3⟩
 case round =>
  clear H3 HI3 HW3 hs3
  obtain ⟨k, pre, hk, rfl, hP, hK, hJ, hI, hB, hws⟩ := hrel
  by_cases hlt : k < x.copies.length - i
  case neg =>
   have HE : Hid (pre = x.copies.filter (fun c => decide (c.service = s))) := by
    show _ = _
    rw [told_all (k := k) HV.out HA.out HC.out hK.out (.inl (by omega))]
    exact hP.out
   go_wp2_with fail
   first | go_end0 | ((try simp only [Exit.inBlock, Exit.then]); refine bodyPost_ret (results_none rfl _ _ _) rfl ?_)
   exact ⟨⟨_, rfl⟩, Or.inl ⟨pre, HE.out, hJ.out⟩⟩
  obtain ⟨y, hy⟩ : ∃ y, x.copies[i + k]? = some y := ⟨x.copies[i + k]'(by omega), List.getElem?_eq_getElem (by omega)⟩
  obtain ⟨b', o', ea, _, hbl, hc⟩ := (N2.out.below ScpC.holds hB.out (Nat.le_refl _)).at hy
  cases ea
  have HRY : Hid (wr.rangeAt b (o + i * 7 + k * 7) [.string y.service, .int .i64 y.number, .int .i64 y.version, .int .i64 y.image, .int .i64 y.state, .bool y.ending, .string y.berth]) := by
   have h9 := rngScp hc
   rw [show o + (i + k) * 7 = o + i * 7 + k * 7 by omega] at h9
   exact h9
  have HYY := Hid.intro hy
  have hpl : pre.length < 200 := by rw [hP.out, List.length_take, List.length_drop]; omega
  have HPL := Hid.intro hpl
  have HP2 : Hid (pre ++ [y] = (x.copies.drop i).take (k + 1)) := by
   show _ = _
   rw [List.take_add_one, ← hP.out, List.getElem?_drop, hy]
   rfl
  clear hc hy hpl
  have hza : Blk wr.heap.size #[.string ⟨#[]⟩, .int .i64 0, .int .i64 0, .int .i64 0, .int .i64 0, .bool false, .string ⟨#[]⟩] 87 (wr.alloc (Obj.cells #[.string ⟨#[]⟩, .int .i64 0, .int .i64 0, .int .i64 0, .int .i64 0, .bool false, .string ⟨#[]⟩] 87)) := Blk.alloc _ _ _
  have HTS : Hid ((wr.alloc (Obj.cells #[.string ⟨#[]⟩, .int .i64 0, .int .i64 0, .int .i64 0, .int .i64 0, .bool false, .string ⟨#[]⟩] 87)).there wr.heap.size 0 7) := hza.there
  obtain ⟨w5, HW5⟩ : ∃ w5, Hid (w5 = (wr.alloc (Obj.cells #[.string ⟨#[]⟩, .int .i64 0, .int .i64 0, .int .i64 0, .int .i64 0, .bool false, .string ⟨#[]⟩] 87)).setCells wr.heap.size 0 [.string y.service, .int .i64 y.number, .int .i64 y.version, .int .i64 y.image, .int .i64 y.state, .bool y.ending, .string y.berth]) := ⟨_, rfl⟩
  have HK5 : Hid (Blk wr.heap.size #[.string y.service, .int .i64 y.number, .int .i64 y.version, .int .i64 y.image, .int .i64 y.state, .bool y.ending, .string y.berth] 87 w5) := by
   show Blk _ _ _ _
   rw [HW5.out]
   exact hza.setAll #[.string y.service, .int .i64 y.number, .int .i64 y.version, .int .i64 y.image, .int .i64 y.state, .bool y.ending, .string y.berth] rfl
  have hbx : Below wr.heap.size wr w5 := by
   rw [HW5.out]
   exact below_setCells (Nat.le_refl _) _ _ _ ((Below.refl _ wr).alloc (Nat.le_refl _) _)
  have HJ5 : Hid (J pre w5) := HJ.out pre wr _ none hJ.out (grown_below hbx) (fun r e => by cases e)
  have HI5 := Hid.intro (hI.out.below hbx)
  have HB5 : Hid (Below W0.heap.size W0 w5) := hB.out.trans (hbx.mono hB.out.size)
  have hws5 : W.heap.size ≤ w5.heap.size := Nat.le_trans hws hbx.size
  have ik : (k : Int) < ((x.copies.length - i : Nat) : Int) := by omega
  clear hza hbx hJ hI hB hws
  go_upto_region 4 with (first | (refine wpList_load_mid rfl 87 _ rfl b (o + i * 7 + k * 7) (by first | rfl | (simp [go_sem]; done)) [.string y.service, .int .i64 y.number, .int .i64 y.version, .int .i64 y.image, .int .i64 y.state, .bool y.ending, .string y.berth] _ HRY.out Tryz.underlying87 rfl isz_Scp ?_) | (refine wpList_store_to rfl 87 _ _ rfl wr.heap.size 0 #[.string y.service, .int .i64 y.number, .int .i64 y.version, .int .i64 y.image, .int .i64 y.state, .bool y.ending, .string y.berth] rfl rfl HTS.out isz_Scp (by simp [Value.oneCell']) w5 HW5.out ?_))
  clear HRY HTS HW5
  generalize wr.heap.size = g5 at *
  have y0 : w5.cell? ⟨g5, 0, none⟩ = some (.string y.service) := HK5.out.cell rfl
  have y1 : w5.cell? ⟨g5, 1, none⟩ = some (.int .i64 y.number) := HK5.out.cell rfl
  have y2 : w5.cell? ⟨g5, 2, none⟩ = some (.int .i64 y.version) := HK5.out.cell rfl
  have y3 : w5.cell? ⟨g5, 3, none⟩ = some (.int .i64 y.image) := HK5.out.cell rfl
  have y4 : w5.cell? ⟨g5, 4, none⟩ = some (.int .i64 y.state) := HK5.out.cell rfl
  have y5 : w5.cell? ⟨g5, 5, none⟩ = some (.bool y.ending) := HK5.out.cell rfl
  have y6 : w5.cell? ⟨g5, 6, none⟩ = some (.string y.berth) := HK5.out.cell rfl
  have d1 := HI5.out.2.1
  by_cases hsv : y.service = s
  case neg =>
   have hts := bt_ne hsv
   have HE : Hid (pre = x.copies.filter (fun c => decide (c.service = s))) := by
    show _ = _
    rw [told_all (k := k) HV.out HA.out HC.out hK.out (.inr ⟨y, HYY.out, hsv⟩)]
    exact hP.out
   go_wp2_with fail
   first | go_end0 | ((try simp only [Exit.inBlock, Exit.then]); refine bodyPost_ret (results_none rfl _ _ _) rfl ?_)
   exact ⟨⟨_, rfl⟩, Or.inl ⟨pre, HE.out, HJ5.out⟩⟩
  have hts := bt_eq hsv
  have HSV := Hid.intro hsv
  clear hsv
  obtain ⟨fn, tmps, assign, body, hy, hR⟩ := HY.out pre y w5 HJ5.out HPL.out
  dsimp only [cpEnc] at hy
  have hR' := hR.mono (R' := fun e W' => ∃ q, e = .returned (.bool q) ∧ Hid ((q = true ∧ J (pre ++ [y]) W' ∧ But g n₀ w5 W') ∨ (q = false ∧ Jx (pre ++ [y]) W'))) (by
   rintro e W' (⟨h1, h2, h3⟩ | ⟨h1, h2⟩)
   ·exact ⟨true, h1, Or.inl ⟨rfl, h2, h3⟩⟩
   ·exact ⟨false, h1, Or.inr ⟨rfl, h2⟩⟩)
  clear hR

  refine (wpIn_wide (n := 5)).1 ?_
  gi_wp2_with (refine hR'.mono ?_; rintro e W' ⟨q, rfl, hq⟩)
  clear hR' hy
  cases q with
  | true =>
   have HQ : Hid (J (pre ++ [y]) W' ∧ But g n₀ w5 W') := by
    rcases hq.out with h | h
    ·exact h.2
    ·cases h.1
   have HK2 : Hid (∀ (j : Nat) u, j < k + 1 → x.copies[i + j]? = some u → u.service = s) := fun j u hj hu => by
    by_cases e : j = k
    ·subst e
     have h9 := HYY.out.symm.trans hu
     cases h9
     exact HSV.out
    ·exact hK.out j u (by omega) hu
   clear hq
   go_wp2_with fail
   go_roundw
   case rel =>
    have hbt := HQ.out.2
    exact ⟨k + 1, _, by omega, by go_num, HP2, HK2, HQ.out.1, HI5.out.but hbt k1 k2 k3, HB5.out.trans (hbt.below hn0 hg), Nat.le_trans hws5 hbt.size⟩
   case measure => simp [intOf]; omega
  | false =>
   have HQ : Hid (Jx (pre ++ [y]) W') := by
    rcases hq.out with h | h
    ·cases h.1
    ·exact h.2
   clear hq
   go_wp2_with fail
   first | go_end0 | ((try simp only [Exit.inBlock, Exit.then]); refine bodyPost_ret (results_none rfl _ _ _) rfl ?_)
   exact ⟨⟨_, rfl⟩, Or.inr ⟨_, trivial, HQ.out⟩⟩

end Go.Proofs.YtnggdpjfmpjlhaaGreat

namespace Go.Proofs.YtnggdpjfmpjlhaaGreat
open Go.RowKit

abbrev CpX (x : Sbk) : Type := { c : Scp // c ∈ x.copies }

set_option maxHeartbeats 8000000 in
set_option maxRecDepth 100000 in
theorem copies_stopsK (p B1 B2 : Nat) (x : Sbk) (b o c2 : Nat) (s : ByteArray) (lo : Nat) (W0 w : World) (Kp : World → World → Prop) (C : World → Prop) (hC1 : ∀ W, C W → CpIn p B1 B2 b o c2 x s W) (hC2 : ∀ A B, C A → Below A.heap.size A B → C B) (hC3 : ∀ A B, C A → Kp A B → C B) (hK1 : ∀ A B, Kp A B → Below W0.heap.size A B)
  (hW : Below W0.heap.size W0 w) (n2 : SliceC ScpC 7 lo W0 (some ⟨b, o, none⟩) x.copies) (hI : C w) (l2 : x.copies.length ≤ 200) (hcap : x.copies.length ≤ c2) (hv : ∀ (j : Nat) u v, x.copies[j]? = some u → x.copies[j + 1]? = some v → ahB u v = true) :
  SeqStopsK Fence.wide 5 Tryz.prog 114 #[.pointer (some ⟨B1, 0, none⟩), .pointer (some ⟨B2, 0, none⟩)] (fun c : CpX x => cpEnc c.1) Kp (fun xs => xs.map (·.1) = x.copies.filter (fun c => decide (c.service = s))) (fun _ => True) 200 w := by
 intro l J Jx W hbW hJ _ hY h0
 refine callsIn_wide.2 ?_
 have N2 := Hid.intro n2
 have HV := Hid.intro hv
 have HW : Hid (Below W0.heap.size W0 W) := hW.trans (hbW.mono hW.size)
 have HI := Hid.intro (hC2 _ _ hI hbW)
 have HY := Hid.intro hY
 have HJ := Hid.intro hJ
 have H0 := Hid.intro h0
 clear n2 hW hI hbW hJ hY h0 hv
 show Calls Tryz.prog 114 #[.func (.yield l) #[] #[], .pointer (some ⟨B1, 0, none⟩), .pointer (some ⟨B2, 0, none⟩)] W _
 go_enter Tryz.func114, Tryz.ntmps114
 go_wp2_with fail
 refine wp_region_held_drew (S := C) (by kernel_rfl) (hC2 _ _ HI.out (Below.refl _ _).drew) (fun hS => ?_)
 have HW2 : Hid (Below W0.heap.size W0 W.drew) := HW.out.drew
 have H2 : Hid (J [] W.drew) := HJ.out [] W _ none H0.out ⟨rfl, rfl, rfl, Nat.le_refl _, fun _ _ _ => rfl⟩ (fun r e => by cases e)
 have hs2 : W.heap.size ≤ W.drew.heap.size := Nat.le_refl _
 clear HI HW H0
 generalize hwd : W.drew = wd at *
 clear hwd
 refine ty 0 ⟨some 9, _, _, _, _, none⟩ (.pointer (some ⟨p, 0, none⟩)) rfl (by rfl) ?_ hS ?_
 ·intro wy hy
  have h0 := (hC1 _ hy).1
  clear hy
  go_simp
 simp only [pA,pB,pC,pD]
 refine tz 1 10 (.pointer (some ⟨p, 0, none⟩)) rfl hS ?_
 simp only [pA,pB,pC,pD]
 refine tz 2 11 (.pointer (some ⟨p, 0, none⟩)) rfl hS ?_
 simp only [pA,pB,pC,pD]
 refine tz 3 12 (.pointer (some ⟨p, 2, none⟩)) rfl hS ?_
 simp only [pA,pB,pC,pD]
 refine ty 4 ⟨some 13, _, _, _, _, none⟩ (.slice (some ⟨b, o, none⟩) x.copies.length c2) rfl (by rfl) ?_ hS ?_
 ·intro wy hy
  have h0 := (hC1 _ hy).2.2
  clear hy
  go_simp
 simp only [pA,pB,pC,pD]
 refine ty 5 ⟨some 14, _, _, _, _, none⟩ (.string s) rfl (by rfl) ?_ hS ?_
 ·intro wy hy
  have h0 := (hC1 _ hy).2.1
  clear hy
  go_simp
 simp only [pA,pB,pC,pD]
 refine rd1 6 ⟨some 15, _, _, _, _, none⟩ rfl (fun K hK => ?_)
 go_simp
 refine (bsCopies_any x.copies s (some ⟨b, o, none⟩) c2 lo _ (N2.out.below ScpC.holds HW2.out (Nat.le_refl _)) (by omega) (asc_mono HV.out s)).mono ?_
 rintro e w3 ⟨i, q, rfl, hil, hA, hC, hb3⟩
 have HW3 := Hid.intro (HW2.out.trans (hb3.mono HW2.out.size))
 have H3 : Hid (J [] w3) := HJ.out [] wd _ none H2.out (grown_below hb3) (fun r e => by cases e)
 have hs3 : W.heap.size ≤ w3.heap.size := Nat.le_trans hs2 hb3.size
 have HA := Hid.intro hA
 have HC := Hid.intro hC
 refine hK.out _ _ (hC2 _ _ hS hb3) (fun hS => ?_)
 clear hK K
 clear hb3 HW2 H2 hs2 hA hC
 refine tz 7 8 (.tuple #[.int .i64 i, .bool q]) rfl hS ?_
 simp only [pA,pB,pC,pD]
 refine tz 8 16 (.int .i64 i) rfl hS ?_
 simp only [pA,pB,pC,pD]
 refine tz 9 17 (.bool q) rfl hS ?_
 simp only [pA,pB,pC,pD]
 refine tz 10 4 (.int .i64 i) rfl hS ?_
 simp only [pA,pB,pC,pD]
 refine tz 11 5 (.bool q) rfl hS ?_
 simp only [pA,pB,pC,pD]
 have HI3 := Hid.intro hS
 refine wpAnyH_done (by kernel_rfl) ?_ _
 clear hS
 have i0 := (hC1 _ HI3.out).1
 have i1 := (hC1 _ HI3.out).2.1
 have i2 := (hC1 _ HI3.out).2.2
 have hi1 : (i : Int) ≤ (x.copies.length : Int) := by omega
 by_cases hie : i = x.copies.length
 ·have HE : Hid ((([] : List (CpX x)).map (·.1)) = x.copies.filter (fun c => decide (c.service = s))) := by
   show _ = _
   rw [told_all (k := 0) HV.out HA.out HC.out (fun j u h => by omega) (.inl (by omega))]
   simp
  have hlz : x.copies.length - i = 0 := by omega
  go_wp2_with fail
  all_goals
   go_loopw [26] (fun v wr => v = .int .i64 0 ∧ wr = w3) (fun _ _ => 0)
   case atStart => exact ⟨rfl, rfl⟩
   case round =>
    obtain ⟨rfl, rfl⟩ := hrel
    go_wp2_with fail
    first | go_end0 | ((try simp only [Exit.inBlock, Exit.then]); refine bodyPost_ret (results_none rfl _ _ _) rfl ?_)
    exact ⟨⟨_, rfl⟩, Or.inl ⟨[], HE.out, H3.out⟩⟩
 have hlt : i < x.copies.length := by omega
 have hne : ¬ c2 = i := by omega
 have hin : (i : Int) < (x.copies.length : Int) := by omega
 have HIE := Hid.intro hlt
 go_wp2_with fail
 clear i0 i1 i2 hi1 hin hie hlt
 go_loopw [26] (fun v wr => ∃ (k : Nat) (pre : List (CpX x)), k ≤ x.copies.length - i ∧ v = .int .i64 k ∧ Hid (pre.map (·.1) = (x.copies.drop i).take k) ∧ Hid (∀ (j : Nat) u, j < k → x.copies[i + j]? = some u → u.service = s) ∧ Hid (J pre wr) ∧ Hid (C wr) ∧ Hid (Below W0.heap.size W0 wr) ∧ W.heap.size ≤ wr.heap.size) (fun v _ => x.copies.length - i - (intOf v).toNat)
 case atStart => exact ⟨0, [], Nat.zero_le _, rfl, (by show _ = _; simp), fun j u h => by omega, H3, HI3, HW3, hs3⟩
 case round =>
  clear H3 HI3 HW3 hs3
  obtain ⟨k, pre, hk, rfl, hP, hK, hJ, hI, hB, hws⟩ := hrel
  by_cases hlt : k < x.copies.length - i
  case neg =>
   have HE : Hid (pre.map (·.1) = x.copies.filter (fun c => decide (c.service = s))) := by
    show _ = _
    rw [told_all (k := k) HV.out HA.out HC.out hK.out (.inl (by omega))]
    exact hP.out
   go_wp2_with fail
   first | go_end0 | ((try simp only [Exit.inBlock, Exit.then]); refine bodyPost_ret (results_none rfl _ _ _) rfl ?_)
   exact ⟨⟨_, rfl⟩, Or.inl ⟨pre, HE.out, hJ.out⟩⟩
  obtain ⟨y, hy⟩ : ∃ y, x.copies[i + k]? = some y := ⟨x.copies[i + k]'(by omega), List.getElem?_eq_getElem (by omega)⟩
  obtain ⟨b', o', ea, _, hbl, hc⟩ := (N2.out.below ScpC.holds hB.out (Nat.le_refl _)).at hy
  cases ea
  have HRY : Hid (wr.rangeAt b (o + i * 7 + k * 7) [.string y.service, .int .i64 y.number, .int .i64 y.version, .int .i64 y.image, .int .i64 y.state, .bool y.ending, .string y.berth]) := by
   have h9 := rngScp hc
   rw [show o + (i + k) * 7 = o + i * 7 + k * 7 by omega] at h9
   exact h9
  have HYY := Hid.intro hy
  have hpl : pre.length < 200 := by have h9 := congrArg List.length hP.out; rw [List.length_map, List.length_take, List.length_drop] at h9; omega
  have HPL := Hid.intro hpl
  obtain ⟨yy, hyy⟩ : ∃ yy : CpX x, yy.1 = y := ⟨⟨y, List.mem_of_getElem? hy⟩, rfl⟩
  have HP2 : Hid ((pre ++ [yy]).map (·.1) = (x.copies.drop i).take (k + 1)) := by
   show _ = _
   rw [List.take_add_one, List.map_append, hP.out, List.getElem?_drop, hy]
   simp [hyy]
  have HYE := Hid.intro hyy
  clear hyy
  clear hc hy hpl
  have hza : Blk wr.heap.size #[.string ⟨#[]⟩, .int .i64 0, .int .i64 0, .int .i64 0, .int .i64 0, .bool false, .string ⟨#[]⟩] 87 (wr.alloc (Obj.cells #[.string ⟨#[]⟩, .int .i64 0, .int .i64 0, .int .i64 0, .int .i64 0, .bool false, .string ⟨#[]⟩] 87)) := Blk.alloc _ _ _
  have HTS : Hid ((wr.alloc (Obj.cells #[.string ⟨#[]⟩, .int .i64 0, .int .i64 0, .int .i64 0, .int .i64 0, .bool false, .string ⟨#[]⟩] 87)).there wr.heap.size 0 7) := hza.there
  obtain ⟨w5, HW5⟩ : ∃ w5, Hid (w5 = (wr.alloc (Obj.cells #[.string ⟨#[]⟩, .int .i64 0, .int .i64 0, .int .i64 0, .int .i64 0, .bool false, .string ⟨#[]⟩] 87)).setCells wr.heap.size 0 [.string y.service, .int .i64 y.number, .int .i64 y.version, .int .i64 y.image, .int .i64 y.state, .bool y.ending, .string y.berth]) := ⟨_, rfl⟩
  have HK5 : Hid (Blk wr.heap.size #[.string y.service, .int .i64 y.number, .int .i64 y.version, .int .i64 y.image, .int .i64 y.state, .bool y.ending, .string y.berth] 87 w5) := by
   show Blk _ _ _ _
   rw [HW5.out]
   exact hza.setAll #[.string y.service, .int .i64 y.number, .int .i64 y.version, .int .i64 y.image, .int .i64 y.state, .bool y.ending, .string y.berth] rfl
  have hbx : Below wr.heap.size wr w5 := by
   rw [HW5.out]
   exact below_setCells (Nat.le_refl _) _ _ _ ((Below.refl _ wr).alloc (Nat.le_refl _) _)
  have HJ5 : Hid (J pre w5) := HJ.out pre wr _ none hJ.out (grown_below hbx) (fun r e => by cases e)
  have HI5 := Hid.intro (hC2 _ _ hI.out (hbx))
  have HB5 : Hid (Below W0.heap.size W0 w5) := hB.out.trans (hbx.mono hB.out.size)
  have hws5 : W.heap.size ≤ w5.heap.size := Nat.le_trans hws hbx.size
  have ik : (k : Int) < ((x.copies.length - i : Nat) : Int) := by omega
  clear hza hbx hJ hI hB hws
  go_upto_region 4 with (first | (refine wpList_load_mid rfl 87 _ rfl b (o + i * 7 + k * 7) (by first | rfl | (simp [go_sem]; done)) [.string y.service, .int .i64 y.number, .int .i64 y.version, .int .i64 y.image, .int .i64 y.state, .bool y.ending, .string y.berth] _ HRY.out Tryz.underlying87 rfl isz_Scp ?_) | (refine wpList_store_to rfl 87 _ _ rfl wr.heap.size 0 #[.string y.service, .int .i64 y.number, .int .i64 y.version, .int .i64 y.image, .int .i64 y.state, .bool y.ending, .string y.berth] rfl rfl HTS.out isz_Scp (by simp [Value.oneCell']) w5 HW5.out ?_))
  clear HRY HTS HW5
  generalize wr.heap.size = g5 at *
  have y0 : w5.cell? ⟨g5, 0, none⟩ = some (.string y.service) := HK5.out.cell rfl
  have y1 : w5.cell? ⟨g5, 1, none⟩ = some (.int .i64 y.number) := HK5.out.cell rfl
  have y2 : w5.cell? ⟨g5, 2, none⟩ = some (.int .i64 y.version) := HK5.out.cell rfl
  have y3 : w5.cell? ⟨g5, 3, none⟩ = some (.int .i64 y.image) := HK5.out.cell rfl
  have y4 : w5.cell? ⟨g5, 4, none⟩ = some (.int .i64 y.state) := HK5.out.cell rfl
  have y5 : w5.cell? ⟨g5, 5, none⟩ = some (.bool y.ending) := HK5.out.cell rfl
  have y6 : w5.cell? ⟨g5, 6, none⟩ = some (.string y.berth) := HK5.out.cell rfl
  have d1 := (hC1 _ HI5.out).2.1
  by_cases hsv : y.service = s
  case neg =>
   have hts := bt_ne hsv
   have HE : Hid (pre.map (·.1) = x.copies.filter (fun c => decide (c.service = s))) := by
    show _ = _
    rw [told_all (k := k) HV.out HA.out HC.out hK.out (.inr ⟨y, HYY.out, hsv⟩)]
    exact hP.out
   go_wp2_with fail
   first | go_end0 | ((try simp only [Exit.inBlock, Exit.then]); refine bodyPost_ret (results_none rfl _ _ _) rfl ?_)
   exact ⟨⟨_, rfl⟩, Or.inl ⟨pre, HE.out, HJ5.out⟩⟩
  have hts := bt_eq hsv
  have HSV := Hid.intro hsv
  clear hsv
  obtain ⟨fn, tmps, assign, body, hy, hR⟩ := HY.out pre yy w5 HJ5.out HPL.out
  dsimp only [cpEnc] at hy
  rw [HYE.out] at hy
  have hR' := hR.mono (R' := fun e W' => ∃ q, e = .returned (.bool q) ∧ Hid ((q = true ∧ J (pre ++ [yy]) W' ∧ Kp w5 W') ∨ (q = false ∧ Jx (pre ++ [yy]) W'))) (by
   rintro e W' (⟨h1, h2, h3⟩ | ⟨h1, h2⟩)
   ·exact ⟨true, h1, Or.inl ⟨rfl, h2, h3⟩⟩
   ·exact ⟨false, h1, Or.inr ⟨rfl, h2⟩⟩)
  clear hR

  refine (wpIn_wide (n := 5)).1 ?_
  gi_wp2_with (refine hR'.mono ?_; rintro e W' ⟨q, rfl, hq⟩)
  clear hR' hy
  cases q with
  | true =>
   have HQ : Hid (J (pre ++ [yy]) W' ∧ Kp w5 W') := by
    rcases hq.out with h | h
    ·exact h.2
    ·cases h.1
   have HK2 : Hid (∀ (j : Nat) u, j < k + 1 → x.copies[i + j]? = some u → u.service = s) := fun j u hj hu => by
    by_cases e : j = k
    ·subst e
     have h9 := HYY.out.symm.trans hu
     cases h9
     exact HSV.out
    ·exact hK.out j u (by omega) hu
   clear hq
   go_wp2_with fail
   go_roundw
   case rel =>
    have hbt := HQ.out.2
    exact ⟨k + 1, _, by omega, by go_num, HP2, HK2, HQ.out.1, hC3 _ _ HI5.out hbt, HB5.out.trans (hK1 _ _ hbt), Nat.le_trans hws5 (hK1 _ _ hbt).size⟩
   case measure => simp [intOf]; omega
  | false =>
   have HQ : Hid (Jx (pre ++ [yy]) W') := by
    rcases hq.out with h | h
    ·cases h.1
    ·exact h.2
   clear hq
   go_wp2_with fail
   first | go_end0 | ((try simp only [Exit.inBlock, Exit.then]); refine bodyPost_ret (results_none rfl _ _ _) rfl ?_)
   exact ⟨⟨_, rfl⟩, Or.inr ⟨_, trivial, HQ.out⟩⟩

end Go.Proofs.YtnggdpjfmpjlhaaGreat
