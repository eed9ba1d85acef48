import Derived.Test.YtebfdgfhadpieaaGreatJ28
namespace Go.Proofs.YtebfdgfhadpieaaGreat
open Go.RowKit Go.WideMaps Go.Maps
theorem lastOf_none (ns : List ByteArray) (s : ByteArray) : ∀ k, lastOf ns s k = none ↔ ∀ j, j < k → ns[j]? ≠ some s
 | 0 => by simp [lastOf]
 | k + 1 => by
  unfold lastOf
  by_cases h : ns[k]? = some s
  ·rw [if_pos h]
   constructor
   ·intro e; cases e
   ·intro e; exact absurd h (e k (by omega))
  ·rw [if_neg h, lastOf_none ns s k]
   constructor
   ·intro e j hj
    by_cases hjk : j = k
    ·subst hjk; exact h
    ·exact e j (by omega)
   ·intro e j hj
    exact e j (by omega)
theorem idxB_lt (bs : List Brt) (s : ByteArray) : idxB bs s < 0 ↔ lastOf (bs.map (·.name)) s bs.length = none := by
 rw [lastOf_none]
 unfold idxB
 cases h : bs.findIdx? (fun b => decide (b.name = s)) with
 | none =>
  rw [List.findIdx?_eq_none_iff] at h
  constructor
  ·intro _ j hj e
   rw [List.getElem?_map, List.getElem?_eq_getElem hj] at e
   simp at e
   have := h bs[j] (List.getElem_mem hj)
   simp at this
   exact this e
  ·intro _; decide
 | some k =>
  rw [List.findIdx?_eq_some_iff_getElem] at h
  obtain ⟨hk, h1, _⟩ := h
  constructor
  ·intro e
   simp at e
   omega
  ·intro e
   refine absurd ?_ (e k hk)
   rw [List.getElem?_map, List.getElem?_eq_getElem hk]
   simpa using h1
theorem empty_toList {s : ByteArray} (h : s = ⟨#[]⟩) : s.toList = [] := by
 rw [ByteArray.toList_eq, h]
theorem nonempty_toList {s : ByteArray} (h : ¬ s = ⟨#[]⟩) : ¬ s.toList = [] := by
 intro e
 rw [ByteArray.toList_eq] at e
 apply h
 cases s with | mk x => cases x; simp at e; simp [e]
def sumTo (cs : List Cpy) (s : ByteArray) (k : Nat) : Int × Int := if s = ⟨#[]⟩ then (0, 0) else (useTo cs s (-1) k).2
theorem sumTo_in {cs : List Cpy} {s : ByteArray} {k : Nat} {c : Cpy} (hs : ¬ s = ⟨#[]⟩) (hk : cs[k]? = some c) (h1 : c.at_ = s) : sumTo cs s (k + 1) = (wrap64 ((sumTo cs s k).1 + c.room), wrap64 ((sumTo cs s k).2 + c.hold)) := by
 unfold sumTo
 rw [if_neg hs, if_neg hs, useTo_in hk h1 (by omega)]
theorem sumTo_out {cs : List Cpy} {s : ByteArray} {k : Nat} {c : Cpy} (hk : cs[k]? = some c) (h : s = ⟨#[]⟩ ∨ ¬ c.at_ = s) : sumTo cs s (k + 1) = sumTo cs s k := by
 unfold sumTo
 by_cases hs : s = ⟨#[]⟩
 ·rw [if_pos hs, if_pos hs]
 ·rw [if_neg hs, if_neg hs, useTo_out hk (fun e => by rcases h with h | h; exact hs h; exact h e.1)]
def usedR (x : Flt) (s : ByteArray) : Int × Int := if idxB x.berths s < 0 then (0, 0) else sumTo x.copies s x.copies.length
set_option maxHeartbeats 1000000 in
set_option maxRecDepth 100000 in
theorem specUsed_any (x : Flt) (a1 : Option Addr) (c1 : Nat) (a2 : Option Addr) (c2 : Nat) (a3 : Option Addr) (c3 : Nat) (lo : Nat) (s : ByteArray) (w : World) (n1 : SliceC BrtC 6 lo w a1 x.berths) (n3 : SliceC CpyC 12 lo w a3 x.copies) (l1 : x.berths.length ≤ 1048576) (l3 : x.copies.length ≤ 1048576) :
  Calls Tryz.prog 32 #[.agg #[.bool x.pack, .slice a1 x.berths.length c1, .slice a2 x.services.length c2, .slice a3 x.copies.length c3], .string s] w fun e w' => e = .returned (.tuple #[.int .i64 (usedR x s).1, .int .i64 (usedR x s).2]) ∧ Below w.heap.size w w' := by
 have HI : Hid (SliceC CpyC 12 lo w a3 x.copies) := n3
 have HJ : Hid (SliceC BrtC 6 lo w a1 x.berths) := n1
 clear n1 n3
 have HU : Hid (usedR x s = if idxB x.berths s < 0 then (0, 0) else sumTo x.copies s x.copies.length) := rfl
 generalize usedR x s = U at *
 go_enter Tryz.func32, Tryz.ntmps32
 go_wp2_with fail
 refine (l2Berth_any x a1 c1 a2 c2 a3 c3 lo s _ (HJ.out.below BrtC.holds (B := w.heap.size) (by go_grown) nL) l1).mono ?_
 rintro e w1 ⟨rfl, hb1⟩
 have hB1 : Below w.heap.size w w1 := (show Below w.heap.size w _ by go_grown).trans (hb1.mono (by simp))
 have k1 : w1.cell? ⟨w.heap.size, 3, none⟩ = some (.slice a3 x.copies.length c3) := (hb1.cell (p := ⟨w.heap.size, 3, none⟩) (by simp)).trans (by simp)
 clear hb1
 generalize x.copies = cs at *
 generalize idxB x.berths s = I at *
 by_cases hI : I < 0
 ·have HU2 : Hid (U = (0, 0)) := by rw [HU.out, if_pos hI]; rfl
  go_wp2_with fail
  go_ret2
  exact ⟨by rw [HU2.out]; rfl, hB1⟩
 ·have HU2 : Hid (U = sumTo cs s cs.length) := by rw [HU.out, if_neg hI]; rfl
  have HSE : Hid (s = ⟨#[]⟩ ∨ ¬ s = ⟨#[]⟩) := Classical.em _
  go_wp2_with fail
  go_loopw [6, 7, 8] (fun r h i wr => ∃ k : Nat, k ≤ cs.length ∧ i = .int .i64 k ∧ r = .int .i64 (sumTo cs s k).1 ∧ h = .int .i64 (sumTo cs s k).2 ∧ wr.cell? ⟨w.heap.size, 3, none⟩ = some (.slice a3 cs.length c3) ∧ Below w.heap.size w wr) (fun _ _ i _ => cs.length - (intOf i).toNat)
  case atStart => exact ⟨0, Nat.zero_le _, rfl, by simp [sumTo, useTo], by simp [sumTo, useTo], k1, hB1⟩
  case round =>
   obtain ⟨k, hk, rfl, rfl, rfl, hcell, hbel⟩ := hrel
   by_cases hlt : k < cs.length
   ·obtain ⟨x, hx⟩ : ∃ x, cs[k]? = some x := ⟨cs[k], List.getElem?_eq_getElem hlt⟩
    obtain ⟨b, o, rfl, _, _, hc⟩ := (HI.out.below CpyC.holds hbel nL).at hx
    obtain ⟨a7, c7, q0, q1, q2, q3, q4, q5, q6, q7, q8, q9, q10, q11, _, _, _, _, _, _, _⟩ := hc
    have HX : Hid (cs[k]? = some x) := hx
    clear hx q0 q1 q2 q3 q6 q7 q8 q9 q10
    rcases HSE.out with hs | hs
    ·have HV : Hid (sumTo cs s (k + 1) = sumTo cs s k) := sumTo_out HX.out (.inl hs)
     have hte := empty_toList hs
     have hte2 : s.toList.isEmpty = true := by rw [hte]; rfl
     clear hs
     go_wp2_with fail
     go_roundw
     case rel => exact ⟨k + 1, by omega, by go_num, by rw [HV.out], by rw [HV.out], hcell, hbel⟩
     case measure => simp [intOf]; omega
    ·have hte := nonempty_toList hs
     have hte2 : s.toList.isEmpty = false := by
      cases h : s.toList with
      | nil => exact absurd h hte
      | cons a l => rfl
     by_cases h1 : x.at_ = s
     ·have HV : Hid (sumTo cs s (k + 1) = _) := sumTo_in hs HX.out h1
      have htf := bts_eq h1
      clear h1 hs
      generalize hS : sumTo cs s k = S at *
      have HS : Hid (sumTo cs s k = S) := hS
      clear hS
      go_wp2_with fail
      go_roundw
      case rel => exact ⟨k + 1, by omega, by go_num, by rw [HV.out], by rw [HV.out], hcell, hbel⟩
      case measure => simp [intOf]; omega
     ·have HV : Hid (sumTo cs s (k + 1) = sumTo cs s k) := sumTo_out HX.out (.inr h1)
      have htf := bts_ne h1
      clear h1 hs
      go_wp2_with fail
      go_roundw
      case rel => exact ⟨k + 1, by omega, by go_num, by rw [HV.out], by rw [HV.out], hcell, hbel⟩
      case measure => simp [intOf]; omega
   ·have hke : k = cs.length := by omega
    subst hke
    go_wp2_with fail
    go_ret2
    exact ⟨by rw [HU2.out]; rfl, hbel⟩
end Go.Proofs.YtebfdgfhadpieaaGreat
namespace Go.Proofs.YtebfdgfhadpieaaGreat
open Go.RowKit
def ltAt (ns : List ByteArray) : Nat → Bool
 | 0 => true
 | j + 1 => match ns[j + 1]?, ns[j]? with
  | some s, some t => Op.bytesLess t.toList s.toList
  | _, _ => true
def allTo (f : Nat → Bool) : Nat → Bool
 | 0 => true
 | k + 1 => allTo f k && f k
theorem allTo_false {f : Nat → Bool} {k : Nat} (h : f k = false) : ∀ n, k < n → allTo f n = false
 | 0, hn => absurd hn (Nat.not_lt_zero _)
 | n + 1, hn => by
  by_cases e : k = n
  ·subst e; simp only [allTo, h, Bool.and_false]
  ·simp only [allTo, allTo_false h n (by omega), Bool.false_and]
theorem allTo_step {f : Nat → Bool} {k : Nat} (h : allTo f k = true) (h' : f k = true) : allTo f (k + 1) = true := by
 simp only [allTo, h, h', Bool.and_self]
def sSvcAt (x : Flt) (k : Nat) : Bool := match x.services[k]? with
 | some y => P.nameOk y.name && (ltAt (x.services.map (·.name)) k && inB y.spare 0 60)
 | none => true
def sCpyAt (x : Flt) (k : Nat) : Bool := match x.copies[k]? with
 | some y => sCopy y && (ltAt (x.copies.map (·.name)) k && (!decide (idxV x.services y.service < 0) && (decide (y.at_ = ⟨#[]⟩) || !decide (idxB x.berths y.at_ < 0))))
 | none => true
def sBrtAt (x : Flt) (k : Nat) : Bool := match x.berths[k]? with
 | some y => sBerth y && (ltAt (x.berths.map (·.name)) k && (!decide (y.room < (usedR x y.name).1) && (!decide (y.hold < (usedR x y.name).2) && !decide (10 < stdTo x.copies y.name x.copies.length))))
 | none => true
def svcBad (x : Flt) (k : Nat) : Bool := !sSvcAt x k
def cpyBad (x : Flt) (k : Nat) : Bool := !sCpyAt x k
def brtBad (x : Flt) (k : Nat) : Bool := !sBrtAt x k
def validS (x : Flt) : Bool := fewOk x && (allTo (sSvcAt x) x.services.length && (allTo (sCpyAt x) x.copies.length && allTo (sBrtAt x) x.berths.length))
theorem ltAt_succ {α : Type} {f : α → ByteArray} {xs : List α} {j k : Nat} {y z : α} (hk : k = j + 1) (hy : xs[k]? = some y) (hz : xs[j]? = some z) : ltAt (xs.map f) k = Op.bytesLess (f z).toList (f y).toList := by
 subst hk
 simp only [ltAt, List.getElem?_map, hy, hz, Option.map_some]
theorem letters_no {s : ByteArray} (h : P.nameOk s = true) : eqIdx s = -1 := by
 refine eqIdx_no (fun j hj e => ?_)
 unfold P.nameOk at h
 rw [Bool.and_eq_true, List.all_eq_true] at h
 have := h.2 61 (List.mem_of_getElem? e)
 revert this
 decide
def nmTo (ms : List ByteArray) (nm : ByteArray) : Nat → Nat
 | 0 => 0
 | j + 1 => nmTo ms nm j + (match ms[j]? with
  | some t => if mName t = nm then 1 else 0
  | none => 0)
theorem isMk_name {m : ByteArray} (h : isMk m = true) : P.nameOk (mName m) = true := by
 unfold isMk at h
 rw [Bool.and_eq_true] at h
 exact h.1
theorem cntOf_keyR {m nm : ByteArray} (h : isMk m = true) (hn : P.nameOk nm = true) (r : List ByteArray) : cntOf nm (keyR m ++ r) = cntOf nm r + (if mName m = nm then 1 else 0) := by
 unfold keyR
 rw [if_pos h]
 by_cases hv : eqIdx m < 0
 ·rw [if_pos hv]
  by_cases e : mName m = nm
  ·rw [if_pos e]; subst e; exact cntOf_same _ _
  ·rw [if_neg e]; exact cntOf_other e _
 ·rw [if_neg hv]
  have hne : ¬ m = nm := by
   intro e
   subst e
   rw [letters_no hn] at hv
   exact hv (by decide)
  show cntOf nm (m :: mName m :: r) = _
  rw [cntOf_other hne]
  by_cases e : mName m = nm
  ·rw [if_pos e]; subst e; exact cntOf_same _ _
  ·rw [if_neg e]; exact cntOf_other e _
theorem cnt_nm {ms : List ByteArray} {nm : ByteArray} (hn : P.nameOk nm = true) (hall : ∀ (j : Nat) (t : ByteArray), ms[j]? = some t → isMk t = true) : ∀ n, cntOf nm (keysR ms n) = nmTo ms nm n
 | 0 => rfl
 | n + 1 => by
  cases h : ms[n]? with
  | none => simp only [keysR, nmTo, h, Nat.add_zero]; exact cnt_nm hn hall n
  | some t =>
   simp only [keysR, nmTo, h]
   rw [cntOf_keyR (hall n t h) hn, cnt_nm hn hall n]
theorem nm_mono (ms : List ByteArray) (nm : ByteArray) : ∀ n k, k ≤ n → nmTo ms nm k ≤ nmTo ms nm n
 | 0, k, h => by rw [Nat.le_zero.1 h]; exact Nat.le_refl _
 | n + 1, k, h => by
  by_cases e : k = n + 1
  ·subst e; exact Nat.le_refl _
  ·refine Nat.le_trans (nm_mono ms nm n k (by omega)) ?_
   simp only [nmTo]; omega
theorem nm_two {ms : List ByteArray} {nm s t : ByteArray} {j k n : Nat} (hjk : j < k) (hkn : k < n) (hj : ms[j]? = some s) (hk : ms[k]? = some t) (es : mName s = nm) (et : mName t = nm) : 2 ≤ nmTo ms nm n := by
 have h1 : 1 ≤ nmTo ms nm (j + 1) := by simp only [nmTo, hj, es, if_true]; omega
 have h2 := nm_mono ms nm k (j + 1) (by omega)
 have h3 : nmTo ms nm (k + 1) = nmTo ms nm k + 1 := by simp only [nmTo, hk, et, if_true]
 have h4 := nm_mono ms nm n (k + 1) (by omega)
 omega
theorem nm_one {ms : List ByteArray} {nm : ByteArray} {k : Nat} (h : ∀ j t, j ≠ k → ms[j]? = some t → mName t ≠ nm) : ∀ n, nmTo ms nm n ≤ if k < n then 1 else 0
 | 0 => by simp [nmTo]
 | n + 1 => by
  have ih := nm_one h n
  simp only [nmTo]
  cases hm : ms[n]? with
  | none =>
   show nmTo ms nm n + 0 ≤ _
   split at ih <;> split <;> omega
  | some t =>
   show nmTo ms nm n + (if mName t = nm then 1 else 0) ≤ _
   by_cases e : n = k
   ·subst e
    rw [if_neg (Nat.lt_irrefl _)] at ih
    rw [if_pos (Nat.lt_succ_self _)]
    split <;> omega
   ·rw [if_neg (h n t e hm)]
    split at ih <;> split <;> omega
theorem fresh_iff {ms : List ByteArray} {nm : ByteArray} : ∀ k, freshTo ms nm k = true ↔ ∀ j t, j < k → ms[j]? = some t → mName t ≠ nm
 | 0 => by simp [freshTo]
 | k + 1 => by
  have ih := fresh_iff (ms := ms) (nm := nm) k
  simp only [freshTo, Bool.and_eq_true, ih]
  constructor
  ·rintro ⟨h1, h2⟩ j t hj ht
   by_cases e : j = k
   ·subst e
    rw [ht] at h2
    simpa using h2
   ·exact h1 j t (by omega) ht
  ·intro h
   refine ⟨fun j t hj ht => h j t (by omega) ht, ?_⟩
   cases hm : ms[k]? with
   | none => rfl
   | some t => simpa using h k t (by omega) hm
theorem mkTo_iff {ms : List ByteArray} : ∀ n, mkTo ms n = true ↔ ∀ k, k < n → mkAt ms k = true
 | 0 => by simp [mkTo]
 | n + 1 => by
  simp only [mkTo, Bool.and_eq_true, mkTo_iff n]
  constructor
  ·rintro ⟨h1, h2⟩ k hk
   by_cases e : k = n
   ·subst e; exact h2
   ·exact h1 k (by omega)
  ·intro h
   exact ⟨fun k hk => h k (by omega), h n (by omega)⟩
theorem smTo_iff {ms : List ByteArray} : ∀ n, smTo ms n = true ↔ ∀ k, k < n → smAt ms k = true
 | 0 => by simp [smTo]
 | n + 1 => by
  simp only [smTo, Bool.and_eq_true, smTo_iff n]
  constructor
  ·rintro ⟨h1, h2⟩ k hk
   by_cases e : k = n
   ·subst e; exact h2
   ·exact h1 k (by omega)
  ·intro h
   exact ⟨fun k hk => h k (by omega), h n (by omega)⟩
def lsAt (ms : List ByteArray) (k : Nat) : Prop := ∀ j m t, k = j + 1 → ms[k]? = some m → ms[j]? = some t → Op.bytesLess t.toList m.toList = true
theorem mkAt_iff {ms : List ByteArray} {k : Nat} {m : ByteArray} (hk : ms[k]? = some m) : mkAt ms k = true ↔ isMk m = true ∧ lsAt ms k ∧ cntOf (mName m) (keysR ms ms.length) ≤ 1 := by
 cases k with
 | zero =>
  simp only [mkAt, hk, Bool.and_eq_true, decide_eq_true_eq]
  constructor
  ·rintro ⟨h1, h2⟩
   exact ⟨h1, fun j _ _ h => by omega, h2⟩
  ·rintro ⟨h1, _, h2⟩
   exact ⟨h1, h2⟩
 | succ j =>
  have hlt : j + 1 < ms.length := (List.getElem?_eq_some_iff.mp hk).1
  have ht : ms[j]? = some ms[j] := List.getElem?_eq_getElem (by omega)
  simp only [mkAt, hk, ht, Bool.and_eq_true, decide_eq_true_eq]
  constructor
  ·rintro ⟨⟨h1, h2⟩, h3⟩
   refine ⟨h1, fun i a b hi ha hb => ?_, h3⟩
   have : i = j := by omega
   subst this
   rw [hk] at ha
   rw [ht] at hb
   cases ha
   cases hb
   exact h2
  ·rintro ⟨h1, h2, h3⟩
   exact ⟨⟨h1, h2 j m ms[j] rfl hk ht⟩, h3⟩
theorem smAt_iff {ms : List ByteArray} {k : Nat} {m : ByteArray} (hk : ms[k]? = some m) : smAt ms k = true ↔ isMk m = true ∧ lsAt ms k ∧ freshTo ms (mName m) k = true := by
 cases k with
 | zero =>
  simp only [smAt, hk, freshTo]
  constructor
  ·intro h1
   exact ⟨h1, fun j _ _ h => by omega, trivial⟩
  ·rintro ⟨h1, _, _⟩
   exact h1
 | succ j =>
  have hlt : j + 1 < ms.length := (List.getElem?_eq_some_iff.mp hk).1
  have ht : ms[j]? = some ms[j] := List.getElem?_eq_getElem (by omega)
  simp only [smAt, hk, ht, Bool.and_eq_true]
  constructor
  ·rintro ⟨⟨⟨h1, h2⟩, _⟩, h3⟩
   refine ⟨h1, fun i a b hi ha hb => ?_, h3⟩
   have : i = j := by omega
   subst this
   rw [hk] at ha
   rw [ht] at hb
   cases ha
   cases hb
   exact h2
  ·rintro ⟨h1, h2, h3⟩
   refine ⟨⟨⟨h1, h2 j m ms[j] rfl hk ht⟩, ?_⟩, h3⟩
   have := (fresh_iff _).1 h3 j ms[j] (by omega) ht
   simpa using fun e => this e.symm
theorem mk_eq_sm (ms : List ByteArray) : mkOk ms = smOk ms := by
 unfold mkOk smOk
 congr 1
 rw [Bool.eq_iff_iff, mkTo_iff, smTo_iff]
 have get : ∀ k, k < ms.length → ∃ m, ms[k]? = some m := fun k hk => ⟨ms[k], List.getElem?_eq_getElem hk⟩
 constructor
 ·intro h k hk
  obtain ⟨m, hm⟩ := get k hk
  have hall : ∀ (j : Nat) (t : ByteArray), ms[j]? = some t → isMk t = true := fun j t ht => ((mkAt_iff ht).1 (h j (List.getElem?_eq_some_iff.mp ht).1)).1
  obtain ⟨h1, h2, h3⟩ := (mkAt_iff hm).1 (h k hk)
  refine (smAt_iff hm).2 ⟨h1, h2, (fresh_iff _).2 fun j t hj ht e => ?_⟩
  rw [cnt_nm (isMk_name h1) hall] at h3
  have := nm_two hj hk ht hm e rfl
  omega
 ·intro h k hk
  obtain ⟨m, hm⟩ := get k hk
  have hall : ∀ (j : Nat) (t : ByteArray), ms[j]? = some t → isMk t = true := fun j t ht => ((smAt_iff ht).1 (h j (List.getElem?_eq_some_iff.mp ht).1)).1
  obtain ⟨h1, h2, h3⟩ := (smAt_iff hm).1 (h k hk)
  refine (mkAt_iff hm).2 ⟨h1, h2, ?_⟩
  rw [cnt_nm (isMk_name h1) hall]
  refine Nat.le_trans (nm_one (k := k) (fun j t hjk ht e => ?_) _) (by split <;> omega)
  rcases Nat.lt_or_gt_of_ne hjk with hl | hg
  ·exact (fresh_iff _).1 h3 j t hl ht e
  ·have hj : j < ms.length := (List.getElem?_eq_some_iff.mp ht).1
   exact (fresh_iff _).1 ((smAt_iff ht).1 (h j hj)).2.2 k m hg hm e.symm
theorem ascTo_iff {ns : List ByteArray} : ∀ n, ascTo ns n = true ↔ ∀ k, k < n → ascAt ns k = true
 | 0 => by simp [ascTo]
 | n + 1 => by
  simp only [ascTo, Bool.and_eq_true, ascTo_iff n]
  constructor
  ·rintro ⟨h1, h2⟩ k hk
   by_cases e : k = n
   ·subst e; exact h2
   ·exact h1 k (by omega)
  ·intro h
   exact ⟨fun k hk => h k (by omega), h n (by omega)⟩
theorem allTo_iff {f : Nat → Bool} : ∀ n, allTo f n = true ↔ ∀ k, k < n → f k = true
 | 0 => by simp [allTo]
 | n + 1 => by
  simp only [allTo, Bool.and_eq_true, allTo_iff n]
  constructor
  ·rintro ⟨h1, h2⟩ k hk
   by_cases e : k = n
   ·subst e; exact h2
   ·exact h1 k (by omega)
  ·intro h
   exact ⟨fun k hk => h k (by omega), h n (by omega)⟩
theorem ascAt_iff {ns : List ByteArray} {k : Nat} {s : ByteArray} (hk : ns[k]? = some s) : ascAt ns k = true ↔ P.nameOk s = true ∧ ltAt ns k = true := by
 cases k with
 | zero => simp only [ascAt, hk, ltAt, and_true]
 | succ j =>
  have hlt : j + 1 < ns.length := (List.getElem?_eq_some_iff.mp hk).1
  have ht : ns[j]? = some ns[j] := List.getElem?_eq_getElem (by omega)
  simp only [ascAt, hk, ht, ltAt, Bool.and_eq_true]
theorem asc_iff {α : Type} (f : α → ByteArray) (xs : List α) : ascTo (xs.map f) xs.length = true ↔ ∀ (k : Nat) (y : α), xs[k]? = some y → P.nameOk (f y) = true ∧ ltAt (xs.map f) k = true := by
 rw [ascTo_iff]
 constructor
 ·intro h k y hy
  exact (ascAt_iff (by rw [List.getElem?_map, hy]; rfl)).1 (h k (List.getElem?_eq_some_iff.mp hy).1)
 ·intro h k hk
  have hy : xs[k]? = some xs[k] := List.getElem?_eq_getElem hk
  exact (ascAt_iff (by rw [List.getElem?_map, hy]; rfl)).2 (h k _ hy)
theorem all_iff {α : Type} (f : α → Bool) (xs : List α) : xs.all f = true ↔ ∀ (k : Nat) (y : α), xs[k]? = some y → f y = true := by
 rw [List.all_eq_true]
 constructor
 ·intro h k y hy
  exact h y (List.mem_of_getElem? hy)
 ·intro h y hy
  obtain ⟨j, hj, e⟩ := List.mem_iff_getElem.mp hy
  exact h j y (by rw [List.getElem?_eq_getElem hj, e])
theorem inB_inR (n a b : Int) : inB n a b = inR n a b := by
 unfold inB inR
 rw [Bool.eq_iff_iff]
 simp
theorem sLike_eq : sLike = likeOk := by
 funext l
 unfold sLike likeOk
 rw [inB_inR]
theorem sCopy_iff (y : Cpy) : sCopy y = true ↔ P.nameOk y.name = true ∧ P.nameOk y.service = true ∧ copyOk y = true := by
 unfold sCopy sCopy3 copyOk likesOk
 simp only [inB_inR, sLike_eq, Bool.and_eq_true]
 constructor
 ·rintro ⟨h1, h2, h3, h4, h5, h6, ⟨h7, h8, h9, h10, h11⟩, h12⟩
  exact ⟨h1, h2, ⟨⟨⟨⟨⟨⟨⟨h3, h4⟩, h5⟩, h6⟩, h7⟩, h8, h12⟩, h9⟩, h10⟩, h11⟩
 ·rintro ⟨h1, h2, ⟨⟨⟨⟨⟨⟨⟨h3, h4⟩, h5⟩, h6⟩, h7⟩, h8, h12⟩, h9⟩, h10⟩, h11⟩
  exact ⟨h1, h2, h3, h4, h5, h6, ⟨h7, h8, h9, h10, h11⟩, h12⟩
theorem sBerth_iff (y : Brt) : sBerth y = true ↔ P.nameOk y.name = true ∧ berthAt y = true := by
 unfold sBerth berthAt
 simp only [inB_inR, ← mk_eq_sm, Bool.and_eq_true]
 constructor
 ·rintro ⟨h1, h2, h3, h4, h5⟩
  exact ⟨h1, ⟨⟨h2, h4⟩, h5⟩, h3⟩
 ·rintro ⟨h1, ⟨⟨h2, h4⟩, h5⟩, h3⟩
  exact ⟨h1, h2, h3, h4, h5⟩
theorem idxV_lt (bs : List Svc) (s : ByteArray) : idxV bs s < 0 ↔ lastOf (bs.map (·.name)) s bs.length = none := by
 rw [lastOf_none]
 unfold idxV
 cases h : bs.findIdx? (fun b => decide (b.name = s)) with
 | none =>
  rw [List.findIdx?_eq_none_iff] at h
  constructor
  ·intro _ j hj e
   rw [List.getElem?_map, List.getElem?_eq_getElem hj] at e
   simp at e
   have := h bs[j] (List.getElem_mem hj)
   simp at this
   exact this e
  ·intro _; decide
 | some k =>
  rw [List.findIdx?_eq_some_iff_getElem] at h
  obtain ⟨hk, h1, _⟩ := h
  constructor
  ·intro e
   simp at e
   omega
  ·intro e
   refine absurd ?_ (e k hk)
   rw [List.getElem?_map, List.getElem?_eq_getElem hk]
   simpa using h1
theorem some_not {α : Type} {o : Option α} : o.isSome = true ↔ ¬ o = none := by cases o <;> simp
theorem last_name {bs : List ByteArray} {s : ByteArray} {n : Nat} (h : ¬ lastOf bs s n = none) : ∃ j, j < n ∧ bs[j]? = some s := by
 rw [lastOf_none] at h
 exact Classical.byContradiction fun hc => h fun j hj e => hc ⟨j, hj, e⟩
theorem use_std (cs : List Cpy) (s : ByteArray) : ∀ k, k ≤ 1048576 → (useTo cs s (-1) k).1 = (stdTo cs s k : Nat)
 | 0, _ => rfl
 | k + 1, hk => by
  have ih := use_std cs s k (by omega)
  have hle := stdTo_le cs s k
  unfold useTo stdTo
  cases h : cs[k]? with
  | none => exact ih
  | some c =>
   by_cases e : c.at_ = s
   ·simp only [e, if_true, true_and]
    rw [if_pos (by omega), ih]
    show wrap64 _ = _
    rw [show wrap64 (((stdTo cs s k : Nat) : Int) + 1) = ((stdTo cs s k : Nat) : Int) + 1 from by unfold wrap64; omega]
    omega
   ·simp only [e, if_false, false_and]
    exact ih
theorem size_zero {s : ByteArray} : s.size = 0 ↔ s = ⟨#[]⟩ :=
 ⟨fun e => ByteArray.ext (Array.eq_empty_of_size_eq_zero e), fun e => by subst e; rfl⟩
theorem name_ne {s : ByteArray} (h : P.nameOk s = true) : ¬ s = ⟨#[]⟩ := by
 intro e
 subst e
 revert h
 decide
theorem idxB_in {bs : List Brt} {k : Nat} {y : Brt} (h : bs[k]? = some y) : ¬ idxB bs y.name < 0 := by
 rw [idxB_lt, lastOf_none]
 intro hc
 exact hc k (List.getElem?_eq_some_iff.mp h).1 (by rw [List.getElem?_map, h]; rfl)
theorem used_in {x : Flt} {k : Nat} {y : Brt} (h : x.berths[k]? = some y) (hn : P.nameOk y.name = true) : usedR x y.name = (useTo x.copies y.name (-1) x.copies.length).2 := by
 unfold usedR sumTo
 rw [if_neg (idxB_in h), if_neg (name_ne hn)]
theorem valid_eq (x : Flt) (l3 : x.copies.length ≤ 1048576) : validI x = validS x := by
 unfold validI validS
 congr 1
 rw [Bool.eq_iff_iff]
 simp only [Bool.and_eq_true, ordOk, asc_iff, berthsOk, svcsOk, copiesOk, standOk, all_iff, allTo_iff]
 constructor
 ·rintro ⟨⟨⟨ob, os⟩, oc⟩, hb, hs, hc, hst⟩
  refine ⟨fun k hk => ?_, fun k hk => ?_, fun k hk => ?_⟩
  ·have hy : x.services[k]? = some x.services[k] := List.getElem?_eq_getElem hk
   simp only [sSvcAt, hy, Bool.and_eq_true, inB_inR]
   exact ⟨(os k _ hy).1, (os k _ hy).2, hs k _ hy⟩
  ·have hy : x.copies[k]? = some x.copies[k] := List.getElem?_eq_getElem hk
   have h1 := hc k _ hy
   simp only [copyAt, Bool.and_eq_true, Bool.or_eq_true, decide_eq_true_eq, some_not] at h1
   obtain ⟨⟨h2, h3⟩, h4⟩ := h1
   simp only [sCpyAt, hy, Bool.and_eq_true, Bool.or_eq_true, decide_eq_true_eq, Bool.not_eq_true', decide_eq_false_iff_not, sCopy_iff]
   obtain ⟨j, hj, e⟩ := last_name h2
   have hjs : x.services[j]? = some x.services[j] := List.getElem?_eq_getElem hj
   have hsn : x.services[j].name = x.copies[k].service := by
    rw [List.getElem?_map, hjs] at e
    simpa using e
   refine ⟨⟨(oc k _ hy).1, by rw [← hsn]; exact (os j _ hjs).1, h4⟩, (oc k _ hy).2, by rw [idxV_lt]; exact h2, ?_⟩
   rcases h3 with h3 | h3
   ·exact Or.inr (by rw [idxB_lt]; exact h3)
   ·exact Or.inl (size_zero.1 h3)
  ·have hy : x.berths[k]? = some x.berths[k] := List.getElem?_eq_getElem hk
   have h1 := hst k _ hy
   simp only [standAt, Bool.and_eq_true, decide_eq_true_eq] at h1
   obtain ⟨⟨h2, h3⟩, h4⟩ := h1
   simp only [sBrtAt, hy, Bool.and_eq_true, Bool.not_eq_true', decide_eq_false_iff_not, sBerth_iff]
   rw [used_in hy (ob k _ hy).1]
   rw [use_std _ _ _ l3] at h2
   exact ⟨⟨(ob k _ hy).1, hb k _ hy⟩, (ob k _ hy).2, by omega, by omega, by omega⟩
 ·rintro ⟨hs, hc, hb⟩
  have hs' : ∀ (k : Nat) (y : Svc), x.services[k]? = some y → P.nameOk y.name = true ∧ ltAt (x.services.map (·.name)) k = true ∧ inR y.spare 0 60 = true := by
   intro k y hy
   have := hs k (List.getElem?_eq_some_iff.mp hy).1
   simpa only [sSvcAt, hy, Bool.and_eq_true, inB_inR] using this
  have hc' : ∀ (k : Nat) (y : Cpy), x.copies[k]? = some y → (P.nameOk y.name = true ∧ P.nameOk y.service = true ∧ copyOk y = true) ∧ ltAt (x.copies.map (·.name)) k = true ∧ ¬ idxV x.services y.service < 0 ∧ (y.at_ = ⟨#[]⟩ ∨ ¬ idxB x.berths y.at_ < 0) := by
   intro k y hy
   have := hc k (List.getElem?_eq_some_iff.mp hy).1
   simpa only [sCpyAt, hy, Bool.and_eq_true, Bool.or_eq_true, decide_eq_true_eq, Bool.not_eq_true', decide_eq_false_iff_not, sCopy_iff] using this
  have hb' : ∀ (k : Nat) (y : Brt), x.berths[k]? = some y → (P.nameOk y.name = true ∧ berthAt y = true) ∧ ltAt (x.berths.map (·.name)) k = true ∧ ¬ y.room < (usedR x y.name).1 ∧ ¬ y.hold < (usedR x y.name).2 ∧ ¬ 10 < stdTo x.copies y.name x.copies.length := by
   intro k y hy
   have := hb k (List.getElem?_eq_some_iff.mp hy).1
   simpa only [sBrtAt, hy, Bool.and_eq_true, Bool.not_eq_true', decide_eq_false_iff_not, sBerth_iff] using this
  refine ⟨⟨⟨fun k y hy => ⟨(hb' k y hy).1.1, (hb' k y hy).2.1⟩, fun k y hy => ⟨(hs' k y hy).1, (hs' k y hy).2.1⟩⟩, fun k y hy => ⟨(hc' k y hy).1.1, (hc' k y hy).2.1⟩⟩, fun k y hy => (hb' k y hy).1.2, fun k y hy => (hs' k y hy).2.2, fun k y hy => ?_, fun k y hy => ?_⟩
  ·obtain ⟨⟨_, _, h4⟩, _, h2, h3⟩ := hc' k y hy
   simp only [copyAt, Bool.and_eq_true, Bool.or_eq_true, decide_eq_true_eq, some_not]
   rw [idxV_lt] at h2
   refine ⟨⟨h2, ?_⟩, h4⟩
   rcases h3 with h3 | h3
   ·exact Or.inr (size_zero.2 h3)
   ·exact Or.inl (by rw [idxB_lt] at h3; exact h3)
  ·obtain ⟨⟨hn, _⟩, _, h1, h2, h3⟩ := hb' k y hy
   rw [used_in hy hn] at h1 h2
   simp only [standAt, Bool.and_eq_true, decide_eq_true_eq]
   rw [use_std _ _ _ l3]
   exact ⟨⟨by omega, by omega⟩, by omega⟩
end Go.Proofs.YtebfdgfhadpieaaGreat
