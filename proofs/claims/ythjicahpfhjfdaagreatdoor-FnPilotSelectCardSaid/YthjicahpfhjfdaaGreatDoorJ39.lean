/-
  Several texts in one: Eqm, Eqa.
-/
import Derived.Test.YthjicahpfhjfdaaGreatDoorJ38
namespace Go.Proofs.YthjicahpfhjfdaaGreatDoor
open Go.RowKit

/-- a text of letters has no sign of equality -/
theorem letters_no {s : ByteArray} (h : P.nameOk s = true) : eqIdx s = -1 := by
  refine eqIdx_no (fun j hj e => ?_)
  unfold P.nameOk at h
  rw [Bool.and_eq_true, List.all_eq_true] at h
  have := h.2 61 (List.mem_of_getElem? e)
  revert this
  decide

/-- how many of the first marks have a name -/
def nmTo (ms : List ByteArray) (nm : ByteArray) : Nat → Nat
  | 0 => 0
  | j + 1 => nmTo ms nm j + (match ms[j]? with
    | some t => if mName t = nm then 1 else 0
    | none => 0)

theorem isMk_name {m : ByteArray} (h : isMk m = true) : P.nameOk (mName m) = true := by
  unfold isMk at h
  rw [Bool.and_eq_true] at h
  exact h.1

theorem cntOf_keyR {m nm : ByteArray} (h : isMk m = true) (hn : P.nameOk nm = true) (r : List ByteArray) : cntOf nm (keyR m ++ r) = cntOf nm r + (if mName m = nm then 1 else 0) := by
  unfold keyR
  rw [if_pos h]
  by_cases hv : eqIdx m < 0
  · rw [if_pos hv]
    by_cases e : mName m = nm
    · rw [if_pos e]; subst e; exact cntOf_same _ _
    · rw [if_neg e]; exact cntOf_other e _
  · rw [if_neg hv]
    have hne : ¬ m = nm := by
      intro e
      subst e
      rw [letters_no hn] at hv
      exact hv (by decide)
    show cntOf nm (m :: mName m :: r) = _
    rw [cntOf_other hne]
    by_cases e : mName m = nm
    · rw [if_pos e]; subst e; exact cntOf_same _ _
    · rw [if_neg e]; exact cntOf_other e _

theorem cnt_nm {ms : List ByteArray} {nm : ByteArray} (hn : P.nameOk nm = true) (hall : ∀ (j : Nat) (t : ByteArray), ms[j]? = some t → isMk t = true) : ∀ n, cntOf nm (keysR ms n) = nmTo ms nm n
  | 0 => rfl
  | n + 1 => by
    cases h : ms[n]? with
    | none => simp only [keysR, nmTo, h, Nat.add_zero]; exact cnt_nm hn hall n
    | some t =>
      simp only [keysR, nmTo, h]
      rw [cntOf_keyR (hall n t h) hn, cnt_nm hn hall n]

theorem nm_mono (ms : List ByteArray) (nm : ByteArray) : ∀ n k, k ≤ n → nmTo ms nm k ≤ nmTo ms nm n
  | 0, k, h => by rw [Nat.le_zero.1 h]; exact Nat.le_refl _
  | n + 1, k, h => by
    by_cases e : k = n + 1
    · subst e; exact Nat.le_refl _
    · refine Nat.le_trans (nm_mono ms nm n k (by omega)) ?_
      simp only [nmTo]; omega

theorem nm_two {ms : List ByteArray} {nm s t : ByteArray} {j k n : Nat} (hjk : j < k) (hkn : k < n) (hj : ms[j]? = some s) (hk : ms[k]? = some t) (es : mName s = nm) (et : mName t = nm) : 2 ≤ nmTo ms nm n := by
  have h1 : 1 ≤ nmTo ms nm (j + 1) := by simp only [nmTo, hj, es, if_true]; omega
  have h2 := nm_mono ms nm k (j + 1) (by omega)
  have h3 : nmTo ms nm (k + 1) = nmTo ms nm k + 1 := by simp only [nmTo, hk, et, if_true]
  have h4 := nm_mono ms nm n (k + 1) (by omega)
  omega

theorem nm_one {ms : List ByteArray} {nm : ByteArray} {k : Nat} (h : ∀ j t, j ≠ k → ms[j]? = some t → mName t ≠ nm) : ∀ n, nmTo ms nm n ≤ if k < n then 1 else 0
  | 0 => by simp [nmTo]
  | n + 1 => by
    have ih := nm_one h n
    simp only [nmTo]
    cases hm : ms[n]? with
    | none =>
      show nmTo ms nm n + 0 ≤ _
      split at ih <;> split <;> omega
    | some t =>
      show nmTo ms nm n + (if mName t = nm then 1 else 0) ≤ _
      by_cases e : n = k
      · subst e
        rw [if_neg (Nat.lt_irrefl _)] at ih
        rw [if_pos (Nat.lt_succ_self _)]
        split <;> omega
      · rw [if_neg (h n t e hm)]
        split at ih <;> split <;> omega

theorem fresh_iff {ms : List ByteArray} {nm : ByteArray} : ∀ k, freshTo ms nm k = true ↔ ∀ j t, j < k → ms[j]? = some t → mName t ≠ nm
  | 0 => by simp [freshTo]
  | k + 1 => by
    have ih := fresh_iff (ms := ms) (nm := nm) k
    simp only [freshTo, Bool.and_eq_true, ih]
    constructor
    · rintro ⟨h1, h2⟩ j t hj ht
      by_cases e : j = k
      · subst e
        rw [ht] at h2
        simpa using h2
      · exact h1 j t (by omega) ht
    · intro h
      refine ⟨fun j t hj ht => h j t (by omega) ht, ?_⟩
      cases hm : ms[k]? with
      | none => rfl
      | some t => simpa using h k t (by omega) hm

theorem mkTo_iff {ms : List ByteArray} : ∀ n, mkTo ms n = true ↔ ∀ k, k < n → mkAt ms k = true
  | 0 => by simp [mkTo]
  | n + 1 => by
    simp only [mkTo, Bool.and_eq_true, mkTo_iff n]
    constructor
    · rintro ⟨h1, h2⟩ k hk
      by_cases e : k = n
      · subst e; exact h2
      · exact h1 k (by omega)
    · intro h
      exact ⟨fun k hk => h k (by omega), h n (by omega)⟩

theorem smTo_iff {ms : List ByteArray} : ∀ n, smTo ms n = true ↔ ∀ k, k < n → smAt ms k = true
  | 0 => by simp [smTo]
  | n + 1 => by
    simp only [smTo, Bool.and_eq_true, smTo_iff n]
    constructor
    · rintro ⟨h1, h2⟩ k hk
      by_cases e : k = n
      · subst e; exact h2
      · exact h1 k (by omega)
    · intro h
      exact ⟨fun k hk => h k (by omega), h n (by omega)⟩

/-- a mark stands behind the one ahead of it -/
def lsAt (ms : List ByteArray) (k : Nat) : Prop := ∀ j m t, k = j + 1 → ms[k]? = some m → ms[j]? = some t → Op.bytesLess t.toList m.toList = true

theorem mkAt_iff {ms : List ByteArray} {k : Nat} {m : ByteArray} (hk : ms[k]? = some m) : mkAt ms k = true ↔ isMk m = true ∧ lsAt ms k ∧ cntOf (mName m) (keysR ms ms.length) ≤ 1 := by
  cases k with
  | zero =>
    simp only [mkAt, hk, Bool.and_eq_true, decide_eq_true_eq]
    constructor
    · rintro ⟨h1, h2⟩
      exact ⟨h1, fun j _ _ h => by omega, h2⟩
    · rintro ⟨h1, _, h2⟩
      exact ⟨h1, h2⟩
  | succ j =>
    have hlt : j + 1 < ms.length := (List.getElem?_eq_some_iff.mp hk).1
    have ht : ms[j]? = some ms[j] := List.getElem?_eq_getElem (by omega)
    simp only [mkAt, hk, ht, Bool.and_eq_true, decide_eq_true_eq]
    constructor
    · rintro ⟨⟨h1, h2⟩, h3⟩
      refine ⟨h1, fun i a b hi ha hb => ?_, h3⟩
      have : i = j := by omega
      subst this
      rw [hk] at ha
      rw [ht] at hb
      cases ha
      cases hb
      exact h2
    · rintro ⟨h1, h2, h3⟩
      exact ⟨⟨h1, h2 j m ms[j] rfl hk ht⟩, h3⟩

theorem smAt_iff {ms : List ByteArray} {k : Nat} {m : ByteArray} (hk : ms[k]? = some m) : smAt ms k = true ↔ isMk m = true ∧ lsAt ms k ∧ freshTo ms (mName m) k = true := by
  cases k with
  | zero =>
    simp only [smAt, hk, freshTo]
    constructor
    · intro h1
      exact ⟨h1, fun j _ _ h => by omega, trivial⟩
    · rintro ⟨h1, _, _⟩
      exact h1
  | succ j =>
    have hlt : j + 1 < ms.length := (List.getElem?_eq_some_iff.mp hk).1
    have ht : ms[j]? = some ms[j] := List.getElem?_eq_getElem (by omega)
    simp only [smAt, hk, ht, Bool.and_eq_true]
    constructor
    · rintro ⟨⟨⟨h1, h2⟩, _⟩, h3⟩
      refine ⟨h1, fun i a b hi ha hb => ?_, h3⟩
      have : i = j := by omega
      subst this
      rw [hk] at ha
      rw [ht] at hb
      cases ha
      cases hb
      exact h2
    · rintro ⟨h1, h2, h3⟩
      refine ⟨⟨⟨h1, h2 j m ms[j] rfl hk ht⟩, ?_⟩, h3⟩
      have := (fresh_iff _).1 h3 j ms[j] (by omega) ht
      simpa using fun e => this e.symm

theorem mk_eq_sm (ms : List ByteArray) : mkOk ms = smOk ms := by
  unfold mkOk smOk
  congr 1
  rw [Bool.eq_iff_iff, mkTo_iff, smTo_iff]
  have get : ∀ k, k < ms.length → ∃ m, ms[k]? = some m := fun k hk => ⟨ms[k], List.getElem?_eq_getElem hk⟩
  constructor
  · intro h k hk
    obtain ⟨m, hm⟩ := get k hk
    have hall : ∀ (j : Nat) (t : ByteArray), ms[j]? = some t → isMk t = true := fun j t ht => ((mkAt_iff ht).1 (h j (List.getElem?_eq_some_iff.mp ht).1)).1
    obtain ⟨h1, h2, h3⟩ := (mkAt_iff hm).1 (h k hk)
    refine (smAt_iff hm).2 ⟨h1, h2, (fresh_iff _).2 fun j t hj ht e => ?_⟩
    rw [cnt_nm (isMk_name h1) hall] at h3
    have := nm_two hj hk ht hm e rfl
    omega
  · intro h k hk
    obtain ⟨m, hm⟩ := get k hk
    have hall : ∀ (j : Nat) (t : ByteArray), ms[j]? = some t → isMk t = true := fun j t ht => ((smAt_iff ht).1 (h j (List.getElem?_eq_some_iff.mp ht).1)).1
    obtain ⟨h1, h2, h3⟩ := (smAt_iff hm).1 (h k hk)
    refine (mkAt_iff hm).2 ⟨h1, h2, ?_⟩
    rw [cnt_nm (isMk_name h1) hall]
    refine Nat.le_trans (nm_one (k := k) (fun j t hjk ht e => ?_) _) (by split <;> omega)
    rcases Nat.lt_or_gt_of_ne hjk with hl | hg
    · exact (fresh_iff _).1 h3 j t hl ht e
    · have hj : j < ms.length := (List.getElem?_eq_some_iff.mp ht).1
      exact (fresh_iff _).1 ((smAt_iff ht).1 (h j hj)).2.2 k m hg hm e.symm

end Go.Proofs.YthjicahpfhjfdaaGreatDoor

namespace Go.Proofs.YthjicahpfhjfdaaGreatDoor
open Go.RowKit

theorem cntOf_append (t : ByteArray) (a b : List ByteArray) : cntOf t (a ++ b) = cntOf t a + cntOf t b := by simp [cntOf]

theorem hasK_append (a b : List ByteArray) (t : ByteArray) : hasK (a ++ b) t = (hasK a t || hasK b t) := by
  unfold hasK
  rw [cntOf_append, Bool.eq_iff_iff]
  simp
  omega

theorem hasK_nil (t : ByteArray) : hasK [] t = false := rfl
theorem hasK_one (s t : ByteArray) : hasK [s] t = decide (s = t) := by
  unfold hasK
  by_cases h : s = t
  · subst h; rw [cntOf_same]; simp
  · rw [cntOf_other h]; simp [cntOf, h]
theorem hasK_two (s r t : ByteArray) : hasK [s, r] t = (decide (s = t) || decide (r = t)) := by
  rw [show [s, r] = [s] ++ [r] from rfl, hasK_append, hasK_one, hasK_one]

theorem name_neA {m n : ByteArray} (hn : P.nameOk n = true) (h : ¬ eqIdx m < 0) : ¬ m = n := by
  intro e
  subst e
  rw [letters_no hn] at h
  omega

theorem key_name {n : ByteArray} (hn : P.nameOk n = true) (m vl : ByteArray) : hasK (keyR m) n = hitM true n vl m := by
  unfold keyR hitM
  cases isMk m with
  | false => rfl
  | true =>
    by_cases h : eqIdx m < 0
    · simp only [if_pos h, if_true]
      rw [hasK_one]
      simp
    · simp only [if_neg h, if_true]
      rw [hasK_two, decide_eq_false (name_neA hn h)]
      simp

/-- a name, a sign, a value: where the sign is -/
theorem data_join (n v : ByteArray) : (n ++ eqB ++ v).data.toList = n.data.toList ++ 61 :: v.data.toList := by
  simp [eqB]

theorem ba_ext {a b : ByteArray} (h : a.data.toList = b.data.toList) : a = b := by
  cases a with | mk x => cases b with | mk y => cases x; cases y; simp at h; simp [h]

theorem data_len (s : ByteArray) : s.data.toList.length = s.size := by simp

theorem ext_list (s : ByteArray) (a b : Nat) : (s.extract a b).data.toList = (s.data.toList.drop a).take (b - a) := by
  rw [ByteArray.data_extract, Array.toList_extract]

theorem idx_join {n : ByteArray} (hn : P.nameOk n = true) (v : ByteArray) : eqIdx (n ++ eqB ++ v) = (n.size : Int) := by
  have hno := letters_no hn
  have hlen := data_len n
  have hs : (n ++ eqB ++ v).size = n.size + 1 + v.size := by rw [ByteArray.size_append, ByteArray.size_append]; rfl
  refine eqIdx_at (by omega) ?_ ?_
  · have : (n ++ eqB ++ v).data.toList[n.size]? = some 61 := by rw [data_join, List.getElem?_append_right (by omega), hlen]; simp
    obtain ⟨h1, h2⟩ := List.getElem?_eq_some_iff.1 this
    have h3 : (n ++ eqB ++ v)[n.size] = 61 := h2
    rw [h3]; rfl
  · intro j hj
    rw [data_join, List.getElem?_append_left (by omega)]
    exact Lib.indexByte_none hno j

theorem name_join {n : ByteArray} (hn : P.nameOk n = true) (v : ByteArray) : mName (n ++ eqB ++ v) = n := by
  unfold mName
  rw [idx_join hn, if_neg (by omega)]
  apply ba_ext
  rw [ext_list, data_join, List.drop_zero, Int.toNat_natCast, Nat.sub_zero]
  exact List.take_left' (data_len n)

theorem val_join {n : ByteArray} (hn : P.nameOk n = true) (v : ByteArray) : mVal (n ++ eqB ++ v) = v := by
  unfold mVal
  rw [idx_join hn, if_neg (by omega)]
  apply ba_ext
  have hlen := data_len n
  have hs : (n ++ eqB ++ v).size = n.size + 1 + v.size := by rw [ByteArray.size_append, ByteArray.size_append]; rfl
  rw [ext_list, data_join, hs, Int.toNat_natCast, show n.data.toList ++ 61 :: v.data.toList = (n.data.toList ++ [61]) ++ v.data.toList by simp]
  rw [List.drop_left' (by simp)]
  exact List.take_of_length_le (by rw [data_len]; omega)

theorem mk_join {m : ByteArray} (h : ¬ eqIdx m < 0) : mName m ++ eqB ++ mVal m = m := by
  obtain ⟨o, ho⟩ : ∃ o : Nat, eqIdx m = o := ⟨(eqIdx m).toNat, by omega⟩
  have hlt := eqIdx_lt ho
  have h2 := (Lib.indexByte_some ho).1
  apply ba_ext
  rw [data_join]
  unfold mName mVal
  rw [if_neg h, if_neg h, ext_list, ext_list, ho, Int.toNat_natCast, List.drop_zero, Nat.sub_zero]
  rw [List.take_of_length_le (l := m.data.toList.drop (o + 1)) (by rw [List.length_drop, data_len]; omega)]
  obtain ⟨h3, h4⟩ := List.getElem?_eq_some_iff.1 h2
  rw [← h4, ← List.drop_eq_getElem_cons h3, List.take_append_drop]

theorem key_value {n v : ByteArray} (hn : P.nameOk n = true) (hv : P.nameOk v = true) (m : ByteArray) : hasK (keyR m) (n ++ eqB ++ v) = hitM false n v m := by
  unfold keyR hitM
  cases hmk : isMk m with
  | false => rfl
  | true =>
    have hnm : ¬ mName m = n ++ eqB ++ v := by
      intro e
      have h1 := letters_no (isMk_name hmk)
      rw [e, idx_join hn] at h1
      omega
    by_cases h : eqIdx m < 0
    · simp only [if_pos h, if_true]
      rw [hasK_one, decide_eq_false hnm]
      have hv0 : ¬ mVal m = v := by
        intro e
        have h1 := (P.nameOk_pos hv).1
        rw [← e] at h1
        unfold mVal at h1
        rw [if_pos h] at h1
        exact absurd h1 (by decide)
      rw [decide_eq_false hv0]
      simp
    · simp only [if_neg h, if_true]
      rw [hasK_two, decide_eq_false hnm, Bool.or_false, Bool.eq_iff_iff]
      simp only [Bool.true_and, Bool.false_or, Bool.and_eq_true, decide_eq_true_eq]
      constructor
      · intro e
        rw [e]
        exact ⟨name_join hn v, val_join hn v⟩
      · rintro ⟨e1, e2⟩
        rw [← mk_join h, e1, e2]

theorem hit_of {Z : List ByteArray} {one : Bool} {nm vl x : ByteArray} (H : ∀ m, hasK (keyR m) x = hitM one nm vl m) : ∀ k, hasK (keysR Z k) x = hitTo Z one nm vl k
  | 0 => rfl
  | k + 1 => by
    unfold keysR hitTo
    cases h : Z[k]? with
    | none => simp only [Bool.or_false]; exact hit_of H k
    | some m =>
      simp only []
      rw [hasK_append, H m, hit_of H k, Bool.or_comm]

theorem meets_eq (Z : List ByteArray) (y : P.Tr) (hw : P.wf y) : nOk y → meetsK (keysR Z Z.length) y = meetsS Z y := by
  refine P.wf_ind (p := fun y => nOk y → meetsK (keysR Z Z.length) y = meetsS Z y) ?_ ?_ ?_ ?_ ?_ ?_ y hw
  · intro _; rfl
  · intro n hn
    exact hit_of (key_name (hn.2.1 rfl) · _) _
  · intro n v hn
    obtain ⟨h1, h2⟩ := hn.2.2.1 rfl
    exact hit_of (key_value h1 h2) _
  · intro k _ ih hn
    show (!meetsK _ k) = !meetsS _ k
    rw [ih hn.2.2.2.1]
  · intro a b _ _ ia ib hn
    show (meetsK _ a && meetsK _ b) = (meetsS _ a && meetsS _ b)
    rw [ia hn.2.2.2.1, ib hn.2.2.2.2]
  · intro a b _ _ ia ib hn
    show (meetsK _ a || meetsK _ b) = (meetsS _ a || meetsS _ b)
    rw [ia hn.2.2.2.1, ib hn.2.2.2.2]

/-- the program and the specification ask the same of a berth -/
theorem asks_eq (t : ByteArray) (ms : List ByteArray) (z : ByteArray) : asksI t ms z = selS t ms z := by
  unfold asksI selS
  by_cases h : codeOf t = 0
  · obtain ⟨hw, hn, _, _⟩ := tree_facts h
    rcases hn with e | hn
    · rw [e]; rfl
    · rw [meets_eq _ _ hw hn]
  · rw [decide_eq_false h]; rfl

end Go.Proofs.YthjicahpfhjfdaaGreatDoor
