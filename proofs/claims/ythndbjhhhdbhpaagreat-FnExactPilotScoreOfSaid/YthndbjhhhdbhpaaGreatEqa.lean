/-
  Both readings of what a text asks of a berth are one.
-/
import Derived.Test.YthndbjhhhdbhpaaGreatJ40
import Derived.Test.YthndbjhhhdbhpaaGreatJ33
namespace Go.Proofs.YthndbjhhhdbhpaaGreat
open Go.RowKit

theorem cntOf_append (t : ByteArray) (a b : List ByteArray) : cntOf t (a ++ b) = cntOf t a + cntOf t b := by simp [cntOf]

theorem hasK_append (a b : List ByteArray) (t : ByteArray) : hasK (a ++ b) t = (hasK a t || hasK b t) := by
  unfold hasK
  rw [cntOf_append, Bool.eq_iff_iff]
  simp
  omega

theorem hasK_nil (t : ByteArray) : hasK [] t = false := rfl
theorem hasK_one (s t : ByteArray) : hasK [s] t = decide (s = t) := by
  unfold hasK
  by_cases h : s = t
  · subst h; rw [cntOf_same]; simp
  · rw [cntOf_other h]; simp [cntOf, h]
theorem hasK_two (s r t : ByteArray) : hasK [s, r] t = (decide (s = t) || decide (r = t)) := by
  rw [show [s, r] = [s] ++ [r] from rfl, hasK_append, hasK_one, hasK_one]

theorem name_neA {m n : ByteArray} (hn : P.nameOk n = true) (h : ¬ eqIdx m < 0) : ¬ m = n := by
  intro e
  subst e
  rw [letters_no hn] at h
  omega

theorem key_name {n : ByteArray} (hn : P.nameOk n = true) (m vl : ByteArray) : hasK (keyR m) n = hitM true n vl m := by
  unfold keyR hitM
  cases isMk m with
  | false => rfl
  | true =>
    by_cases h : eqIdx m < 0
    · simp only [if_pos h, if_true]
      rw [hasK_one]
      simp
    · simp only [if_neg h, if_true]
      rw [hasK_two, decide_eq_false (name_neA hn h)]
      simp

/-- a name, a sign, a value: where the sign is -/
theorem data_join (n v : ByteArray) : (n ++ eqB ++ v).data.toList = n.data.toList ++ 61 :: v.data.toList := by
  simp [eqB]

theorem ba_ext {a b : ByteArray} (h : a.data.toList = b.data.toList) : a = b := by
  cases a with | mk x => cases b with | mk y => cases x; cases y; simp at h; simp [h]

theorem data_len (s : ByteArray) : s.data.toList.length = s.size := by simp

theorem ext_list (s : ByteArray) (a b : Nat) : (s.extract a b).data.toList = (s.data.toList.drop a).take (b - a) := by
  rw [ByteArray.data_extract, Array.toList_extract]

theorem idx_join {n : ByteArray} (hn : P.nameOk n = true) (v : ByteArray) : eqIdx (n ++ eqB ++ v) = (n.size : Int) := by
  have hno := letters_no hn
  have hlen := data_len n
  have hs : (n ++ eqB ++ v).size = n.size + 1 + v.size := by rw [ByteArray.size_append, ByteArray.size_append]; rfl
  refine eqIdx_at (by omega) ?_ ?_
  · have : (n ++ eqB ++ v).data.toList[n.size]? = some 61 := by rw [data_join, List.getElem?_append_right (by omega), hlen]; simp
    obtain ⟨h1, h2⟩ := List.getElem?_eq_some_iff.1 this
    have h3 : (n ++ eqB ++ v)[n.size] = 61 := h2
    rw [h3]; rfl
  · intro j hj
    rw [data_join, List.getElem?_append_left (by omega)]
    exact Lib.indexByte_none hno j

theorem name_join {n : ByteArray} (hn : P.nameOk n = true) (v : ByteArray) : mName (n ++ eqB ++ v) = n := by
  unfold mName
  rw [idx_join hn, if_neg (by omega)]
  apply ba_ext
  rw [ext_list, data_join, List.drop_zero, Int.toNat_natCast, Nat.sub_zero]
  exact List.take_left' (data_len n)

theorem val_join {n : ByteArray} (hn : P.nameOk n = true) (v : ByteArray) : mVal (n ++ eqB ++ v) = v := by
  unfold mVal
  rw [idx_join hn, if_neg (by omega)]
  apply ba_ext
  have hlen := data_len n
  have hs : (n ++ eqB ++ v).size = n.size + 1 + v.size := by rw [ByteArray.size_append, ByteArray.size_append]; rfl
  rw [ext_list, data_join, hs, Int.toNat_natCast, show n.data.toList ++ 61 :: v.data.toList = (n.data.toList ++ [61]) ++ v.data.toList by simp]
  rw [List.drop_left' (by simp)]
  exact List.take_of_length_le (by rw [data_len]; omega)

theorem mk_join {m : ByteArray} (h : ¬ eqIdx m < 0) : mName m ++ eqB ++ mVal m = m := by
  obtain ⟨o, ho⟩ : ∃ o : Nat, eqIdx m = o := ⟨(eqIdx m).toNat, by omega⟩
  have hlt := eqIdx_lt ho
  have h2 := (Lib.indexByte_some ho).1
  apply ba_ext
  rw [data_join]
  unfold mName mVal
  rw [if_neg h, if_neg h, ext_list, ext_list, ho, Int.toNat_natCast, List.drop_zero, Nat.sub_zero]
  rw [List.take_of_length_le (l := m.data.toList.drop (o + 1)) (by rw [List.length_drop, data_len]; omega)]
  obtain ⟨h3, h4⟩ := List.getElem?_eq_some_iff.1 h2
  rw [← h4, ← List.drop_eq_getElem_cons h3, List.take_append_drop]

theorem key_value {n v : ByteArray} (hn : P.nameOk n = true) (hv : P.nameOk v = true) (m : ByteArray) : hasK (keyR m) (n ++ eqB ++ v) = hitM false n v m := by
  unfold keyR hitM
  cases hmk : isMk m with
  | false => rfl
  | true =>
    have hnm : ¬ mName m = n ++ eqB ++ v := by
      intro e
      have h1 := letters_no (isMk_name hmk)
      rw [e, idx_join hn] at h1
      omega
    by_cases h : eqIdx m < 0
    · simp only [if_pos h, if_true]
      rw [hasK_one, decide_eq_false hnm]
      have hv0 : ¬ mVal m = v := by
        intro e
        have h1 := (P.nameOk_pos hv).1
        rw [← e] at h1
        unfold mVal at h1
        rw [if_pos h] at h1
        exact absurd h1 (by decide)
      rw [decide_eq_false hv0]
      simp
    · simp only [if_neg h, if_true]
      rw [hasK_two, decide_eq_false hnm, Bool.or_false, Bool.eq_iff_iff]
      simp only [Bool.true_and, Bool.false_or, Bool.and_eq_true, decide_eq_true_eq]
      constructor
      · intro e
        rw [e]
        exact ⟨name_join hn v, val_join hn v⟩
      · rintro ⟨e1, e2⟩
        rw [← mk_join h, e1, e2]

theorem hit_of {Z : List ByteArray} {one : Bool} {nm vl x : ByteArray} (H : ∀ m, hasK (keyR m) x = hitM one nm vl m) : ∀ k, hasK (keysR Z k) x = hitTo Z one nm vl k
  | 0 => rfl
  | k + 1 => by
    unfold keysR hitTo
    cases h : Z[k]? with
    | none => simp only [Bool.or_false]; exact hit_of H k
    | some m =>
      simp only []
      rw [hasK_append, H m, hit_of H k, Bool.or_comm]

theorem meets_eq (Z : List ByteArray) (y : P.Tr) (hw : P.wf y) : nOk y → meetsK (keysR Z Z.length) y = meetsS Z y := by
  refine P.wf_ind (p := fun y => nOk y → meetsK (keysR Z Z.length) y = meetsS Z y) ?_ ?_ ?_ ?_ ?_ ?_ y hw
  · intro _; rfl
  · intro n hn
    exact hit_of (key_name (hn.2.1 rfl) · _) _
  · intro n v hn
    obtain ⟨h1, h2⟩ := hn.2.2.1 rfl
    exact hit_of (key_value h1 h2) _
  · intro k _ ih hn
    show (!meetsK _ k) = !meetsS _ k
    rw [ih hn.2.2.2.1]
  · intro a b _ _ ia ib hn
    show (meetsK _ a && meetsK _ b) = (meetsS _ a && meetsS _ b)
    rw [ia hn.2.2.2.1, ib hn.2.2.2.2]
  · intro a b _ _ ia ib hn
    show (meetsK _ a || meetsK _ b) = (meetsS _ a || meetsS _ b)
    rw [ia hn.2.2.2.1, ib hn.2.2.2.2]

/-- the program and the specification ask the same of a berth -/
theorem asks_eq (t : ByteArray) (ms : List ByteArray) (z : ByteArray) : asksI t ms z = selS t ms z := by
  unfold asksI selS
  by_cases h : codeOf t = 0
  · obtain ⟨hw, hn, _, _⟩ := tree_facts h
    rcases hn with e | hn
    · rw [e]; rfl
    · rw [meets_eq _ _ hw hn]
  · rw [decide_eq_false h]; rfl

end Go.Proofs.YthndbjhhhdbhpaaGreat
