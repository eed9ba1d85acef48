import Derived.Test.YtmclbfkcbadnpaaGreatSel
import Derived.Test.YtmclbfkcbadnpaaGreatJ26
import Derived.Test.YtmclbfkcbadnpaaGreatJ28
import Derived.Test.YtmclbfkcbadnpaaGreatAsk
import Derived.Test.YtmclbfkcbadnpaaGreatBrt
import Derived.DeepKeys4
import Derived.Maps.OwnSet
import Derived.Test.YtmclbfkcbadnpaaGreatRdr
import Derived.Test.YtmclbfkcbadnpaaGreatPlc
namespace Go.Proofs.YtmclbfkcbadnpaaGreat
open Go.RowKit

theorem cntOf_append (t : ByteArray) (a b : List ByteArray) : cntOf t (a ++ b) = cntOf t a + cntOf t b := by simp [cntOf]

theorem hasK_append (a b : List ByteArray) (t : ByteArray) : hasK (a ++ b) t = (hasK a t || hasK b t) := by
 unfold hasK
 rw [cntOf_append, Bool.eq_iff_iff]
 simp
 omega

theorem hasK_nil (t : ByteArray) : hasK [] t = false := rfl
theorem hasK_one (s t : ByteArray) : hasK [s] t = decide (s = t) := by
 unfold hasK
 by_cases h : s = t
 ·subst h; rw [cntOf_same]; simp
 ·rw [cntOf_other h]; simp [cntOf, h]
theorem hasK_two (s r t : ByteArray) : hasK [s, r] t = (decide (s = t) || decide (r = t)) := by
 rw [show [s, r] = [s] ++ [r] from rfl, hasK_append, hasK_one, hasK_one]

theorem name_neA {m n : ByteArray} (hn : P.nameOk n = true) (h : ¬ eqIdx m < 0) : ¬ m = n := by
 intro e
 subst e
 rw [letters_no hn] at h
 omega

theorem key_name {n : ByteArray} (hn : P.nameOk n = true) (m vl : ByteArray) : hasK (keyR m) n = hitM true n vl m := by
 unfold keyR hitM
 cases isMk m with
 | false => rfl
 | true =>
  by_cases h : eqIdx m < 0
  ·simp only [if_pos h, if_true]
   rw [hasK_one]
   simp
  ·simp only [if_neg h, if_true]
   rw [hasK_two, decide_eq_false (name_neA hn h)]
   simp

theorem data_join (n v : ByteArray) : (n ++ eqB ++ v).data.toList = n.data.toList ++ 61 :: v.data.toList := by
 simp [eqB]

theorem ba_ext {a b : ByteArray} (h : a.data.toList = b.data.toList) : a = b := by
 cases a with | mk x => cases b with | mk y => cases x; cases y; simp at h; simp [h]

theorem data_len (s : ByteArray) : s.data.toList.length = s.size := by simp

theorem ext_list (s : ByteArray) (a b : Nat) : (s.extract a b).data.toList = (s.data.toList.drop a).take (b - a) := by
 rw [ByteArray.data_extract, Array.toList_extract]

theorem idx_join {n : ByteArray} (hn : P.nameOk n = true) (v : ByteArray) : eqIdx (n ++ eqB ++ v) = (n.size : Int) := by
 have hno := letters_no hn
 have hlen := data_len n
 have hs : (n ++ eqB ++ v).size = n.size + 1 + v.size := by rw [ByteArray.size_append, ByteArray.size_append]; rfl
 refine eqIdx_at (by omega) ?_ ?_
 ·have : (n ++ eqB ++ v).data.toList[n.size]? = some 61 := by rw [data_join, List.getElem?_append_right (by omega), hlen]; simp
  obtain ⟨h1, h2⟩ := List.getElem?_eq_some_iff.1 this
  have h3 : (n ++ eqB ++ v)[n.size] = 61 := h2
  rw [h3]; rfl
 ·intro j hj
  rw [data_join, List.getElem?_append_left (by omega)]
  exact Lib.indexByte_none hno j

theorem name_join {n : ByteArray} (hn : P.nameOk n = true) (v : ByteArray) : mName (n ++ eqB ++ v) = n := by
 unfold mName
 rw [idx_join hn, if_neg (by omega)]
 apply ba_ext
 rw [ext_list, data_join, List.drop_zero, Int.toNat_natCast, Nat.sub_zero]
 exact List.take_left' (data_len n)

theorem val_join {n : ByteArray} (hn : P.nameOk n = true) (v : ByteArray) : mVal (n ++ eqB ++ v) = v := by
 unfold mVal
 rw [idx_join hn, if_neg (by omega)]
 apply ba_ext
 have hlen := data_len n
 have hs : (n ++ eqB ++ v).size = n.size + 1 + v.size := by rw [ByteArray.size_append, ByteArray.size_append]; rfl
 rw [ext_list, data_join, hs, Int.toNat_natCast, show n.data.toList ++ 61 :: v.data.toList = (n.data.toList ++ [61]) ++ v.data.toList by simp]
 rw [List.drop_left' (by simp)]
 exact List.take_of_length_le (by rw [data_len]; omega)

theorem mk_join {m : ByteArray} (h : ¬ eqIdx m < 0) : mName m ++ eqB ++ mVal m = m := by
 obtain ⟨o, ho⟩ : ∃ o : Nat, eqIdx m = o := ⟨(eqIdx m).toNat, by omega⟩
 have hlt := eqIdx_lt ho
 have h2 := (Lib.indexByte_some ho).1
 apply ba_ext
 rw [data_join]
 unfold mName mVal
 rw [if_neg h, if_neg h, ext_list, ext_list, ho, Int.toNat_natCast, List.drop_zero, Nat.sub_zero]
 rw [List.take_of_length_le (l := m.data.toList.drop (o + 1)) (by rw [List.length_drop, data_len]; omega)]
 obtain ⟨h3, h4⟩ := List.getElem?_eq_some_iff.1 h2
 rw [← h4, ← List.drop_eq_getElem_cons h3, List.take_append_drop]

theorem key_value {n v : ByteArray} (hn : P.nameOk n = true) (hv : P.nameOk v = true) (m : ByteArray) : hasK (keyR m) (n ++ eqB ++ v) = hitM false n v m := by
 unfold keyR hitM
 cases hmk : isMk m with
 | false => rfl
 | true =>
  have hnm : ¬ mName m = n ++ eqB ++ v := by
   intro e
   have h1 := letters_no (isMk_name hmk)
   rw [e, idx_join hn] at h1
   omega
  by_cases h : eqIdx m < 0
  ·simp only [if_pos h, if_true]
   rw [hasK_one, decide_eq_false hnm]
   have hv0 : ¬ mVal m = v := by
    intro e
    have h1 := (P.nameOk_pos hv).1
    rw [← e] at h1
    unfold mVal at h1
    rw [if_pos h] at h1
    exact absurd h1 (by decide)
   rw [decide_eq_false hv0]
   simp
  ·simp only [if_neg h, if_true]
   rw [hasK_two, decide_eq_false hnm, Bool.or_false, Bool.eq_iff_iff]
   simp only [Bool.true_and, Bool.false_or, Bool.and_eq_true, decide_eq_true_eq]
   constructor
   ·intro e
    rw [e]
    exact ⟨name_join hn v, val_join hn v⟩
   ·rintro ⟨e1, e2⟩
    rw [← mk_join h, e1, e2]

theorem hit_of {Z : List ByteArray} {one : Bool} {nm vl x : ByteArray} (H : ∀ m, hasK (keyR m) x = hitM one nm vl m) : ∀ k, hasK (keysR Z k) x = hitTo Z one nm vl k
 | 0 => rfl
 | k + 1 => by
  unfold keysR hitTo
  cases h : Z[k]? with
  | none => simp only [Bool.or_false]; exact hit_of H k
  | some m =>
   simp only []
   rw [hasK_append, H m, hit_of H k, Bool.or_comm]

theorem meets_eq (Z : List ByteArray) (y : P.Tr) (hw : P.wf y) : nOk y → meetsK (keysR Z Z.length) y = meetsS Z y := by
 refine P.wf_ind (p := fun y => nOk y → meetsK (keysR Z Z.length) y = meetsS Z y) ?_ ?_ ?_ ?_ ?_ ?_ y hw
 ·intro _; rfl
 ·intro n hn
  exact hit_of (key_name (hn.2.1 rfl) · _) _
 ·intro n v hn
  obtain ⟨h1, h2⟩ := hn.2.2.1 rfl
  exact hit_of (key_value h1 h2) _
 ·intro k _ ih hn
  show (!meetsK _ k) = !meetsS _ k
  rw [ih hn.2.2.2.1]
 ·intro a b _ _ ia ib hn
  show (meetsK _ a && meetsK _ b) = (meetsS _ a && meetsS _ b)
  rw [ia hn.2.2.2.1, ib hn.2.2.2.2]
 ·intro a b _ _ ia ib hn
  show (meetsK _ a || meetsK _ b) = (meetsS _ a || meetsS _ b)
  rw [ia hn.2.2.2.1, ib hn.2.2.2.2]

theorem asks_eq (t : ByteArray) (ms : List ByteArray) (z : ByteArray) : asksI t ms z = selS t ms z := by
 unfold asksI selS
 by_cases h : codeOf t = 0
 ·obtain ⟨hw, hn, _, _⟩ := tree_facts h
  rcases hn with e | hn
  ·rw [e]; rfl
  ·rw [meets_eq _ _ hw hn]
 ·rw [decide_eq_false h]; rfl

end Go.Proofs.YtmclbfkcbadnpaaGreat

namespace Go.Proofs.YtmclbfkcbadnpaaGreat
open Go.RowKit

def anyTo (f : Nat → Bool) : Nat → Bool
 | 0 => false
 | k + 1 => anyTo f k || f k

theorem anyTo_yes {f : Nat → Bool} {k : Nat} (h : f k = true) : anyTo f (k + 1) = true := by simp [anyTo, h]
theorem anyTo_no {f : Nat → Bool} {k : Nat} (h : f k = false) : anyTo f (k + 1) = anyTo f k := by simp [anyTo, h]
theorem anyTo_mono {f : Nat → Bool} {k : Nat} : ∀ n, k ≤ n → anyTo f k = true → anyTo f n = true
 | 0, h, e => by
  have : k = 0 := by omega
  subst this
  exact e
 | n + 1, h, e => by
  by_cases hk : k = n + 1
  ·subst hk; exact e
  ·simp [anyTo, anyTo_mono n (by omega) e]

def holdTo (x : Flt) (ci : Nat) (nm : ByteArray) : Nat → Int
 | 0 => 0
 | k + 1 => holdTo x ci nm k + (match x.copies[k]? with
  | some c => if c.at_ = nm ∧ k ≠ ci then c.hold else 0
  | none => 0)

def standTo (x : Flt) (ci : Nat) (nm : ByteArray) : Nat → Int
 | 0 => 0
 | k + 1 => standTo x ci nm k + (match x.copies[k]? with
  | some c => if c.at_ = nm ∧ k ≠ ci then 1 else 0
  | none => 0)

theorem holdTo_in {x : Flt} {ci k : Nat} {nm : ByteArray} {c : Cpy} (hk : x.copies[k]? = some c) (h1 : c.at_ = nm) (h2 : k ≠ ci) : holdTo x ci nm (k + 1) = holdTo x ci nm k + c.hold := by
 simp only [holdTo, hk]
 rw [if_pos ⟨h1, h2⟩]

theorem holdTo_out {x : Flt} {ci k : Nat} {nm : ByteArray} {c : Cpy} (hk : x.copies[k]? = some c) (h : ¬ (c.at_ = nm ∧ k ≠ ci)) : holdTo x ci nm (k + 1) = holdTo x ci nm k := by
 simp only [holdTo, hk]
 rw [if_neg h]
 omega

theorem standTo_in {x : Flt} {ci k : Nat} {nm : ByteArray} {c : Cpy} (hk : x.copies[k]? = some c) (h1 : c.at_ = nm) (h2 : k ≠ ci) : standTo x ci nm (k + 1) = standTo x ci nm k + 1 := by
 simp only [standTo, hk]
 rw [if_pos ⟨h1, h2⟩]

theorem standTo_out {x : Flt} {ci k : Nat} {nm : ByteArray} {c : Cpy} (hk : x.copies[k]? = some c) (h : ¬ (c.at_ = nm ∧ k ≠ ci)) : standTo x ci nm (k + 1) = standTo x ci nm k := by
 simp only [standTo, hk]
 rw [if_neg h]
 omega

theorem holdTo_bd {x : Flt} (ci : Nat) (nm : ByteArray) (hc : ∀ (k : Nat) (c : Cpy), x.copies[k]? = some c → 0 ≤ c.hold ∧ c.hold ≤ 1000) : ∀ k, 0 ≤ holdTo x ci nm k ∧ holdTo x ci nm k ≤ 1000 * k
 | 0 => by simp [holdTo]
 | k + 1 => by
  have ih := holdTo_bd ci nm hc k
  simp only [holdTo]
  cases h : x.copies[k]? with
  | none => simp only; omega
  | some c =>
   have h1 := hc k c h
   simp only
   split <;> omega

theorem standTo_bd {x : Flt} (ci : Nat) (nm : ByteArray) : ∀ k : Nat, 0 ≤ standTo x ci nm k ∧ standTo x ci nm k ≤ k
 | 0 => by simp [standTo]
 | k + 1 => by
  have ih := standTo_bd (x := x) ci nm k
  simp only [standTo]
  cases h : x.copies[k]? with
  | none => simp only; omega
  | some c =>
   simp only
   split <;> omega

theorem use_hold {x : Flt} (ci : Nat) (nm : ByteArray) (hc : ∀ (k : Nat) (c : Cpy), x.copies[k]? = some c → 0 ≤ c.hold ∧ c.hold ≤ 1000) : ∀ k, k ≤ 60 → (useTo x.copies nm ci k).2.2 = holdTo x ci nm k
 | 0, _ => rfl
 | k + 1, hk => by
  have ih := use_hold ci nm hc k (by omega)
  have hb := holdTo_bd ci nm hc k
  unfold useTo holdTo
  cases h : x.copies[k]? with
  | none => simp only; omega
  | some c =>
   have h1 := hc k c h
   simp only
   by_cases e : c.at_ = nm ∧ k ≠ ci
   ·rw [if_pos e, if_pos ⟨e.1, by omega⟩]
    simp only
    rw [ih]
    unfold wrap64
    omega
   ·rw [if_neg e, if_neg (fun h => e ⟨h.1, by omega⟩)]
    omega

theorem use_stand {x : Flt} (ci : Nat) (nm : ByteArray) : ∀ k, k ≤ 60 → (useTo x.copies nm ci k).1 = standTo x ci nm k
 | 0, _ => rfl
 | k + 1, hk => by
  have ih := use_stand (x := x) ci nm k (by omega)
  have hb := standTo_bd (x := x) ci nm k
  unfold useTo standTo
  cases h : x.copies[k]? with
  | none => simp only; omega
  | some c =>
   simp only
   by_cases e : c.at_ = nm ∧ k ≠ ci
   ·rw [if_pos e, if_pos ⟨e.1, by omega⟩]
    simp only
    rw [ih]
    unfold wrap64
    omega
   ·rw [if_neg e, if_neg (fun h => e ⟨h.1, by omega⟩)]
    omega

theorem valid_apart {x : Flt} (h : validI x = true) : (∀ (k : Nat) (c : Cpy), x.copies[k]? = some c → (0 ≤ c.hold ∧ c.hold ≤ 1000) ∧ (0 ≤ c.apart ∧ c.apart ≤ 2)) ∧ ∀ (k : Nat) (b : Brt), x.berths[k]? = some b → 0 ≤ b.hold ∧ b.hold ≤ 1000 := by
 unfold validI at h
 simp only [Bool.and_eq_true, fewOk, ordOk, berthsOk, copiesOk, all_iff, decide_eq_true_eq] at h
 obtain ⟨⟨⟨_, _⟩, _⟩, ⟨⟨_, _⟩, _⟩, h2, _, h3, _⟩ := h
 refine ⟨fun k c hc => ?_, fun k b hb => ?_⟩
 ·have h4 := h3 k c hc
  simp only [copyAt, copyOk, Bool.and_eq_true, Bool.or_eq_true, inR, decide_eq_true_eq] at h4
  obtain ⟨⟨_, _⟩, h6⟩ := h4
  exact ⟨h6.1.1.1.1.1.2, h6.1.1.2⟩
 ·have h4 := h2 k b hb
  simp only [berthAt, Bool.and_eq_true, inR, decide_eq_true_eq] at h4
  exact h4.1.2

def nearB (a c : Int) (hb hz : Bool) : Bool := (hb && (decide (a ≠ 0) || decide (c ≠ 0))) || (hz && (decide (a = 2) || decide (c = 2)))

def togF (x : Flt) (ci : Nat) (y : Cpy) (b : Brt) (i : Nat) : Bool := match x.copies[i]? with
 | some c => decide (i ≠ ci) && decide (c.service = y.service) && decide (¬ c.at_ = ⟨#[]⟩) && nearB c.apart y.apart (decide (c.at_ = b.name)) (decide (zoneOf x.berths c.at_ = b.zone))
 | none => false

def stF (x : Flt) (ci : Nat) (sv : ByteArray) (i : Nat) : Bool := match x.copies[i]? with
 | some c => decide (i ≠ ci) && decide (c.service = sv) && decide (¬ c.at_ = ⟨#[]⟩)
 | none => false

theorem tog_no {x : Flt} {ci k : Nat} {y : Cpy} {b : Brt} {c : Cpy} (hk : x.copies[k]? = some c) (h : ¬ (k ≠ ci ∧ c.service = y.service ∧ (¬ c.at_ = ⟨#[]⟩) ∧ nearB c.apart y.apart (decide (c.at_ = b.name)) (decide (zoneOf x.berths c.at_ = b.zone)) = true)) : togF x ci y b k = false := by
 unfold togF
 rw [hk]
 simp only [Bool.and_eq_false_iff, decide_eq_false_iff_not]
 by_cases h1 : k ≠ ci
 ·by_cases h2 : c.service = y.service
  ·by_cases h3 : ¬ c.at_ = ⟨#[]⟩
   ·exact Or.inr (by
     cases hn : nearB c.apart y.apart (decide (c.at_ = b.name)) (decide (zoneOf x.berths c.at_ = b.zone)) with
     | false => rfl
     | true => exact absurd ⟨h1, h2, h3, hn⟩ h)
   ·exact Or.inl (Or.inr h3)
  ·exact Or.inl (Or.inl (Or.inr h2))
 ·exact Or.inl (Or.inl (Or.inl h1))

theorem tog_yes {x : Flt} {ci k : Nat} {y : Cpy} {b : Brt} {c : Cpy} (hk : x.copies[k]? = some c) (h1 : k ≠ ci) (h2 : c.service = y.service) (h3 : ¬ c.at_ = ⟨#[]⟩) (h4 : nearB c.apart y.apart (decide (c.at_ = b.name)) (decide (zoneOf x.berths c.at_ = b.zone)) = true) : togF x ci y b k = true := by
 unfold togF
 rw [hk]
 simp only [Bool.and_eq_true, decide_eq_true_eq]
 exact ⟨⟨⟨h1, h2⟩, h3⟩, h4⟩

theorem st_no {x : Flt} {ci k : Nat} {sv : ByteArray} {c : Cpy} (hk : x.copies[k]? = some c) (h : ¬ (k ≠ ci ∧ c.service = sv ∧ ¬ c.at_ = ⟨#[]⟩)) : stF x ci sv k = false := by
 unfold stF
 rw [hk]
 simp only [Bool.and_eq_false_iff, decide_eq_false_iff_not]
 by_cases h1 : k ≠ ci
 ·by_cases h2 : c.service = sv
  ·exact Or.inr (fun h3 => h ⟨h1, h2, h3⟩)
  ·exact Or.inl (Or.inr h2)
 ·exact Or.inl (Or.inl h1)

theorem st_yes {x : Flt} {ci k : Nat} {sv : ByteArray} {c : Cpy} (hk : x.copies[k]? = some c) (h1 : k ≠ ci) (h2 : c.service = sv) (h3 : ¬ c.at_ = ⟨#[]⟩) : stF x ci sv k = true := by
 unfold stF
 rw [hk]
 simp only [Bool.and_eq_true, decide_eq_true_eq]
 exact ⟨⟨h1, h2⟩, h3⟩

def togI (x : Flt) (ci : Nat) (y : Cpy) (b : Brt) : Bool := anyTo (togF x ci y b) x.copies.length
def farI (x : Flt) (ci : Nat) (y : Cpy) (b : Brt) : Bool := decide (¬ y.near = ⟨#[]⟩) && (!anyTo (znF x ci y.near b.zone) x.copies.length) && (anyTo (stF x ci y.near) x.copies.length || decide (¬ y.near = y.service))
def elsI (y : Cpy) (b : Brt) : Bool := decide (¬ y.fixed = ⟨#[]⟩) && decide (¬ y.fixed = b.name)

def fitsI (x : Flt) (ci : Nat) (y : Cpy) (b : Brt) (op : Bool) : Int :=
 if (b.closed && !op) = true then 1 else if elsI y b = true then 2 else if asksI y.select b.marks b.zone = false then 3 else if togI x ci y b = true then 4 else if farI x ci y b = true then 5 else if 10 ≤ standTo x ci b.name x.copies.length then 6 else if b.room < roomTo x ci b.name x.copies.length + y.room then 7 else if b.hold < holdTo x ci b.name x.copies.length + y.hold then 8 else 0

theorem far_no1 {x : Flt} {ci : Nat} {y : Cpy} {b : Brt} (h : y.near = ⟨#[]⟩) : farI x ci y b = false := by
 unfold farI
 rw [decide_eq_false (fun k => k h)]
 rfl

theorem far_no2 {x : Flt} {ci : Nat} {y : Cpy} {b : Brt} (h : anyTo (znF x ci y.near b.zone) x.copies.length = true) : farI x ci y b = false := by
 unfold farI
 rw [h]
 simp

theorem far_is {x : Flt} {ci : Nat} {y : Cpy} {b : Brt} {f0 q : Bool} (h1 : ¬ y.near = ⟨#[]⟩) (h2 : anyTo (znF x ci y.near b.zone) x.copies.length = false) (h3 : anyTo (stF x ci y.near) x.copies.length = q) (h4 : f0 = decide (¬ y.near = y.service)) : farI x ci y b = (f0 || q) := by
 unfold farI
 rw [h2, h3, ← h4, decide_eq_true h1]
 cases f0 <;> cases q <;> rfl

end Go.Proofs.YtmclbfkcbadnpaaGreat

namespace Go.Proofs.YtmclbfkcbadnpaaGreat
open Go.RowKit Go.WideMaps Go.Maps

theorem laidOutQ : laidOutB Tryz.prog = true := by kernel_rfl
theorem rowQ : (192 : TypeId) < Tryz.prog.types.size := of_decide_eq_true (by kernel_rfl)
theorem wideQ : (match Tryz.prog.underlying 192 with | some (.array _ _) | some (.struct _) => true | _ => false) = true := by rw [Tryz.underlying192]
set_option maxRecDepth 100000 in
theorem law_q : Keyed Tryz.prog 192 := Keyed.of_law (deep_law_laid laidOutQ (m := 2) (by decide) rowQ (by kernel_rfl) wideQ)

def ansElem (v : Value) : Option (DataW Unit × List MemPlace) := match v with
 | .agg cs => match cs.toList with
  | [.bool x] => some (.lit (.bool x), [])
  | _ => none
 | _ => none

theorem ansElem_mk (x : Bool) : ansElem (.agg #[.bool x]) = some (.lit (.bool x), []) := rfl

theorem ansElem_inv {v : Value} {z : DataW Unit × List MemPlace} (h : ansElem v = some z) : ∃ x, v = .agg #[.bool x] ∧ z = (.lit (.bool x), []) := by
 cases v with
 | agg cs =>
  obtain ⟨l⟩ := cs
  match l, h with
  | [.bool x], h => exact ⟨x, rfl, (Option.some.inj h).symm⟩
 | _ => cases h

theorem keyTypeQ : Tryz.prog.keyType 192 = true := by kernel_rfl
theorem formedQ (t : ByteArray) (k : Int) : (Value.agg #[.string t, .int .i64 k]).formed Tryz.prog 192 = true := by kernel_rfl
theorem cellsQ : Tryz.prog.cellsOf 192 = 2 := by kernel_rfl
theorem cellsS : Tryz.prog.cellsOf 9 = 1 := by kernel_rfl
theorem cellsI : Tryz.prog.cellsOf 3 = 1 := by kernel_rfl

theorem litsS (d : Nat) {t : ByteArray} (ht : t.size ≤ maxLen) : Tryz.prog.keyLits (d + 1) 9 [.string t] = some [.string t.data.toList] := by
 unfold Program.keyLits
 rw [Tryz.underlying9]
 exact if_pos ht

theorem litsI (d : Nat) {k : Int} (hk : (Lit.int .i64 k).wf = true) : Tryz.prog.keyLits (d + 1) 3 [.int .i64 k] = some [.int .i64 k] := by
 unfold Program.keyLits
 rw [Tryz.underlying3]
 exact if_pos ⟨rfl, hk⟩

theorem keyQ (t : ByteArray) (k : Nat) (ht : t.size ≤ maxLen) (hk : k ≤ 1048576) : ∃ l, keyOf Tryz.prog 192 (.agg #[.string t, .int .i64 k]) = some l := by
 have hw : (Lit.int .i64 (k : Int)).wf = true := WalkArith.wf_i64 (by omega)
 obtain ⟨d, hd⟩ : ∃ d, Tryz.prog.types.size = d + 1 := ⟨272 - 1, by kernel_rfl⟩
 unfold keyOf
 rw [Tryz.underlying192]
 simp only [keyTypeQ, formedQ, Bool.and_self, if_true]
 rw [hd]
 unfold Program.keyLits
 rw [Tryz.underlying192]
 refine ⟨.string (keyBytes [.string t.data.toList, .int .i64 k]), ?_⟩
 have hc : (Value.agg #[Value.string t, Value.int IntKind.i64 k]).cells.toList = [.string t, .int .i64 k] := rfl
 rw [hc]
 simp only [cellsQ, List.length_cons, List.length_nil]
 rw [if_pos ⟨trivial, by kernel_rfl⟩]
 simp only [List.mapM_cons, List.mapM_nil, cellsS, cellsI, List.drop_zero, List.take_succ_cons, List.take_zero, List.drop_succ_cons, litsS d ht, litsI d hw]
 rfl

end Go.Proofs.YtmclbfkcbadnpaaGreat

namespace Go.Proofs.YtmclbfkcbadnpaaGreat
open Go.RowKit Go.WideMaps Go.Maps

def MemoOk (bs : List Brt) (D : DataW Unit) : Prop := IsMap D ∧ ∀ (t : ByteArray) (k : Nat) (b : Brt) (l : Lit), bs[k]? = some b → keyOf Tryz.prog 192 (.agg #[.string t, .int .i64 ((k : Nat) : Int)]) = some l → has D l = true → D.atKey l (.lit (.bool false)) = .lit (.bool (asksI t b.marks b.zone))

theorem MemoOk.nil (bs : List Brt) : MemoOk bs (.map []) := ⟨⟨_, rfl⟩, fun _ _ _ _ _ _ h => by cases h⟩

theorem MemoOk.put {bs : List Brt} {D : DataW Unit} {t : ByteArray} {k : Nat} {b : Brt} {l : Lit} (h : MemoOk bs D) (hb : bs[k]? = some b) (hl : keyOf Tryz.prog 192 (.agg #[.string t, .int .i64 ((k : Nat) : Int)]) = some l) : MemoOk bs (D.put l (.lit (.bool (asksI t b.marks b.zone)))) := by
 refine ⟨IsMap.put h.1 _ _, fun t' k' b' l' hb' hl' hh => ?_⟩
 by_cases e : l' = l
 ·subst e
  have h1 := law_q.inj hl hl'
  simp at h1
  obtain ⟨rfl, h2⟩ := h1
  have h3 : k' = k := by omega
  subst h3
  rw [hb] at hb'
  cases hb'
  exact atKey_put_same h.1 (law_q.key hl) _ _
 ·rw [has_put_other e] at hh
  rw [atKey_put_other e]
  exact h.2 t' k' b' l' hb' hl' hh

theorem zero_ans (w : World) : (zeroValue 194).run Tryz.prog w = .ok (.agg #[.bool false]) w := by kernel_rfl

end Go.Proofs.YtmclbfkcbadnpaaGreat
