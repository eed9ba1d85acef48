import Derived.Test.YtnifmiacobfplaaFlp
namespace Go.Proofs.Ytnifmiacobfplaa
open Go.RowKit

theorem bl_trQ : ∀ x y z, Op.bytesLess x y = true → Op.bytesLess y z = true → Op.bytesLess x z = true
 | _, _, [], _, h => by simp [Op.bytesLess] at h
 | [], _, _ :: _, _, _ => rfl
 | a :: x, [], c :: z, h, _ => by simp [Op.bytesLess] at h
 | a :: x, b :: y, c :: z, h1, h2 => by
  simp only [Op.bytesLess, Bool.or_eq_true, Bool.and_eq_true, decide_eq_true_eq, beq_iff_eq] at h1 h2 ⊢
  rcases h1 with h1 | ⟨rfl, h1⟩
  ·rcases h2 with h2 | ⟨rfl, h2⟩
   ·exact Or.inl (UInt8.lt_trans h1 h2)
   ·exact Or.inl h1
  ·rcases h2 with h2 | ⟨rfl, h2⟩
   ·exact Or.inl h2
   ·exact Or.inr ⟨rfl, bl_trQ x y z h1 h2⟩

def Blt (a b : ByteArray) : Prop := Op.bytesLess a.toList b.toList = true

theorem asc_steps {ns : List ByteArray} : ∀ n, ascTo ns n = true → ∀ (k : Nat) s t, k + 1 < n → ns[k]? = some s → ns[k + 1]? = some t → Blt s t
 | 0, _, _, _, _, h, _, _ => by omega
 | n + 1, h, k, s, t, hk, hs, ht => by
  simp only [ascTo, Bool.and_eq_true] at h
  by_cases e : k + 1 = n
  ·subst e
   have h2 := h.2
   rw [ascAt_at hs ht] at h2
   exact h2
  ·exact asc_steps n h.1 k s t (by omega) hs ht

theorem asc_far {ns : List ByteArray} (h : ascTo ns ns.length = true) : ∀ (d i : Nat) s t, ns[i]? = some s → ns[i + d + 1]? = some t → Blt s t
 | 0, i, s, t, hs, ht => asc_steps ns.length h i s t (lt_of_some ht) hs ht
 | d + 1, i, s, t, hs, ht => by
  have hl := lt_of_some ht
  have hu : ns[i + d + 1]? = some ns[i + d + 1] := List.getElem?_eq_getElem (by omega)
  exact bl_trQ _ _ _ (asc_far h d i s _ hs hu) (asc_steps ns.length h (i + d + 1) _ t (by omega) hu ht)

theorem asc_pair {ns : List ByteArray} (h : ascTo ns ns.length = true) : ns.Pairwise Blt := by
 rw [List.pairwise_iff_getElem]
 intro i j hi hj hij
 have := asc_far h (j - i - 1) i ns[i] ns[j] (List.getElem?_eq_getElem hi) (by rw [show i + (j - i - 1) + 1 = j by omega]; exact List.getElem?_eq_getElem hj)
 exact this

theorem pair_asc {ns : List ByteArray} (h : ns.Pairwise Blt) : ∀ n, n ≤ ns.length → ascTo ns n = true
 | 0, _ => rfl
 | n + 1, hn => by
  simp only [ascTo, pair_asc h n (by omega), Bool.true_and]
  cases n with
  | zero => rfl
  | succ m =>
   have h1 : ns[m]? = some ns[m] := List.getElem?_eq_getElem (by omega)
   have h2 : ns[m + 1]? = some ns[m + 1] := List.getElem?_eq_getElem (by omega)
   rw [ascAt_at h1 h2]
   exact List.pairwise_iff_getElem.1 h m (m + 1) (by omega) (by omega) (by omega)

theorem rs_filter {l : List Rn} {c : Int} (P : Rn → Bool) (h : rsB l c = true) : rsB (l.filter P) c = true := by
 unfold rsB at h ⊢
 simp only [Bool.and_eq_true, decide_eq_true_eq] at h ⊢
 obtain ⟨h1, h2, h3⟩ := h
 refine ⟨Nat.le_trans (List.length_filter_le _ _) h1, ?_, ?_⟩
 ·have hp := asc_pair (ns := l.map (·.want.copy)) (by rw [List.length_map]; exact h2)
  rw [List.pairwise_map] at hp
  have hq := pair_asc (ns := (l.filter P).map (·.want.copy)) (by rw [List.pairwise_map]; exact hp.filter P) (l.filter P).length (by rw [List.length_map]; exact Nat.le_refl _)
  exact hq
 ·rw [List.all_eq_true] at h3 ⊢
  exact fun r hr => h3 r (List.mem_filter.1 hr).1

theorem ro_kill {r : Rn} {c : Int} (h : roB r c = true) : roB (killR r) c = true := by
 unfold roB at h ⊢
 simp only [Bool.and_eq_true] at h ⊢
 obtain ⟨h1, _, _, h4, h5, _⟩ := h
 exact ⟨h1, by rfl, by rfl, h4, h5, by rfl⟩

theorem rs_kill {l : List Rn} {c : Int} (h : rsB l c = true) : rsB (l.map killR) c = true := by
 unfold rsB at h ⊢
 simp only [Bool.and_eq_true, decide_eq_true_eq] at h ⊢
 obtain ⟨h1, h2, h3⟩ := h
 refine ⟨by rw [List.length_map]; exact h1, ?_, ?_⟩
 ·rw [List.map_map, List.length_map]
  exact h2
 ·rw [List.all_eq_true] at h3 ⊢
  intro r hr
  obtain ⟨y, hy, rfl⟩ := List.mem_map.1 hr
  exact ro_kill (h3 y hy)

theorem rs_fall {l : List Rn} {c : Int} (m : Bool) (h : rsB l c = true) : rsB (fallR l m) c = true := by
 unfold fallR
 cases m with
 | false => exact rs_filter _ h
 | true => exact rs_kill (rs_filter _ (rs_filter _ h))

theorem dr_fall (l : List Rn) (m : Bool) : (fallR l m).all drB = true := by
 rw [List.all_eq_true]
 intro r hr
 unfold fallR at hr
 unfold drB
 cases m with
 | false =>
  have h2 : alB r.state = true := (List.mem_filter.1 hr).2
  rw [h2, Bool.true_or]
 | true =>
  obtain ⟨y, hy, rfl⟩ := List.mem_map.1 hr
  have h2 : (!(y.want.hold.toList == [])) = true := (List.mem_filter.1 hy).2
  have e : (killR y).want.hold = y.want.hold := rfl
  rw [e, h2, Bool.or_true]

theorem fall_valid {x : Mte} (m : Bool) (h : mvB x = true) : mvB (fall x m) = true := by
 have hx := h
 unfold mvB at hx
 simp only [Bool.and_eq_true] at hx
 obtain ⟨⟨⟨h1, h2⟩, _⟩, _, h5, _⟩ := hx
 unfold fall
 rw [if_pos h]
 have h6 := rs_fall m h5
 have h7 := dr_fall x.runs m
 have e : mvB ⟨x.name, false, x.clock, false, 0, [], fallR x.runs m, [], []⟩ = (nmB x.name && inR x.clock 0 1000000 && inR 0 0 1000000 && ((wsB [] && (false || decide (([] : List Wnt).length = 0))) && (rsB (fallR x.runs m) x.clock && ((aksB [] x.clock && aksB [] x.clock && apB [] []) && (false || ((fallR x.runs m).all drB && (!false && (0 : Int) == 0 && decide (([] : List Wnt).length + ([] : List Aks).length + ([] : List Aks).length = 0)))))))) := rfl
 rw [e, h1, h2, h6, h7]
 rfl

theorem rise_valid {y : Mte} (h : mvB y = true) : mvB (rise y) = true := by
 unfold rise
 rw [if_pos h]
 have hx := h
 unfold mvB at hx ⊢
 simp only [Bool.and_eq_true] at hx ⊢
 obtain ⟨h1, h2, h3, h4, h5⟩ := hx
 refine ⟨h1, h2, h3, h4, ?_⟩
 unfold dwB at h5 ⊢
 cases hu : riU y with
 | true => rfl
 | false =>
  have : y.up = false := by
   unfold riU at hu
   simp only [Bool.or_eq_false_iff] at hu
   exact hu.1
  rw [this, Bool.false_or] at h5
  rw [Bool.false_or]
  exact h5

theorem alive_left (x : Mte) (h : mvB x = true) : (fall x false).runs.filter (fun r => alB r.state) = x.runs.filter (fun r => alB r.state) := by
 unfold fall
 rw [if_pos h]
 show (fallR x.runs false).filter _ = _
 unfold fallR
 simp only [Bool.false_eq_true, if_false, List.filter_filter, Bool.and_self]

theorem alive_none (x : Mte) (h : mvB x = true) : (fall x true).runs.filter (fun r => alB r.state) = [] := by
 unfold fall
 rw [if_pos h]
 show (fallR x.runs true).filter _ = _
 rw [List.filter_eq_nil_iff]
 intro r hr
 unfold fallR at hr
 simp only [if_true] at hr
 obtain ⟨y, _, rfl⟩ := List.mem_map.1 hr
 have e : alB (killR y).state = false := rfl
 rw [e]
 decide

theorem no_valid : mvB noMte = false := by
 have e : nmB noMte.name = false := nmB_size (fun h => by have := h.1; exact absurd this (by decide))
 unfold mvB
 rw [e]
 rfl

theorem fall_no {x : Mte} (m : Bool) (h : mvB x = false) : fall x m = noMte := by
 unfold fall
 rw [if_neg (by rw [h]; decide)]

theorem rise_no {x : Mte} (h : mvB x = false) : rise x = noMte := by
 unfold rise
 rw [if_neg (by rw [h]; decide)]

theorem fall_up {x : Mte} (m : Bool) (h : mvB x = true) : (fall x m).up = false ∧ (fall x m).clock = x.clock := by
 unfold fall
 rw [if_pos h]
 exact ⟨rfl, rfl⟩

theorem rise_up {x : Mte} (m : Bool) (h : mvB x = true) : (rise (fall x m)).up = decide (x.clock < 1000000) := by
 have h1 := fall_valid m h
 have h2 := fall_up m h
 have e : rise (fall x m) = { fall x m with up := riU (fall x m) } := by unfold rise; rw [if_pos h1]
 rw [e]
 show riU (fall x m) = _
 unfold riU
 rw [h2.1, h2.2, Bool.false_or]

end Go.Proofs.Ytnifmiacobfplaa
