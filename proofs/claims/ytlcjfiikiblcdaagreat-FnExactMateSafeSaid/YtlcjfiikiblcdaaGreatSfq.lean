/-
  Holds that differ, one by one. Made by mksf3.py.
-/
import Derived.Test.YtlcjfiikiblcdaaGreatSfp
namespace Go.Proofs.YtlcjfiikiblcdaaGreat
open Go.RowKit

/-- a hold that is one -/
def nbB (h : ByteArray) : Bool := !(h.toList == [])
def hlL (hs : List ByteArray) : List ByteArray := hs.filter nbB
/-- the holds of what is alive among mates, and among runs -/
def hsM (ys : List Mte) : List ByteArray := (alW ys).map (·.hold)
def hsR (rs : List Rn) : List ByteArray := (alR rs).map (·.want.hold)

theorem hsM_step {ys : List Mte} {k : Nat} {y : Mte} (h : ys[k]? = some y) : hsM (ys.take (k + 1)) = hsM (ys.take k) ++ hsR y.runs := by
  unfold hsM hsR
  rw [alW_step h, List.map_append, List.map_map]
  rfl

theorem hsR_yes {rs : List Rn} {n : Nat} {r : Rn} (h : rs[n]? = some r) (ha : alB r.state = true) : hsR (rs.take (n + 1)) = hsR (rs.take n) ++ [r.want.hold] := by
  unfold hsR alR
  rw [filt_step h, if_pos ha, List.map_append]
  rfl

theorem hsR_no {rs : List Rn} {n : Nat} {r : Rn} (h : rs[n]? = some r) (ha : alB r.state = false) : hsR (rs.take (n + 1)) = hsR (rs.take n) := by
  unfold hsR alR
  rw [filt_step h, if_neg (by simp [ha]), List.append_nil]

theorem hl_none {hs : List ByteArray} {h : ByteArray} (e : h.toList = []) : hlL (hs ++ [h]) = hlL hs := by
  unfold hlL
  rw [List.filter_append]
  simp [nbB, e]

theorem hl_one {hs : List ByteArray} {h : ByteArray} (e : ¬ h.toList = []) : hlL (hs ++ [h]) = hlL hs ++ [h] := by
  unfold hlL
  rw [List.filter_append]
  simp [nbB, e]

theorem pw_none {hs : List ByteArray} {h : ByteArray} (p : hs.Pairwise NoTwo) (e : h.toList = []) : (hs ++ [h]).Pairwise NoTwo := by
  rw [List.pairwise_append]
  refine ⟨p, List.pairwise_singleton _ _, fun a _ b hb => ?_⟩
  rw [List.mem_singleton.1 hb]
  exact .inl e

theorem pw_one {hs : List ByteArray} {h : ByteArray} (p : hs.Pairwise NoTwo) (hd : ∀ (i : Nat) g, (hlL hs)[i]? = some g → ¬ g = h) : (hs ++ [h]).Pairwise NoTwo := by
  rw [List.pairwise_append]
  refine ⟨p, List.pairwise_singleton _ _, fun a ha b hb => ?_⟩
  rw [List.mem_singleton.1 hb]
  by_cases e : h.toList = []
  · exact .inl e
  · refine .inr fun e2 => ?_
    have hm : a ∈ hlL hs := List.mem_filter.2 ⟨ha, by rw [e2]; simp [nbB, e]⟩
    obtain ⟨i, hi, e3⟩ := List.getElem_of_mem hm
    exact hd i a (by rw [List.getElem?_eq_getElem hi, e3]) e2

theorem sf_yes {x : Wrl} (h : sfB x = difTo ((alW x.mates).map (·.hold)) (alW x.mates).length) (p : (hsM x.mates).Pairwise NoTwo) : sfB x = true := by
  rw [h]
  have := (dif_pair (hsM x.mates)).2 p
  unfold hsM at this
  rw [List.length_map] at this
  exact this

theorem all_parts {ys : List Mte} {k n : Nat} {y : Mte} {r : Rn} (hy : ys[k]? = some y) (hr : y.runs[n]? = some r) (ha : alB r.state = true) : ∃ rest, hsM ys = (hsM (ys.take k) ++ hsR (y.runs.take n)) ++ [r.want.hold] ++ rest := by
  refine ⟨hsR (y.runs.drop (n + 1)) ++ hsM (ys.drop (k + 1)), ?_⟩
  have h1 : hsM ys = hsM (ys.take (k + 1)) ++ hsM (ys.drop (k + 1)) := by
    conv => lhs; rw [← List.take_append_drop (k + 1) ys]
    unfold hsM alW
    rw [List.flatMap_append, List.map_append]
  have h2 : hsR y.runs = hsR (y.runs.take (n + 1)) ++ hsR (y.runs.drop (n + 1)) := by
    conv => lhs; rw [← List.take_append_drop (n + 1) y.runs]
    unfold hsR alR
    rw [List.filter_append, List.map_append]
  rw [h1, hsM_step hy, h2, hsR_yes hr ha]
  simp only [List.append_assoc]

theorem sf_no {x : Wrl} {k n i : Nat} {y : Mte} {r : Rn} {g : ByteArray} (h : sfB x = difTo ((alW x.mates).map (·.hold)) (alW x.mates).length) (hy : x.mates[k]? = some y) (hr : y.runs[n]? = some r) (ha : alB r.state = true) (hh : ¬ r.want.hold.toList = []) (hg : (hlL (hsM (x.mates.take k) ++ hsR (y.runs.take n)))[i]? = some g) (e : g = r.want.hold) : sfB x = false := by
  rw [h]
  cases hd : difTo ((alW x.mates).map (·.hold)) (alW x.mates).length with
  | false => rfl
  | true =>
    exfalso
    have hp : (hsM x.mates).Pairwise NoTwo := by
      refine (dif_pair (hsM x.mates)).1 ?_
      unfold hsM
      rw [List.length_map]
      exact hd
    obtain ⟨rest, e1⟩ := all_parts hy hr ha
    rw [e1] at hp
    have hp2 := (List.pairwise_append.1 hp).1
    have hp3 := (List.pairwise_append.1 hp2).2.2 g (List.mem_filter.1 (List.mem_of_getElem? hg)).1 r.want.hold (List.mem_singleton.2 rfl)
    rcases hp3 with h3 | h3
    · exact hh h3
    · exact h3 e

/-- the holds that are kept -/
structure HeldAt (s : Nat) (b : Option Addr) (q m : Nat) (hs : List ByteArray) (w : World) : Prop where
  len : m = (hlL hs).length
  pw : hs.Pairwise NoTwo
  row : w.ownsRow s 9 1 (.slice b m q) m ((hlL hs).map Value.string)

theorem HeldAt.below {s : Nat} {b : Option Addr} {q m : Nat} {hs : List ByteArray} {w w' : World} (h : HeldAt s b q m hs w) (hb : Below w.heap.size w w') : HeldAt s b q m hs w' := ⟨h.len, h.pw, ownsRow_below h.row hb⟩
theorem HeldAt.drew {s : Nat} {b : Option Addr} {q m : Nat} {hs : List ByteArray} {w : World} (h : HeldAt s b q m hs w) : HeldAt s b q m hs w.drew := ⟨h.len, h.pw, h.row.drew⟩

theorem held_at {s : Nat} {b : Option Addr} {q m i : Nat} {hs : List ByteArray} {w : World} (h : HeldAt s b q m hs w) (hi : i < m) : ∃ c g, b = some ⟨c, 0, none⟩ ∧ (hlL hs)[i]? = some g ∧ w.cell? ⟨c, i, none⟩ = some (.string g) ∧ c < w.heap.size := by
  obtain ⟨c, cap', e⟩ := rowf h.row (fun e => by injection e with _ e2 _; omega)
  have e1 : b = some ⟨c, 0, none⟩ := by injection e
  subst e1
  have hl : i < (hlL hs).length := by have := h.len; omega
  refine ⟨c, (hlL hs)[i], rfl, List.getElem?_eq_getElem hl, ?_, (h.row.lt c rfl).2⟩
  have := h.row.cellAt i (by omega)
  rw [this, List.getElem?_map, List.getElem?_eq_getElem hl]
  rfl

theorem row_strs {w : World} {o : Nat} {xs : List ByteArray} (h : w.ownsRow o 9 1 (.slice none 0 0) 0 (xs.map Value.string)) : xs = [] := by
  have := h.1
  simp at this
  exact this

theorem one_strW (s : ByteArray) : ∀ u ∈ [Value.string s], u.oneCell' = true := by
  intro u hu
  rw [List.mem_singleton.1 hu]
  rfl

theorem news_oneW (w : World) (x : Value) (T : TypeId) : ∀ j u, [x][j]? = some u → (w.alloc (.cells #[x] T)).cell? ((⟨w.heap.size, 0, none⟩ : Addr).add j) = some u := by
  intro j u hj
  have hl : j < 1 := lt_of_some hj
  have e : j = 0 := by omega
  subst e
  cases hj
  rw [Addr.add_mid]
  simp

end Go.Proofs.YtlcjfiikiblcdaaGreat
