import Derived.Test.YtlangcodelcncaaGreatMt5
import Derived.Sort.KeysCollected
import Derived.Sort.Walk0
namespace Go.Proofs.YtlangcodelcncaaGreat
open Go.RowKit Go.Maps Go.Sort

theorem ascTo_at {ns : List ByteArray} : ∀ n, ascTo ns n = true → ∀ k, k < n → ascAt ns k = true
  | 0, _, k, hk => absurd hk (Nat.not_lt_zero _)
  | n + 1, h, k, hk => by
    simp only [ascTo, Bool.and_eq_true] at h
    by_cases e : k = n
    · subst e; exact h.2
    · exact ascTo_at n h.1 k (by omega)

theorem asc_next {ns : List ByteArray} (h : ascTo ns ns.length = true) (k : Nat) (hk : k + 1 < ns.length) : (ns[k]'(by omega)).toList < (ns[k + 1]).toList := by
  have h1 := ascTo_at _ h (k + 1) hk
  rw [ascAt_at (s := ns[k]'(by omega)) (t := ns[k + 1]) (List.getElem?_eq_getElem (by omega)) (List.getElem?_eq_getElem hk), bytesLess_eq] at h1
  exact of_decide_eq_true h1

theorem asc_far {ns : List ByteArray} (h : ascTo ns ns.length = true) : ∀ (d i : Nat) (hi : i + d + 1 < ns.length), (ns[i]'(by omega)).toList < (ns[i + d + 1]).toList
  | 0, i, hi => asc_next h i hi
  | d + 1, i, hi => List.lt_trans (asc_far h d i (by omega)) (asc_next h (i + d + 1) hi)

def nmL (ns : List ByteArray) : List (List UInt8) := ns.map (fun s => s.toList)

theorem nmL_lt {ns : List ByteArray} (h : ascTo ns ns.length = true) : (nmL ns).Pairwise (· < ·) := by
  unfold nmL
  rw [List.pairwise_map, List.pairwise_iff_getElem]
  intro i j hi hj hij
  have := asc_far h (j - i - 1) i (by omega)
  simp only [show i + (j - i - 1) + 1 = j by omega] at this
  exact this

theorem nmL_nodup {ns : List ByteArray} (h : ascTo ns ns.length = true) : (nmL ns).Nodup :=
  (nmL_lt h).imp (fun hl e => by subst e; exact absurd hl (List.lt_irrefl _))

theorem nmL_sorted {ns : List ByteArray} (h : ascTo ns ns.length = true) {ss : List (List UInt8)} (hp : ss.Perm (nmL ns)) : ss.mergeSort (fun x y => decide (x ≤ y)) = nmL ns := by
  have h1 := mergeSort_of_perm hp
  have h2 : (nmL ns).mergeSort leB = nmL ns := List.mergeSort_of_pairwise ((nmL_lt h).imp (fun hl => decide_eq_true (List.le_of_lt hl)))
  exact h1.trans h2

theorem keys_perm {H : Type} {P : Program} {k : TypeId} {R : Value → Option (DataW H × List MemPlace)} {w : World} {b n : Nat} {D0 : DataW H} (hown : w.ownsMap P k R b n D0) (K : Keyed P k) (hk : P.underlying k = some .string) {ns : List ByteArray} (h : ascTo ns ns.length = true) (hm : ∀ x, x ∈ nmL ns ↔ has D0 (.string x) = true) : (nmL ns).Perm (strKeys D0) :=
  Collected.perm (left := fun _ => false) ⟨nmL_nodup h, fun x => by rw [hm x]; simp⟩ hown K hk (fun _ => rfl)

end Go.Proofs.YtlangcodelcncaaGreat
