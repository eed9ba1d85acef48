/-
  Several texts in one: Idc, Hrq.
-/
import Derived.Test.YtggbhggnemlpnaaGreatUsd
namespace Go.Proofs.YtggbhggnemlpnaaGreat
open Go.RowKit

/-- the place of the first copy with a name -/
def idxC (bs : List Cpy) (s : ByteArray) : Int := match bs.findIdx? (fun b => decide (b.name = s)) with
  | some k => k
  | none => -1

theorem idxC_at {bs : List Cpy} {s : ByteArray} {k : Nat} {b : Cpy} (hk : bs[k]? = some b) (h : b.name = s) (ho : ∀ j b, j < k → bs[j]? = some b → b.name ≠ s) : idxC bs s = k := by
  have : bs.findIdx? (fun b => decide (b.name = s)) = some k := by
    rw [List.findIdx?_eq_some_iff_getElem]
    have hlt := lt_of_some hk
    rw [List.getElem?_eq_getElem hlt] at hk
    injection hk with hk
    refine ⟨hlt, by simp [hk, h], fun j hj => ?_⟩
    have := ho j bs[j] hj (List.getElem?_eq_getElem (by omega))
    simpa using this
  simp [idxC, this]

theorem idxC_none {bs : List Cpy} {s : ByteArray} (ho : ∀ j b, j < bs.length → bs[j]? = some b → b.name ≠ s) : idxC bs s = -1 := by
  have : bs.findIdx? (fun b => decide (b.name = s)) = none := by
    rw [List.findIdx?_eq_none_iff]
    intro b hb
    obtain ⟨j, hj⟩ := List.getElem?_of_mem hb
    simpa using ho j b (lt_of_some hj) hj
  simp [idxC, this]

set_option maxHeartbeats 1000000 in
set_option maxRecDepth 100000 in
theorem l2Copy_any (x : Flt) (a1 : Option Addr) (c1 : Nat) (a2 : Option Addr) (c2 : Nat) (a3 : Option Addr) (c3 : Nat) (lo : Nat) (s : ByteArray) (w : World) (n3 : SliceC CpyC 12 lo w a3 x.copies) (hl : x.copies.length ≤ 1048576) :
    Calls Tryz.prog 40 #[.agg #[.bool x.pack, .slice a1 x.berths.length c1, .slice a2 x.services.length c2, .slice a3 x.copies.length c3], .string s] w fun e w' => e = .returned (.int .i64 (idxC x.copies s)) ∧ Below w.heap.size w w' := by
  have HI : Hid (SliceC CpyC 12 lo w a3 x.copies) := n3
  clear n3
  generalize hbs : x.copies = bs at *
  clear hbs
  go_enter Tryz.func40, Tryz.ntmps40
  go_wp2_with fail
  go_loopw [5] (fun i wr => ∃ k : Nat, k ≤ bs.length ∧ i = .int .i64 k ∧ wr.cell? ⟨w.heap.size, 3, none⟩ = some (.slice a3 bs.length c3) ∧ Hid (∀ j b, j < k → bs[j]? = some b → b.name ≠ s) ∧ Below w.heap.size w wr) (fun i _ => bs.length - (intOf i).toNat)
  case atStart => exact ⟨0, Nat.zero_le _, rfl, by simp, fun j b h => by omega, by go_grown⟩
  case round =>
    obtain ⟨k, hk, rfl, hcell, ho, hbel⟩ := hrel
    by_cases hlt : k < bs.length
    · obtain ⟨x, hx⟩ : ∃ x, bs[k]? = some x := ⟨bs[k], List.getElem?_eq_getElem hlt⟩
      obtain ⟨b, o, rfl, _, _, hc⟩ := (HI.out.below CpyC.holds hbel (Nat.le_refl _)).at hx
      obtain ⟨a9, c9, q0, q1, q2, q3, q4, q5, q6, q7, q8, q9, q10, q11, z0, z1, z2, z3, z4, z5, n9⟩ := hc
      simp only [Nat.add_zero] at q0
      have HX : Hid (bs[k]? = some x) := hx
      clear hx q1 q2 q3 q4 q5 q6 q7 q8 q9 q10 q11 z0 z1 z2 z3 z4 z5 n9
      by_cases h : x.name = s
      · have HZ : Hid (idxC bs s = k) := idxC_at HX.out h ho.out
        have ht := bts_eq h
        clear h
        go_wp2_with fail
        go_ret
        exact ⟨ret_int HZ.out.symm, hbel⟩
      · have ht := bts_ne h
        go_wp2_with fail
        go_roundw
        case rel =>
          refine ⟨k + 1, by omega, by go_num, hcell, ?_, hbel⟩
          intro j y hj hy
          by_cases e : j = k
          · subst e
            rw [HX.out] at hy
            cases hy
            exact h
          · exact ho.out j y (by omega) hy
        case measure => simp [intOf]; omega
    · have hke : k = bs.length := by omega
      have HZ : Hid (idxC bs s = -1) := idxC_none (hke ▸ ho.out)
      go_wp2_with fail
      go_ret
      exact ⟨ret_int HZ.out.symm, hbel⟩

end Go.Proofs.YtggbhggnemlpnaaGreat

namespace Go.Proofs.YtggbhggnemlpnaaGreat
open Go.RowKit

/-- a rank put behind all that are no less -/
def insD (r : Int) : List Int → List Int
  | [] => [r]
  | a :: l => if r ≤ a then a :: insD r l else r :: a :: l
def srtD (l : List Int) : List Int := l.foldl (fun o r => insD r o) []
theorem srtD_snoc (l : List Int) (r : Int) : srtD (l ++ [r]) = insD r (srtD l) := by unfold srtD; rw [List.foldl_append]; rfl

theorem insD_at {r : Int} : ∀ {o : List Int} {k : Nat}, k ≤ o.length → (∀ a ∈ o.take k, r ≤ a) → (∀ a, o[k]? = some a → a < r) → insD r o = o.take k ++ r :: o.drop k
  | [], k, hk, _, _ => by
    have : k = 0 := by simpa using hk
    subst this
    rfl
  | a :: l, 0, _, _, h2 => by
    have := h2 a rfl
    unfold insD
    rw [if_neg (by omega)]
    rfl
  | a :: l, k + 1, hk, h1, h2 => by
    have := h1 a (by simp)
    unfold insD
    rw [if_pos this, insD_at (k := k) (by simpa using hk) (fun b hb => h1 b (by simp [hb])) (fun b hb => h2 b (by simpa using hb))]
    rfl

theorem insD_perm (r : Int) : ∀ o : List Int, (insD r o).Perm (r :: o)
  | [] => .refl _
  | a :: l => by
    unfold insD
    split
    · exact ((insD_perm r l).cons a).trans (.swap r a l)
    · exact .refl _

theorem insD_len (r : Int) (o : List Int) : (insD r o).length = o.length + 1 := by rw [(insD_perm r o).length_eq]; rfl

theorem insD_desc {r : Int} : ∀ {o : List Int}, o.Pairwise (fun a b => b ≤ a) → (insD r o).Pairwise (fun a b => b ≤ a)
  | [], _ => by simp [insD]
  | a :: l, h => by
    rw [List.pairwise_cons] at h
    unfold insD
    split
    case isTrue hra =>
      rw [List.pairwise_cons]
      refine ⟨fun b hb => ?_, insD_desc h.2⟩
      rcases List.mem_cons.1 ((insD_perm r l).subset hb) with e | e
      · rw [e]; exact hra
      · exact h.1 b e
    case isFalse hra =>
      rw [List.pairwise_cons]
      refine ⟨fun b hb => ?_, by rw [List.pairwise_cons]; exact h⟩
      rcases List.mem_cons.1 hb with e | e
      · rw [e]; omega
      · have := h.1 b e
        omega

theorem srt_gen : ∀ (l o : List Int), o.Pairwise (fun a b => b ≤ a) → (l.foldl (fun o r => insD r o) o).Pairwise (fun a b => b ≤ a) ∧ (l.foldl (fun o r => insD r o) o).Perm (l ++ o)
  | [], o, h => ⟨h, .refl _⟩
  | r :: l, o, h => by
    obtain ⟨h1, h2⟩ := srt_gen l (insD r o) (insD_desc h)
    refine ⟨h1, h2.trans ?_⟩
    exact ((insD_perm r o).append_left l).trans List.perm_middle

theorem desc_one : ∀ {a b : List Int}, a.Perm b → a.Pairwise (fun x y => y ≤ x) → b.Pairwise (fun x y => y ≤ x) → a = b
  | [], b, h, _, _ => (List.nil_perm.1 h).symm
  | x :: a, [], h, _, _ => by have := h.length_eq; simp at this
  | x :: a, y :: b, h, h1, h2 => by
    have e : x = y := by
      rw [List.pairwise_cons] at h1 h2
      rcases List.mem_cons.1 (h.subset (List.mem_cons_self (a := x) (l := a))) with e1 | e1
      · exact e1
      · rcases List.mem_cons.1 (h.symm.subset (List.mem_cons_self (a := y) (l := b))) with e2 | e2
        · exact e2.symm
        · have p1 := h2.1 x e1
          have p2 := h1.1 y e2
          omega
    subst e
    rw [List.pairwise_cons] at h1 h2
    rw [desc_one (List.Perm.cons_inv h) h1.2 h2.2]

theorem srtD_merge (l : List Int) : l.mergeSort (fun x y => decide (y ≤ x)) = srtD l := by
  obtain ⟨h1, h2⟩ := srt_gen l [] List.Pairwise.nil
  have h3 : (l.mergeSort (fun x y => decide (y ≤ x))).Pairwise (fun a b => decide (b ≤ a) = true) :=
    List.pairwise_mergeSort (fun a b c h1 h2 => by simp at *; omega) (fun a b => by simp; omega) l
  refine desc_one ((List.mergeSort_perm _ _).trans ?_) (h3.imp (fun h => of_decide_eq_true h)) h1
  rw [List.append_nil] at h2
  exact h2.symm

theorem srtD_len (l : List Int) : (srtD l).length = l.length := by
  obtain ⟨_, h2⟩ := srt_gen l [] List.Pairwise.nil
  rw [List.append_nil] at h2
  exact h2.length_eq

theorem get_take {α : Type} {l : List α} {j t : Nat} {a : α} (h : (l.take j)[t]? = some a) : l[t]? = some a := by
  rw [List.getElem?_take] at h
  split at h
  · exact h
  · cases h

theorem idxC_lt (cs : List Cpy) (s : ByteArray) : idxC cs s < (cs.length : Int) := by
  unfold idxC
  cases h : cs.findIdx? (fun b => decide (b.name = s)) with
  | none => simp only; omega
  | some k =>
    have := (List.findIdx?_eq_some_iff_getElem.1 h).1
    simp only
    omega

/-- the rank of the copy with a name -/
def rnkO (x : Flt) (g : ByteArray) : Int := match x.copies[(idxC x.copies g).toNat]? with
  | some c => c.rank
  | none => 0
def rnkP (x : Flt) (q : Nat) : Int := match x.copies[q]? with
  | some c => c.rank
  | none => 0

/-- all are names of copies -/
def KnownC (x : Flt) (gone : List ByteArray) (k : Nat) : Prop := ∀ j g, j < k → gone[j]? = some g → 0 ≤ idxC x.copies g

end Go.Proofs.YtggbhggnemlpnaaGreat
