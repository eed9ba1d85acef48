/-
  The plain mathematics, more.
-/
import Derived.Test.YtlcjdmgjekkghaaPure
namespace Go.Proofs.Ytlcjdmgjekkghaa.P

/-- (A) what the specification holds for a tree is the program's tree, unless it is too high; its make and its size -/
theorem same_tree2 {ns : List Nd} (h : treeOk ns = true) : ∃ out r t, kidsOf ns = some (out, [r]) ∧ out.length = ns.length ∧ r + 1 = ns.length ∧ IsT ns out r t ∧
    (tall t ≤ 20 → treeI ns = some t) ∧ (20 < tall t → treeI ns = none) ∧ (t = nonT ∨ fine t) ∧ count t ≤ ns.length := by
  obtain ⟨out, r, t, e1, e2, e3, e4, e5, e6⟩ := same_tree h
  by_cases hl : lone ns = true
  · obtain ⟨n, rfl, k0, k1, k2, k3⟩ := lone_facts hl
    have hkk : kidsOf [n] = some ([[]], [0]) := by simp [kidsOf, runK, stepK, k1]
    rw [hkk] at e1
    simp only [Option.some.injEq, Prod.mk.injEq, List.cons.injEq, and_true] at e1
    obtain ⟨rfl, rfl⟩ := e1
    refine ⟨[[]], 0, nonT, hkk, rfl, rfl, isT_non rfl k0 rfl, ?_, ?_, .inl rfl, Nat.le_refl _⟩
    · intro _; simp [treeI, hl]
    · intro hh; simp [tall_non] at hh
  · simp only [treeOk, Bool.and_eq_true, decide_eq_true_eq, List.all_eq_true] at h
    obtain ⟨⟨h1, h2⟩, h3⟩ := h
    have hall : ∀ n ∈ ns, n.kind ≠ 0 ∧ nodeOk ns.length n = true := by
      intro n hn
      refine ⟨fun e => ?_, h3 n hn⟩
      have hk := h3 n hn
      simp only [nodeOk, e, arity, Bool.and_eq_true] at hk
      simp at hk
      obtain ⟨⟨⟨k1, k2⟩, k3⟩, k4⟩ := hk
      have hlen : ns.length = 1 := by
        have := List.length_pos_of_mem hn; omega
      match ns, hlen with
      | [m], _ =>
        simp at hn; subst hn
        exact hl (by simp [lone, e, k1, k3, k4])
    rcases sim ns hall ns 0 [] [] [] rfl rfl ⟨rfl, fun j a t h => by simp at h⟩ with ⟨ha, _⟩ | ⟨o, s, ts, a, b, c, d⟩
    · rw [show runK ns 0 [] [] = kidsOf ns from rfl, e1] at ha; cases ha
    · rw [show runK ns 0 [] [] = kidsOf ns from rfl, e1] at a
      simp only [Option.some.injEq, Prod.mk.injEq] at a
      obtain ⟨rfl, rfl⟩ := a
      obtain ⟨c1, c2⟩ := c
      match ts, c1 with
      | [u], _ =>
        obtain ⟨_, f2, f3, _⟩ := runN_facts ns [] [u] b
        simp at f2
        refine ⟨out, r, u, e1, e2, e3, (c2 0 r u rfl rfl).1, ?_, ?_, .inr (f3 (by intro x hx; cases hx) u (by simp)), by omega⟩
        · intro ht
          have := runN_runI ns [] [u] b (by intro x hx; simp at hx; subst hx; exact ht)
          simp [treeI, hl, this]
        · intro ht
          unfold treeI
          rw [if_neg hl]
          cases hi : runI ns [] with
          | none => rfl
          | some us =>
            obtain ⟨q1, q2⟩ := runI_runN ns [] us hi
            rw [b] at q1
            simp only [Option.some.injEq] at q1; subst q1
            have := q2 (by intro x hx; cases hx) u (by simp)
            omega

theorem tall_le_count : ∀ (t : Tr), tall t ≤ count t
  | .nil => Nat.le_refl _
  | .node b _ _ l r => by
    have h1 := tall_le_count l
    have h2 := tall_le_count r
    unfold tall count
    split
    · omega
    · split
      · omega
      · omega

theorem wr_le (l b : Nat) (s : ByteArray) : (wr l b s).size ≤ s.size + 2 := by
  unfold wr
  have e1 : (⟨#[40]⟩ : ByteArray).size = 1 := rfl
  have e2 : (⟨#[41]⟩ : ByteArray).size = 1 := rfl
  split
  · rw [ByteArray.size_append, ByteArray.size_append, e1, e2]; omega
  · omega

theorem pr_le (t : Tr) (hw : wf t) : (t = nonT ∨ good t) → (pr t).size + 2 ≤ 50 * count t := by
  have key : good t → (pr t).size + 2 ≤ 50 * count t := by
    refine wf_ind (p := fun t => good t → (pr t).size + 2 ≤ 50 * count t) ?_ ?_ ?_ ?_ ?_ ?_ t hw
    · intro h; exact h.elim
    · intro n h
      have h' : n.size ≤ 20 := h.2
      rw [pr_nm, count_nm]; omega
    · intro n v h
      have e : (⟨#[61]⟩ : ByteArray).size = 1 := rfl
      rw [pr_vl, count_vl, ByteArray.size_append, ByteArray.size_append, e]
      have h1 : n.size ≤ 20 := h.1.2
      have h2 : v.size ≤ 20 := h.2.2
      omega
    · intro k _ ih h
      have e : (⟨#[33]⟩ : ByteArray).size = 1 := rfl
      have := ih h; have := wr_le 3 (bindT k) (pr k)
      rw [pr_nt, count_nt, ByteArray.size_append, e]; omega
    · intro a b _ _ iha ihb h
      have e : (⟨#[32, 38, 32]⟩ : ByteArray).size = 3 := rfl
      have := iha h.1; have := ihb h.2; have := wr_le 2 (bindT a) (pr a); have := wr_le 3 (bindT b) (pr b)
      rw [pr_an, count_an, ByteArray.size_append, ByteArray.size_append, e]; omega
    · intro a b _ _ iha ihb h
      have e : (⟨#[32, 124, 32]⟩ : ByteArray).size = 3 := rfl
      have := iha h.1; have := ihb h.2; have := wr_le 1 (bindT a) (pr a); have := wr_le 2 (bindT b) (pr b)
      rw [pr_or, count_or, ByteArray.size_append, ByteArray.size_append, e]; omega
  rintro (rfl | h)
  · rw [pr_non]; decide
  · exact key h

end Go.Proofs.Ytlcjdmgjekkghaa.P
