/-
  What is read, and its list of nodes.
-/
import Derived.Test.YthjicahpfhjfdaaGreatDoorSpo
namespace Go.Proofs.YthjicahpfhjfdaaGreatDoor
open Go.RowKit

/-- all names are names -/
def nOk : P.Tr → Prop
  | .nil => True
  | .node b _ p l r => b ≠ 0 ∧ (b = 1 → P.nameOk p.1 = true) ∧ (b = 2 → P.nameOk p.1 = true ∧ P.nameOk p.2 = true) ∧ nOk l ∧ nOk r

theorem nOk_nm {n : ByteArray} (h : P.nameOk n = true) : nOk (P.nmT n) := ⟨(by omega), fun _ => h, (fun e => by omega), trivial, trivial⟩
theorem nOk_vl {n v : ByteArray} (h : P.nameOk n = true) (h' : P.nameOk v = true) : nOk (P.vlT n v) := ⟨(by omega), (fun e => by omega), fun _ => ⟨h, h'⟩, trivial, trivial⟩
theorem nOk_nt {k : P.Tr} (h : nOk k) : nOk (P.ntT k) := ⟨(by omega), (fun e => by omega), (fun e => by omega), h, trivial⟩
theorem nOk_an {a b : P.Tr} (h : nOk a) (h' : nOk b) : nOk (P.anT a b) := ⟨(by omega), (fun e => by omega), (fun e => by omega), h, h'⟩
theorem nOk_or {a b : P.Tr} (h : nOk a) (h' : nOk b) : nOk (P.orT a b) := ⟨(by omega), (fun e => by omega), (fun e => by omega), h, h'⟩

theorem okTok_nm {l : List UInt8} (h : P.nmB l = true) : okTok l = true := by
  unfold P.nmB at h
  simp only [Bool.and_eq_true, decide_eq_true_eq] at h
  exact okTok_run (fun e => by rw [e] at h; simp at h) (List.all_eq_true.1 h.2)

/-- what was read of the tokens was fine -/
def Rd2 (l : List (List UInt8)) (y : P.Tr) (r : List (List UInt8)) : Prop := nOk y ∧ ∃ pre, l = pre ++ r ∧ pre.all okTok = true

theorem tk_pre {s : UInt8} {l r : List (List UInt8)} (h : P.tk s l = some r) (hs : okTok [s] = true) : ∃ pre, l = pre ++ r ∧ pre.all okTok = true := ⟨[[s]], by rw [P.tk_some h]; rfl, by simp [hs]⟩

theorem pre_trans {l r q : List (List UInt8)} (h : ∃ pre, l = pre ++ r ∧ pre.all okTok = true) (h' : ∃ pre, r = pre ++ q ∧ pre.all okTok = true) : ∃ pre, l = pre ++ q ∧ pre.all okTok = true := by
  obtain ⟨a, rfl, h1⟩ := h
  obtain ⟨b, rfl, h2⟩ := h'
  exact ⟨a ++ b, by simp, by rw [List.all_append, h1, h2]; rfl⟩

theorem mark_rd2 {l r : List (List UInt8)} {y : P.Tr} (h : P.markT l = some (y, r)) : Rd2 l y r := by
  unfold P.markT at h
  split at h
  · cases h
  · next n q hn =>
    obtain ⟨e1, e2⟩ := P.nm_some hn
    split at h
    · injection h with h; injection h with h1 h2; subst h1 h2
      exact ⟨nOk_nm ((P.nmB_eq n).trans e2), [n], by rw [e1]; rfl, by simp [okTok_nm e2]⟩
    · next q' hq =>
      split at h
      · cases h
      · next v r' hv =>
        obtain ⟨e3, e4⟩ := P.nm_some hv
        injection h with h; injection h with h1 h2; subst h1 h2
        refine ⟨nOk_vl ((P.nmB_eq n).trans e2) ((P.nmB_eq v).trans e4), [n, [61], v], ?_, ?_⟩
        · rw [e1, P.tk_some hq, e3]; rfl
        · simp [okTok_nm e2, okTok_nm e4]; decide

theorem rd_rd2 : ∀ (f m : Nat) (x : P.Tr) (l : List (List UInt8)) (y : P.Tr) (r : List (List UInt8)), (2 < m → nOk x) → P.rd f m x l = some (y, r) → Rd2 l y r
  | 0, m, x, l, y, r, _, h => by cases m <;> cases h
  | f + 1, 0, x, l, y, r, _, h => by
    unfold P.rd at h
    split at h
    · next q hq =>
      split at h
      · cases h
      · next z r' hz =>
        injection h with h; injection h with h1 h2; subst h1 h2
        obtain ⟨a1, a3⟩ := rd_rd2 f 0 _ _ _ _ (fun h => by omega) hz
        exact ⟨nOk_nt a1, pre_trans (tk_pre hq (by decide)) a3⟩
    · split at h
      · next q hq =>
        split at h
        · cases h
        · next z r' hz =>
          split at h
          · cases h
          · next r'' hr =>
            injection h with h; injection h with h1 h2; subst h1 h2
            obtain ⟨a1, a3⟩ := rd_rd2 f 2 _ _ _ _ (fun h => by omega) hz
            exact ⟨a1, pre_trans (tk_pre hq (by decide)) (pre_trans a3 (tk_pre hr (by decide)))⟩
      · exact mark_rd2 h
  | f + 1, 1, x, l, y, r, _, h => by
    unfold P.rd at h
    split at h
    · cases h
    · next z q hz =>
      obtain ⟨a1, a3⟩ := rd_rd2 f 0 _ _ _ _ (fun h => by omega) hz
      obtain ⟨b1, b3⟩ := rd_rd2 f 3 _ _ _ _ (fun _ => a1) h
      exact ⟨b1, pre_trans a3 b3⟩
  | f + 1, 2, x, l, y, r, _, h => by
    unfold P.rd at h
    split at h
    · cases h
    · next z q hz =>
      obtain ⟨a1, a3⟩ := rd_rd2 f 1 _ _ _ _ (fun h => by omega) hz
      obtain ⟨b1, b3⟩ := rd_rd2 f 4 _ _ _ _ (fun _ => a1) h
      exact ⟨b1, pre_trans a3 b3⟩
  | f + 1, 3, x, l, y, r, hx, h => by
    have x1 := hx (by omega)
    unfold P.rd at h
    split at h
    · injection h with h; injection h with h1 h2; subst h1 h2
      exact ⟨x1, [], rfl, rfl⟩
    · next q hq =>
      split at h
      · cases h
      · next z r' hz =>
        obtain ⟨a1, a3⟩ := rd_rd2 f 0 _ _ _ _ (fun h => by omega) hz
        obtain ⟨b1, b3⟩ := rd_rd2 f 3 _ _ _ _ (fun _ => nOk_an x1 a1) h
        exact ⟨b1, pre_trans (tk_pre hq (by decide)) (pre_trans a3 b3)⟩
  | f + 1, m + 4, x, l, y, r, hx, h => by
    have x1 := hx (by omega)
    unfold P.rd at h
    split at h
    · injection h with h; injection h with h1 h2; subst h1 h2
      exact ⟨x1, [], rfl, rfl⟩
    · next q hq =>
      split at h
      · cases h
      · next z r' hz =>
        obtain ⟨a1, a3⟩ := rd_rd2 f 1 _ _ _ _ (fun h => by omega) hz
        obtain ⟨b1, b3⟩ := rd_rd2 f 4 _ _ _ _ (fun _ => nOk_or x1 a1) h
        exact ⟨b1, pre_trans (tk_pre hq (by decide)) (pre_trans a3 b3)⟩

theorem stepI_app {n : P.Nd} {ts ks : List P.Tr} (hc : n.kids = (ks.length : Int)) : P.stepI n (ts ++ ks) = (match P.grow n ks with | none => none | some t => if 20 < P.tall t then none else some (ts ++ [t])) := by
  rw [P.stepI_in ts.length ks.length hc (by simp)]
  simp
  rfl

theorem grow_nm {n : ByteArray} (h : P.nameOk n = true) : P.grow ⟨1, n, ⟨#[]⟩, 0⟩ [] = some (P.nmT n) := by
  unfold P.grow
  rw [if_pos ⟨rfl, rfl, h, rfl⟩]
theorem grow_vl {n v : ByteArray} (h : P.nameOk n = true) (h' : P.nameOk v = true) : P.grow ⟨2, n, v, 0⟩ [] = some (P.vlT n v) := by
  unfold P.grow
  rw [if_neg (fun e => by cases e.1), if_pos ⟨rfl, rfl, h, h'⟩]
theorem grow_nt (k : P.Tr) : P.grow ⟨3, ⟨#[]⟩, ⟨#[]⟩, 1⟩ [k] = some (P.ntT k) := by simp [P.grow, ByteArray.size]
theorem grow_an (a b : P.Tr) : P.grow ⟨4, ⟨#[]⟩, ⟨#[]⟩, 2⟩ ([a] ++ [b]) = some (P.anT a b) := by simp [P.grow, ByteArray.size]
theorem grow_or (a b : P.Tr) : P.grow ⟨5, ⟨#[]⟩, ⟨#[]⟩, 2⟩ ([a] ++ [b]) = some (P.orT a b) := by simp [P.grow, ByteArray.size]

theorem runI_post (y : P.Tr) (hw : P.wf y) : nOk y → ∀ (rest : List P.Nd) (ts : List P.Tr), P.runI (post y ++ rest) ts = if P.tall y ≤ 20 then P.runI rest (ts ++ [y]) else none := by
  refine P.wf_ind (p := fun y => nOk y → ∀ (rest : List P.Nd) (ts : List P.Tr), P.runI (post y ++ rest) ts = if P.tall y ≤ 20 then P.runI rest (ts ++ [y]) else none) ?_ ?_ ?_ ?_ ?_ ?_ y hw
  · intro h; exact absurd rfl h.1
  · intro n hn rest ts
    have h1 := hn.2.1 rfl
    rw [post_nm, P.tall_nm, if_pos (by omega)]
    show (match P.stepI _ ts with | none => none | some ts' => P.runI rest ts') = _
    have := stepI_app (n := ⟨1, n, ⟨#[]⟩, 0⟩) (ts := ts) (ks := []) rfl
    rw [List.append_nil] at this
    rw [this]
    rw [grow_nm h1]
    simp [P.tall_nm]
  · intro n v hn rest ts
    obtain ⟨h1, h2⟩ := hn.2.2.1 rfl
    rw [post_vl, P.tall_vl, if_pos (by omega)]
    show (match P.stepI _ ts with | none => none | some ts' => P.runI rest ts') = _
    have := stepI_app (n := ⟨2, n, v, 0⟩) (ts := ts) (ks := []) rfl
    rw [List.append_nil] at this
    rw [this]
    rw [grow_vl h1 h2]
    simp [P.tall_vl]
  · intro k _ ih hn rest ts
    obtain ⟨_, _, _, nk, _⟩ := hn
    rw [post_nt, List.append_assoc, ih nk]
    by_cases h1 : P.tall k ≤ 20
    · rw [if_pos h1]
      show (match P.stepI _ (ts ++ [k]) with | none => none | some ts' => P.runI rest ts') = _
      rw [stepI_app (n := ⟨3, ⟨#[]⟩, ⟨#[]⟩, 1⟩) (ts := ts) (ks := [k]) rfl]
      simp only [grow_nt]
      by_cases h3 : 20 < P.tall (P.ntT k)
      · rw [if_pos h3, if_neg (by omega)]
      · rw [if_neg h3, if_pos (by omega)]
    · rw [if_neg h1, if_neg (by rw [P.tall_nt]; omega)]
  · intro a b _ _ iha ihb hn rest ts
    obtain ⟨_, _, _, na, nb⟩ := hn
    rw [post_an, List.append_assoc, List.append_assoc, iha na]
    by_cases h1 : P.tall a ≤ 20
    · rw [if_pos h1, ihb nb]
      by_cases h2 : P.tall b ≤ 20
      · rw [if_pos h2]
        show (match P.stepI _ ((ts ++ [a]) ++ [b]) with | none => none | some ts' => P.runI rest ts') = _
        rw [List.append_assoc, stepI_app (n := ⟨4, ⟨#[]⟩, ⟨#[]⟩, 2⟩) (ts := ts) (ks := [a] ++ [b]) rfl]
        simp only [grow_an]
        by_cases h3 : 20 < P.tall (P.anT a b)
        · rw [if_pos h3, if_neg (by omega)]
        · rw [if_neg h3, if_pos (by omega)]
      · rw [if_neg h2, if_neg (by rw [P.tall_an]; omega)]
    · rw [if_neg h1, if_neg (by rw [P.tall_an]; omega)]
  · intro a b _ _ iha ihb hn rest ts
    obtain ⟨_, _, _, na, nb⟩ := hn
    rw [post_or, List.append_assoc, List.append_assoc, iha na]
    by_cases h1 : P.tall a ≤ 20
    · rw [if_pos h1, ihb nb]
      by_cases h2 : P.tall b ≤ 20
      · rw [if_pos h2]
        show (match P.stepI _ ((ts ++ [a]) ++ [b]) with | none => none | some ts' => P.runI rest ts') = _
        rw [List.append_assoc, stepI_app (n := ⟨5, ⟨#[]⟩, ⟨#[]⟩, 2⟩) (ts := ts) (ks := [a] ++ [b]) rfl]
        simp only [grow_or]
        by_cases h3 : 20 < P.tall (P.orT a b)
        · rw [if_pos h3, if_neg (by omega)]
        · rw [if_neg h3, if_pos (by omega)]
      · rw [if_neg h2, if_neg (by rw [P.tall_or]; omega)]
    · rw [if_neg h1, if_neg (by rw [P.tall_or]; omega)]

theorem lone_post {y : P.Tr} (hw : P.wf y) (h : nOk y) : P.lone (post y) = false := by
  rcases P.wf_cases hw with rfl | ⟨n, rfl⟩ | ⟨n, v, rfl⟩ | ⟨k, _, rfl⟩ | ⟨a, b, _, _, rfl⟩ | ⟨a, b, _, _, rfl⟩
  · exact absurd rfl h.1
  · rfl
  · rfl
  · rw [post_nt]
    cases post k with
    | nil => rfl
    | cons x r => cases r <;> rfl
  · rw [post_an]
    cases post a ++ post b with
    | nil => rfl
    | cons x r => cases r <;> rfl
  · rw [post_or]
    cases post a ++ post b with
    | nil => rfl
    | cons x r => cases r <;> rfl

theorem treeI_post {y : P.Tr} (hw : P.wf y) (h : nOk y) : P.treeI (post y) = if P.tall y ≤ 20 then some y else none := by
  unfold P.treeI
  rw [if_neg (by rw [lone_post hw h]; exact Bool.false_ne_true)]
  have := runI_post y hw h [] []
  rw [List.append_nil] at this
  rw [this]
  by_cases h20 : P.tall y ≤ 20
  · rw [if_pos h20, if_pos h20]; rfl
  · rw [if_neg h20, if_neg h20]

theorem post_len (y : P.Tr) (hw : P.wf y) : (post y).length = P.count y := by
  refine P.wf_ind (p := fun y => (post y).length = P.count y) ?_ ?_ ?_ ?_ ?_ ?_ y hw
  · rfl
  · intro n; rfl
  · intro n v; rfl
  · intro k _ ih; rw [post_nt, P.count_nt]; simp; omega
  · intro a b _ _ ia ib; rw [post_an, P.count_an]; simp; omega
  · intro a b _ _ ia ib; rw [post_or, P.count_or]; simp; omega

/-- all names of the nodes are short -/
theorem post_small (y : P.Tr) (hw : P.wf y) : nOk y → ∀ n ∈ post y, n.name.size ≤ 20 ∧ n.value.size ≤ 20 := by
  refine P.wf_ind (p := fun y => nOk y → ∀ n ∈ post y, n.name.size ≤ 20 ∧ n.value.size ≤ 20) ?_ ?_ ?_ ?_ ?_ ?_ y hw
  · intro h; exact absurd rfl h.1
  · intro n hn m hm
    rw [post_nm] at hm
    simp at hm
    subst hm
    exact ⟨(P.nameOk_pos (hn.2.1 rfl)).2, by show (0 : Nat) ≤ 20; omega⟩
  · intro n v hn m hm
    rw [post_vl] at hm
    simp at hm
    subst hm
    obtain ⟨h1, h2⟩ := hn.2.2.1 rfl
    exact ⟨(P.nameOk_pos h1).2, (P.nameOk_pos h2).2⟩
  · intro k _ ih hn m hm
    rw [post_nt] at hm
    rcases List.mem_append.1 hm with hm | hm
    · exact ih hn.2.2.2.1 m hm
    · simp at hm; subst hm; exact ⟨by show (0 : Nat) ≤ 20; omega, by show (0 : Nat) ≤ 20; omega⟩
  · intro a b _ _ ia ib hn m hm
    rw [post_an] at hm
    rcases List.mem_append.1 hm with hm | hm
    · rcases List.mem_append.1 hm with hm | hm
      · exact ia hn.2.2.2.1 m hm
      · exact ib hn.2.2.2.2 m hm
    · simp at hm; subst hm; exact ⟨by show (0 : Nat) ≤ 20; omega, by show (0 : Nat) ≤ 20; omega⟩
  · intro a b _ _ ia ib hn m hm
    rw [post_or] at hm
    rcases List.mem_append.1 hm with hm | hm
    · rcases List.mem_append.1 hm with hm | hm
      · exact ia hn.2.2.2.1 m hm
      · exact ib hn.2.2.2.2 m hm
    · simp at hm; subst hm; exact ⟨by show (0 : Nat) ≤ 20; omega, by show (0 : Nat) ≤ 20; omega⟩

end Go.Proofs.YthjicahpfhjfdaaGreatDoor
