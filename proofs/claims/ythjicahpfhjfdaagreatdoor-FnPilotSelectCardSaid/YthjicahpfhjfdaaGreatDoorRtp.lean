/-
  What is printed is read as what it was: tokens of a printed select, and how they are read.
-/
import Derived.Test.YthjicahpfhjfdaaGreatDoorJ4
namespace Go.Proofs.YthjicahpfhjfdaaGreatDoor.P

/-- more fuel does no harm -/
theorem rd_more : ∀ (f m : Nat) (x : Tr) (l : List (List UInt8)) (r : Tr × List (List UInt8)), rd f m x l = some r → rd (f + 1) m x l = some r
  | 0, m, x, l, r, h => by cases m <;> cases h
  | f + 1, 0, x, l, r, h => by
    unfold rd at h ⊢
    split at h
    · split at h
      · cases h
      · next y r' hy => rw [rd_more f _ _ _ _ hy]; exact h
    · split at h
      · split at h
        · cases h
        · next y r' hy => rw [rd_more f _ _ _ _ hy]; exact h
      · exact h
  | f + 1, 1, x, l, r, h => by
    unfold rd at h ⊢
    split at h
    · cases h
    · next y q hy => rw [rd_more f _ _ _ _ hy]; exact rd_more f _ _ _ _ h
  | f + 1, 2, x, l, r, h => by
    unfold rd at h ⊢
    split at h
    · cases h
    · next y q hy => rw [rd_more f _ _ _ _ hy]; exact rd_more f _ _ _ _ h
  | f + 1, 3, x, l, r, h => by
    unfold rd at h ⊢
    split at h
    · exact h
    · split at h
      · cases h
      · next y r' hy => rw [rd_more f _ _ _ _ hy]; exact rd_more f _ _ _ _ h
  | f + 1, m + 4, x, l, r, h => by
    unfold rd at h ⊢
    split at h
    · exact h
    · split at h
      · cases h
      · next y r' hy => rw [rd_more f _ _ _ _ hy]; exact rd_more f _ _ _ _ h

theorem rd_le {f g m : Nat} {x : Tr} {l : List (List UInt8)} {r : Tr × List (List UInt8)} (h : rd f m x l = some r) (hg : f ≤ g) : rd g m x l = some r := by
  obtain ⟨k, rfl⟩ := Nat.exists_eq_add_of_le hg
  clear hg
  induction k with
  | zero => exact h
  | succ k ih => exact rd_more _ _ _ _ _ ih

/-- the tokens of a printed tree, and of one that has to bind so tightly at least -/
def inP (lvl b : Nat) (ts : List (List UInt8)) : List (List UInt8) := if b < lvl then [40] :: ts ++ [[41]] else ts

def tp : Tr → List (List UInt8)
  | .nil => []
  | .node b _ p l r =>
    if b = 1 then [p.1.data.toList]
    else if b = 2 then [p.1.data.toList, [61], p.2.data.toList]
    else if b = 3 then [33] :: inP 3 (bindT l) (tp l)
    else if b = 4 then inP 2 (bindT l) (tp l) ++ [38] :: inP 3 (bindT r) (tp r)
    else if b = 5 then inP 1 (bindT l) (tp l) ++ [124] :: inP 2 (bindT r) (tp r)
    else []

theorem tp_nm (n : ByteArray) : tp (nmT n) = [n.data.toList] := rfl
theorem tp_vl (n v : ByteArray) : tp (vlT n v) = [n.data.toList, [61], v.data.toList] := rfl
theorem tp_nt (k : Tr) : tp (ntT k) = [33] :: inP 3 (bindT k) (tp k) := rfl
theorem tp_an (a b : Tr) : tp (anT a b) = inP 2 (bindT a) (tp a) ++ [38] :: inP 3 (bindT b) (tp b) := rfl
theorem tp_or (a b : Tr) : tp (orT a b) = inP 1 (bindT a) (tp a) ++ [124] :: inP 2 (bindT b) (tp b) := rfl

/-- names in it are names, and it asks for something -/
def namesT : Tr → Prop
  | .nil => True
  | .node b _ p l r => b ≠ 0 ∧ (b = 1 → nameOk p.1 = true) ∧ (b = 2 → nameOk p.1 = true ∧ nameOk p.2 = true) ∧ namesT l ∧ namesT r

def tpl (lvl : Nat) (t : Tr) : List (List UInt8) := inP lvl (bindT t) (tp t)

theorem name_run {n : ByteArray} (h : nameOk n = true) : n.data.toList ≠ [] ∧ ∀ c ∈ n.data.toList, letter c = true := by
  unfold nameOk at h
  simp only [Bool.and_eq_true, decide_eq_true_eq] at h
  refine ⟨fun e => ?_, fun c hc => List.all_eq_true.1 h.2 c hc⟩
  have h2 : n.size = n.data.toList.length := Array.length_toList.symm
  rw [e] at h2
  have h3 : n.size = 0 := h2
  omega

theorem app_data (a b : ByteArray) : (a ++ b).data.toList = a.data.toList ++ b.data.toList := by simp [ByteArray.data_append]

theorem stops_cons {c : UInt8} (h : letter c = false) (l : List UInt8) : stops (c :: l) := h

theorem toks_wr (lvl b : Nat) (s : ByteArray) (ts : List (List UInt8)) (h : ∀ r, stops r → toks (s.data.toList ++ r) = ts ++ toks r) (r : List UInt8) (hr : stops r) :
    toks ((wr lvl b s).data.toList ++ r) = inP lvl b ts ++ toks r := by
  unfold wr inP
  split
  · rw [app_data, app_data]
    show toks (40 :: (s.data.toList ++ [41]) ++ r) = _
    rw [List.cons_append, toks_sign _ (by decide) (by decide), List.append_assoc, h ([41] ++ r) (stops_cons (by decide) r)]
    show _ :: (ts ++ toks (41 :: r)) = _
    rw [toks_sign _ (by decide) (by decide)]
    simp
  · exact h r hr

theorem toks_pr (t : Tr) (hw : wf t) : namesT t → ∀ r, stops r → toks ((pr t).data.toList ++ r) = tp t ++ toks r := by
  refine wf_ind (p := fun t => namesT t → ∀ r, stops r → toks ((pr t).data.toList ++ r) = tp t ++ toks r) ?_ ?_ ?_ ?_ ?_ ?_ t hw
  · exact fun h => absurd rfl h.1
  · intro n h r hr
    obtain ⟨h1, h2⟩ := name_run (h.2.1 rfl)
    rw [pr_nm, tp_nm, toks_run _ _ h1 h2 hr]
    rfl
  · intro n v h r hr
    obtain ⟨h1, h2⟩ := name_run (h.2.2.1 rfl).1
    obtain ⟨h3, h4⟩ := name_run (h.2.2.1 rfl).2
    rw [pr_vl, tp_vl, app_data, app_data, List.append_assoc, List.append_assoc, toks_run _ ((⟨#[61]⟩ : ByteArray).data.toList ++ (v.data.toList ++ r)) h1 h2 (stops_cons (by decide) _)]
    show _ :: toks (61 :: (v.data.toList ++ r)) = _
    rw [toks_sign _ (by decide) (by decide), toks_run _ _ h3 h4 hr]
    rfl
  · intro k hk ih h r hr
    rw [pr_nt, tp_nt, app_data]
    show toks (33 :: ((wr 3 (bindT k) (pr k)).data.toList ++ r)) = _
    rw [toks_sign _ (by decide) (by decide), toks_wr _ _ _ _ (ih h.2.2.2.1) r hr]
    rfl
  · intro a b ha hb iha ihb h r hr
    rw [pr_an, tp_an, app_data, app_data, List.append_assoc, List.append_assoc]
    rw [toks_wr _ _ _ _ (iha h.2.2.2.1) ((⟨#[32, 38, 32]⟩ : ByteArray).data.toList ++ ((wr 3 (bindT b) (pr b)).data.toList ++ r)) (stops_cons (by decide) _)]
    show _ ++ toks (32 :: 38 :: 32 :: ((wr 3 (bindT b) (pr b)).data.toList ++ r)) = _
    rw [toks_blank, toks_sign _ (by decide) (by decide), toks_blank, toks_wr _ _ _ _ (ihb h.2.2.2.2) r hr]
    simp
  · intro a b ha hb iha ihb h r hr
    rw [pr_or, tp_or, app_data, app_data, List.append_assoc, List.append_assoc]
    rw [toks_wr _ _ _ _ (iha h.2.2.2.1) ((⟨#[32, 124, 32]⟩ : ByteArray).data.toList ++ ((wr 2 (bindT b) (pr b)).data.toList ++ r)) (stops_cons (by decide) _)]
    show _ ++ toks (32 :: 124 :: 32 :: ((wr 2 (bindT b) (pr b)).data.toList ++ r)) = _
    rw [toks_blank, toks_sign _ (by decide) (by decide), toks_blank, toks_wr _ _ _ _ (ihb h.2.2.2.2) r hr]
    simp

/-- what comes next is not this sign -/
def noS (s : UInt8) (l : List (List UInt8)) : Prop := tk s l = none

theorem noS_nil (s : UInt8) : noS s [] := rfl
theorem noS_cons {s c : UInt8} (h : c ≠ s) (l : List (List UInt8)) : noS s ([c] :: l) := by
  show (if [c] = [s] then some l else none) = none
  rw [if_neg (by simpa using h)]
theorem tk_cons (s : UInt8) (l : List (List UInt8)) : tk s ([s] :: l) = some l := by
  show (if [s] = [s] then some l else none) = some l
  rw [if_pos rfl]

theorem noS_name {s : UInt8} {n : ByteArray} (h : nameOk n = true) (hs : letter s = false) (l : List (List UInt8)) : noS s (n.data.toList :: l) := by
  obtain ⟨h1, h2⟩ := name_run h
  show (if n.data.toList = [s] then some l else none) = none
  refine if_neg (fun e => ?_)
  have := h2 s (by rw [e]; simp)
  rw [hs] at this
  cases this

theorem bts_data (n : ByteArray) : bts n.data.toList = n := by unfold bts; simp

theorem nm_name {n : ByteArray} (h : nameOk n = true) (l : List (List UInt8)) : nm (n.data.toList :: l) = some (n.data.toList, l) := by
  show (if nmB n.data.toList = true then some (n.data.toList, l) else none) = _
  rw [if_pos (by rw [← nmB_eq, bts_data]; exact h)]

theorem rd3_end (f : Nat) (x : Tr) {l : List (List UInt8)} (h : noS 38 l) : rd (f + 1) 3 x l = some (x, l) := by
  unfold rd
  rw [show tk 38 l = none from h]
theorem rd4_end (f : Nat) (x : Tr) {l : List (List UInt8)} (h : noS 124 l) : rd (f + 1) 4 x l = some (x, l) := by
  unfold rd
  rw [show tk 124 l = none from h]
theorem rd_pos {f m : Nat} {x : Tr} {l : List (List UInt8)} {r : Tr × List (List UInt8)} (h : rd f m x l = some r) : 1 ≤ f := by
  cases f with
  | zero => cases m <;> cases h
  | succ g => omega

theorem inP_out {lvl b : Nat} {ts : List (List UInt8)} (h : ¬ b < lvl) : inP lvl b ts = ts := if_neg h
theorem inP_in {lvl b : Nat} {ts : List (List UInt8)} (h : b < lvl) : inP lvl b ts = [40] :: ts ++ [[41]] := if_pos h

/-- how a tree is read where it stands alone, and where it is the first of parts that are joined -/
def RdA (t : Tr) (ts : List (List UInt8)) (k : Nat) : Prop := ∀ (l : List (List UInt8)) (f : Nat) (x : Tr), noS 61 l → 8 * count t ≤ f + k → rd f 0 x (ts ++ l) = some (t, l)
def RdB (t : Tr) (ts : List (List UInt8)) (k : Nat) : Prop := ∀ (l : List (List UInt8)) (f F : Nat) (x : Tr) (r : Tr × List (List UInt8)), noS 61 l → rd f 3 t l = some r → f + 8 * count t ≤ F + k → rd F 1 x (ts ++ l) = some r
def RdC (t : Tr) (ts : List (List UInt8)) (k : Nat) : Prop := ∀ (l : List (List UInt8)) (f F : Nat) (x : Tr) (r : Tr × List (List UInt8)), noS 61 l → noS 38 l → rd f 4 t l = some r → f + 8 * count t ≤ F + k → rd F 2 x (ts ++ l) = some r

theorem b_of_a {t : Tr} {ts : List (List UInt8)} {k j : Nat} (h : RdA t ts k) (hj : j ≤ k) (hc : j + 2 ≤ 8 * count t) : RdB t ts j := by
  intro l f F x r h1 h2 hF
  have := rd_pos h2
  obtain ⟨g, rfl⟩ : ∃ g, F = g + 1 := ⟨F - 1, by omega⟩
  unfold rd
  rw [h l g nonT h1 (by omega)]
  exact rd_le h2 (by omega)

theorem c_of_b {t : Tr} {ts : List (List UInt8)} {k : Nat} (h : RdB t ts (k + 2)) (hc : k + 4 ≤ 8 * count t) : RdC t ts k := by
  intro l f F x r h1 h2 h3 hF
  have := rd_pos h3
  obtain ⟨g, rfl⟩ : ∃ g, F = g + 1 := ⟨F - 1, by omega⟩
  unfold rd
  rw [h l 1 g nonT (t, l) h1 (rd3_end 0 t h2) (by omega)]
  exact rd_le h3 (by omega)

/-- a part in brackets, read by what is in them -/
theorem a_of_c {t : Tr} {ts : List (List UInt8)} (h : RdC t ts 3) (hc : 1 ≤ count t) : RdA t ([40] :: ts ++ [[41]]) 1 := by
  intro l f x h1 hf
  obtain ⟨g, rfl⟩ : ∃ g, f = g + 1 := ⟨f - 1, by omega⟩
  have e : [40] :: ts ++ [[41]] ++ l = [40] :: (ts ++ [41] :: l) := by simp
  rw [e]
  unfold rd
  rw [show tk 33 ([40] :: (ts ++ [41] :: l)) = none from noS_cons (by decide) _, tk_cons]
  simp only []
  rw [h ([41] :: l) 1 g nonT (t, [41] :: l) (noS_cons (by decide) _) (noS_cons (by decide) _) (rd4_end 0 t (noS_cons (by decide) _)) (by omega)]
  simp only []
  rw [tk_cons]

theorem count_one (t : Tr) (hw : wf t) : 1 ≤ count t := by
  refine wf_ind (p := fun t => 1 ≤ count t) ?_ ?_ ?_ ?_ ?_ ?_ t hw
  · exact Nat.le_refl _
  · exact fun _ => Nat.le_refl _
  · exact fun _ _ => Nat.le_refl _
  · intro k _ _; rw [count_nt]; omega
  · intro a b _ _ _ _; rw [count_an]; omega
  · intro a b _ _ _ _; rw [count_or]; omega

structure Reads (t : Tr) : Prop where
  a : RdA t (tpl 3 t) 1
  b : RdB t (tpl 2 t) 1
  c : RdC t (tpl 1 t) 3

theorem RdA.mono {t : Tr} {ts : List (List UInt8)} {k j : Nat} (h : RdA t ts k) (hj : j ≤ k) : RdA t ts j := fun l f x h1 h2 => h l f x h1 (by omega)
theorem RdB.mono {t : Tr} {ts : List (List UInt8)} {k j : Nat} (h : RdB t ts k) (hj : j ≤ k) : RdB t ts j := fun l f F x r h1 h2 h3 => h l f F x r h1 h2 (by omega)

/-- one that binds most -/
theorem reads3 {t : Tr} (hb : bindT t = 3) (hc : 1 ≤ count t) (a : RdA t (tp t) 7) : Reads t := by
  have e3 : tpl 3 t = tp t := by unfold tpl; rw [hb]; exact inP_out (by omega)
  have e2 : tpl 2 t = tp t := by unfold tpl; rw [hb]; exact inP_out (by omega)
  have e1 : tpl 1 t = tp t := by unfold tpl; rw [hb]; exact inP_out (by omega)
  have hB : RdB t (tp t) 5 := b_of_a a (by omega) (by omega)
  exact ⟨e3 ▸ a.mono (by omega), e2 ▸ hB.mono (by omega), e1 ▸ c_of_b hB (by omega)⟩

theorem reads2 {t : Tr} (hb : bindT t = 2) (hc : 1 ≤ count t) (b : RdB t (tp t) 5) : Reads t := by
  have e3 : tpl 3 t = [40] :: tp t ++ [[41]] := by unfold tpl; rw [hb]; exact inP_in (by omega)
  have e2 : tpl 2 t = tp t := by unfold tpl; rw [hb]; exact inP_out (by omega)
  have e1 : tpl 1 t = tp t := by unfold tpl; rw [hb]; exact inP_out (by omega)
  have hC : RdC t (tp t) 3 := c_of_b b (by omega)
  exact ⟨e3 ▸ a_of_c hC hc, e2 ▸ b.mono (by omega), e1 ▸ hC⟩

theorem reads1 {t : Tr} (hb : bindT t = 1) (hc : 1 ≤ count t) (c : RdC t (tp t) 3) : Reads t := by
  have e3 : tpl 3 t = [40] :: tp t ++ [[41]] := by unfold tpl; rw [hb]; exact inP_in (by omega)
  have e2 : tpl 2 t = [40] :: tp t ++ [[41]] := by unfold tpl; rw [hb]; exact inP_in (by omega)
  have e1 : tpl 1 t = tp t := by unfold tpl; rw [hb]; exact inP_out (by omega)
  have hA := a_of_c c hc
  exact ⟨e3 ▸ hA, e2 ▸ b_of_a hA (by omega) (by omega), e1 ▸ c⟩

theorem reads_all (t : Tr) (hw : wf t) : namesT t → Reads t := by
  refine wf_ind (p := fun t => namesT t → Reads t) ?_ ?_ ?_ ?_ ?_ ?_ t hw
  · exact fun h => absurd rfl h.1
  · intro n h
    refine reads3 (bind_nm n) (Nat.le_refl _) (fun l f x h1 h2 => ?_)
    have hn := h.2.1 rfl
    rw [count_nm] at h2
    obtain ⟨g, rfl⟩ : ∃ g, f = g + 1 := ⟨f - 1, by omega⟩
    rw [tp_nm]
    show rd (g + 1) 0 x (n.data.toList :: l) = _
    unfold rd
    rw [show tk 33 (n.data.toList :: l) = none from noS_name hn (by decide) _, show tk 40 (n.data.toList :: l) = none from noS_name hn (by decide) _]
    simp only [markT]
    rw [nm_name hn]
    simp only []
    rw [show tk 61 l = none from h1]
    simp only [bts_data]
  · intro n v h
    refine reads3 (bind_vl n v) (Nat.le_refl _) (fun l f x h1 h2 => ?_)
    obtain ⟨hn, hv⟩ := h.2.2.1 rfl
    rw [count_vl] at h2
    obtain ⟨g, rfl⟩ : ∃ g, f = g + 1 := ⟨f - 1, by omega⟩
    rw [tp_vl]
    show rd (g + 1) 0 x (n.data.toList :: [61] :: v.data.toList :: l) = _
    unfold rd
    rw [show tk 33 (n.data.toList :: [61] :: v.data.toList :: l) = none from noS_name hn (by decide) _, show tk 40 (n.data.toList :: [61] :: v.data.toList :: l) = none from noS_name hn (by decide) _]
    simp only [markT]
    rw [nm_name hn]
    simp only []
    rw [tk_cons]
    simp only []
    rw [nm_name hv]
    simp only [bts_data]
  · intro k hk ih h
    have IH := ih h.2.2.2.1
    refine reads3 (bind_nt k) (by rw [count_nt]; omega) (fun l f x h1 h2 => ?_)
    rw [count_nt] at h2
    obtain ⟨g, rfl⟩ : ∃ g, f = g + 1 := ⟨f - 1, by omega⟩
    rw [tp_nt]
    show rd (g + 1) 0 x ([33] :: (inP 3 (bindT k) (tp k) ++ l)) = _
    unfold rd
    rw [tk_cons]
    simp only []
    have := IH.a l g nonT h1 (by omega)
    unfold tpl at this
    rw [this]
  · intro a b ha hb iha ihb h
    have IA := iha h.2.2.2.1
    have IB := ihb h.2.2.2.2
    have ca := count_one a ha
    have cb := count_one b hb
    refine reads2 (bind_an a b) (by rw [count_an]; omega) (fun l f F x r h1 h2 hF => ?_)
    rw [count_an] at hF
    rw [tp_an, List.append_assoc]
    have e : rd (f + 8 * count b + 1) 3 a ([38] :: inP 3 (bindT b) (tp b) ++ l) = some r := by
      show rd (f + 8 * count b + 1) 3 a ([38] :: (inP 3 (bindT b) (tp b) ++ l)) = some r
      unfold rd
      rw [tk_cons]
      simp only []
      have := IB.a l (f + 8 * count b) nonT h1 (by omega)
      unfold tpl at this
      rw [this]
      exact rd_le h2 (by omega)
    have := IA.b _ _ F x r (noS_cons (by decide) _) e (by omega)
    unfold tpl at this
    exact this
  · intro a b ha hb iha ihb h
    have IA := iha h.2.2.2.1
    have IB := ihb h.2.2.2.2
    have ca := count_one a ha
    have cb := count_one b hb
    refine reads1 (bind_or a b) (by rw [count_or]; omega) (fun l f F x r h1 h2 h3 hF => ?_)
    rw [count_or] at hF
    rw [tp_or, List.append_assoc]
    have e : rd (f + 8 * count b + 1) 4 a ([124] :: inP 2 (bindT b) (tp b) ++ l) = some r := by
      show rd (f + 8 * count b + 1) 4 a ([124] :: (inP 2 (bindT b) (tp b) ++ l)) = some r
      unfold rd
      rw [tk_cons]
      simp only []
      have hp := rd_pos h3
      have := IB.b l 1 (f + 8 * count b) nonT (b, l) h1 (rd3_end 0 b h2) (by omega)
      unfold tpl at this
      rw [this]
      exact rd_le h3 (by omega)
    have := IA.c _ _ F x r (noS_cons (by decide) _) (noS_cons (by decide) _) e (by omega)
    unfold tpl at this
    exact this

/-- what is enough fuel -/
def enough (m n : Nat) : Nat := 3 * n + (if m = 1 then 2 else if m = 2 then 3 else 1)

theorem rd_short {f m : Nat} {x y : Tr} {l r : List (List UInt8)} (hm : m ≤ 2) (h : rd f m x l = some (y, r)) : r.length < l.length := (rd_rd f m x l y r (fun h => by omega) h).2.1 hm

theorem rd_same : ∀ (f m : Nat) (x : Tr) (l : List (List UInt8)), enough m l.length ≤ f → rd (f + 1) m x l = rd f m x l
  | 0, m, x, l, h => by
    unfold enough at h
    split at h
    · omega
    · split at h <;> omega
  | f + 1, 0, x, l, h => by
    unfold enough at h
    unfold rd
    cases h1 : tk 33 l with
    | some r =>
      have := tk_len h1
      simp only []
      rw [rd_same f 0 nonT r (by unfold enough; simp at h ⊢; omega)]
    | none =>
      cases h2 : tk 40 l with
      | none => rfl
      | some r =>
        have := tk_len h2
        simp only []
        rw [rd_same f 2 nonT r (by unfold enough; simp at h ⊢; omega)]
  | f + 1, 1, x, l, h => by
    unfold enough at h
    unfold rd
    rw [rd_same f 0 nonT l (by unfold enough; simp at h ⊢; omega)]
    cases h1 : rd f 0 nonT l with
    | none => rfl
    | some p =>
      obtain ⟨y, r⟩ := p
      have := rd_short (by omega) h1
      simp only []
      exact rd_same f 3 y r (by unfold enough; simp at h ⊢; omega)
  | f + 1, 2, x, l, h => by
    unfold enough at h
    unfold rd
    rw [rd_same f 1 nonT l (by unfold enough; simp at h ⊢; omega)]
    cases h1 : rd f 1 nonT l with
    | none => rfl
    | some p =>
      obtain ⟨y, r⟩ := p
      have := rd_short (by omega) h1
      simp only []
      exact rd_same f 4 y r (by unfold enough; simp at h ⊢; omega)
  | f + 1, 3, x, l, h => by
    unfold enough at h
    unfold rd
    cases h0 : tk 38 l with
    | none => rfl
    | some q =>
      have := tk_len h0
      simp only []
      rw [rd_same f 0 nonT q (by unfold enough; simp at h ⊢; omega)]
      cases h1 : rd f 0 nonT q with
      | none => rfl
      | some p =>
        obtain ⟨y, r⟩ := p
        have := rd_short (by omega) h1
        simp only []
        exact rd_same f 3 _ r (by unfold enough; simp at h ⊢; omega)
  | f + 1, m + 4, x, l, h => by
    have h : 3 * l.length + 1 ≤ f + 1 := by unfold enough at h; rw [if_neg (by omega), if_neg (by omega)] at h; exact h
    unfold rd
    cases h0 : tk 124 l with
    | none => rfl
    | some q =>
      have := tk_len h0
      simp only []
      rw [rd_same f 1 nonT q (by unfold enough; simp; omega)]
      cases h1 : rd f 1 nonT q with
      | none => rfl
      | some p =>
        obtain ⟨y, r⟩ := p
        have := rd_short (by omega) h1
        simp only []
        exact rd_same f 4 _ r (by unfold enough; simp; omega)

theorem rd_stay {f g m : Nat} {x : Tr} {l : List (List UInt8)} (h : enough m l.length ≤ f) (hg : f ≤ g) : rd g m x l = rd f m x l := by
  obtain ⟨k, rfl⟩ := Nat.exists_eq_add_of_le hg
  clear hg
  induction k with
  | zero => rfl
  | succ k ih => exact (rd_same (f + k) _ _ _ (by omega)).trans ih

theorem onto_len (c : UInt8) (r : List UInt8) (ts : List (List UInt8)) : (onto c r ts).length ≤ ts.length + 1 := by
  unfold onto
  split
  · split <;> simp
  · simp
  · simp

theorem toks_len : ∀ (l : List UInt8), (toks l).length ≤ l.length
  | [] => Nat.le_refl _
  | c :: r => by
    have ih := toks_len r
    rw [toks_cons]
    split
    · simp; omega
    · split
      · have := onto_len c r (toks r); simp; omega
      · simp; omega

/-- what is printed is read as what it was -/
theorem rd_pr {t : Tr} (hw : wf t) (hn : namesT t) (hs : (pr t).size ≤ 200) : rd 1000 2 nonT (toks (pr t).data.toList) = some (t, []) := by
  have h1 := toks_pr t hw hn [] trivial
  rw [List.append_nil, toks_nil, List.append_nil] at h1
  have hl := toks_len (pr t).data.toList
  have hsz : (pr t).data.toList.length = (pr t).size := Array.length_toList
  have h3 := (reads_all t hw hn).c [] 1 (1000 + (1 + 8 * count t)) nonT (t, []) (noS_nil _) (noS_nil _) (rd4_end 0 t (noS_nil _)) (by omega)
  rw [List.append_nil] at h3
  have e : tpl 1 t = tp t := by
    unfold tpl
    refine inP_out ?_
    rcases wf_cases hw with rfl | ⟨n, rfl⟩ | ⟨n, v, rfl⟩ | ⟨k, _, rfl⟩ | ⟨a, b, _, _, rfl⟩ | ⟨a, b, _, _, rfl⟩
    · rw [bind_non]; omega
    · rw [bind_nm]; omega
    · rw [bind_vl]; omega
    · rw [bind_nt]; omega
    · rw [bind_an]; omega
    · rw [bind_or]; omega
  rw [e, ← h1] at h3
  rw [← rd_stay (g := 1000 + (1 + 8 * count t)) (by unfold enough; simp only [Nat.reduceEqDiff, if_false, if_true]; omega) (by omega)]
  exact h3

end Go.Proofs.YthjicahpfhjfdaaGreatDoor.P
