/-
  A book that is done, told by its copies: what the program counts is 0 exactly where what the specification counts is.
-/
import Derived.Test.YtfbmljdlkgiliaaGreatSr2
import Derived.Test.YtfbmljdlkgiliaaGreatDux
import Derived.Test.YtfbmljdlkgiliaaGreatSvo
namespace Go.Proofs.YtfbmljdlkgiliaaGreat
open Go.RowKit

def loB (x : Sbk) (c : Scp) : Bool := c.ending || (svO x c).gone
def rpB (x : Sbk) (c : Scp) : Bool := (c.image != (svO x c).image) || dnB x c.berth
def nrB (c : Scp) : Bool := c.state != 3
def lvC (c : Scp) : Bool := !c.ending
def offT (x : Sbk) (v : Ssv) : Int := if (cntL x.copies v.name v.image).live - v.want < v.want - (cntL x.copies v.name v.image).live then v.want - (cntL x.copies v.name v.image).live else (cntL x.copies v.name v.image).live - v.want
def offS (x : Sbk) (n : Int) (v : Ssv) : Int := if v.gone = true then n else n + offT x v
def offI (x : Sbk) (l : List Ssv) : Int := l.foldl (offS x) 0
theorem offI_snoc (x : Sbk) (l : List Ssv) (v : Ssv) : offI x (l ++ [v]) = offS x (offI x l) v := by unfold offI; rw [List.foldl_append]; rfl

/-- the five numbers, by the program -/
def rkP (x : Sbk) : List Int := [((x.services.filter (·.gone)).length : Int), ((x.copies.filter (loB x)).length : Int), offI x x.services, (((x.copies.filter lvC).filter (rpB x)).length : Int), (((x.copies.filter lvC).filter nrB).length : Int)]

theorem offT_nn (x : Sbk) (v : Ssv) : 0 ≤ offT x v := by unfold offT; split <;> omega
theorem offT_z (x : Sbk) (v : Ssv) : offT x v = 0 ↔ (cntL x.copies v.name v.image).live - v.want = 0 := by unfold offT; split <;> omega

theorem off_gen (x : Sbk) : ∀ (l : List Ssv) (n : Int), 0 ≤ n → 0 ≤ l.foldl (offS x) n ∧ (l.foldl (offS x) n = 0 ↔ n = 0 ∧ ∀ v ∈ l, v.gone = true ∨ offT x v = 0)
  | [], n, h => ⟨h, by simp⟩
  | v :: l, n, h => by
    have h1 := offT_nn x v
    have h2 : 0 ≤ offS x n v := by unfold offS; split <;> omega
    have h3 : offS x n v = 0 ↔ n = 0 ∧ (v.gone = true ∨ offT x v = 0) := by
      unfold offS
      cases hg : v.gone
      · simp; omega
      · simp
    have h4 := off_gen x l _ h2
    rw [List.foldl_cons]
    refine ⟨h4.1, ?_⟩
    rw [h4.2, h3]
    simp only [List.mem_cons, forall_eq_or_imp]
    exact and_assoc

theorem off_zero (x : Sbk) (l : List Ssv) : offI x l = 0 ↔ ∀ v ∈ l, v.gone = true ∨ offT x v = 0 := by
  have := (off_gen x l 0 (Int.le_refl _)).2
  unfold offI
  rw [this]
  simp

/-- nothing is left to do of a service, by the specification -/
def Zc (x : Sbk) (v : Ssv) : Prop := v.gone = false ∧ (cntS x v.name).ending = 0 ∧ (cntS x v.name).live - v.want = 0 ∧ (liveL x v.name).filter (p3 x v) = [] ∧ (liveL x v.name).filter (p4 x) = []

def RkN (r : Rk) : Prop := 0 ≤ r.a ∧ 0 ≤ r.b ∧ 0 ≤ r.c ∧ 0 ≤ r.d ∧ 0 ≤ r.e
def RkZ (r : Rk) : Prop := r.a = 0 ∧ r.b = 0 ∧ r.c = 0 ∧ r.d = 0 ∧ r.e = 0

theorem absI_z (n : Int) : 0 ≤ absI n ∧ (absI n = 0 ↔ n = 0) := by unfold absI; split <;> omega

theorem rkS_zero {x : Sbk} {r : Rk} {v : Ssv} (h : RkN r) : RkN (rkS x r v) ∧ (RkZ (rkS x r v) ↔ RkZ r ∧ Zc x v) := by
  have h1 := cntS_two x v.name
  obtain ⟨h2, h3⟩ := absI_z ((cntS x v.name).live - v.want)
  obtain ⟨a1, a2, a3, a4, a5⟩ := h
  have e1 : (liveL x v.name).filter (p3 x v) = [] ↔ (((liveL x v.name).filter (p3 x v)).length : Int) = 0 := by rw [← List.length_eq_zero_iff]; omega
  have e2 : (liveL x v.name).filter (p4 x) = [] ↔ (((liveL x v.name).filter (p4 x)).length : Int) = 0 := by rw [← List.length_eq_zero_iff]; omega
  have n1 : 0 ≤ (((liveL x v.name).filter (p3 x v)).length : Int) := by omega
  have n2 : 0 ≤ (((liveL x v.name).filter (p4 x)).length : Int) := by omega
  unfold RkN RkZ Zc rkS
  rw [e1, e2]
  cases hg : v.gone with
  | true =>
    rw [if_pos rfl]
    simp only
    refine ⟨by omega, ?_⟩
    constructor
    · intro h; omega
    · rintro ⟨_, h, _⟩; cases h
  | false =>
    rw [if_neg (by simp)]
    simp only [true_and]
    refine ⟨by omega, ?_⟩
    rw [← h3]
    omega

theorem rkL_gen (x : Sbk) : ∀ (l : List Ssv) (r : Rk), RkN r → (RkZ (l.foldl (rkS x) r) ↔ RkZ r ∧ ∀ v ∈ l, Zc x v)
  | [], r, _ => by simp
  | v :: l, r, h => by
    obtain ⟨h1, h2⟩ := rkS_zero (x := x) (v := v) h
    rw [List.foldl_cons, rkL_gen x l _ h1, h2]
    simp only [List.mem_cons, forall_eq_or_imp]
    exact and_assoc

theorem rkL_zero (x : Sbk) (l : List Ssv) : RkZ (rkL x l) ↔ ∀ v ∈ l, Zc x v := by
  unfold rkL
  rw [rkL_gen x l _ ⟨Int.le_refl _, Int.le_refl _, Int.le_refl _, Int.le_refl _, Int.le_refl _⟩]
  constructor
  · exact fun h => h.2
  · exact fun h => ⟨⟨rfl, rfl, rfl, rfl, rfl⟩, h⟩

theorem rkI_zero (r : Rk) : (∀ n ∈ rkI r, n = 0) ↔ RkZ r := by
  unfold rkI RkZ
  simp

theorem cnt_end (s : ByteArray) (im : Int) : ∀ (l : List Scp) (t : Sct), (l.foldl (fun t c => stp t c s im) t).ending = t.ending + (((l.filter (fun c => decide (c.service = s) && c.ending)).length : Nat) : Int)
  | [], t => by simp
  | c :: l, t => by
    rw [List.foldl_cons, cnt_end s im l]
    by_cases hs : c.service = s
    · cases he : c.ending with
      | true =>
        rw [List.filter_cons_of_pos (by simp [hs, he])]
        have : (stp t c s im).ending = t.ending + 1 := by unfold stp; rw [if_pos hs, if_pos he]
        rw [this, List.length_cons]
        push_cast
        omega
      | false =>
        rw [List.filter_cons_of_neg (by simp [he])]
        have : (stp t c s im).ending = t.ending := by unfold stp; rw [if_pos hs, if_neg (by simp [he])]
        rw [this]
    · rw [List.filter_cons_of_neg (by simp [hs])]
      have : (stp t c s im).ending = t.ending := by unfold stp; rw [if_neg hs]
      rw [this]

theorem cnt_end0 (l : List Scp) (s : ByteArray) (im : Int) : (cntL l s im).ending = 0 ↔ ∀ c ∈ l, c.service = s → c.ending = false := by
  unfold cntL
  rw [cnt_end]
  constructor
  · intro h c hc hs
    cases he : c.ending with
    | false => rfl
    | true =>
      have hm : c ∈ l.filter (fun c => decide (c.service = s) && c.ending) := List.mem_filter.2 ⟨hc, by simp [hs, he]⟩
      have := List.length_pos_of_mem hm
      simp only at h
      omega
  · intro h
    have : l.filter (fun c => decide (c.service = s) && c.ending) = [] := by
      rw [List.filter_eq_nil_iff]
      intro c hc hp
      simp at hp
      have := h c hc hp.1
      rw [hp.2] at this
      cases this
    rw [this]
    rfl

theorem find_svc {x : Sbk} (hv : SVal x) {v : Ssv} (hm : v ∈ x.services) : x.services.find? (fun b => decide (b.name = v.name)) = some v := by
  cases hf : x.services.find? (fun b => decide (b.name = v.name)) with
  | none =>
    have := List.find?_eq_none.1 hf v hm
    simp at this
  | some u =>
    have hn : u.name = v.name := by have := List.find?_some hf; exact of_decide_eq_true this
    obtain ⟨j, hj, ej⟩ := List.getElem_of_mem (List.mem_of_find?_eq_some hf)
    obtain ⟨k, hk, ek⟩ := List.getElem_of_mem hm
    have h1 : x.services[j]? = some u := by rw [List.getElem?_eq_getElem hj, ej]
    have h2 : x.services[k]? = some v := by rw [List.getElem?_eq_getElem hk, ek]
    have := asc_uniq hv.s2 j k u v h1 h2 hn
    subst this
    rw [h1] at h2
    exact h2

theorem cpy_svc {x : Sbk} (hv : SVal x) {c : Scp} (hc : c ∈ x.copies) : ∃ v, v ∈ x.services ∧ v.name = c.service ∧ x.services.find? (fun b => decide (b.name = c.service)) = some v ∧ svO x c = v := by
  obtain ⟨j, hj, ej⟩ := List.getElem_of_mem hc
  have h1 := hv.c1 j c (by rw [List.getElem?_eq_getElem hj, ej])
  unfold cpB at h1
  cases hf : x.services.find? (fun b => decide (b.name = c.service)) with
  | none => rw [hf] at h1; cases h1
  | some v =>
    refine ⟨v, List.mem_of_find?_eq_some hf, ?_, rfl, ?_⟩
    · have := List.find?_some hf; exact of_decide_eq_true this
    · unfold svO; rw [hf]; rfl

theorem cntS_cntL {x : Sbk} (hv : SVal x) {v : Ssv} (hm : v ∈ x.services) : cntS x v.name = cntL x.copies v.name v.image := by
  unfold cntS
  rw [find_svc hv hm]

theorem liveL_mem {x : Sbk} {s : ByteArray} {i : Nat} : i ∈ liveL x s ↔ ∃ c, x.copies[i]? = some c ∧ c.service = s ∧ c.ending = false := by
  unfold liveL plTo
  rw [List.mem_filter, List.mem_range]
  constructor
  · rintro ⟨h1, h2⟩
    refine ⟨x.copies[i], List.getElem?_eq_getElem h1, ?_⟩
    rw [cAt_at (List.getElem?_eq_getElem h1)] at h2
    unfold lvB at h2
    simp at h2
    exact h2
  · rintro ⟨c, h1, h2, h3⟩
    refine ⟨lt_of_some h1, ?_⟩
    rw [cAt_at h1]
    unfold lvB
    simp [h2, h3]

theorem done_eq {x : Sbk} (hv : SVal x) : (∀ n ∈ rkI (rkL x x.services), n = 0) ↔ ∀ n ∈ rkP x, n = 0 := by
  rw [rkI_zero, rkL_zero]
  have len0 : ∀ {α : Type} (l : List α), ((l.length : Nat) : Int) = 0 ↔ l = [] := fun l => by rw [← List.length_eq_zero_iff]; omega
  have hP : (∀ n ∈ rkP x, n = 0) ↔ (∀ v ∈ x.services, v.gone = false) ∧ (∀ c ∈ x.copies, loB x c = false) ∧ (∀ v ∈ x.services, v.gone = true ∨ offT x v = 0) ∧ (∀ c ∈ x.copies, c.ending = false → rpB x c = false) ∧ (∀ c ∈ x.copies, c.ending = false → nrB c = false) := by
    unfold rkP
    simp only [List.mem_cons, List.not_mem_nil, or_false, forall_eq_or_imp, forall_eq, len0, List.filter_eq_nil_iff, off_zero, List.mem_filter, and_imp]
    simp [lvC]
  rw [hP]
  constructor
  · intro h
    refine ⟨fun v hm => (h v hm).1, fun c hc => ?_, fun v hm => ?_, fun c hc he => ?_, fun c hc he => ?_⟩
    · obtain ⟨v, hm, hn, _, hs⟩ := cpy_svc hv hc
      obtain ⟨g1, g2, _⟩ := h v hm
      rw [cntS_cntL hv hm, cnt_end0] at g2
      unfold loB
      rw [hs, g1, g2 c hc hn.symm]
      rfl
    · right
      have g := (h v hm).2.2.1
      rw [cntS_cntL hv hm] at g
      exact (offT_z x v).2 g
    · obtain ⟨v, hm, hn, _, hs⟩ := cpy_svc hv hc
      obtain ⟨_, _, _, g4, _⟩ := h v hm
      obtain ⟨i, hi, ei⟩ := List.getElem_of_mem hc
      have hci : x.copies[i]? = some c := by rw [List.getElem?_eq_getElem hi, ei]
      have hil : i ∈ liveL x v.name := liveL_mem.2 ⟨c, hci, hn.symm, he⟩
      have h5 := List.filter_eq_nil_iff.1 g4 i hil
      unfold p3 at h5
      rw [cAt_at hci] at h5
      unfold rpB
      rw [hs]
      have e7 : dnB x c.berth = drB x c := rfl
      rw [e7]
      simpa using h5
    · obtain ⟨v, hm, hn, _, hs⟩ := cpy_svc hv hc
      obtain ⟨_, _, _, _, g5⟩ := h v hm
      obtain ⟨i, hi, ei⟩ := List.getElem_of_mem hc
      have hci : x.copies[i]? = some c := by rw [List.getElem?_eq_getElem hi, ei]
      have hil : i ∈ liveL x v.name := liveL_mem.2 ⟨c, hci, hn.symm, he⟩
      have h5 := List.filter_eq_nil_iff.1 g5 i hil
      unfold p4 at h5
      rw [cAt_at hci] at h5
      unfold nrB
      simpa using h5
  · rintro ⟨k1, k2, k3, k4, k5⟩ v hm
    have hen : ∀ c ∈ x.copies, c.ending = false := fun c hc => by
      have := k2 c hc
      unfold loB at this
      simp at this
      exact this.1
    refine ⟨k1 v hm, ?_, ?_, ?_, ?_⟩
    · rw [cntS_cntL hv hm, cnt_end0]
      exact fun c hc _ => hen c hc
    · rw [cntS_cntL hv hm]
      rcases k3 v hm with h | h
      · rw [k1 v hm] at h; cases h
      · exact (offT_z x v).1 h
    · rw [List.filter_eq_nil_iff]
      intro i hi
      obtain ⟨c, hci, hs, he⟩ := liveL_mem.1 hi
      have hc := List.mem_of_getElem? hci
      have h6 := k4 c hc he
      unfold p3
      rw [cAt_at hci]
      unfold rpB at h6
      have e8 : svO x c = v := by
        unfold svO
        rw [hs, find_svc hv hm]
        rfl
      rw [e8] at h6
      have e7 : dnB x c.berth = drB x c := rfl
      rw [e7] at h6
      simpa using h6
    · rw [List.filter_eq_nil_iff]
      intro i hi
      obtain ⟨c, hci, hs, he⟩ := liveL_mem.1 hi
      have h6 := k5 c (List.mem_of_getElem? hci) he
      unfold p4
      rw [cAt_at hci]
      unfold nrB at h6
      simpa using h6

/-- a service that does not follow its load as it should, by the program -/
def ofB (v : Ssv) : Bool := decide (0 < v.per) && ((v.want != dueI v) || (v.cool != 0))

theorem fol_eq {x : Sbk} (hv : SVal x) : (∀ v ∈ x.services, folB v = true) ↔ x.services.any ofB = false := by
  rw [List.any_eq_false]
  have key : ∀ v ∈ x.services, (folB v = true ↔ ¬ ofB v = true) := by
    intro v hm
    obtain ⟨k, hk, ek⟩ := List.getElem_of_mem hm
    have hs := hv.s1 k v (by rw [List.getElem?_eq_getElem hk, ek])
    unfold folB ofB
    by_cases hp : 0 < v.per
    · have hl : v.least ≤ v.most := by
        unfold svB sldB at hs
        have hp' : ¬ v.per = 0 := by omega
        simp [inR, hp'] at hs
        omega
      rw [due_eq hl]
      simp [hp]
    · simp [hp]
  exact ⟨fun h v hm => (key v hm).1 (h v hm), fun h v hm => (key v hm).2 (h v hm)⟩

end Go.Proofs.YtfbmljdlkgiliaaGreat
