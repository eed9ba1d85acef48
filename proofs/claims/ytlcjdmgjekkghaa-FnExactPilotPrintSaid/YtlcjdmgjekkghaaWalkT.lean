/-
  Walks: the specification's valid and its print.
-/
import Derived.Test.YtlcjdmgjekkghaaWalkS
import Derived.Test.YtlcjdmgjekkghaaWalkQ
namespace Go.Proofs.Ytlcjdmgjekkghaa
open Go.RowKit

theorem nonT_nm {s : ByteArray} (h : P.nmT s = P.nonT) : False := by simp [P.nmT, P.nonT] at h
theorem nonT_vl {s v : ByteArray} (h : P.vlT s v = P.nonT) : False := by simp [P.vlT, P.nonT] at h
theorem nonT_nt {t : P.Tr} (h : P.ntT t = P.nonT) : False := by
  have := congrArg P.tall h
  rw [P.tall_nt, P.tall_non] at this
  omega
theorem nonT_an {t u : P.Tr} (h : P.anT t u = P.nonT) : False := by
  have := congrArg P.tall h
  rw [P.tall_an, P.tall_non] at this
  omega
theorem nonT_or {t u : P.Tr} (h : P.orT t u = P.nonT) : False := by
  have := congrArg P.tall h
  rw [P.tall_or, P.tall_non] at this
  omega

theorem write_any (ns : List P.Nd) (out : List (List Nat)) (n co go g : Nat) (hol : out.length = n) (t : P.Tr) (k : Nat) (h : P.IsT ns out k t) :
    P.wf t ∧ ((t = P.nonT ∨ P.good t) → P.count t ≤ 400 → WriteOk ns out n co go g k t) := by
  refine P.isT_ind (ns := ns) (out := out) (p := fun k t => P.wf t ∧ ((t = P.nonT ∨ P.good t) → P.count t ≤ 400 → WriteOk ns out n co go g k t)) ?_ ?_ ?_ ?_ ?_ ?_ t k h
  · intro k nd hnd hk _
    exact ⟨P.wf_non, fun _ _ => writeNon_any ns out n co go g k nd hnd hk⟩
  · intro k nd hnd hk _
    refine ⟨P.wf_nm _, fun h _ => ?_⟩
    rcases h with h | h
    · exact (nonT_nm h).elim
    · rw [P.good_nm] at h
      exact writeNm_any ns out n co go g k nd hnd hk h.2
  · intro k nd hnd hk _
    refine ⟨P.wf_vl _ _, fun h _ => ?_⟩
    rcases h with h | h
    · exact (nonT_vl h).elim
    · rw [P.good_vl] at h
      exact writeVl_any ns out n co go g k nd hnd hk h.1.2 h.2.2
  · intro k nd a t hnd hk hout _ _ ih
    refine ⟨P.wf_nt ih.1, fun h hc => ?_⟩
    rcases h with h | h
    · exact (nonT_nt h).elim
    · rw [P.good_nt] at h
      rw [P.count_nt] at hc
      have := P.pr_le t ih.1 (.inr h)
      exact writeNt_any ns out n co go g k a t nd hol hnd hk hout (by omega) (ih.2 (.inr h) (by omega))
  · intro k nd a b t u hnd hk hout _ _ _ _ ih ih'
    refine ⟨P.wf_an ih.1 ih'.1, fun h hc => ?_⟩
    rcases h with h | h
    · exact (nonT_an h).elim
    · rw [P.good_an] at h
      rw [P.count_an] at hc
      have h1 := P.pr_le t ih.1 (.inr h.1)
      have h2 := P.pr_le u ih'.1 (.inr h.2)
      exact writeAn_any ns out n co go g k a b t u nd hol hnd hk hout (by omega) (by omega) (ih.2 (.inr h.1) (by omega)) (ih'.2 (.inr h.2) (by omega))
  · intro k nd a b t u hnd hk hout _ _ _ _ ih ih'
    refine ⟨P.wf_or ih.1 ih'.1, fun h hc => ?_⟩
    rcases h with h | h
    · exact (nonT_or h).elim
    · rw [P.good_or] at h
      rw [P.count_or] at hc
      have h1 := P.pr_le t ih.1 (.inr h.1)
      have h2 := P.pr_le u ih'.1 (.inr h.2)
      exact writeOr_any ns out n co go g k a b t u nd hol hnd hk hout (by omega) (by omega) (ih.2 (.inr h.1) (by omega)) (ih'.2 (.inr h.2) (by omega))

/-- what the specification holds for valid -/
def validB (ns : List P.Nd) : Bool := P.treeOk ns && (P.treeI ns).isSome

theorem treeOk_len {ns : List P.Nd} (h : P.treeOk ns = true) : ns.length ≤ 400 := by
  rw [treeOk_parts] at h
  simp only [Bool.and_eq_true, decide_eq_true_eq] at h
  exact h.1.1

set_option maxHeartbeats 2000000 in
theorem valid_any (ns : List P.Nd) (g : Nat) (w : World) (hN : Nodes0 w g ns) (hsm : Small ns) :
    Calls Try.prog 10 #[.agg #[.slice (some ⟨g, 0, none⟩) ns.length ns.length]] w fun e w' => e = .returned (.bool (validB ns)) ∧ Below w.heap.size w w' := by
  have HN : Hid (Nodes0 w g ns) := hN
  have HS : Hid (Small ns) := hsm
  clear hN hsm
  cases ht : P.treeOk ns with
  | false =>
    have HT : Hid (P.treeOk ns = false) := ht
    have HV : Hid (validB ns = false) := by show _ = _; rw [validB, ht]; rfl
    clear ht
    go_enter Try.func10, Try.ntmps10
    go_wp2_with fail
    refine (treeS_any ns g _ (HN.out.grown (by go_grown)) HS.out).mono ?_
    rintro e w1 ⟨rfl, hb⟩
    rw [HT.out]
    go_wp2_with fail
    go_ret
    exact ⟨by rw [HV.out]; rfl, ((Below.refl _ w).alloc (Nat.le_refl _) _).trans (hb.mono (by simp))⟩
  | true =>
    obtain ⟨out, r, t, hko, hol, hrl, hIs, hlo, hhi, _, hct⟩ := P.same_tree2 ht
    have hlen := treeOk_len ht
    have HT : Hid (P.treeOk ns = true) := ht
    have HKO : Hid (P.kidsOf ns = some (out, [r])) := hko
    have cc := fun go co => nest_any ns out ns.length co go hol t r hIs (by omega)
    rw [show ((r : Nat) : Int) = (ns.length : Int) - 1 by omega] at cc
    have HC : Hid (∀ (go co : Nat) (w : World), KidsIn w go out → Calls Try.prog 19 #[.slice (some ⟨go, 0, none⟩) ns.length co, .int .i64 ((ns.length : Int) - 1)] w fun e w' => e = .returned (.int .i64 (P.tall t : Int)) ∧ w' = w) := cc
    have hl1 : 1 ≤ ns.length := by omega
    have HV : Hid (validB ns = decide (P.tall t ≤ 20)) := by
      show _ = _
      rw [validB, ht]
      by_cases h : P.tall t ≤ 20
      · rw [hlo h, decide_eq_true h]; rfl
      · rw [hhi (by omega), decide_eq_false h]; rfl
    have htl : P.tall t ≤ 400 := Nat.le_trans (P.tall_le_count t) (by omega)
    clear ht hko cc hIs hlo hhi hct hrl hol
    generalize hT : P.tall t = T at *
    clear hT
    go_enter Try.func10, Try.ntmps10
    go_wp2_with fail
    refine (treeS_any ns g _ (HN.out.grown (by go_grown)) HS.out).mono ?_
    rintro e w1 ⟨rfl, hb⟩
    rw [HT.out]
    have hB1 : Below w.heap.size w w1 := ((Below.refl _ w).alloc (Nat.le_refl _) _).trans (hb.mono (by simp))
    have hc1 : w1.cell? ⟨w.heap.size, 0, none⟩ = some (.slice (some ⟨g, 0, none⟩) ns.length ns.length) := (hb.cell (p := ⟨w.heap.size, 0, none⟩) (by simp)).trans (by simp)
    have hz1 : w.heap.size < w1.heap.size := by have := hb.size; simp at this; omega
    clear hb
    go_wp2_with fail
    refine (kids_any ns g _ (HN.out.grown hB1) hlen).mono ?_
    rintro e w2 ⟨hb2, h2⟩
    rw [HKO.out] at h2
    obtain ⟨go, co, rfl, hkin, _⟩ := h2
    have hc2 : w2.cell? ⟨w.heap.size, 0, none⟩ = some (.slice (some ⟨g, 0, none⟩) ns.length ns.length) := (hb2.cell (p := ⟨w.heap.size, 0, none⟩) hz1).trans hc1
    have HB : Hid (Below w.heap.size w w2) := hB1.trans (hb2.mono (by omega))
    have HK : Hid (KidsIn w2 go out) := hkin
    clear hb2 hkin hc1
    go_wp2_with fail
    refine (HC.out _ _ _ HK.out).mono ?_
    rintro e w3 ⟨rfl, rfl⟩
    by_cases h20 : T ≤ 20
    · go_wp2_with fail
      go_ret
      exact ⟨by rw [HV.out, decide_eq_true h20]; simp; omega, HB.out⟩
    · go_wp2_with fail
      go_ret
      exact ⟨by rw [HV.out, decide_eq_false h20]; simp; omega, HB.out⟩

theorem bind_pos {t : P.Tr} (h : P.wf t) : ¬ P.bindT t < 1 := by
  rcases P.wf_cases h with rfl | ⟨n, rfl⟩ | ⟨n, v, rfl⟩ | ⟨k, _, rfl⟩ | ⟨a, b, _, _, rfl⟩ | ⟨a, b, _, _, rfl⟩
  · rw [P.bind_non]; omega
  · rw [P.bind_nm]; omega
  · rw [P.bind_vl]; omega
  · rw [P.bind_nt]; omega
  · rw [P.bind_an]; omega
  · rw [P.bind_or]; omega

theorem out_none {ns : List P.Nd} (h : P.treeI ns = none) : P.outI ns = ⟨#[]⟩ := by unfold P.outI; rw [h]

theorem out_bad {ns : List P.Nd} (h : validB ns = false) : P.outI ns = ⟨#[]⟩ := by
  unfold validB at h
  cases ht : P.treeOk ns with
  | true =>
    rw [ht, Bool.true_and] at h
    exact out_none (by simpa using h)
  | false =>
    by_cases hl : ns.length ≤ 400
    · exact out_none (P.no_tree hl ht)
    · cases hi : P.treeI ns with
      | none => exact out_none hi
      | some t =>
        have := P.great_tree (by omega) hi
        unfold P.outI
        rw [hi]
        exact if_pos this

set_option maxHeartbeats 2000000 in
theorem specPrint_any (ns : List P.Nd) (g : Nat) (w : World) (hN : Nodes0 w g ns) (hsm : Small ns) :
    Calls Try.prog 5 #[.agg #[.slice (some ⟨g, 0, none⟩) ns.length ns.length]] w fun e w' => e = .returned (.string (P.outI ns)) ∧ Below w.heap.size w w' := by
  have HN : Hid (Nodes0 w g ns) := hN
  have HS : Hid (Small ns) := hsm
  clear hN hsm
  cases hv : validB ns with
  | false =>
    have HV : Hid (validB ns = false) := hv
    have HO : Hid (P.outI ns = ⟨#[]⟩) := out_bad hv
    clear hv
    go_enter Try.func5, Try.ntmps5
    go_wp2_with fail
    refine (valid_any ns g _ (HN.out.grown (by go_grown)) HS.out).mono ?_
    rintro e w1 ⟨rfl, hb⟩
    rw [HV.out]
    go_wp2_with fail
    go_ret
    exact ⟨by rw [HO.out]; rfl, ((Below.refl _ w).alloc (Nat.le_refl _) _).trans (hb.mono (by simp))⟩
  | true =>
    have HV : Hid (validB ns = true) := hv
    unfold validB at hv
    simp only [Bool.and_eq_true] at hv
    obtain ⟨ht, hi⟩ := hv
    obtain ⟨out, r, t, hko, hol, hrl, hIs, hlo, hhi, hfin, hct⟩ := P.same_tree2 ht
    have hlen := treeOk_len ht
    have h20 : P.tall t ≤ 20 := by
      by_cases h : P.tall t ≤ 20
      · exact h
      · rw [hhi (by omega)] at hi
        cases hi
    have HKO : Hid (P.kidsOf ns = some (out, [r])) := hko
    have hgood : t = P.nonT ∨ P.good t := hfin.imp id (fun h => h.2)
    have cc := fun go co => (write_any ns out ns.length co go g hol t r hIs).2 hgood (by omega) 1
    have hwf := (write_any ns out ns.length 0 0 g hol t r hIs).1
    have hsz := P.pr_le t hwf hgood
    rw [wr_out (bind_pos hwf), show ((r : Nat) : Int) = (ns.length : Int) - 1 by omega] at cc
    have HC : Hid (∀ (go co : Nat) (w : World), Nodes0 w g ns → KidsIn w go out → Calls Try.prog 12 #[.agg #[.slice (some ⟨g, 0, none⟩) ns.length ns.length], .slice (some ⟨go, 0, none⟩) ns.length co, .int .i64 ((ns.length : Int) - 1), .int .i64 1] w fun e w' => e = .returned (.string (P.pr t)) ∧ Below w.heap.size w w') := cc
    have hl1 : 1 ≤ ns.length := by omega
    have HO : Hid (P.outI ns = if 200 < (P.pr t).size then ⟨#[]⟩ else P.pr t) := by
      show _ = _
      unfold P.outI
      rw [hlo h20]
    have hpz : (P.pr t).size ≤ 20000 := by omega
    clear ht hko cc hIs hlo hhi hct hrl hol hfin hgood hwf hsz h20 hi
    generalize hT : P.pr t = T at *
    clear hT
    go_enter Try.func5, Try.ntmps5
    go_wp2_with fail
    refine (valid_any ns g _ (HN.out.grown (by go_grown)) HS.out).mono ?_
    rintro e w1 ⟨rfl, hb⟩
    rw [HV.out]
    have hB1 : Below w.heap.size w w1 := ((Below.refl _ w).alloc (Nat.le_refl _) _).trans (hb.mono (by simp))
    have hc1 : w1.cell? ⟨w.heap.size, 0, none⟩ = some (.slice (some ⟨g, 0, none⟩) ns.length ns.length) := (hb.cell (p := ⟨w.heap.size, 0, none⟩) (by simp)).trans (by simp)
    have hz1 : w.heap.size < w1.heap.size := by have := hb.size; simp at this; omega
    clear hb
    go_wp2_with fail
    refine (kids_any ns g _ (HN.out.grown hB1) hlen).mono ?_
    rintro e w2 ⟨hb2, h2⟩
    rw [HKO.out] at h2
    obtain ⟨go, co, rfl, hkin, _⟩ := h2
    have hc2 : w2.cell? ⟨w.heap.size, 0, none⟩ = some (.slice (some ⟨g, 0, none⟩) ns.length ns.length) := (hb2.cell (p := ⟨w.heap.size, 0, none⟩) hz1).trans hc1
    have HB : Hid (Below w.heap.size w w2) := hB1.trans (hb2.mono (by omega))
    have HK : Hid (KidsIn w2 go out) := hkin
    clear hb2 hkin hc1
    go_wp2_with fail
    refine (HC.out _ _ _ (HN.out.grown HB.out) HK.out).mono ?_
    rintro e w3 ⟨rfl, hb3⟩
    have HB3 : Hid (Below w.heap.size w w3) := HB.out.trans (hb3.mono HB.out.size)
    clear hb3
    by_cases h200 : 200 < T.size
    · go_wp2_with fail
      go_ret
      exact ⟨by rw [HO.out, if_pos h200]; rfl, HB3.out⟩
    · go_wp2_with fail
      go_ret
      exact ⟨by rw [HO.out, if_neg h200]; rfl, HB3.out⟩

end Go.Proofs.Ytlcjdmgjekkghaa
