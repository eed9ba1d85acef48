/-
  Walk: the specification looks whether a select is valid.
-/
import Derived.Test.YtohgbmjjiohjeaaDoorVlS
import Derived.Deep.DeepCutAuto
namespace Go.Proofs.YtohgbmjjiohjeaaDoor
open Go.RowKit

/-- what the specification holds for valid -/
def validB (ns : List P.Nd) : Bool := P.treeOk ns && (P.treeI ns).isSome

theorem treeOk_len {ns : List P.Nd} (h : P.treeOk ns = true) : ns.length ≤ 400 := by
  rw [treeOk_parts] at h
  simp only [Bool.and_eq_true, decide_eq_true_eq] at h
  exact h.1.1

set_option maxHeartbeats 2000000 in
theorem valid_any (ns : List P.Nd) (g cn : Nat) (w : World) (hN : Nodes0 w g ns) (hsm : Small ns) :
    Calls Tryd.prog 11 #[.agg #[.slice (some ⟨g, 0, none⟩) ns.length cn]] w fun e w' => e = .returned (.bool (validB ns)) ∧ Below w.heap.size w w' := by
  have HN : Hid (Nodes0 w g ns) := hN
  have HS : Hid (Small ns) := hsm
  clear hN hsm
  cases ht : P.treeOk ns with
  | false =>
    have HT : Hid (P.treeOk ns = false) := ht
    have HV : Hid (validB ns = false) := by show _ = _; rw [validB, ht]; rfl
    clear ht
    go_enter Tryd.func11, Tryd.ntmps11
    go_wp2_with fail
    refine (treeS_any ns g cn _ (HN.out.grown (by go_grown)) HS.out).mono ?_
    rintro e w1 ⟨rfl, hb⟩
    rw [HT.out]
    go_wp2_with fail
    go_ret
    exact ⟨by rw [HV.out]; rfl, ((Below.refl _ w).alloc (Nat.le_refl _) _).trans (hb.mono (by simp))⟩
  | true =>
    obtain ⟨out, r, t, hko, hol, hrl, hIs, hlo, hhi, _, hct⟩ := P.same_tree2 ht
    have hlen := treeOk_len ht
    have HT : Hid (P.treeOk ns = true) := ht
    have HKO : Hid (P.kidsOf ns = some (out, [r])) := hko
    have cc := fun go co => nest_any ns out ns.length co go hol t r hIs (by omega)
    rw [show ((r : Nat) : Int) = (ns.length : Int) - 1 by omega] at cc
    have HC : Hid (∀ (go co : Nat) (w : World), KidsIn w go out → Calls Tryd.prog 23 #[.slice (some ⟨go, 0, none⟩) ns.length co, .int .i64 ((ns.length : Int) - 1)] w fun e w' => e = .returned (.int .i64 (P.tall t : Int)) ∧ w' = w) := cc
    have hl1 : 1 ≤ ns.length := by omega
    have HV : Hid (validB ns = decide (P.tall t ≤ 20)) := by
      show _ = _
      rw [validB, ht]
      by_cases h : P.tall t ≤ 20
      · rw [hlo h, decide_eq_true h]; rfl
      · rw [hhi (by omega), decide_eq_false h]; rfl
    have htl : P.tall t ≤ 400 := Nat.le_trans (P.tall_le_count t) (by omega)
    clear ht hko cc hIs hlo hhi hct hrl hol
    generalize hT : P.tall t = T at *
    clear hT
    go_enter Tryd.func11, Tryd.ntmps11
    go_wp2_with fail
    refine (treeS_any ns g cn _ (HN.out.grown (by go_grown)) HS.out).mono ?_
    rintro e w1 ⟨rfl, hb⟩
    rw [HT.out]
    have hB1 : Below w.heap.size w w1 := ((Below.refl _ w).alloc (Nat.le_refl _) _).trans (hb.mono (by simp))
    have hc1 : w1.cell? ⟨w.heap.size, 0, none⟩ = some (.slice (some ⟨g, 0, none⟩) ns.length cn) := (hb.cell (p := ⟨w.heap.size, 0, none⟩) (by simp)).trans (by simp)
    have hz1 : w.heap.size < w1.heap.size := by have := hb.size; simp at this; omega
    clear hb
    go_wp2_with fail
    refine (kids_any ns g cn _ (HN.out.grown hB1) hlen).mono ?_
    rintro e w2 ⟨hb2, h2⟩
    rw [HKO.out] at h2
    obtain ⟨go, co, rfl, hkin, _⟩ := h2
    have hc2 : w2.cell? ⟨w.heap.size, 0, none⟩ = some (.slice (some ⟨g, 0, none⟩) ns.length cn) := (hb2.cell (p := ⟨w.heap.size, 0, none⟩) hz1).trans hc1
    have HB : Hid (Below w.heap.size w w2) := hB1.trans (hb2.mono (by omega))
    have HK : Hid (KidsIn w2 go out) := hkin
    clear hb2 hkin hc1
    go_wp2_with fail
    refine (HC.out _ _ _ HK.out).mono ?_
    rintro e w3 ⟨rfl, rfl⟩
    by_cases h20 : T ≤ 20
    · go_wp2_with fail
      go_ret
      exact ⟨by rw [HV.out, decide_eq_true h20]; simp; omega, HB.out⟩
    · go_wp2_with fail
      go_ret
      exact ⟨by rw [HV.out, decide_eq_false h20]; simp; omega, HB.out⟩

end Go.Proofs.YtohgbmjjiohjeaaDoor
