/-
  New mates held. Made by mknwm.py.
-/
import Derived.Test.YtebcocejgenadaaGreatNwm
namespace Go.Proofs.YtebcocejgenadaaGreat
open Go.RowKit

set_option maxHeartbeats 8000000 in
set_option maxRecDepth 100000 in
theorem heldMs_any (xs : List Nm) (k g q base : Nat) (w : World) (hO : w.ownsRow base 41 9 (.slice (some ⟨g, 0, none⟩) xs.length q) xs.length (mvL k xs.length)) (hl : xs.length ≤ 4) (hk : 0 < k ∧ k ≤ 100) :
    Calls Tryz.prog 22 #[.slice (some ⟨g, 0, none⟩) xs.length q, .int .i64 (k : Int)] w fun e w' => e = .returned (.int .i64 ((k + 5 * xs.length : Nat) : Int)) ∧ Below w.heap.size w w' := by
  have HO0 := Hid.intro hO
  clear hO
  go_enter Tryz.func22, Tryz.ntmps22
  go_wp2_with fail
  go_loopw [1, 5] (fun l u wr => ∃ i : Nat, i ≤ xs.length ∧ l = .int .i64 ((k + 5 * i : Nat) : Int) ∧ u = .int .i64 i ∧ Hid (wr.ownsRow base 41 9 (.slice (some ⟨g, 0, none⟩) xs.length q) xs.length (mvL k xs.length)) ∧ Below w.heap.size w wr) (fun _ u _ => xs.length - (intOf u).toNat)
  case atStart => exact ⟨0, Nat.zero_le _, rfl, rfl, HO0, Below.refl _ _⟩
  case round =>
    clear HO0
    obtain ⟨i, hi, rfl, rfl, HO, hB⟩ := hrel
    by_cases hlt : i < xs.length
    case neg =>
      have hie : i = xs.length := by omega
      subst hie
      go_wp2_with fail
      go_ret
      exact ⟨rfl, hB⟩
    obtain ⟨t, ht⟩ : ∃ t, t = k + 5 * i := ⟨_, rfl⟩
    have HT := Hid.intro ht
    rw [← ht]
    have ht0 : 0 < t ∧ t ≤ 1000 := by omega
    clear ht
    have i0 : (0 : Int) ≤ (i : Int) := by omega
    have i1 : (i : Int) < (xs.length : Int) := by omega
    have HCA : ∀ j v, (mcl t)[j]? = some v → wr.cell? ⟨g, i * 9 + j, none⟩ = some v := fun j v hv => by
      have hj : j < 9 := lt_of_some hv
      rw [HO.out.cellAt (i * 9 + j) (by omega), mvL_at k xs.length i j hlt hj, ← HT.out]
      exact hv
    have HC := Hid.intro HCA
    clear HCA
    have HC0 : Hid (wr.drew.cell? ⟨g, i * 9, none⟩ = some (.string (mtOf t))) := HC.out 0 _ rfl
    go_upto_region 4 with fail
    refine wp_region_held_drew (S := fun wy => wy.cell? ⟨g, i * 9, none⟩ = some (.string (mtOf t))) (by kernel_rfl) HC0.out (fun hS => ?_)
    have hBd : Below w.heap.size w wr.drew := hB.drew
    have HOd := Hid.intro HO.out.drew
    have HCd : Hid (∀ j v, (mcl t)[j]? = some v → wr.drew.cell? ⟨g, i * 9 + j, none⟩ = some v) := HC.out
    clear HO hB HC HC0
    generalize wr.drew = wd at *
    have hgl : g < wd.heap.size := (HOd.out.lt g rfl).2
    refine wpAnyH_take (i := 0) (oi := { dst := some 12, op := _, type := _, pos := _, after := _, guard := none }) (v := .slice (some ⟨g, 0, none⟩) xs.length q) rfl (by kernel_rfl) (by kernel_rfl) (by kernel_rfl) (fun _ _ _ h => h) (Or.inl ⟨by rfl, ?_⟩) hS ?_
    · intro wy hy
      clear hy
      go_simp
    simp only [Act.put, List.setIfInBounds_toArray, List.set_cons_zero, List.set_cons_succ]
    refine wpAnyH_take (i := 1) (oi := { dst := some 13, op := _, type := _, pos := _, after := _, guard := none }) (v := .int .i64 (i : Int)) rfl (by kernel_rfl) (by kernel_rfl) (by kernel_rfl) (fun _ _ _ h => h) (Or.inl ⟨by rfl, ?_⟩) hS ?_
    · intro wy hy
      clear hy
      go_simp
    simp only [Act.put, List.setIfInBounds_toArray, List.set_cons_zero, List.set_cons_succ]
    refine wpAnyH_take (i := 2) (oi := { dst := some 14, op := _, type := _, pos := _, after := _, guard := none }) (v := .pointer (some ⟨g, i * 9, none⟩)) rfl (by kernel_rfl) (by kernel_rfl) (by kernel_rfl) (fun _ _ _ h => h) (Or.inl ⟨by rfl, ?_⟩) hS ?_
    · intro wy hy
      clear hy
      first | (go_simp; done) | (go_simp; intro hh; omega) | (go_simp; omega)
    simp only [Act.put, List.setIfInBounds_toArray, List.set_cons_zero, List.set_cons_succ]
    refine wpAnyH_take (i := 3) (oi := { dst := some 15, op := _, type := _, pos := _, after := _, guard := none }) (v := .pointer (some ⟨g, i * 9, none⟩)) rfl (by kernel_rfl) (by kernel_rfl) (by kernel_rfl) (fun _ _ _ h => h) (Or.inl ⟨by rfl, ?_⟩) hS ?_
    · intro wy hy
      clear hy
      go_simp
    simp only [Act.put, List.setIfInBounds_toArray, List.set_cons_zero, List.set_cons_succ]
    refine wpAnyH_take (i := 4) (oi := { dst := some 16, op := _, type := _, pos := _, after := _, guard := none }) (v := .string (mtOf t)) rfl (by kernel_rfl) (by kernel_rfl) (by kernel_rfl) (fun _ _ _ h => h) (Or.inl ⟨by rfl, ?_⟩) hS ?_
    · intro wy hy
      have h0 := hy
      clear hy
      go_simp
    simp only [Act.put, List.setIfInBounds_toArray, List.set_cons_zero, List.set_cons_succ]
    refine wpAnyH_take (i := 5) (oi := { dst := some 17, op := _, type := _, pos := _, after := _, guard := none }) (v := .int .i64 (t : Int)) rfl (by kernel_rfl) (by kernel_rfl) (by kernel_rfl) (fun _ _ _ h => h) (Or.inl ⟨by rfl, ?_⟩) hS ?_
    · intro wy hy
      clear hy
      go_simp
    simp only [Act.put, List.setIfInBounds_toArray, List.set_cons_zero, List.set_cons_succ]
    refine wpAnyH_ready (rs := [6]) (by kernel_rfl) (by simp) (AllReadyH.cons (o := { dst := some 18, op := _, type := _, pos := _, after := _, guard := none }) rfl (fun K hK => ?_) AllReadyH.nil)
    go_simp
    refine (markText_any t _ ht0.1 (by omega)).mono ?_
    rintro e w1 ⟨rfl, hb⟩
    have hB1 := hBd.trans (hb.mono hBd.size)
    have HO1 := Hid.intro (ownsRow_below HOd.out hb)
    have HC1 : Hid (∀ j v, (mcl t)[j]? = some v → w1.cell? ⟨g, i * 9 + j, none⟩ = some v) := fun j v hv => (hb.cell (p := ⟨g, i * 9 + j, none⟩) hgl).trans (HCd.out j v hv)
    refine hK.out _ _ ((hb.cell (p := ⟨g, i * 9, none⟩) hgl).trans hS) (fun hS => ?_)
    clear hK K
    clear hb hBd HOd HCd
    refine wpAnyH_take (i := 7) (oi := { dst := some 19, op := _, type := _, pos := _, after := _, guard := none }) (v := .bool false) rfl (by kernel_rfl) (by kernel_rfl) (by kernel_rfl) (fun _ _ _ h => h) (Or.inl ⟨by rfl, ?_⟩) hS ?_
    · intro wy hy
      clear hy
      go_simp
    simp only [Act.put, List.setIfInBounds_toArray, List.set_cons_zero, List.set_cons_succ]
    refine wpAnyH_done (by kernel_rfl) ?_ _
    clear hS
    have c1 : w1.cell? ⟨g, i * 9 + 1, none⟩ = some (.bool (((t : Int) + 1).tmod 3 == 0)) := HC1.out 1 _ rfl
    have c2 : w1.cell? ⟨g, i * 9 + 2, none⟩ = some (.int .i64 ((t : Int) + 1 + 1)) := HC1.out 2 _ rfl
    have c3 : w1.cell? ⟨g, i * 9 + 3, none⟩ = some (.bool (((t : Int) + 1 + 1 + 1).tmod 3 == 0)) := HC1.out 3 _ rfl
    have c4 : w1.cell? ⟨g, i * 9 + 4, none⟩ = some (.int .i64 ((t : Int) + 1 + 1 + 1 + 1)) := HC1.out 4 _ rfl
    have c5 : w1.cell? ⟨g, i * 9 + 5, none⟩ = some (.slice none 0 0) := HC1.out 5 _ rfl
    have hn5 : ¬ ((t : Int) + 1 + 1 + 1 + 1 + 1 < 0) := by omega
    have hn5' : (0 : Int) ≤ (t : Int) + 1 + 1 + 1 + 1 + 1 := by omega
    go_wp2_with fail
    clear c1 c2 c3 c4 c5
    refine (heldMateWantS_nil _ 0 _).mono ?_
    rintro e w2 ⟨rfl, hb⟩
    have HO2 := Hid.intro (ownsRow_below HO1.out hb)
    have hB2 := hB1.trans (hb.mono hB1.size)
    have HC2 : Hid (∀ j v, (mcl t)[j]? = some v → w2.cell? ⟨g, i * 9 + j, none⟩ = some v) := fun j v hv => (hb.cell (p := ⟨g, i * 9 + j, none⟩) (HO1.out.lt g rfl).2).trans (HC1.out j v hv)
    clear hb HO1 hB1 HC1
    have cc : w2.cell? ⟨g, i * 9 + 6, none⟩ = some (.slice none 0 0) := HC2.out 6 _ rfl
    go_wp2_with fail
    clear cc
    refine (heldMateRunS_nil _ 0 _).mono ?_
    rintro e w3 ⟨rfl, hb⟩
    have HO3 := Hid.intro (ownsRow_below HO2.out hb)
    have hB3 := hB2.trans (hb.mono hB2.size)
    have HC3 : Hid (∀ j v, (mcl t)[j]? = some v → w3.cell? ⟨g, i * 9 + j, none⟩ = some v) := fun j v hv => (hb.cell (p := ⟨g, i * 9 + j, none⟩) (HO2.out.lt g rfl).2).trans (HC2.out j v hv)
    clear hb HO2 hB2 HC2
    have cc : w3.cell? ⟨g, i * 9 + 7, none⟩ = some (.slice none 0 0) := HC3.out 7 _ rfl
    go_wp2_with fail
    clear cc
    refine (heldMateAskS_nil _ 0 _).mono ?_
    rintro e w4 ⟨rfl, hb⟩
    have HO4 := Hid.intro (ownsRow_below HO3.out hb)
    have hB4 := hB3.trans (hb.mono hB3.size)
    have HC4 : Hid (∀ j v, (mcl t)[j]? = some v → w4.cell? ⟨g, i * 9 + j, none⟩ = some v) := fun j v hv => (hb.cell (p := ⟨g, i * 9 + j, none⟩) (HO3.out.lt g rfl).2).trans (HC3.out j v hv)
    clear hb HO3 hB3 HC3
    have cc : w4.cell? ⟨g, i * 9 + 8, none⟩ = some (.slice none 0 0) := HC4.out 8 _ rfl
    go_wp2_with fail
    clear cc
    refine (heldMateAskS_nil _ 0 _).mono ?_
    rintro e w5 ⟨rfl, hb⟩
    have HO5 := Hid.intro (ownsRow_below HO4.out hb)
    have hB5 := hB4.trans (hb.mono hB4.size)
    have HC5 : Hid (∀ j v, (mcl t)[j]? = some v → w5.cell? ⟨g, i * 9 + j, none⟩ = some v) := fun j v hv => (hb.cell (p := ⟨g, i * 9 + j, none⟩) (HO4.out.lt g rfl).2).trans (HC4.out j v hv)
    clear hb HO4 hB4 HC4
    go_wp2_with fail
    go_roundw
    case rel => exact ⟨i + 1, by omega, by have := HT.out; go_num, by go_num, HO5, hB5⟩
    case measure => simp [intOf]; omega

end Go.Proofs.YtebcocejgenadaaGreat
