/-
  A world that is ok, by the program. Made by mkwo2.py.
-/
import Derived.Test.YtebcocejgenadaaGreatWo1
namespace Go.Proofs.YtebcocejgenadaaGreat
open Go.RowKit

set_option maxHeartbeats 2000000 in
set_option maxRecDepth 100000 in
theorem allWo_any (x : Wrl) (a1 : Option Addr) (c1 : Nat) (a2 : Option Addr) (c2 : Nat) (a3 : Option Addr) (c3 : Nat) (a4 : Option Addr) (c4 : Nat) (rs : List (Nat × Bool)) (g cap : Nat) (w : World) (hrl : rs.length ≤ 8)
    (hsay : ∀ (k : Nat) r, rs[k]? = some r → ∀ v, Below w.heap.size w v → Calls Tryz.prog r.1 #[.agg #[.int .i64 x.land.time, .slice a1 x.land.grants.length c1, .slice a2 x.land.places.length c2, .slice a3 x.mates.length c3, .slice a4 x.flight.length c4]] v fun e w' => e = .returned (.bool r.2) ∧ Below v.heap.size v w') (heg : ∀ (k : Nat) r, rs[k]? = some r → ∀ args w, (callFunc r.1 args).run Tryz.prog w = .ok (.enter r.1 args) w)
    (hR : ChkIn g rs w) (hg : g < w.heap.size) :
    Calls Tryz.prog 52 #[.slice (some ⟨g, 0, none⟩) rs.length cap, .agg #[.int .i64 x.land.time, .slice a1 x.land.grants.length c1, .slice a2 x.land.places.length c2, .slice a3 x.mates.length c3, .slice a4 x.flight.length c4]] w fun e w' => e = .returned (.bool (allR rs)) ∧ Below w.heap.size w w' := by
  have HR := Hid.intro hR
  have HSAY := Hid.intro hsay
  have HEG := Hid.intro heg
  have HX0 : Hid (Blk w.heap.size #[.int .i64 x.land.time, .slice a1 x.land.grants.length c1, .slice a2 x.land.places.length c2, .slice a3 x.mates.length c3, .slice a4 x.flight.length c4] 30 (w.alloc (.cells #[.int .i64 x.land.time, .slice a1 x.land.grants.length c1, .slice a2 x.land.places.length c2, .slice a3 x.mates.length c3, .slice a4 x.flight.length c4] 30))) := Blk.alloc _ _ _
  have hb0 : Below w.heap.size w (w.alloc (Obj.cells #[.int .i64 x.land.time, .slice a1 x.land.grants.length c1, .slice a2 x.land.places.length c2, .slice a3 x.mates.length c3, .slice a4 x.flight.length c4] 30)) := (Below.refl _ w).alloc (Nat.le_refl _) _
  clear hR hsay heg
  go_enter Tryz.func52, Tryz.ntmps52
  go_wp2_with fail
  generalize w.alloc (Obj.cells #[.int .i64 x.land.time, .slice a1 x.land.grants.length c1, .slice a2 x.land.places.length c2, .slice a3 x.mates.length c3, .slice a4 x.flight.length c4] 30) = w0 at *
  go_loopw [9] (fun i wr => ∃ k : Nat, k ≤ rs.length ∧ i = .int .i64 k ∧ Hid (∀ (j : Nat) q, j < k → rs[j]? = some q → q.2 = true) ∧ Hid (Blk w.heap.size #[.int .i64 x.land.time, .slice a1 x.land.grants.length c1, .slice a2 x.land.places.length c2, .slice a3 x.mates.length c3, .slice a4 x.flight.length c4] 30 wr) ∧ Below w.heap.size w wr) (fun i _ => rs.length - (intOf i).toNat)
  case atStart => exact ⟨0, Nat.zero_le _, rfl, fun j q h => by omega, HX0, hb0⟩
  case round =>
    clear HX0 hb0
    obtain ⟨k, hk, rfl, hN, hX, hB⟩ := hrel
    by_cases hlt : k < rs.length
    · obtain ⟨r, hr⟩ : ∃ r, rs[k]? = some r := ⟨rs[k], List.getElem?_eq_getElem hlt⟩
      have c0 : wr.cell? ⟨g, k, none⟩ = some (.func (.func r.1) #[] #[]) := (hB.cell (p := ⟨g, k, none⟩) hg).trans (HR.out k r hr)
      have HSK := Hid.intro (HSAY.out k r hr)
      have heg := HEG.out k r hr
      have HRR := Hid.intro hr
      obtain ⟨fid, tr⟩ := r
      simp only at c0 HSK heg
      clear hr
      go_wp2_with (first | (refine wpList_load_mid rfl 30 _ rfl w.heap.size 0 (by first | rfl | (simp [go_sem]; done)) [.int .i64 x.land.time, .slice a1 x.land.grants.length c1, .slice a2 x.land.places.length c2, .slice a3 x.mates.length c3, .slice a4 x.flight.length c4] _ hX.out.rangeA Tryz.underlying30 rfl isz_Wrl ?_))
      refine (HSK.out wr hB).mono ?_
      rintro e w5 ⟨rfl, hb5⟩
      have HX5 := Hid.intro (hX.out.below hb5 hX.out.lt)
      have hB5 := hB.trans (hb5.mono hB.size)
      clear hb5 heg HSK c0 hX hB
      cases tr with
      | false =>
        have HE := Hid.intro (allR_no HRR.out rfl)
        go_wp2_with fail
        go_ret
        exact ⟨ret_bool HE.out.symm, hB5⟩
      | true =>
        have HN2 : Hid (∀ (j : Nat) q, j < k + 1 → rs[j]? = some q → q.2 = true) := fun j q hj hq => by
          by_cases e : j = k
          · subst e
            have := HRR.out.symm.trans hq
            cases this
            rfl
          · exact hN.out j q (by omega) hq
        go_wp2_with fail
        go_roundw
        case rel => exact ⟨k + 1, by omega, by go_num, HN2, HX5, hB5⟩
        case measure => simp [intOf]; omega
    · have hke : k = rs.length := by omega
      subst hke
      have HE := Hid.intro (allR_yes hN.out)
      go_wp2_with fail
      go_ret
      exact ⟨ret_bool HE.out.symm, hB⟩

/-- the checks of a book, and what they say -/
def woR (x : Wrl) : List (Nat × Bool) := [(62, fwB x), (63, loB x.land), (64, msB x.mates)]

theorem woR_all (x : Wrl) : woB x = allR (woR x) := by
  unfold woB
  simp only [allR, woR, List.all_cons, List.all_nil, Bool.and_true]

theorem woR_says (x : Wrl) (a1 : Option Addr) (c1 : Nat) (a2 : Option Addr) (c2 : Nat) (a3 : Option Addr) (c3 : Nat) (a4 : Option Addr) (c4 : Nat) (lo : Nat) (w : World) (hin : WSl x lo a1 a2 a3 a4 w) : ∀ (k : Nat) r, (woR x)[k]? = some r → ∀ v, Below w.heap.size w v → Calls Tryz.prog r.1 #[.agg #[.int .i64 x.land.time, .slice a1 x.land.grants.length c1, .slice a2 x.land.places.length c2, .slice a3 x.mates.length c3, .slice a4 x.flight.length c4]] v fun e w' => e = .returned (.bool r.2) ∧ Below v.heap.size v w' := by
  intro k r hk
  have h := List.mem_of_getElem? hk
  simp only [woR, List.mem_cons, List.not_mem_nil, or_false] at h
  rcases h with rfl | rfl | rfl
  · exact fun v hb => wfew_any x a1 c1 a2 c2 a3 c3 a4 c4 lo v (hin.below hb (Nat.le_refl _))
  · exact fun v hb => wland_any x a1 c1 a2 c2 a3 c3 a4 c4 lo v (hin.below hb (Nat.le_refl _))
  · exact fun v hb => wmates_any x a1 c1 a2 c2 a3 c3 a4 c4 lo v (hin.below hb (Nat.le_refl _))

theorem woR_enters (x : Wrl) : ∀ (k : Nat) r, (woR x)[k]? = some r → ∀ args w, (callFunc r.1 args).run Tryz.prog w = .ok (.enter r.1 args) w := by
  intro k r hk
  have h := List.mem_of_getElem? hk
  simp only [woR, List.mem_cons, List.not_mem_nil, or_false] at h
  rcases h with rfl | rfl | rfl
  · exact enters_of Tryz.func62 (by kernel_rfl) rfl
  · exact enters_of Tryz.func63 (by kernel_rfl) rfl
  · exact enters_of Tryz.func64 (by kernel_rfl) rfl

abbrev woV : List Value := [.func (.func 62) #[] #[], .func (.func 63) #[] #[], .func (.func 64) #[] #[]]

theorem woR_in {g : Nat} {w : World} (x : Wrl) (h : w.rangeAt g 0 woV) : ChkIn g (woR x) w := by
  intro k r hk
  have hk8 : k < 3 := (List.getElem?_eq_some_iff.1 hk).1
  have hc : k = 0 ∨ k = 1 ∨ k = 2 := by omega
  rcases hc with rfl | rfl | rfl
  · cases hk; simpa using h 0 _ rfl
  · cases hk; simpa using h 1 _ rfl
  · cases hk; simpa using h 2 _ rfl

set_option maxHeartbeats 1000000 in
set_option maxRecDepth 100000 in
theorem worldChecks_any (w : World) :
    Calls Tryz.prog 53 #[] w fun e w' => e = .returned (.slice (some ⟨w.heap.size, 0, none⟩) 3 3) ∧ w'.rangeAt w.heap.size 0 woV ∧ w.heap.size < w'.heap.size ∧ Below w.heap.size w w' := by
  go_enter Tryz.func53, Tryz.ntmps53
  go_wp2_with fail
  go_ret
  refine ⟨rfl, ?_, ?_, ?_⟩
  · exact range_cons (by simp) (range_cons (by simp) (range_cons (by simp) (range_nil _ _ _)))
  · simp
  · go_grown

set_option maxHeartbeats 2000000 in
set_option maxRecDepth 100000 in
theorem implWorldOk_any (x : Wrl) (a1 : Option Addr) (c1 : Nat) (a2 : Option Addr) (c2 : Nat) (a3 : Option Addr) (c3 : Nat) (a4 : Option Addr) (c4 : Nat) (lo : Nat) (w : World) (hin : WSl x lo a1 a2 a3 a4 w) :
    Calls Tryz.prog 27 #[.agg #[.int .i64 x.land.time, .slice a1 x.land.grants.length c1, .slice a2 x.land.places.length c2, .slice a3 x.mates.length c3, .slice a4 x.flight.length c4]] w fun e w' => e = .returned (.bool (woB x)) ∧ Below w.heap.size w w' := by
  have HI := Hid.intro hin
  clear hin
  have HK1 : Hid (Blk w.heap.size #[.int .i64 x.land.time, .slice a1 x.land.grants.length c1, .slice a2 x.land.places.length c2, .slice a3 x.mates.length c3, .slice a4 x.flight.length c4] 30 (w.alloc (Obj.cells #[.int .i64 x.land.time, .slice a1 x.land.grants.length c1, .slice a2 x.land.places.length c2, .slice a3 x.mates.length c3, .slice a4 x.flight.length c4] 30))) := Blk.alloc _ _ _
  have hB1 : Below w.heap.size w (w.alloc (Obj.cells #[.int .i64 x.land.time, .slice a1 x.land.grants.length c1, .slice a2 x.land.places.length c2, .slice a3 x.mates.length c3, .slice a4 x.flight.length c4] 30)) := (Below.refl _ w).alloc (Nat.le_refl _) _
  go_enter Tryz.func27, Tryz.ntmps27
  go_upto_region 1 with fail
  generalize w.alloc (Obj.cells #[.int .i64 x.land.time, .slice a1 x.land.grants.length c1, .slice a2 x.land.places.length c2, .slice a3 x.mates.length c3, .slice a4 x.flight.length c4] 30) = w1 at *
  refine wp_region_held_drew (S := fun wy => Blk w.heap.size #[.int .i64 x.land.time, .slice a1 x.land.grants.length c1, .slice a2 x.land.places.length c2, .slice a3 x.mates.length c3, .slice a4 x.flight.length c4] 30 wy) (by kernel_rfl) HK1.out.drew (fun hS => ?_)
  have hBd : Below w.heap.size w w1.drew := hB1.drew
  generalize w1.drew = wd at *
  refine wpAnyH_take (i := 1) (oi := { dst := some 4, op := _, type := _, pos := _, after := _, guard := none }) (v := .agg #[.int .i64 x.land.time, .slice a1 x.land.grants.length c1, .slice a2 x.land.places.length c2, .slice a3 x.mates.length c3, .slice a4 x.flight.length c4]) rfl (by kernel_rfl) (by kernel_rfl) (by kernel_rfl) (fun _ _ _ h => h) (yieldsIf_load_mid (by rfl) _ _ rfl w.heap.size (0) rfl [.int .i64 x.land.time, .slice a1 x.land.grants.length c1, .slice a2 x.land.places.length c2, .slice a3 x.mates.length c3, .slice a4 x.flight.length c4] _ (fun _ h => h.rangeA) Tryz.underlying30 rfl isz_Wrl) hS ?_
  simp only [Act.put, List.setIfInBounds_toArray, List.set_cons_zero, List.set_cons_succ]
  refine wpAnyH_ready (rs := [0]) (by kernel_rfl) (by simp) (AllReadyH.cons (o := { dst := some 3, op := _, type := _, pos := _, after := _, guard := none }) rfl (fun K hK => ?_) AllReadyH.nil)
  go_simp
  refine (worldChecks_any _).mono ?_
  rintro e w2 ⟨rfl, hr2, hg2, hb2⟩
  have hB2 := hBd.trans (hb2.mono hBd.size)
  have HR2 := Hid.intro hr2
  have HI2 := Hid.intro (HI.out.below hB2 (Nat.le_refl _))
  clear hr2
  refine hK.out _ _ (hS.below hb2 hS.lt) (fun hS => ?_)
  clear hK K
  refine wpAnyH_ready (rs := [2]) (by kernel_rfl) (by simp) (AllReadyH.cons (o := { dst := some 5, op := _, type := _, pos := _, after := _, guard := none }) rfl (fun K hK => ?_) AllReadyH.nil)
  go_simp
  refine (allWo_any x a1 c1 a2 c2 a3 c3 a4 c4 (woR x) wd.heap.size 3 _ (by simp [woR]) (woR_says x a1 c1 a2 c2 a3 c3 a4 c4 lo _ HI2.out) (woR_enters x) (woR_in x HR2.out) hg2).mono ?_
  rintro e w3 ⟨rfl, hb3⟩
  have hB3 := hB2.trans (hb3.mono hB2.size)
  refine hK.out _ _ (hS.below hb3 hS.lt) (fun hS => ?_)
  clear hK K
  refine wpAnyH_take (i := 3) (oi := { dst := some 2, op := _, type := _, pos := _, after := _, guard := none }) (v := .bool (allR (woR x))) rfl (by kernel_rfl) (by kernel_rfl) (by kernel_rfl) (fun _ _ _ h => h) (Or.inl ⟨by rfl, ?_⟩) hS ?_
  · intro wy hy
    clear hy
    go_simp
  simp only [Act.put, List.setIfInBounds_toArray, List.set_cons_zero, List.set_cons_succ]
  refine wpAnyH_done (by kernel_rfl) ?_ _
  clear hS
  go_wp2_with fail
  go_ret
  exact ⟨ret_bool (woR_all x).symm, hB3⟩

end Go.Proofs.YtebcocejgenadaaGreat
