/-
  The program's checks of a book: grants. Made by mklk1.py.
-/
import Derived.Test.YtebcocejgenadaaGreatLk1
namespace Go.Proofs.YtebcocejgenadaaGreat
open Go.RowKit

set_option maxHeartbeats 8000000 in
set_option maxRecDepth 100000 in
theorem grants_any (x : Lnd) (a1 : Option Addr) (c1 : Nat) (a2 : Option Addr) (c2 : Nat) (lo : Nat) (w : World) (hin : LSl x lo a1 a2 w) :
    Calls Tryz.prog 100 #[.agg #[.int .i64 x.time, .slice a1 x.grants.length c1, .slice a2 x.places.length c2]] w fun e w' => e = .returned (.bool (gsB x.grants (wrap64 (x.time + 32)))) ∧ Below w.heap.size w w' := by
  have HI := Hid.intro hin
  clear hin
  have HK1 : Hid (Blk w.heap.size #[.int .i64 x.time, .slice a1 x.grants.length c1, .slice a2 x.places.length c2] 27 (w.alloc (Obj.cells #[.int .i64 x.time, .slice a1 x.grants.length c1, .slice a2 x.places.length c2] 27))) := Blk.alloc _ _ _
  have hB1 : Below w.heap.size w (w.alloc (Obj.cells #[.int .i64 x.time, .slice a1 x.grants.length c1, .slice a2 x.places.length c2] 27)) := (Below.refl _ w).alloc (Nat.le_refl _) _
  go_enter Tryz.func100, Tryz.ntmps100
  go_upto_region 1 with fail
  generalize w.alloc (Obj.cells #[.int .i64 x.time, .slice a1 x.grants.length c1, .slice a2 x.places.length c2] 27) = w1 at *
  have k1 : w1.cell? ⟨w.heap.size, 1, none⟩ = some (.slice a1 x.grants.length c1) := HK1.out.cell rfl
  by_cases hl : x.grants.length ≤ 40
  case neg =>
    have hl' : (40 : Int) < x.grants.length := by omega
    have HE : Hid (gsB x.grants (wrap64 (x.time + 32)) = false) := by show _ = _; unfold gsB; rw [decide_eq_false hl]; rfl
    clear hl
    go_wp2_with fail
    go_ret
    exact ⟨ret_bool HE.out.symm, hB1⟩
  have hl' : (x.grants.length : Int) ≤ 40 := by omega
  go_wp2_with fail
  refine (ascGrt_any x.grants a1 c1 lo _ (HI.out.s1.below GrtC.holds hB1 (Nat.le_refl _)) HI.out.l1).mono ?_
  rintro e w2 ⟨rfl, hb2⟩
  have HK2 := Hid.intro (HK1.out.below hb2 HK1.out.lt)
  have hB2 := hB1.trans (hb2.mono hB1.size)
  clear hb2 HK1 hB1 k1
  have k1 : w2.cell? ⟨w.heap.size, 1, none⟩ = some (.slice a1 x.grants.length c1) := HK2.out.cell rfl
  cases hasc : ascTo (x.grants.map (·.hold)) x.grants.length with
  | false =>
    have HE : Hid (gsB x.grants (wrap64 (x.time + 32)) = false) := by show _ = _; unfold gsB; rw [hasc]; simp
    go_wp2_with fail
    go_ret
    exact ⟨ret_bool HE.out.symm, hB2⟩
  | true =>
    have HASC := Hid.intro hasc
    clear hasc
    go_wp2_with fail
    go_loopw [18] (fun i wr => ∃ k : Nat, k ≤ x.grants.length ∧ i = .int .i64 k ∧ Hid (∀ (j : Nat) y, j < k → x.grants[j]? = some y → gtB y (wrap64 (x.time + 32)) = true) ∧ Hid (Blk w.heap.size #[.int .i64 x.time, .slice a1 x.grants.length c1, .slice a2 x.places.length c2] 27 wr) ∧ Below w.heap.size w wr) (fun i _ => x.grants.length - (intOf i).toNat)
    case atStart => exact ⟨0, Nat.zero_le _, rfl, fun j q h => by omega, HK2, hB2⟩
    case round =>
      clear HK2 hB2 k1
      obtain ⟨k, hk, rfl, hN, HK, hB⟩ := hrel
      by_cases hlt : k < x.grants.length
      case neg =>
        have hke : k = x.grants.length := by omega
        subst hke
        have HE := Hid.intro (gsB_yes hl HASC.out hN.out)
        go_wp2_with fail
        go_ret
        exact ⟨ret_bool HE.out.symm, hB⟩
      obtain ⟨y, hy⟩ : ∃ y, x.grants[k]? = some y := ⟨x.grants[k], List.getElem?_eq_getElem hlt⟩
      obtain ⟨b, o, e1, _, hbl, hc⟩ := (HI.out.s1.below GrtC.holds hB (Nat.le_refl _)).at hy
      subst e1
      have hz := hc
      obtain ⟨_, _, _, _, _, z0, z1, z2⟩ := hz
      have HRA := Hid.intro (grt_range hc)
      have Z0 := Hid.intro z0
      have Z1 := Hid.intro z1
      have Z2 := Hid.intro z2
      have HXX := Hid.intro hy
      clear hc z0 z1 z2 hy
      have HG4 : Hid (Blk wr.heap.size #[.string y.hold, .string y.berth, .string y.copy, .int .i64 y.at_, .int .i64 y.until_] 68 (wr.alloc (Obj.cells #[.string y.hold, .string y.berth, .string y.copy, .int .i64 y.at_, .int .i64 y.until_] 68))) := Blk.alloc _ _ _
      have HK4 : Hid (Blk w.heap.size #[.int .i64 x.time, .slice (some ⟨b, o, none⟩) x.grants.length c1, .slice a2 x.places.length c2] 27 (wr.alloc (Obj.cells #[.string y.hold, .string y.berth, .string y.copy, .int .i64 y.at_, .int .i64 y.until_] 68))) := HK.out.below ((Below.refl _ _).alloc (Nat.le_refl _) _) HK.out.lt
      have hB4 : Below w.heap.size w (wr.alloc (Obj.cells #[.string y.hold, .string y.berth, .string y.copy, .int .i64 y.at_, .int .i64 y.until_] 68)) := hB.trans (((Below.refl wr.heap.size wr).alloc (Nat.le_refl _) _).mono hB.size)
      clear HK hB
      go_upto_region 6 with (refine wpList_load_mid rfl 68 _ rfl b (o + k * 5) (by first | rfl | (simp [go_sem]; done)) [.string y.hold, .string y.berth, .string y.copy, .int .i64 y.at_, .int .i64 y.until_] _ HRA.out Tryz.underlying68 rfl isz_Grt ?_)
      clear HRA
      generalize wr.alloc (Obj.cells #[.string y.hold, .string y.berth, .string y.copy, .int .i64 y.at_, .int .i64 y.until_] 68) = w4 at *
      generalize wr.heap.size = q at *
      cases g0 : (nmB y.berth && hdB y.hold && nmB y.copy && inR y.at_ 0 1000000) with
      | false =>
        have HE := Hid.intro (gsB_no (u := (wrap64 (x.time + 32))) HXX.out (show gtB y _ = false by unfold gtB; rw [g0]; rfl))
        have G0 := Hid.intro g0
        clear g0
        go_wp2_with fail
        refine wp_region_held_drew (S := fun wy => Blk q #[.string y.hold, .string y.berth, .string y.copy, .int .i64 y.at_, .int .i64 y.until_] 68 wy ∧ Blk w.heap.size #[.int .i64 x.time, .slice (some ⟨b, o, none⟩) x.grants.length c1, .slice a2 x.places.length c2] 27 wy) (by kernel_rfl) ⟨HG4.out.drew, HK4.out.drew⟩ (fun hS => ?_)
        have hB5 : Below w.heap.size w w4.drew := hB4.drew
        have HK5 : Hid (Blk w.heap.size #[.int .i64 x.time, .slice (some ⟨b, o, none⟩) x.grants.length c1, .slice a2 x.places.length c2] 27 w4.drew) := HK4.out.drew
        clear HK4 HG4 hB4
        generalize w4.drew = w5 at *
        refine wpAnyH_take (i := 0) (oi := { dst := some 22, op := _, type := _, pos := _, after := _, guard := none }) (v := .pointer (some ⟨q, 1, none⟩)) rfl (by kernel_rfl) (by kernel_rfl) (by kernel_rfl) (fun _ _ _ h => h) (Or.inl ⟨by rfl, ?_⟩) hS ?_
        · intro wy hy
          clear hy
          go_simp
        simp only [Act.put, List.setIfInBounds_toArray, List.set_cons_zero, List.set_cons_succ]
        refine wpAnyH_take (i := 1) (oi := { dst := some 23, op := _, type := _, pos := _, after := _, guard := none }) (v := .string y.berth) rfl (by kernel_rfl) (by kernel_rfl) (by kernel_rfl) (fun _ _ _ h => h) (Or.inl ⟨by rfl, ?_⟩) hS ?_
        · intro wy hy
          have h0 : wy.cell? ⟨q, 1, none⟩ = some (.string y.berth) := hy.1.cell rfl
          clear hy
          go_simp
        simp only [Act.put, List.setIfInBounds_toArray, List.set_cons_zero, List.set_cons_succ]
        refine wpAnyH_take (i := 2) (oi := { dst := some 24, op := _, type := _, pos := _, after := _, guard := none }) (v := .pointer (some ⟨q, 0, none⟩)) rfl (by kernel_rfl) (by kernel_rfl) (by kernel_rfl) (fun _ _ _ h => h) (Or.inl ⟨by rfl, ?_⟩) hS ?_
        · intro wy hy
          clear hy
          go_simp
        simp only [Act.put, List.setIfInBounds_toArray, List.set_cons_zero, List.set_cons_succ]
        refine wpAnyH_take (i := 3) (oi := { dst := some 25, op := _, type := _, pos := _, after := _, guard := none }) (v := .string y.hold) rfl (by kernel_rfl) (by kernel_rfl) (by kernel_rfl) (fun _ _ _ h => h) (Or.inl ⟨by rfl, ?_⟩) hS ?_
        · intro wy hy
          have h0 : wy.cell? ⟨q, 0, none⟩ = some (.string y.hold) := hy.1.cell rfl
          clear hy
          go_simp
        simp only [Act.put, List.setIfInBounds_toArray, List.set_cons_zero, List.set_cons_succ]
        refine wpAnyH_take (i := 4) (oi := { dst := some 26, op := _, type := _, pos := _, after := _, guard := none }) (v := .pointer (some ⟨q, 2, none⟩)) rfl (by kernel_rfl) (by kernel_rfl) (by kernel_rfl) (fun _ _ _ h => h) (Or.inl ⟨by rfl, ?_⟩) hS ?_
        · intro wy hy
          clear hy
          go_simp
        simp only [Act.put, List.setIfInBounds_toArray, List.set_cons_zero, List.set_cons_succ]
        refine wpAnyH_take (i := 5) (oi := { dst := some 27, op := _, type := _, pos := _, after := _, guard := none }) (v := .string y.copy) rfl (by kernel_rfl) (by kernel_rfl) (by kernel_rfl) (fun _ _ _ h => h) (Or.inl ⟨by rfl, ?_⟩) hS ?_
        · intro wy hy
          have h0 : wy.cell? ⟨q, 2, none⟩ = some (.string y.copy) := hy.1.cell rfl
          clear hy
          go_simp
        simp only [Act.put, List.setIfInBounds_toArray, List.set_cons_zero, List.set_cons_succ]
        refine wpAnyH_take (i := 6) (oi := { dst := some 28, op := _, type := _, pos := _, after := _, guard := none }) (v := .pointer (some ⟨q, 3, none⟩)) rfl (by kernel_rfl) (by kernel_rfl) (by kernel_rfl) (fun _ _ _ h => h) (Or.inl ⟨by rfl, ?_⟩) hS ?_
        · intro wy hy
          clear hy
          go_simp
        simp only [Act.put, List.setIfInBounds_toArray, List.set_cons_zero, List.set_cons_succ]
        refine wpAnyH_take (i := 7) (oi := { dst := some 29, op := _, type := _, pos := _, after := _, guard := none }) (v := .int .i64 y.at_) rfl (by kernel_rfl) (by kernel_rfl) (by kernel_rfl) (fun _ _ _ h => h) (Or.inl ⟨by rfl, ?_⟩) hS ?_
        · intro wy hy
          have h0 : wy.cell? ⟨q, 3, none⟩ = some (.int .i64 y.at_) := hy.1.cell rfl
          clear hy
          go_simp
        simp only [Act.put, List.setIfInBounds_toArray, List.set_cons_zero, List.set_cons_succ]
        refine wpAnyH_ready (rs := [8]) (by kernel_rfl) (by simp) (AllReadyH.cons (o := { dst := some 30, op := _, type := _, pos := _, after := _, guard := none }) rfl (fun K hK => ?_) AllReadyH.nil)
        go_simp
        refine (between_any y.berth y.hold y.copy y.at_ _ Z1.out Z0.out Z2.out).mono ?_
        rintro e v0 ⟨rfl, rfl⟩
        refine hK.out _ _ hS (fun hS => ?_)
        clear hK K
        rw [G0.out]
        refine wpAnyH_take (i := 9) (oi := { dst := some 31, op := _, type := _, pos := _, after := _, guard := none }) (v := .bool true) rfl (by kernel_rfl) (by kernel_rfl) (by kernel_rfl) (fun _ _ _ h => h) (Or.inl ⟨by rfl, ?_⟩) hS ?_
        · intro wy hy
          clear hy
          go_simp
        simp only [Act.put, List.setIfInBounds_toArray, List.set_cons_zero, List.set_cons_succ]
        refine wpAnyH_take (i := 10) (oi := { dst := some 32, op := _, type := _, pos := _, after := _, guard := none }) (v := .bool true) rfl (by kernel_rfl) (by kernel_rfl) (by kernel_rfl) (fun _ _ _ h => h) (Or.inl ⟨by rfl, ?_⟩) hS ?_
        · intro wy hy
          clear hy
          go_simp
        simp only [Act.put, List.setIfInBounds_toArray, List.set_cons_zero, List.set_cons_succ]
        refine wpAnyH_take (i := 11) (oi := { dst := some 33, op := _, type := _, pos := _, after := _, guard := some (10, false) }) (v := undef) rfl (by kernel_rfl) (by kernel_rfl) (by kernel_rfl) (fun _ _ _ h => h) (Or.inr ⟨by rfl, rfl⟩) hS ?_
        simp only [Act.put, List.setIfInBounds_toArray, List.set_cons_zero, List.set_cons_succ]
        refine wpAnyH_take (i := 12) (oi := { dst := some 34, op := _, type := _, pos := _, after := _, guard := some (10, false) }) (v := undef) rfl (by kernel_rfl) (by kernel_rfl) (by kernel_rfl) (fun _ _ _ h => h) (Or.inr ⟨by rfl, rfl⟩) hS ?_
        simp only [Act.put, List.setIfInBounds_toArray, List.set_cons_zero, List.set_cons_succ]
        refine wpAnyH_take (i := 13) (oi := { dst := some 35, op := _, type := _, pos := _, after := _, guard := some (10, false) }) (v := undef) rfl (by kernel_rfl) (by kernel_rfl) (by kernel_rfl) (fun _ _ _ h => h) (Or.inr ⟨by rfl, rfl⟩) hS ?_
        simp only [Act.put, List.setIfInBounds_toArray, List.set_cons_zero, List.set_cons_succ]
        refine wpAnyH_take (i := 14) (oi := { dst := some 36, op := _, type := _, pos := _, after := _, guard := some (10, false) }) (v := undef) rfl (by kernel_rfl) (by kernel_rfl) (by kernel_rfl) (fun _ _ _ h => h) (Or.inr ⟨by rfl, rfl⟩) hS ?_
        simp only [Act.put, List.setIfInBounds_toArray, List.set_cons_zero, List.set_cons_succ]
        refine wpAnyH_take (i := 15) (oi := { dst := some 37, op := _, type := _, pos := _, after := _, guard := some (10, false) }) (v := undef) rfl (by kernel_rfl) (by kernel_rfl) (by kernel_rfl) (fun _ _ _ h => h) (Or.inr ⟨by rfl, rfl⟩) hS ?_
        simp only [Act.put, List.setIfInBounds_toArray, List.set_cons_zero, List.set_cons_succ]
        refine wpAnyH_take (i := 16) (oi := { dst := some 38, op := _, type := _, pos := _, after := _, guard := some (10, false) }) (v := undef) rfl (by kernel_rfl) (by kernel_rfl) (by kernel_rfl) (fun _ _ _ h => h) (Or.inr ⟨by rfl, rfl⟩) hS ?_
        simp only [Act.put, List.setIfInBounds_toArray, List.set_cons_zero, List.set_cons_succ]
        refine wpAnyH_take (i := 17) (oi := { dst := some 39, op := _, type := _, pos := _, after := _, guard := some (10, false) }) (v := undef) rfl (by kernel_rfl) (by kernel_rfl) (by kernel_rfl) (fun _ _ _ h => h) (Or.inr ⟨by rfl, rfl⟩) hS ?_
        simp only [Act.put, List.setIfInBounds_toArray, List.set_cons_zero, List.set_cons_succ]
        refine wpAnyH_take (i := 18) (oi := { dst := some 40, op := _, type := _, pos := _, after := _, guard := none }) (v := .bool true) rfl (by kernel_rfl) (by kernel_rfl) (by kernel_rfl) (fun _ _ _ h => h) (Or.inl ⟨by rfl, ?_⟩) hS ?_
        · intro wy hy
          clear hy
          go_simp
        simp only [Act.put, List.setIfInBounds_toArray, List.set_cons_zero, List.set_cons_succ]
        refine wpAnyH_done (by kernel_rfl) ?_ _
        clear hS
        go_wp2_with fail
        go_ret
        exact ⟨ret_bool HE.out.symm, hB5⟩
      | true =>
        cases g1 : inR y.until_ 0 (wrap64 (x.time + 32)) with
        | false =>
          have HE := Hid.intro (gsB_no (u := (wrap64 (x.time + 32))) HXX.out (show gtB y _ = false by unfold gtB; rw [g0, g1]; rfl))
          have G0 := Hid.intro g0
          have G1 := Hid.intro g1
          clear g0 g1
          go_wp2_with fail
          refine wp_region_held_drew (S := fun wy => Blk q #[.string y.hold, .string y.berth, .string y.copy, .int .i64 y.at_, .int .i64 y.until_] 68 wy ∧ Blk w.heap.size #[.int .i64 x.time, .slice (some ⟨b, o, none⟩) x.grants.length c1, .slice a2 x.places.length c2] 27 wy) (by kernel_rfl) ⟨HG4.out.drew, HK4.out.drew⟩ (fun hS => ?_)
          have hB5 : Below w.heap.size w w4.drew := hB4.drew
          have HK5 : Hid (Blk w.heap.size #[.int .i64 x.time, .slice (some ⟨b, o, none⟩) x.grants.length c1, .slice a2 x.places.length c2] 27 w4.drew) := HK4.out.drew
          clear HK4 HG4 hB4
          generalize w4.drew = w5 at *
          refine wpAnyH_take (i := 0) (oi := { dst := some 22, op := _, type := _, pos := _, after := _, guard := none }) (v := .pointer (some ⟨q, 1, none⟩)) rfl (by kernel_rfl) (by kernel_rfl) (by kernel_rfl) (fun _ _ _ h => h) (Or.inl ⟨by rfl, ?_⟩) hS ?_
          · intro wy hy
            clear hy
            go_simp
          simp only [Act.put, List.setIfInBounds_toArray, List.set_cons_zero, List.set_cons_succ]
          refine wpAnyH_take (i := 1) (oi := { dst := some 23, op := _, type := _, pos := _, after := _, guard := none }) (v := .string y.berth) rfl (by kernel_rfl) (by kernel_rfl) (by kernel_rfl) (fun _ _ _ h => h) (Or.inl ⟨by rfl, ?_⟩) hS ?_
          · intro wy hy
            have h0 : wy.cell? ⟨q, 1, none⟩ = some (.string y.berth) := hy.1.cell rfl
            clear hy
            go_simp
          simp only [Act.put, List.setIfInBounds_toArray, List.set_cons_zero, List.set_cons_succ]
          refine wpAnyH_take (i := 2) (oi := { dst := some 24, op := _, type := _, pos := _, after := _, guard := none }) (v := .pointer (some ⟨q, 0, none⟩)) rfl (by kernel_rfl) (by kernel_rfl) (by kernel_rfl) (fun _ _ _ h => h) (Or.inl ⟨by rfl, ?_⟩) hS ?_
          · intro wy hy
            clear hy
            go_simp
          simp only [Act.put, List.setIfInBounds_toArray, List.set_cons_zero, List.set_cons_succ]
          refine wpAnyH_take (i := 3) (oi := { dst := some 25, op := _, type := _, pos := _, after := _, guard := none }) (v := .string y.hold) rfl (by kernel_rfl) (by kernel_rfl) (by kernel_rfl) (fun _ _ _ h => h) (Or.inl ⟨by rfl, ?_⟩) hS ?_
          · intro wy hy
            have h0 : wy.cell? ⟨q, 0, none⟩ = some (.string y.hold) := hy.1.cell rfl
            clear hy
            go_simp
          simp only [Act.put, List.setIfInBounds_toArray, List.set_cons_zero, List.set_cons_succ]
          refine wpAnyH_take (i := 4) (oi := { dst := some 26, op := _, type := _, pos := _, after := _, guard := none }) (v := .pointer (some ⟨q, 2, none⟩)) rfl (by kernel_rfl) (by kernel_rfl) (by kernel_rfl) (fun _ _ _ h => h) (Or.inl ⟨by rfl, ?_⟩) hS ?_
          · intro wy hy
            clear hy
            go_simp
          simp only [Act.put, List.setIfInBounds_toArray, List.set_cons_zero, List.set_cons_succ]
          refine wpAnyH_take (i := 5) (oi := { dst := some 27, op := _, type := _, pos := _, after := _, guard := none }) (v := .string y.copy) rfl (by kernel_rfl) (by kernel_rfl) (by kernel_rfl) (fun _ _ _ h => h) (Or.inl ⟨by rfl, ?_⟩) hS ?_
          · intro wy hy
            have h0 : wy.cell? ⟨q, 2, none⟩ = some (.string y.copy) := hy.1.cell rfl
            clear hy
            go_simp
          simp only [Act.put, List.setIfInBounds_toArray, List.set_cons_zero, List.set_cons_succ]
          refine wpAnyH_take (i := 6) (oi := { dst := some 28, op := _, type := _, pos := _, after := _, guard := none }) (v := .pointer (some ⟨q, 3, none⟩)) rfl (by kernel_rfl) (by kernel_rfl) (by kernel_rfl) (fun _ _ _ h => h) (Or.inl ⟨by rfl, ?_⟩) hS ?_
          · intro wy hy
            clear hy
            go_simp
          simp only [Act.put, List.setIfInBounds_toArray, List.set_cons_zero, List.set_cons_succ]
          refine wpAnyH_take (i := 7) (oi := { dst := some 29, op := _, type := _, pos := _, after := _, guard := none }) (v := .int .i64 y.at_) rfl (by kernel_rfl) (by kernel_rfl) (by kernel_rfl) (fun _ _ _ h => h) (Or.inl ⟨by rfl, ?_⟩) hS ?_
          · intro wy hy
            have h0 : wy.cell? ⟨q, 3, none⟩ = some (.int .i64 y.at_) := hy.1.cell rfl
            clear hy
            go_simp
          simp only [Act.put, List.setIfInBounds_toArray, List.set_cons_zero, List.set_cons_succ]
          refine wpAnyH_ready (rs := [8]) (by kernel_rfl) (by simp) (AllReadyH.cons (o := { dst := some 30, op := _, type := _, pos := _, after := _, guard := none }) rfl (fun K hK => ?_) AllReadyH.nil)
          go_simp
          refine (between_any y.berth y.hold y.copy y.at_ _ Z1.out Z0.out Z2.out).mono ?_
          rintro e v0 ⟨rfl, rfl⟩
          refine hK.out _ _ hS (fun hS => ?_)
          clear hK K
          rw [G0.out]
          refine wpAnyH_take (i := 9) (oi := { dst := some 31, op := _, type := _, pos := _, after := _, guard := none }) (v := .bool false) rfl (by kernel_rfl) (by kernel_rfl) (by kernel_rfl) (fun _ _ _ h => h) (Or.inl ⟨by rfl, ?_⟩) hS ?_
          · intro wy hy
            clear hy
            go_simp
          simp only [Act.put, List.setIfInBounds_toArray, List.set_cons_zero, List.set_cons_succ]
          refine wpAnyH_take (i := 10) (oi := { dst := some 32, op := _, type := _, pos := _, after := _, guard := none }) (v := .bool false) rfl (by kernel_rfl) (by kernel_rfl) (by kernel_rfl) (fun _ _ _ h => h) (Or.inl ⟨by rfl, ?_⟩) hS ?_
          · intro wy hy
            clear hy
            go_simp
          simp only [Act.put, List.setIfInBounds_toArray, List.set_cons_zero, List.set_cons_succ]
          refine wpAnyH_take (i := 11) (oi := { dst := some 33, op := _, type := _, pos := _, after := _, guard := some (10, false) }) (v := .pointer (some ⟨q, 4, none⟩)) rfl (by kernel_rfl) (by kernel_rfl) (by kernel_rfl) (fun _ _ _ h => h) (Or.inl ⟨by rfl, ?_⟩) hS ?_
          · intro wy hy
            clear hy
            go_simp
          simp only [Act.put, List.setIfInBounds_toArray, List.set_cons_zero, List.set_cons_succ]
          refine wpAnyH_take (i := 12) (oi := { dst := some 34, op := _, type := _, pos := _, after := _, guard := some (10, false) }) (v := .int .i64 y.until_) rfl (by kernel_rfl) (by kernel_rfl) (by kernel_rfl) (fun _ _ _ h => h) (Or.inl ⟨by rfl, ?_⟩) hS ?_
          · intro wy hy
            have h0 : wy.cell? ⟨q, 4, none⟩ = some (.int .i64 y.until_) := hy.1.cell rfl
            clear hy
            go_simp
          simp only [Act.put, List.setIfInBounds_toArray, List.set_cons_zero, List.set_cons_succ]
          refine wpAnyH_take (i := 13) (oi := { dst := some 35, op := _, type := _, pos := _, after := _, guard := some (10, false) }) (v := .pointer (some ⟨w.heap.size, 0, none⟩)) rfl (by kernel_rfl) (by kernel_rfl) (by kernel_rfl) (fun _ _ _ h => h) (Or.inl ⟨by rfl, ?_⟩) hS ?_
          · intro wy hy
            clear hy
            go_simp
          simp only [Act.put, List.setIfInBounds_toArray, List.set_cons_zero, List.set_cons_succ]
          refine wpAnyH_take (i := 14) (oi := { dst := some 36, op := _, type := _, pos := _, after := _, guard := some (10, false) }) (v := .int .i64 x.time) rfl (by kernel_rfl) (by kernel_rfl) (by kernel_rfl) (fun _ _ _ h => h) (Or.inl ⟨by rfl, ?_⟩) hS ?_
          · intro wy hy
            have h0 : wy.cell? ⟨w.heap.size, 0, none⟩ = some (.int .i64 x.time) := hy.2.cell rfl
            clear hy
            go_simp
          simp only [Act.put, List.setIfInBounds_toArray, List.set_cons_zero, List.set_cons_succ]
          refine wpAnyH_ready (rs := [15]) (by kernel_rfl) (by simp) (AllReadyH.cons (o := { dst := some 37, op := _, type := _, pos := _, after := _, guard := some (10, false) }) rfl (fun K hK => ?_) AllReadyH.nil)
          go_simp
          refine (until_any x.time _).mono ?_
          rintro e v1 ⟨rfl, rfl⟩
          refine hK.out _ _ hS (fun hS => ?_)
          clear hK K
          refine wpAnyH_ready (rs := [16]) (by kernel_rfl) (by simp) (AllReadyH.cons (o := { dst := some 38, op := _, type := _, pos := _, after := _, guard := some (10, false) }) rfl (fun K hK => ?_) AllReadyH.nil)
          go_simp
          refine (isIn_any y.until_ 0 (wrap64 (x.time + 32)) _).mono ?_
          rintro e v2 ⟨rfl, rfl⟩
          refine hK.out _ _ hS (fun hS => ?_)
          clear hK K
          rw [G1.out]
          refine wpAnyH_take (i := 17) (oi := { dst := some 39, op := _, type := _, pos := _, after := _, guard := some (10, false) }) (v := .bool true) rfl (by kernel_rfl) (by kernel_rfl) (by kernel_rfl) (fun _ _ _ h => h) (Or.inl ⟨by rfl, ?_⟩) hS ?_
          · intro wy hy
            clear hy
            go_simp
          simp only [Act.put, List.setIfInBounds_toArray, List.set_cons_zero, List.set_cons_succ]
          refine wpAnyH_take (i := 18) (oi := { dst := some 40, op := _, type := _, pos := _, after := _, guard := none }) (v := .bool true) rfl (by kernel_rfl) (by kernel_rfl) (by kernel_rfl) (fun _ _ _ h => h) (Or.inl ⟨by rfl, ?_⟩) hS ?_
          · intro wy hy
            clear hy
            go_simp
          simp only [Act.put, List.setIfInBounds_toArray, List.set_cons_zero, List.set_cons_succ]
          refine wpAnyH_done (by kernel_rfl) ?_ _
          clear hS
          go_wp2_with fail
          go_ret
          exact ⟨ret_bool HE.out.symm, hB5⟩
        | true =>
          have hro : gtB y (wrap64 (x.time + 32)) = true := by unfold gtB; rw [g0, g1]; rfl
          have G0 := Hid.intro g0
          have G1 := Hid.intro g1
          clear g0 g1
          have HN2 : Hid (∀ (j : Nat) z, j < k + 1 → x.grants[j]? = some z → gtB z (wrap64 (x.time + 32)) = true) := fun j z hj hz => by
            by_cases e : j = k
            · subst e
              have := HXX.out.symm.trans hz
              cases this
              exact hro
            · exact hN.out j z (by omega) hz
          clear hro
          go_wp2_with fail
          refine wp_region_held_drew (S := fun wy => Blk q #[.string y.hold, .string y.berth, .string y.copy, .int .i64 y.at_, .int .i64 y.until_] 68 wy ∧ Blk w.heap.size #[.int .i64 x.time, .slice (some ⟨b, o, none⟩) x.grants.length c1, .slice a2 x.places.length c2] 27 wy) (by kernel_rfl) ⟨HG4.out.drew, HK4.out.drew⟩ (fun hS => ?_)
          have hB5 : Below w.heap.size w w4.drew := hB4.drew
          have HK5 : Hid (Blk w.heap.size #[.int .i64 x.time, .slice (some ⟨b, o, none⟩) x.grants.length c1, .slice a2 x.places.length c2] 27 w4.drew) := HK4.out.drew
          clear HK4 HG4 hB4
          generalize w4.drew = w5 at *
          refine wpAnyH_take (i := 0) (oi := { dst := some 22, op := _, type := _, pos := _, after := _, guard := none }) (v := .pointer (some ⟨q, 1, none⟩)) rfl (by kernel_rfl) (by kernel_rfl) (by kernel_rfl) (fun _ _ _ h => h) (Or.inl ⟨by rfl, ?_⟩) hS ?_
          · intro wy hy
            clear hy
            go_simp
          simp only [Act.put, List.setIfInBounds_toArray, List.set_cons_zero, List.set_cons_succ]
          refine wpAnyH_take (i := 1) (oi := { dst := some 23, op := _, type := _, pos := _, after := _, guard := none }) (v := .string y.berth) rfl (by kernel_rfl) (by kernel_rfl) (by kernel_rfl) (fun _ _ _ h => h) (Or.inl ⟨by rfl, ?_⟩) hS ?_
          · intro wy hy
            have h0 : wy.cell? ⟨q, 1, none⟩ = some (.string y.berth) := hy.1.cell rfl
            clear hy
            go_simp
          simp only [Act.put, List.setIfInBounds_toArray, List.set_cons_zero, List.set_cons_succ]
          refine wpAnyH_take (i := 2) (oi := { dst := some 24, op := _, type := _, pos := _, after := _, guard := none }) (v := .pointer (some ⟨q, 0, none⟩)) rfl (by kernel_rfl) (by kernel_rfl) (by kernel_rfl) (fun _ _ _ h => h) (Or.inl ⟨by rfl, ?_⟩) hS ?_
          · intro wy hy
            clear hy
            go_simp
          simp only [Act.put, List.setIfInBounds_toArray, List.set_cons_zero, List.set_cons_succ]
          refine wpAnyH_take (i := 3) (oi := { dst := some 25, op := _, type := _, pos := _, after := _, guard := none }) (v := .string y.hold) rfl (by kernel_rfl) (by kernel_rfl) (by kernel_rfl) (fun _ _ _ h => h) (Or.inl ⟨by rfl, ?_⟩) hS ?_
          · intro wy hy
            have h0 : wy.cell? ⟨q, 0, none⟩ = some (.string y.hold) := hy.1.cell rfl
            clear hy
            go_simp
          simp only [Act.put, List.setIfInBounds_toArray, List.set_cons_zero, List.set_cons_succ]
          refine wpAnyH_take (i := 4) (oi := { dst := some 26, op := _, type := _, pos := _, after := _, guard := none }) (v := .pointer (some ⟨q, 2, none⟩)) rfl (by kernel_rfl) (by kernel_rfl) (by kernel_rfl) (fun _ _ _ h => h) (Or.inl ⟨by rfl, ?_⟩) hS ?_
          · intro wy hy
            clear hy
            go_simp
          simp only [Act.put, List.setIfInBounds_toArray, List.set_cons_zero, List.set_cons_succ]
          refine wpAnyH_take (i := 5) (oi := { dst := some 27, op := _, type := _, pos := _, after := _, guard := none }) (v := .string y.copy) rfl (by kernel_rfl) (by kernel_rfl) (by kernel_rfl) (fun _ _ _ h => h) (Or.inl ⟨by rfl, ?_⟩) hS ?_
          · intro wy hy
            have h0 : wy.cell? ⟨q, 2, none⟩ = some (.string y.copy) := hy.1.cell rfl
            clear hy
            go_simp
          simp only [Act.put, List.setIfInBounds_toArray, List.set_cons_zero, List.set_cons_succ]
          refine wpAnyH_take (i := 6) (oi := { dst := some 28, op := _, type := _, pos := _, after := _, guard := none }) (v := .pointer (some ⟨q, 3, none⟩)) rfl (by kernel_rfl) (by kernel_rfl) (by kernel_rfl) (fun _ _ _ h => h) (Or.inl ⟨by rfl, ?_⟩) hS ?_
          · intro wy hy
            clear hy
            go_simp
          simp only [Act.put, List.setIfInBounds_toArray, List.set_cons_zero, List.set_cons_succ]
          refine wpAnyH_take (i := 7) (oi := { dst := some 29, op := _, type := _, pos := _, after := _, guard := none }) (v := .int .i64 y.at_) rfl (by kernel_rfl) (by kernel_rfl) (by kernel_rfl) (fun _ _ _ h => h) (Or.inl ⟨by rfl, ?_⟩) hS ?_
          · intro wy hy
            have h0 : wy.cell? ⟨q, 3, none⟩ = some (.int .i64 y.at_) := hy.1.cell rfl
            clear hy
            go_simp
          simp only [Act.put, List.setIfInBounds_toArray, List.set_cons_zero, List.set_cons_succ]
          refine wpAnyH_ready (rs := [8]) (by kernel_rfl) (by simp) (AllReadyH.cons (o := { dst := some 30, op := _, type := _, pos := _, after := _, guard := none }) rfl (fun K hK => ?_) AllReadyH.nil)
          go_simp
          refine (between_any y.berth y.hold y.copy y.at_ _ Z1.out Z0.out Z2.out).mono ?_
          rintro e v0 ⟨rfl, rfl⟩
          refine hK.out _ _ hS (fun hS => ?_)
          clear hK K
          rw [G0.out]
          refine wpAnyH_take (i := 9) (oi := { dst := some 31, op := _, type := _, pos := _, after := _, guard := none }) (v := .bool false) rfl (by kernel_rfl) (by kernel_rfl) (by kernel_rfl) (fun _ _ _ h => h) (Or.inl ⟨by rfl, ?_⟩) hS ?_
          · intro wy hy
            clear hy
            go_simp
          simp only [Act.put, List.setIfInBounds_toArray, List.set_cons_zero, List.set_cons_succ]
          refine wpAnyH_take (i := 10) (oi := { dst := some 32, op := _, type := _, pos := _, after := _, guard := none }) (v := .bool false) rfl (by kernel_rfl) (by kernel_rfl) (by kernel_rfl) (fun _ _ _ h => h) (Or.inl ⟨by rfl, ?_⟩) hS ?_
          · intro wy hy
            clear hy
            go_simp
          simp only [Act.put, List.setIfInBounds_toArray, List.set_cons_zero, List.set_cons_succ]
          refine wpAnyH_take (i := 11) (oi := { dst := some 33, op := _, type := _, pos := _, after := _, guard := some (10, false) }) (v := .pointer (some ⟨q, 4, none⟩)) rfl (by kernel_rfl) (by kernel_rfl) (by kernel_rfl) (fun _ _ _ h => h) (Or.inl ⟨by rfl, ?_⟩) hS ?_
          · intro wy hy
            clear hy
            go_simp
          simp only [Act.put, List.setIfInBounds_toArray, List.set_cons_zero, List.set_cons_succ]
          refine wpAnyH_take (i := 12) (oi := { dst := some 34, op := _, type := _, pos := _, after := _, guard := some (10, false) }) (v := .int .i64 y.until_) rfl (by kernel_rfl) (by kernel_rfl) (by kernel_rfl) (fun _ _ _ h => h) (Or.inl ⟨by rfl, ?_⟩) hS ?_
          · intro wy hy
            have h0 : wy.cell? ⟨q, 4, none⟩ = some (.int .i64 y.until_) := hy.1.cell rfl
            clear hy
            go_simp
          simp only [Act.put, List.setIfInBounds_toArray, List.set_cons_zero, List.set_cons_succ]
          refine wpAnyH_take (i := 13) (oi := { dst := some 35, op := _, type := _, pos := _, after := _, guard := some (10, false) }) (v := .pointer (some ⟨w.heap.size, 0, none⟩)) rfl (by kernel_rfl) (by kernel_rfl) (by kernel_rfl) (fun _ _ _ h => h) (Or.inl ⟨by rfl, ?_⟩) hS ?_
          · intro wy hy
            clear hy
            go_simp
          simp only [Act.put, List.setIfInBounds_toArray, List.set_cons_zero, List.set_cons_succ]
          refine wpAnyH_take (i := 14) (oi := { dst := some 36, op := _, type := _, pos := _, after := _, guard := some (10, false) }) (v := .int .i64 x.time) rfl (by kernel_rfl) (by kernel_rfl) (by kernel_rfl) (fun _ _ _ h => h) (Or.inl ⟨by rfl, ?_⟩) hS ?_
          · intro wy hy
            have h0 : wy.cell? ⟨w.heap.size, 0, none⟩ = some (.int .i64 x.time) := hy.2.cell rfl
            clear hy
            go_simp
          simp only [Act.put, List.setIfInBounds_toArray, List.set_cons_zero, List.set_cons_succ]
          refine wpAnyH_ready (rs := [15]) (by kernel_rfl) (by simp) (AllReadyH.cons (o := { dst := some 37, op := _, type := _, pos := _, after := _, guard := some (10, false) }) rfl (fun K hK => ?_) AllReadyH.nil)
          go_simp
          refine (until_any x.time _).mono ?_
          rintro e v1 ⟨rfl, rfl⟩
          refine hK.out _ _ hS (fun hS => ?_)
          clear hK K
          refine wpAnyH_ready (rs := [16]) (by kernel_rfl) (by simp) (AllReadyH.cons (o := { dst := some 38, op := _, type := _, pos := _, after := _, guard := some (10, false) }) rfl (fun K hK => ?_) AllReadyH.nil)
          go_simp
          refine (isIn_any y.until_ 0 (wrap64 (x.time + 32)) _).mono ?_
          rintro e v2 ⟨rfl, rfl⟩
          refine hK.out _ _ hS (fun hS => ?_)
          clear hK K
          rw [G1.out]
          refine wpAnyH_take (i := 17) (oi := { dst := some 39, op := _, type := _, pos := _, after := _, guard := some (10, false) }) (v := .bool false) rfl (by kernel_rfl) (by kernel_rfl) (by kernel_rfl) (fun _ _ _ h => h) (Or.inl ⟨by rfl, ?_⟩) hS ?_
          · intro wy hy
            clear hy
            go_simp
          simp only [Act.put, List.setIfInBounds_toArray, List.set_cons_zero, List.set_cons_succ]
          refine wpAnyH_take (i := 18) (oi := { dst := some 40, op := _, type := _, pos := _, after := _, guard := none }) (v := .bool false) rfl (by kernel_rfl) (by kernel_rfl) (by kernel_rfl) (fun _ _ _ h => h) (Or.inl ⟨by rfl, ?_⟩) hS ?_
          · intro wy hy
            clear hy
            go_simp
          simp only [Act.put, List.setIfInBounds_toArray, List.set_cons_zero, List.set_cons_succ]
          refine wpAnyH_done (by kernel_rfl) ?_ _
          clear hS
          go_wp2_with fail
          go_roundw
          case rel => exact ⟨k + 1, by omega, by go_num, HN2, HK5, hB5⟩
          case measure => simp [intOf]; omega

end Go.Proofs.YtebcocejgenadaaGreat
