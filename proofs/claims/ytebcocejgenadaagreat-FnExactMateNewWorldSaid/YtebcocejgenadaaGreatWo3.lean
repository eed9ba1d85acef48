/-
  A world that is ok, by the specification. Made by mkwo2.py.
-/
import Derived.Test.YtebcocejgenadaaGreatJ20
import Derived.Test.YtebcocejgenadaaGreatLk7
import Derived.Test.YtebcocejgenadaaGreatAv5
namespace Go.Proofs.YtebcocejgenadaaGreat
open Go.RowKit

set_option maxHeartbeats 16000000 in
set_option maxRecDepth 100000 in
theorem specWorldOk_any (x : Wrl) (a1 : Option Addr) (c1 : Nat) (a2 : Option Addr) (c2 : Nat) (a3 : Option Addr) (c3 : Nat) (a4 : Option Addr) (c4 : Nat) (lo : Nat) (w : World) (hin : WSl x lo a1 a2 a3 a4 w) :
    Calls Tryz.prog 13 #[.agg #[.int .i64 x.land.time, .slice a1 x.land.grants.length c1, .slice a2 x.land.places.length c2, .slice a3 x.mates.length c3, .slice a4 x.flight.length c4]] w fun e w' => e = .returned (.bool (woB x)) ∧ Below w.heap.size w w' := by
  have HI := Hid.intro hin
  clear hin
  have HK1 : Hid (Blk w.heap.size #[.int .i64 x.land.time, .slice a1 x.land.grants.length c1, .slice a2 x.land.places.length c2, .slice a3 x.mates.length c3, .slice a4 x.flight.length c4] 30 (w.alloc (Obj.cells #[.int .i64 x.land.time, .slice a1 x.land.grants.length c1, .slice a2 x.land.places.length c2, .slice a3 x.mates.length c3, .slice a4 x.flight.length c4] 30))) := Blk.alloc _ _ _
  have hB1 : Below w.heap.size w (w.alloc (Obj.cells #[.int .i64 x.land.time, .slice a1 x.land.grants.length c1, .slice a2 x.land.places.length c2, .slice a3 x.mates.length c3, .slice a4 x.flight.length c4] 30)) := (Below.refl _ w).alloc (Nat.le_refl _) _
  go_enter Tryz.func13, Tryz.ntmps13
  go_upto_region 1 with fail
  generalize w.alloc (Obj.cells #[.int .i64 x.land.time, .slice a1 x.land.grants.length c1, .slice a2 x.land.places.length c2, .slice a3 x.mates.length c3, .slice a4 x.flight.length c4] 30) = w1 at *
  have k0 : w1.cell? ⟨w.heap.size, 0, none⟩ = some (.int .i64 x.land.time) := HK1.out.cell rfl
  have k1 : w1.cell? ⟨w.heap.size, 1, none⟩ = some (.slice a1 x.land.grants.length c1) := HK1.out.cell rfl
  have k2 : w1.cell? ⟨w.heap.size, 2, none⟩ = some (.slice a2 x.land.places.length c2) := HK1.out.cell rfl
  have k3 : w1.cell? ⟨w.heap.size, 3, none⟩ = some (.slice a3 x.mates.length c3) := HK1.out.cell rfl
  have k4 : w1.cell? ⟨w.heap.size, 4, none⟩ = some (.slice a4 x.flight.length c4) := HK1.out.cell rfl
  have HKL : Hid (w1.rangeAt w.heap.size 0 [.int .i64 x.land.time, .slice a1 x.land.grants.length c1, .slice a2 x.land.places.length c2]) := range_cons k0 (range_cons k1 (range_cons k2 (range_nil _ _ _)))
  go_wp2_with (refine wpList_load_mid rfl 27 _ rfl w.heap.size 0 (by first | rfl | (simp [go_sem]; done)) [.int .i64 x.land.time, .slice a1 x.land.grants.length c1, .slice a2 x.land.places.length c2] _ HKL.out Tryz.underlying27 rfl isz_Lnd ?_)
  refine (specLandOk_any x.land a1 c1 a2 c2 lo _ (HI.out.sl.below hB1 (Nat.le_refl _))).mono ?_
  rintro e w2 ⟨rfl, hb2⟩
  have HK2 := Hid.intro (HK1.out.below hb2 HK1.out.lt)
  have hB2 := hB1.trans (hb2.mono hB1.size)
  clear hb2 HK1 hB1 HKL k0 k1 k2 k3 k4
  have k3 : w2.cell? ⟨w.heap.size, 3, none⟩ = some (.slice a3 x.mates.length c3) := HK2.out.cell rfl
  have k4 : w2.cell? ⟨w.heap.size, 4, none⟩ = some (.slice a4 x.flight.length c4) := HK2.out.cell rfl
  cases g0 : loB x.land with
  | false =>
    have HE : Hid (woB x = false) := by show _ = _; unfold woB; rw [g0]; simp
    clear g0
    go_wp2_with fail
    go_ret
    exact ⟨ret_bool HE.out.symm, hB2⟩
  | true =>
  go_wp2_with fail
  refine (in10_any (x.mates.length : Int) 1 4 _).mono ?_
  rintro e v0 ⟨rfl, rfl⟩
  cases g1 : inR (x.mates.length : Int) 1 4 with
  | false =>
    have HE : Hid (woB x = false) := by show _ = _; unfold woB fwB; rw [g1]; rfl
    clear g0 g1
    go_wp2_with fail
    go_ret
    exact ⟨ret_bool HE.out.symm, hB2⟩
  | true =>
  by_cases hl : x.flight.length ≤ 300
  case neg =>
    have hl' : (300 : Int) < x.flight.length := by omega
    have HE : Hid (woB x = false) := by show _ = _; unfold woB fwB; rw [decide_eq_false hl]; simp
    clear g0 g1 hl
    go_wp2_with fail
    go_ret
    exact ⟨ret_bool HE.out.symm, hB2⟩
  have hl' : (x.flight.length : Int) ≤ 300 := by omega
  have HE : Hid (woB x = msB x.mates) := by show _ = _; unfold woB fwB; rw [g0, g1, decide_eq_true hl]; rfl
  clear g0 g1 hl
  go_wp2_with fail
  clear hl' k3 k4
  go_loopw [3] (fun i wr => ∃ k : Nat, k ≤ x.mates.length ∧ i = .int .i64 k ∧ Hid (∀ (j : Nat) y, j < k → x.mates[j]? = some y → mvB y = true) ∧ Hid (ascTo (x.mates.map (·.name)) k = true) ∧ Hid (Blk w.heap.size #[.int .i64 x.land.time, .slice a1 x.land.grants.length c1, .slice a2 x.land.places.length c2, .slice a3 x.mates.length c3, .slice a4 x.flight.length c4] 30 wr) ∧ Below w.heap.size w wr) (fun i _ => x.mates.length - (intOf i).toNat)
  case atStart => exact ⟨0, Nat.zero_le _, rfl, fun j q h => by omega, rfl, HK2, hB2⟩
  case round =>
    clear HK2 hB2
    have hmx := HI.out.l3
    obtain ⟨k, hk, rfl, hN, hA, HK, hB⟩ := hrel
    have k3 : wr.cell? ⟨w.heap.size, 3, none⟩ = some (.slice a3 x.mates.length c3) := HK.out.cell rfl
    by_cases hlt : k < x.mates.length
    case neg =>
      have hke : k = x.mates.length := by omega
      subst hke
      have HE2 : Hid (woB x = true) := by show _ = _; rw [HE.out, msB_all hN.out]; exact hA.out
      go_wp2_with fail
      go_ret
      exact ⟨ret_bool HE2.out.symm, hB⟩
    obtain ⟨y, hy⟩ : ∃ y, x.mates[k]? = some y := ⟨x.mates[k], List.getElem?_eq_getElem hlt⟩
    obtain ⟨b, o, e1, _, hbl, hc⟩ := (HI.out.s3.below MteC.holds hB (Nat.le_refl _)).at hy
    subst e1
    obtain ⟨p5, q5, p6, q6, p7, q7, p8, q8, hra, hms⟩ := mte_at hc (HI.out.em k y hy)
    have HRA := Hid.intro hra
    have HMS := Hid.intro hms
    have HXX := Hid.intro hy
    clear hc hra hms
    have i0 : (0 : Int) ≤ (k : Int) := by omega
    have i1 : (k : Int) < (x.mates.length : Int) := by omega
    cases g0 : mvB y with
    | false =>
      have G0 := Hid.intro g0
      have HE2 : Hid (woB x = false) := by show _ = _; rw [HE.out]; exact msB_no HXX.out g0
      clear g0 hy
      go_upto_region 6 with fail
      clear k3
      refine wp_region_held_drew (S := fun wy => Blk w.heap.size #[.int .i64 x.land.time, .slice a1 x.land.grants.length c1, .slice a2 x.land.places.length c2, .slice (some ⟨b, o, none⟩) x.mates.length c3, .slice a4 x.flight.length c4] 30 wy ∧ wy.rangeAt b (o + k * 9) [.string y.name, .bool y.up, .int .i64 y.clock, .bool y.known, .int .i64 y.seen, .slice p5 y.wants.length q5, .slice p6 y.runs.length q6, .slice p7 y.asks.length q7, .slice p8 y.gives.length q8]) (by kernel_rfl) ⟨HK.out.drew, HRA.out⟩ (fun hS => ?_)
      have hBd : Below w.heap.size w wr.drew := hB.drew
      have HMd := Hid.intro (HMS.out.below ((Below.refl wr.heap.size wr).drew) (Nat.le_refl _))
      have HKd : Hid (Blk w.heap.size #[.int .i64 x.land.time, .slice a1 x.land.grants.length c1, .slice a2 x.land.places.length c2, .slice (some ⟨b, o, none⟩) x.mates.length c3, .slice a4 x.flight.length c4] 30 wr.drew) := HK.out.drew
      have hbd := Hid.intro (show b < wr.drew.heap.size from hbl)
      clear HK hB HMS HRA hbl
      generalize wr.drew = wd at *
      refine wpAnyH_take (i := 0) (oi := { dst := some 28, op := _, type := _, pos := _, after := _, guard := none }) (v := .pointer (some ⟨w.heap.size, 3, none⟩)) rfl (by kernel_rfl) (by kernel_rfl) (by kernel_rfl) (fun _ _ _ h => h) (Or.inl ⟨by rfl, ?_⟩) hS ?_
      · intro wy hy
        clear hy
        go_simp
      simp only [Act.put, List.setIfInBounds_toArray, List.set_cons_zero, List.set_cons_succ]
      refine wpAnyH_take (i := 1) (oi := { dst := some 29, op := _, type := _, pos := _, after := _, guard := none }) (v := .slice (some ⟨b, o, none⟩) x.mates.length c3) rfl (by kernel_rfl) (by kernel_rfl) (by kernel_rfl) (fun _ _ _ h => h) (Or.inl ⟨by rfl, ?_⟩) hS ?_
      · intro wy hy
        have h0 : wy.cell? ⟨w.heap.size, 3, none⟩ = some (.slice (some ⟨b, o, none⟩) x.mates.length c3) := hy.1.cell rfl
        clear hy
        go_simp
      simp only [Act.put, List.setIfInBounds_toArray, List.set_cons_zero, List.set_cons_succ]
      refine wpAnyH_take (i := 2) (oi := { dst := some 30, op := _, type := _, pos := _, after := _, guard := none }) (v := .int .i64 (k : Int)) rfl (by kernel_rfl) (by kernel_rfl) (by kernel_rfl) (fun _ _ _ h => h) (Or.inl ⟨by rfl, ?_⟩) hS ?_
      · intro wy hy
        clear hy
        go_simp
      simp only [Act.put, List.setIfInBounds_toArray, List.set_cons_zero, List.set_cons_succ]
      refine wpAnyH_take (i := 3) (oi := { dst := some 31, op := _, type := _, pos := _, after := _, guard := none }) (v := .pointer (some ⟨b, o + k * 9, none⟩)) rfl (by kernel_rfl) (by kernel_rfl) (by kernel_rfl) (fun _ _ _ h => h) (Or.inl ⟨by rfl, ?_⟩) hS ?_
      · intro wy hy
        clear hy
        first | (go_simp; done) | (go_simp; intro hh; omega) | (go_simp; omega)
      simp only [Act.put, List.setIfInBounds_toArray, List.set_cons_zero, List.set_cons_succ]
      refine wpAnyH_take (i := 4) (oi := { dst := some 32, op := _, type := _, pos := _, after := _, guard := none }) (v := .agg #[.string y.name, .bool y.up, .int .i64 y.clock, .bool y.known, .int .i64 y.seen, .slice p5 y.wants.length q5, .slice p6 y.runs.length q6, .slice p7 y.asks.length q7, .slice p8 y.gives.length q8]) rfl (by kernel_rfl) (by kernel_rfl) (by kernel_rfl) (fun _ _ _ h => h) (yieldsIf_load_mid (by rfl) _ _ rfl b (o + k * 9) rfl [.string y.name, .bool y.up, .int .i64 y.clock, .bool y.known, .int .i64 y.seen, .slice p5 y.wants.length q5, .slice p6 y.runs.length q6, .slice p7 y.asks.length q7, .slice p8 y.gives.length q8] _ (fun _ h => h.2) Tryz.underlying41 rfl isz_Mte) hS ?_
      simp only [Act.put, List.setIfInBounds_toArray, List.set_cons_zero, List.set_cons_succ]
      refine wpAnyH_ready (rs := [5]) (by kernel_rfl) (by simp) (AllReadyH.cons (o := { dst := some 33, op := _, type := _, pos := _, after := _, guard := none }) rfl (fun K hK => ?_) AllReadyH.nil)
      go_simp
      refine (specValid_any y p5 q5 p6 q6 p7 q7 p8 q8 lo _ HMd.out).mono ?_
      rintro e w5 ⟨rfl, hb5⟩
      have hB5 := hBd.trans (hb5.mono hBd.size)
      have HK5 := Hid.intro (HKd.out.below hb5 HKd.out.lt)
      refine hK.out _ _ ⟨hS.1.below hb5 hS.1.lt, range_belowW hS.2 hb5 hbd.out⟩ (fun hS => ?_)
      clear hK K
      clear hb5 HKd hBd HMd
      rw [G0.out]
      refine wpAnyH_take (i := 6) (oi := { dst := some 34, op := _, type := _, pos := _, after := _, guard := none }) (v := .bool true) rfl (by kernel_rfl) (by kernel_rfl) (by kernel_rfl) (fun _ _ _ h => h) (Or.inl ⟨by rfl, ?_⟩) hS ?_
      · intro wy hy
        clear hy
        go_simp
      simp only [Act.put, List.setIfInBounds_toArray, List.set_cons_zero, List.set_cons_succ]
      refine wpAnyH_take (i := 7) (oi := { dst := some 35, op := _, type := _, pos := _, after := _, guard := none }) (v := .bool true) rfl (by kernel_rfl) (by kernel_rfl) (by kernel_rfl) (fun _ _ _ h => h) (Or.inl ⟨by rfl, ?_⟩) hS ?_
      · intro wy hy
        clear hy
        go_simp
      simp only [Act.put, List.setIfInBounds_toArray, List.set_cons_zero, List.set_cons_succ]
      refine wpAnyH_take (i := 8) (oi := { dst := some 36, op := _, type := _, pos := _, after := _, guard := some (7, false) }) (v := undef) rfl (by kernel_rfl) (by kernel_rfl) (by kernel_rfl) (fun _ _ _ h => h) (Or.inr ⟨by rfl, rfl⟩) hS ?_
      simp only [Act.put, List.setIfInBounds_toArray, List.set_cons_zero, List.set_cons_succ]
      refine wpAnyH_take (i := 9) (oi := { dst := some 37, op := _, type := _, pos := _, after := _, guard := some (7, false) }) (v := undef) rfl (by kernel_rfl) (by kernel_rfl) (by kernel_rfl) (fun _ _ _ h => h) (Or.inr ⟨by rfl, rfl⟩) hS ?_
      simp only [Act.put, List.setIfInBounds_toArray, List.set_cons_zero, List.set_cons_succ]
      refine wpAnyH_take (i := 10) (oi := { dst := some 38, op := _, type := _, pos := _, after := _, guard := some (7, false) }) (v := undef) rfl (by kernel_rfl) (by kernel_rfl) (by kernel_rfl) (fun _ _ _ h => h) (Or.inr ⟨by rfl, rfl⟩) hS ?_
      simp only [Act.put, List.setIfInBounds_toArray, List.set_cons_zero, List.set_cons_succ]
      refine wpAnyH_take (i := 11) (oi := { dst := some 39, op := _, type := _, pos := _, after := _, guard := some (10, true) }) (v := undef) rfl (by kernel_rfl) (by kernel_rfl) (by kernel_rfl) (fun _ _ _ h => h) (Or.inr ⟨by rfl, rfl⟩) hS ?_
      simp only [Act.put, List.setIfInBounds_toArray, List.set_cons_zero, List.set_cons_succ]
      refine wpAnyH_take (i := 12) (oi := { dst := some 40, op := _, type := _, pos := _, after := _, guard := some (10, true) }) (v := undef) rfl (by kernel_rfl) (by kernel_rfl) (by kernel_rfl) (fun _ _ _ h => h) (Or.inr ⟨by rfl, rfl⟩) hS ?_
      simp only [Act.put, List.setIfInBounds_toArray, List.set_cons_zero, List.set_cons_succ]
      refine wpAnyH_take (i := 13) (oi := { dst := some 41, op := _, type := _, pos := _, after := _, guard := some (10, true) }) (v := undef) rfl (by kernel_rfl) (by kernel_rfl) (by kernel_rfl) (fun _ _ _ h => h) (Or.inr ⟨by rfl, rfl⟩) hS ?_
      simp only [Act.put, List.setIfInBounds_toArray, List.set_cons_zero, List.set_cons_succ]
      refine wpAnyH_take (i := 14) (oi := { dst := some 42, op := _, type := _, pos := _, after := _, guard := some (10, true) }) (v := undef) rfl (by kernel_rfl) (by kernel_rfl) (by kernel_rfl) (fun _ _ _ h => h) (Or.inr ⟨by rfl, rfl⟩) hS ?_
      simp only [Act.put, List.setIfInBounds_toArray, List.set_cons_zero, List.set_cons_succ]
      refine wpAnyH_take (i := 15) (oi := { dst := some 43, op := _, type := _, pos := _, after := _, guard := some (10, true) }) (v := undef) rfl (by kernel_rfl) (by kernel_rfl) (by kernel_rfl) (fun _ _ _ h => h) (Or.inr ⟨by rfl, rfl⟩) hS ?_
      simp only [Act.put, List.setIfInBounds_toArray, List.set_cons_zero, List.set_cons_succ]
      refine wpAnyH_take (i := 16) (oi := { dst := some 44, op := _, type := _, pos := _, after := _, guard := some (10, true) }) (v := undef) rfl (by kernel_rfl) (by kernel_rfl) (by kernel_rfl) (fun _ _ _ h => h) (Or.inr ⟨by rfl, rfl⟩) hS ?_
      simp only [Act.put, List.setIfInBounds_toArray, List.set_cons_zero, List.set_cons_succ]
      refine wpAnyH_take (i := 17) (oi := { dst := some 45, op := _, type := _, pos := _, after := _, guard := some (10, true) }) (v := undef) rfl (by kernel_rfl) (by kernel_rfl) (by kernel_rfl) (fun _ _ _ h => h) (Or.inr ⟨by rfl, rfl⟩) hS ?_
      simp only [Act.put, List.setIfInBounds_toArray, List.set_cons_zero, List.set_cons_succ]
      refine wpAnyH_take (i := 18) (oi := { dst := some 46, op := _, type := _, pos := _, after := _, guard := some (10, true) }) (v := undef) rfl (by kernel_rfl) (by kernel_rfl) (by kernel_rfl) (fun _ _ _ h => h) (Or.inr ⟨by rfl, rfl⟩) hS ?_
      simp only [Act.put, List.setIfInBounds_toArray, List.set_cons_zero, List.set_cons_succ]
      refine wpAnyH_take (i := 19) (oi := { dst := some 47, op := _, type := _, pos := _, after := _, guard := some (10, true) }) (v := undef) rfl (by kernel_rfl) (by kernel_rfl) (by kernel_rfl) (fun _ _ _ h => h) (Or.inr ⟨by rfl, rfl⟩) hS ?_
      simp only [Act.put, List.setIfInBounds_toArray, List.set_cons_zero, List.set_cons_succ]
      refine wpAnyH_take (i := 20) (oi := { dst := some 48, op := _, type := _, pos := _, after := _, guard := some (10, true) }) (v := undef) rfl (by kernel_rfl) (by kernel_rfl) (by kernel_rfl) (fun _ _ _ h => h) (Or.inr ⟨by rfl, rfl⟩) hS ?_
      simp only [Act.put, List.setIfInBounds_toArray, List.set_cons_zero, List.set_cons_succ]
      refine wpAnyH_take (i := 21) (oi := { dst := some 49, op := _, type := _, pos := _, after := _, guard := some (10, true) }) (v := undef) rfl (by kernel_rfl) (by kernel_rfl) (by kernel_rfl) (fun _ _ _ h => h) (Or.inr ⟨by rfl, rfl⟩) hS ?_
      simp only [Act.put, List.setIfInBounds_toArray, List.set_cons_zero, List.set_cons_succ]
      refine wpAnyH_take (i := 22) (oi := { dst := some 50, op := _, type := _, pos := _, after := _, guard := some (10, true) }) (v := undef) rfl (by kernel_rfl) (by kernel_rfl) (by kernel_rfl) (fun _ _ _ h => h) (Or.inr ⟨by rfl, rfl⟩) hS ?_
      simp only [Act.put, List.setIfInBounds_toArray, List.set_cons_zero, List.set_cons_succ]
      refine wpAnyH_take (i := 23) (oi := { dst := some 51, op := _, type := _, pos := _, after := _, guard := some (10, true) }) (v := undef) rfl (by kernel_rfl) (by kernel_rfl) (by kernel_rfl) (fun _ _ _ h => h) (Or.inr ⟨by rfl, rfl⟩) hS ?_
      simp only [Act.put, List.setIfInBounds_toArray, List.set_cons_zero, List.set_cons_succ]
      refine wpAnyH_take (i := 24) (oi := { dst := some 52, op := _, type := _, pos := _, after := _, guard := some (10, true) }) (v := undef) rfl (by kernel_rfl) (by kernel_rfl) (by kernel_rfl) (fun _ _ _ h => h) (Or.inr ⟨by rfl, rfl⟩) hS ?_
      simp only [Act.put, List.setIfInBounds_toArray, List.set_cons_zero, List.set_cons_succ]
      refine wpAnyH_take (i := 25) (oi := { dst := some 53, op := _, type := _, pos := _, after := _, guard := some (7, false) }) (v := undef) rfl (by kernel_rfl) (by kernel_rfl) (by kernel_rfl) (fun _ _ _ h => h) (Or.inr ⟨by rfl, rfl⟩) hS ?_
      simp only [Act.put, List.setIfInBounds_toArray, List.set_cons_zero, List.set_cons_succ]
      refine wpAnyH_take (i := 26) (oi := { dst := some 54, op := _, type := _, pos := _, after := _, guard := none }) (v := .bool true) rfl (by kernel_rfl) (by kernel_rfl) (by kernel_rfl) (fun _ _ _ h => h) (Or.inl ⟨by rfl, ?_⟩) hS ?_
      · intro wy hy
        clear hy
        go_simp
      simp only [Act.put, List.setIfInBounds_toArray, List.set_cons_zero, List.set_cons_succ]
      refine wpAnyH_done (by kernel_rfl) ?_ _
      clear hS
      go_wp2_with fail
      go_ret
      exact ⟨ret_bool HE2.out.symm, hB5⟩
    | true =>
      have G0 := Hid.intro g0
      have HN2 : Hid (∀ (j : Nat) z, j < k + 1 → x.mates[j]? = some z → mvB z = true) := fun j z hj hz => by
        by_cases e : j = k
        · subst e
          have := HXX.out.symm.trans hz
          cases this
          exact g0
        · exact hN.out j z (by omega) hz
      clear g0
      rcases k with _ | m
      · simp only [Nat.zero_mul, Nat.add_zero] at HRA
        clear hy
        go_upto_region 6 with fail
        clear k3
        refine wp_region_held_drew (S := fun wy => Blk w.heap.size #[.int .i64 x.land.time, .slice a1 x.land.grants.length c1, .slice a2 x.land.places.length c2, .slice (some ⟨b, o, none⟩) x.mates.length c3, .slice a4 x.flight.length c4] 30 wy ∧ wy.rangeAt b (o) [.string y.name, .bool y.up, .int .i64 y.clock, .bool y.known, .int .i64 y.seen, .slice p5 y.wants.length q5, .slice p6 y.runs.length q6, .slice p7 y.asks.length q7, .slice p8 y.gives.length q8]) (by kernel_rfl) ⟨HK.out.drew, HRA.out⟩ (fun hS => ?_)
        have hBd : Below w.heap.size w wr.drew := hB.drew
        have HMd := Hid.intro (HMS.out.below ((Below.refl wr.heap.size wr).drew) (Nat.le_refl _))
        have HKd : Hid (Blk w.heap.size #[.int .i64 x.land.time, .slice a1 x.land.grants.length c1, .slice a2 x.land.places.length c2, .slice (some ⟨b, o, none⟩) x.mates.length c3, .slice a4 x.flight.length c4] 30 wr.drew) := HK.out.drew
        have hbd := Hid.intro (show b < wr.drew.heap.size from hbl)
        clear HK hB HMS HRA hbl
        generalize wr.drew = wd at *
        refine wpAnyH_take (i := 0) (oi := { dst := some 28, op := _, type := _, pos := _, after := _, guard := none }) (v := .pointer (some ⟨w.heap.size, 3, none⟩)) rfl (by kernel_rfl) (by kernel_rfl) (by kernel_rfl) (fun _ _ _ h => h) (Or.inl ⟨by rfl, ?_⟩) hS ?_
        · intro wy hy
          clear hy
          go_simp
        simp only [Act.put, List.setIfInBounds_toArray, List.set_cons_zero, List.set_cons_succ]
        refine wpAnyH_take (i := 1) (oi := { dst := some 29, op := _, type := _, pos := _, after := _, guard := none }) (v := .slice (some ⟨b, o, none⟩) x.mates.length c3) rfl (by kernel_rfl) (by kernel_rfl) (by kernel_rfl) (fun _ _ _ h => h) (Or.inl ⟨by rfl, ?_⟩) hS ?_
        · intro wy hy
          have h0 : wy.cell? ⟨w.heap.size, 3, none⟩ = some (.slice (some ⟨b, o, none⟩) x.mates.length c3) := hy.1.cell rfl
          clear hy
          go_simp
        simp only [Act.put, List.setIfInBounds_toArray, List.set_cons_zero, List.set_cons_succ]
        refine wpAnyH_take (i := 2) (oi := { dst := some 30, op := _, type := _, pos := _, after := _, guard := none }) (v := .int .i64 0) rfl (by kernel_rfl) (by kernel_rfl) (by kernel_rfl) (fun _ _ _ h => h) (Or.inl ⟨by rfl, ?_⟩) hS ?_
        · intro wy hy
          clear hy
          go_simp
        simp only [Act.put, List.setIfInBounds_toArray, List.set_cons_zero, List.set_cons_succ]
        refine wpAnyH_take (i := 3) (oi := { dst := some 31, op := _, type := _, pos := _, after := _, guard := none }) (v := .pointer (some ⟨b, o, none⟩)) rfl (by kernel_rfl) (by kernel_rfl) (by kernel_rfl) (fun _ _ _ h => h) (Or.inl ⟨by rfl, ?_⟩) hS ?_
        · intro wy hy
          clear hy
          first | (go_simp; done) | (go_simp; intro hh; omega) | (go_simp; omega)
        simp only [Act.put, List.setIfInBounds_toArray, List.set_cons_zero, List.set_cons_succ]
        refine wpAnyH_take (i := 4) (oi := { dst := some 32, op := _, type := _, pos := _, after := _, guard := none }) (v := .agg #[.string y.name, .bool y.up, .int .i64 y.clock, .bool y.known, .int .i64 y.seen, .slice p5 y.wants.length q5, .slice p6 y.runs.length q6, .slice p7 y.asks.length q7, .slice p8 y.gives.length q8]) rfl (by kernel_rfl) (by kernel_rfl) (by kernel_rfl) (fun _ _ _ h => h) (yieldsIf_load_mid (by rfl) _ _ rfl b (o) rfl [.string y.name, .bool y.up, .int .i64 y.clock, .bool y.known, .int .i64 y.seen, .slice p5 y.wants.length q5, .slice p6 y.runs.length q6, .slice p7 y.asks.length q7, .slice p8 y.gives.length q8] _ (fun _ h => h.2) Tryz.underlying41 rfl isz_Mte) hS ?_
        simp only [Act.put, List.setIfInBounds_toArray, List.set_cons_zero, List.set_cons_succ]
        refine wpAnyH_ready (rs := [5]) (by kernel_rfl) (by simp) (AllReadyH.cons (o := { dst := some 33, op := _, type := _, pos := _, after := _, guard := none }) rfl (fun K hK => ?_) AllReadyH.nil)
        go_simp
        refine (specValid_any y p5 q5 p6 q6 p7 q7 p8 q8 lo _ HMd.out).mono ?_
        rintro e w5 ⟨rfl, hb5⟩
        have hB5 := hBd.trans (hb5.mono hBd.size)
        have HK5 := Hid.intro (HKd.out.below hb5 HKd.out.lt)
        refine hK.out _ _ ⟨hS.1.below hb5 hS.1.lt, range_belowW hS.2 hb5 hbd.out⟩ (fun hS => ?_)
        clear hK K
        clear hb5 HKd hBd HMd
        rw [G0.out]
        refine wpAnyH_take (i := 6) (oi := { dst := some 34, op := _, type := _, pos := _, after := _, guard := none }) (v := .bool false) rfl (by kernel_rfl) (by kernel_rfl) (by kernel_rfl) (fun _ _ _ h => h) (Or.inl ⟨by rfl, ?_⟩) hS ?_
        · intro wy hy
          clear hy
          go_simp
        simp only [Act.put, List.setIfInBounds_toArray, List.set_cons_zero, List.set_cons_succ]
        refine wpAnyH_take (i := 7) (oi := { dst := some 35, op := _, type := _, pos := _, after := _, guard := none }) (v := .bool false) rfl (by kernel_rfl) (by kernel_rfl) (by kernel_rfl) (fun _ _ _ h => h) (Or.inl ⟨by rfl, ?_⟩) hS ?_
        · intro wy hy
          clear hy
          go_simp
        simp only [Act.put, List.setIfInBounds_toArray, List.set_cons_zero, List.set_cons_succ]
        refine wpAnyH_take (i := 8) (oi := { dst := some 36, op := _, type := _, pos := _, after := _, guard := some (7, false) }) (v := .int .i64 0) rfl (by kernel_rfl) (by kernel_rfl) (by kernel_rfl) (fun _ _ _ h => h) (Or.inl ⟨by rfl, ?_⟩) hS ?_
        · intro wy hy
          clear hy
          go_simp
        simp only [Act.put, List.setIfInBounds_toArray, List.set_cons_zero, List.set_cons_succ]
        refine wpAnyH_take (i := 9) (oi := { dst := some 37, op := _, type := _, pos := _, after := _, guard := some (7, false) }) (v := .bool false) rfl (by kernel_rfl) (by kernel_rfl) (by kernel_rfl) (fun _ _ _ h => h) (Or.inl ⟨by rfl, ?_⟩) hS ?_
        · intro wy hy
          clear hy
          go_simp
        simp only [Act.put, List.setIfInBounds_toArray, List.set_cons_zero, List.set_cons_succ]
        refine wpAnyH_take (i := 10) (oi := { dst := some 38, op := _, type := _, pos := _, after := _, guard := some (7, false) }) (v := .bool false) rfl (by kernel_rfl) (by kernel_rfl) (by kernel_rfl) (fun _ _ _ h => h) (Or.inl ⟨by rfl, ?_⟩) hS ?_
        · intro wy hy
          clear hy
          go_simp
        simp only [Act.put, List.setIfInBounds_toArray, List.set_cons_zero, List.set_cons_succ]
        refine wpAnyH_take (i := 11) (oi := { dst := some 39, op := _, type := _, pos := _, after := _, guard := some (10, true) }) (v := undef) rfl (by kernel_rfl) (by kernel_rfl) (by kernel_rfl) (fun _ _ _ h => h) (Or.inr ⟨by rfl, rfl⟩) hS ?_
        simp only [Act.put, List.setIfInBounds_toArray, List.set_cons_zero, List.set_cons_succ]
        refine wpAnyH_take (i := 12) (oi := { dst := some 40, op := _, type := _, pos := _, after := _, guard := some (10, true) }) (v := undef) rfl (by kernel_rfl) (by kernel_rfl) (by kernel_rfl) (fun _ _ _ h => h) (Or.inr ⟨by rfl, rfl⟩) hS ?_
        simp only [Act.put, List.setIfInBounds_toArray, List.set_cons_zero, List.set_cons_succ]
        refine wpAnyH_take (i := 13) (oi := { dst := some 41, op := _, type := _, pos := _, after := _, guard := some (10, true) }) (v := undef) rfl (by kernel_rfl) (by kernel_rfl) (by kernel_rfl) (fun _ _ _ h => h) (Or.inr ⟨by rfl, rfl⟩) hS ?_
        simp only [Act.put, List.setIfInBounds_toArray, List.set_cons_zero, List.set_cons_succ]
        refine wpAnyH_take (i := 14) (oi := { dst := some 42, op := _, type := _, pos := _, after := _, guard := some (10, true) }) (v := undef) rfl (by kernel_rfl) (by kernel_rfl) (by kernel_rfl) (fun _ _ _ h => h) (Or.inr ⟨by rfl, rfl⟩) hS ?_
        simp only [Act.put, List.setIfInBounds_toArray, List.set_cons_zero, List.set_cons_succ]
        refine wpAnyH_take (i := 15) (oi := { dst := some 43, op := _, type := _, pos := _, after := _, guard := some (10, true) }) (v := undef) rfl (by kernel_rfl) (by kernel_rfl) (by kernel_rfl) (fun _ _ _ h => h) (Or.inr ⟨by rfl, rfl⟩) hS ?_
        simp only [Act.put, List.setIfInBounds_toArray, List.set_cons_zero, List.set_cons_succ]
        refine wpAnyH_take (i := 16) (oi := { dst := some 44, op := _, type := _, pos := _, after := _, guard := some (10, true) }) (v := undef) rfl (by kernel_rfl) (by kernel_rfl) (by kernel_rfl) (fun _ _ _ h => h) (Or.inr ⟨by rfl, rfl⟩) hS ?_
        simp only [Act.put, List.setIfInBounds_toArray, List.set_cons_zero, List.set_cons_succ]
        refine wpAnyH_take (i := 17) (oi := { dst := some 45, op := _, type := _, pos := _, after := _, guard := some (10, true) }) (v := undef) rfl (by kernel_rfl) (by kernel_rfl) (by kernel_rfl) (fun _ _ _ h => h) (Or.inr ⟨by rfl, rfl⟩) hS ?_
        simp only [Act.put, List.setIfInBounds_toArray, List.set_cons_zero, List.set_cons_succ]
        refine wpAnyH_take (i := 18) (oi := { dst := some 46, op := _, type := _, pos := _, after := _, guard := some (10, true) }) (v := undef) rfl (by kernel_rfl) (by kernel_rfl) (by kernel_rfl) (fun _ _ _ h => h) (Or.inr ⟨by rfl, rfl⟩) hS ?_
        simp only [Act.put, List.setIfInBounds_toArray, List.set_cons_zero, List.set_cons_succ]
        refine wpAnyH_take (i := 19) (oi := { dst := some 47, op := _, type := _, pos := _, after := _, guard := some (10, true) }) (v := undef) rfl (by kernel_rfl) (by kernel_rfl) (by kernel_rfl) (fun _ _ _ h => h) (Or.inr ⟨by rfl, rfl⟩) hS ?_
        simp only [Act.put, List.setIfInBounds_toArray, List.set_cons_zero, List.set_cons_succ]
        refine wpAnyH_take (i := 20) (oi := { dst := some 48, op := _, type := _, pos := _, after := _, guard := some (10, true) }) (v := undef) rfl (by kernel_rfl) (by kernel_rfl) (by kernel_rfl) (fun _ _ _ h => h) (Or.inr ⟨by rfl, rfl⟩) hS ?_
        simp only [Act.put, List.setIfInBounds_toArray, List.set_cons_zero, List.set_cons_succ]
        refine wpAnyH_take (i := 21) (oi := { dst := some 49, op := _, type := _, pos := _, after := _, guard := some (10, true) }) (v := undef) rfl (by kernel_rfl) (by kernel_rfl) (by kernel_rfl) (fun _ _ _ h => h) (Or.inr ⟨by rfl, rfl⟩) hS ?_
        simp only [Act.put, List.setIfInBounds_toArray, List.set_cons_zero, List.set_cons_succ]
        refine wpAnyH_take (i := 22) (oi := { dst := some 50, op := _, type := _, pos := _, after := _, guard := some (10, true) }) (v := undef) rfl (by kernel_rfl) (by kernel_rfl) (by kernel_rfl) (fun _ _ _ h => h) (Or.inr ⟨by rfl, rfl⟩) hS ?_
        simp only [Act.put, List.setIfInBounds_toArray, List.set_cons_zero, List.set_cons_succ]
        refine wpAnyH_take (i := 23) (oi := { dst := some 51, op := _, type := _, pos := _, after := _, guard := some (10, true) }) (v := undef) rfl (by kernel_rfl) (by kernel_rfl) (by kernel_rfl) (fun _ _ _ h => h) (Or.inr ⟨by rfl, rfl⟩) hS ?_
        simp only [Act.put, List.setIfInBounds_toArray, List.set_cons_zero, List.set_cons_succ]
        refine wpAnyH_take (i := 24) (oi := { dst := some 52, op := _, type := _, pos := _, after := _, guard := some (10, true) }) (v := undef) rfl (by kernel_rfl) (by kernel_rfl) (by kernel_rfl) (fun _ _ _ h => h) (Or.inr ⟨by rfl, rfl⟩) hS ?_
        simp only [Act.put, List.setIfInBounds_toArray, List.set_cons_zero, List.set_cons_succ]
        refine wpAnyH_take (i := 25) (oi := { dst := some 53, op := _, type := _, pos := _, after := _, guard := some (7, false) }) (v := .bool false) rfl (by kernel_rfl) (by kernel_rfl) (by kernel_rfl) (fun _ _ _ h => h) (Or.inl ⟨by rfl, ?_⟩) hS ?_
        · intro wy hy
          clear hy
          go_simp
        simp only [Act.put, List.setIfInBounds_toArray, List.set_cons_zero, List.set_cons_succ]
        refine wpAnyH_take (i := 26) (oi := { dst := some 54, op := _, type := _, pos := _, after := _, guard := none }) (v := .bool false) rfl (by kernel_rfl) (by kernel_rfl) (by kernel_rfl) (fun _ _ _ h => h) (Or.inl ⟨by rfl, ?_⟩) hS ?_
        · intro wy hy
          clear hy
          go_simp
        simp only [Act.put, List.setIfInBounds_toArray, List.set_cons_zero, List.set_cons_succ]
        refine wpAnyH_done (by kernel_rfl) ?_ _
        clear hS
        go_wp2_with fail
        go_roundw
        case rel => exact ⟨1, by omega, by go_num, HN2, rfl, HK5, hB5⟩
        case measure => simp [intOf]; omega
      · obtain ⟨z, hz⟩ : ∃ z, x.mates[m]? = some z := ⟨x.mates[m], List.getElem?_eq_getElem (by omega)⟩
        obtain ⟨b', o', e', _, _, hcz⟩ := (HI.out.s3.below MteC.holds hB (Nat.le_refl _)).at hz
        cases e'
        obtain ⟨_, _, _, _, _, _, _, _, hz0, _⟩ := hcz
        simp only [Nat.add_zero] at hz0
        have HZ : Hid (wr.drew.cell? ⟨b, o + m * 9, none⟩ = some (.string z.name)) := hz0
        have HA : Hid (ascAt (x.mates.map (·.name)) (m + 1) = Op.bytesLess z.name.toList y.name.toList) := ascAt_at (by rw [List.getElem?_map, hz]; rfl) (by rw [List.getElem?_map, hy]; rfl)
        generalize hq : Op.bytesLess z.name.toList y.name.toList = Q at HA
        have HQ : Hid (Op.bytesLess z.name.toList y.name.toList = Q) := hq
        clear hq hy hz hz0
        have j0 : (0 : Int) ≤ (m : Int) := by omega
        have j1 : (m : Int) < (x.mates.length : Int) := by omega
        go_upto_region 6 with fail
        clear k3
        refine wp_region_held_drew (S := fun wy => Blk w.heap.size #[.int .i64 x.land.time, .slice a1 x.land.grants.length c1, .slice a2 x.land.places.length c2, .slice (some ⟨b, o, none⟩) x.mates.length c3, .slice a4 x.flight.length c4] 30 wy ∧ wy.rangeAt b (o + (m + 1) * 9) [.string y.name, .bool y.up, .int .i64 y.clock, .bool y.known, .int .i64 y.seen, .slice p5 y.wants.length q5, .slice p6 y.runs.length q6, .slice p7 y.asks.length q7, .slice p8 y.gives.length q8] ∧ wy.cell? ⟨b, o + m * 9, none⟩ = some (.string z.name)) (by kernel_rfl) ⟨HK.out.drew, HRA.out, HZ.out⟩ (fun hS => ?_)
        have hBd : Below w.heap.size w wr.drew := hB.drew
        have HMd := Hid.intro (HMS.out.below ((Below.refl wr.heap.size wr).drew) (Nat.le_refl _))
        have HKd : Hid (Blk w.heap.size #[.int .i64 x.land.time, .slice a1 x.land.grants.length c1, .slice a2 x.land.places.length c2, .slice (some ⟨b, o, none⟩) x.mates.length c3, .slice a4 x.flight.length c4] 30 wr.drew) := HK.out.drew
        have hbd := Hid.intro (show b < wr.drew.heap.size from hbl)
        clear HK hB HMS HRA HZ hbl
        generalize wr.drew = wd at *
        refine wpAnyH_take (i := 0) (oi := { dst := some 28, op := _, type := _, pos := _, after := _, guard := none }) (v := .pointer (some ⟨w.heap.size, 3, none⟩)) rfl (by kernel_rfl) (by kernel_rfl) (by kernel_rfl) (fun _ _ _ h => h) (Or.inl ⟨by rfl, ?_⟩) hS ?_
        · intro wy hy
          clear hy
          go_simp
        simp only [Act.put, List.setIfInBounds_toArray, List.set_cons_zero, List.set_cons_succ]
        refine wpAnyH_take (i := 1) (oi := { dst := some 29, op := _, type := _, pos := _, after := _, guard := none }) (v := .slice (some ⟨b, o, none⟩) x.mates.length c3) rfl (by kernel_rfl) (by kernel_rfl) (by kernel_rfl) (fun _ _ _ h => h) (Or.inl ⟨by rfl, ?_⟩) hS ?_
        · intro wy hy
          have h0 : wy.cell? ⟨w.heap.size, 3, none⟩ = some (.slice (some ⟨b, o, none⟩) x.mates.length c3) := hy.1.cell rfl
          clear hy
          go_simp
        simp only [Act.put, List.setIfInBounds_toArray, List.set_cons_zero, List.set_cons_succ]
        refine wpAnyH_take (i := 2) (oi := { dst := some 30, op := _, type := _, pos := _, after := _, guard := none }) (v := .int .i64 ((m + 1 : Nat) : Int)) rfl (by kernel_rfl) (by kernel_rfl) (by kernel_rfl) (fun _ _ _ h => h) (Or.inl ⟨by rfl, ?_⟩) hS ?_
        · intro wy hy
          clear hy
          go_simp
        simp only [Act.put, List.setIfInBounds_toArray, List.set_cons_zero, List.set_cons_succ]
        refine wpAnyH_take (i := 3) (oi := { dst := some 31, op := _, type := _, pos := _, after := _, guard := none }) (v := .pointer (some ⟨b, o + (m + 1) * 9, none⟩)) rfl (by kernel_rfl) (by kernel_rfl) (by kernel_rfl) (fun _ _ _ h => h) (Or.inl ⟨by rfl, ?_⟩) hS ?_
        · intro wy hy
          clear hy
          first | (go_simp; done) | (go_simp; intro hh; omega) | (go_simp; omega)
        simp only [Act.put, List.setIfInBounds_toArray, List.set_cons_zero, List.set_cons_succ]
        refine wpAnyH_take (i := 4) (oi := { dst := some 32, op := _, type := _, pos := _, after := _, guard := none }) (v := .agg #[.string y.name, .bool y.up, .int .i64 y.clock, .bool y.known, .int .i64 y.seen, .slice p5 y.wants.length q5, .slice p6 y.runs.length q6, .slice p7 y.asks.length q7, .slice p8 y.gives.length q8]) rfl (by kernel_rfl) (by kernel_rfl) (by kernel_rfl) (fun _ _ _ h => h) (yieldsIf_load_mid (by rfl) _ _ rfl b (o + (m + 1) * 9) rfl [.string y.name, .bool y.up, .int .i64 y.clock, .bool y.known, .int .i64 y.seen, .slice p5 y.wants.length q5, .slice p6 y.runs.length q6, .slice p7 y.asks.length q7, .slice p8 y.gives.length q8] _ (fun _ h => h.2.1) Tryz.underlying41 rfl isz_Mte) hS ?_
        simp only [Act.put, List.setIfInBounds_toArray, List.set_cons_zero, List.set_cons_succ]
        refine wpAnyH_ready (rs := [5]) (by kernel_rfl) (by simp) (AllReadyH.cons (o := { dst := some 33, op := _, type := _, pos := _, after := _, guard := none }) rfl (fun K hK => ?_) AllReadyH.nil)
        go_simp
        refine (specValid_any y p5 q5 p6 q6 p7 q7 p8 q8 lo _ HMd.out).mono ?_
        rintro e w5 ⟨rfl, hb5⟩
        have hB5 := hBd.trans (hb5.mono hBd.size)
        have HK5 := Hid.intro (HKd.out.below hb5 HKd.out.lt)
        refine hK.out _ _ ⟨hS.1.below hb5 hS.1.lt, range_belowW hS.2.1 hb5 hbd.out, (hb5.cell (p := ⟨b, o + m * 9, none⟩) hbd.out).trans hS.2.2⟩ (fun hS => ?_)
        clear hK K
        clear hb5 HKd hBd HMd
        rw [G0.out]
        refine wpAnyH_take (i := 6) (oi := { dst := some 34, op := _, type := _, pos := _, after := _, guard := none }) (v := .bool false) rfl (by kernel_rfl) (by kernel_rfl) (by kernel_rfl) (fun _ _ _ h => h) (Or.inl ⟨by rfl, ?_⟩) hS ?_
        · intro wy hy
          clear hy
          go_simp
        simp only [Act.put, List.setIfInBounds_toArray, List.set_cons_zero, List.set_cons_succ]
        refine wpAnyH_take (i := 7) (oi := { dst := some 35, op := _, type := _, pos := _, after := _, guard := none }) (v := .bool false) rfl (by kernel_rfl) (by kernel_rfl) (by kernel_rfl) (fun _ _ _ h => h) (Or.inl ⟨by rfl, ?_⟩) hS ?_
        · intro wy hy
          clear hy
          go_simp
        simp only [Act.put, List.setIfInBounds_toArray, List.set_cons_zero, List.set_cons_succ]
        refine wpAnyH_take (i := 8) (oi := { dst := some 36, op := _, type := _, pos := _, after := _, guard := some (7, false) }) (v := .int .i64 ((m + 1 : Nat) : Int)) rfl (by kernel_rfl) (by kernel_rfl) (by kernel_rfl) (fun _ _ _ h => h) (Or.inl ⟨by rfl, ?_⟩) hS ?_
        · intro wy hy
          clear hy
          go_simp
        simp only [Act.put, List.setIfInBounds_toArray, List.set_cons_zero, List.set_cons_succ]
        refine wpAnyH_take (i := 9) (oi := { dst := some 37, op := _, type := _, pos := _, after := _, guard := some (7, false) }) (v := .bool true) rfl (by kernel_rfl) (by kernel_rfl) (by kernel_rfl) (fun _ _ _ h => h) (Or.inl ⟨by rfl, ?_⟩) hS ?_
        · intro wy hy
          clear hy
          go_simp
        simp only [Act.put, List.setIfInBounds_toArray, List.set_cons_zero, List.set_cons_succ]
        refine wpAnyH_take (i := 10) (oi := { dst := some 38, op := _, type := _, pos := _, after := _, guard := some (7, false) }) (v := .bool true) rfl (by kernel_rfl) (by kernel_rfl) (by kernel_rfl) (fun _ _ _ h => h) (Or.inl ⟨by rfl, ?_⟩) hS ?_
        · intro wy hy
          clear hy
          go_simp
        simp only [Act.put, List.setIfInBounds_toArray, List.set_cons_zero, List.set_cons_succ]
        refine wpAnyH_take (i := 11) (oi := { dst := some 39, op := _, type := _, pos := _, after := _, guard := some (10, true) }) (v := .pointer (some ⟨w.heap.size, 3, none⟩)) rfl (by kernel_rfl) (by kernel_rfl) (by kernel_rfl) (fun _ _ _ h => h) (Or.inl ⟨by rfl, ?_⟩) hS ?_
        · intro wy hy
          clear hy
          go_simp
        simp only [Act.put, List.setIfInBounds_toArray, List.set_cons_zero, List.set_cons_succ]
        refine wpAnyH_take (i := 12) (oi := { dst := some 40, op := _, type := _, pos := _, after := _, guard := some (10, true) }) (v := .slice (some ⟨b, o, none⟩) x.mates.length c3) rfl (by kernel_rfl) (by kernel_rfl) (by kernel_rfl) (fun _ _ _ h => h) (Or.inl ⟨by rfl, ?_⟩) hS ?_
        · intro wy hy
          have h0 : wy.cell? ⟨w.heap.size, 3, none⟩ = some (.slice (some ⟨b, o, none⟩) x.mates.length c3) := hy.1.cell rfl
          clear hy
          go_simp
        simp only [Act.put, List.setIfInBounds_toArray, List.set_cons_zero, List.set_cons_succ]
        refine wpAnyH_take (i := 13) (oi := { dst := some 41, op := _, type := _, pos := _, after := _, guard := some (10, true) }) (v := .int .i64 ((m + 1 : Nat) : Int)) rfl (by kernel_rfl) (by kernel_rfl) (by kernel_rfl) (fun _ _ _ h => h) (Or.inl ⟨by rfl, ?_⟩) hS ?_
        · intro wy hy
          clear hy
          go_simp
        simp only [Act.put, List.setIfInBounds_toArray, List.set_cons_zero, List.set_cons_succ]
        refine wpAnyH_take (i := 14) (oi := { dst := some 42, op := _, type := _, pos := _, after := _, guard := some (10, true) }) (v := .int .i64 (m : Int)) rfl (by kernel_rfl) (by kernel_rfl) (by kernel_rfl) (fun _ _ _ h => h) (Or.inl ⟨by rfl, ?_⟩) hS ?_
        · intro wy hy
          clear hy
          go_simp; rw [IntKind.wrap_i64]; omega
        simp only [Act.put, List.setIfInBounds_toArray, List.set_cons_zero, List.set_cons_succ]
        refine wpAnyH_take (i := 15) (oi := { dst := some 43, op := _, type := _, pos := _, after := _, guard := some (10, true) }) (v := .pointer (some ⟨b, o + m * 9, none⟩)) rfl (by kernel_rfl) (by kernel_rfl) (by kernel_rfl) (fun _ _ _ h => h) (Or.inl ⟨by rfl, ?_⟩) hS ?_
        · intro wy hy
          clear hy
          first | (go_simp; done) | (go_simp; intro hh; omega)
        simp only [Act.put, List.setIfInBounds_toArray, List.set_cons_zero, List.set_cons_succ]
        refine wpAnyH_take (i := 16) (oi := { dst := some 44, op := _, type := _, pos := _, after := _, guard := some (10, true) }) (v := .pointer (some ⟨b, o + m * 9, none⟩)) rfl (by kernel_rfl) (by kernel_rfl) (by kernel_rfl) (fun _ _ _ h => h) (Or.inl ⟨by rfl, ?_⟩) hS ?_
        · intro wy hy
          clear hy
          go_simp
        simp only [Act.put, List.setIfInBounds_toArray, List.set_cons_zero, List.set_cons_succ]
        refine wpAnyH_take (i := 17) (oi := { dst := some 45, op := _, type := _, pos := _, after := _, guard := some (10, true) }) (v := .string z.name) rfl (by kernel_rfl) (by kernel_rfl) (by kernel_rfl) (fun _ _ _ h => h) (Or.inl ⟨by rfl, ?_⟩) hS ?_
        · intro wy hy
          have h0 := hy.2.2
          clear hy
          go_simp
        simp only [Act.put, List.setIfInBounds_toArray, List.set_cons_zero, List.set_cons_succ]
        refine wpAnyH_take (i := 18) (oi := { dst := some 46, op := _, type := _, pos := _, after := _, guard := some (10, true) }) (v := .pointer (some ⟨w.heap.size, 3, none⟩)) rfl (by kernel_rfl) (by kernel_rfl) (by kernel_rfl) (fun _ _ _ h => h) (Or.inl ⟨by rfl, ?_⟩) hS ?_
        · intro wy hy
          clear hy
          go_simp
        simp only [Act.put, List.setIfInBounds_toArray, List.set_cons_zero, List.set_cons_succ]
        refine wpAnyH_take (i := 19) (oi := { dst := some 47, op := _, type := _, pos := _, after := _, guard := some (10, true) }) (v := .slice (some ⟨b, o, none⟩) x.mates.length c3) rfl (by kernel_rfl) (by kernel_rfl) (by kernel_rfl) (fun _ _ _ h => h) (Or.inl ⟨by rfl, ?_⟩) hS ?_
        · intro wy hy
          have h0 : wy.cell? ⟨w.heap.size, 3, none⟩ = some (.slice (some ⟨b, o, none⟩) x.mates.length c3) := hy.1.cell rfl
          clear hy
          go_simp
        simp only [Act.put, List.setIfInBounds_toArray, List.set_cons_zero, List.set_cons_succ]
        refine wpAnyH_take (i := 20) (oi := { dst := some 48, op := _, type := _, pos := _, after := _, guard := some (10, true) }) (v := .int .i64 ((m + 1 : Nat) : Int)) rfl (by kernel_rfl) (by kernel_rfl) (by kernel_rfl) (fun _ _ _ h => h) (Or.inl ⟨by rfl, ?_⟩) hS ?_
        · intro wy hy
          clear hy
          go_simp
        simp only [Act.put, List.setIfInBounds_toArray, List.set_cons_zero, List.set_cons_succ]
        refine wpAnyH_take (i := 21) (oi := { dst := some 49, op := _, type := _, pos := _, after := _, guard := some (10, true) }) (v := .pointer (some ⟨b, o + (m + 1) * 9, none⟩)) rfl (by kernel_rfl) (by kernel_rfl) (by kernel_rfl) (fun _ _ _ h => h) (Or.inl ⟨by rfl, ?_⟩) hS ?_
        · intro wy hy
          clear hy
          first | (go_simp; done) | (go_simp; intro hh; omega)
        simp only [Act.put, List.setIfInBounds_toArray, List.set_cons_zero, List.set_cons_succ]
        refine wpAnyH_take (i := 22) (oi := { dst := some 50, op := _, type := _, pos := _, after := _, guard := some (10, true) }) (v := .pointer (some ⟨b, o + (m + 1) * 9, none⟩)) rfl (by kernel_rfl) (by kernel_rfl) (by kernel_rfl) (fun _ _ _ h => h) (Or.inl ⟨by rfl, ?_⟩) hS ?_
        · intro wy hy
          clear hy
          go_simp
        simp only [Act.put, List.setIfInBounds_toArray, List.set_cons_zero, List.set_cons_succ]
        refine wpAnyH_take (i := 23) (oi := { dst := some 51, op := _, type := _, pos := _, after := _, guard := some (10, true) }) (v := .string y.name) rfl (by kernel_rfl) (by kernel_rfl) (by kernel_rfl) (fun _ _ _ h => h) (Or.inl ⟨by rfl, ?_⟩) hS ?_
        · intro wy hy
          have h0 : wy.cell? ⟨b, o + (m + 1) * 9, none⟩ = some (.string y.name) := by simpa using hy.2.1 0 _ rfl
          clear hy
          go_simp
        simp only [Act.put, List.setIfInBounds_toArray, List.set_cons_zero, List.set_cons_succ]
        refine wpAnyH_take (i := 24) (oi := { dst := some 52, op := _, type := _, pos := _, after := _, guard := some (10, true) }) (v := .bool (!Q)) rfl (by kernel_rfl) (by kernel_rfl) (by kernel_rfl) (fun _ _ _ h => h) (Or.inl ⟨by rfl, ?_⟩) hS ?_
        · intro wy hy
          clear hy
          go_simp; rw [HQ.out]
        simp only [Act.put, List.setIfInBounds_toArray, List.set_cons_zero, List.set_cons_succ]
        refine wpAnyH_take (i := 25) (oi := { dst := some 53, op := _, type := _, pos := _, after := _, guard := some (7, false) }) (v := .bool (!Q)) rfl (by kernel_rfl) (by kernel_rfl) (by kernel_rfl) (fun _ _ _ h => h) (Or.inl ⟨by rfl, ?_⟩) hS ?_
        · intro wy hy
          clear hy
          go_simp
        simp only [Act.put, List.setIfInBounds_toArray, List.set_cons_zero, List.set_cons_succ]
        refine wpAnyH_take (i := 26) (oi := { dst := some 54, op := _, type := _, pos := _, after := _, guard := none }) (v := .bool (!Q)) rfl (by kernel_rfl) (by kernel_rfl) (by kernel_rfl) (fun _ _ _ h => h) (Or.inl ⟨by rfl, ?_⟩) hS ?_
        · intro wy hy
          clear hy
          go_simp
        simp only [Act.put, List.setIfInBounds_toArray, List.set_cons_zero, List.set_cons_succ]
        refine wpAnyH_done (by kernel_rfl) ?_ _
        clear hS
        cases Q with
        | false =>
          have HE2 : Hid (woB x = false) := by show _ = _; rw [HE.out]; exact msB_asc hlt HA.out
          go_wp2_with fail
          go_ret
          exact ⟨ret_bool HE2.out.symm, hB5⟩
        | true =>
          have HA2 : Hid (ascTo (x.mates.map (·.name)) (m + 1 + 1) = true) := by show _ = _; rw [ascTo, hA.out, HA.out]; rfl
          go_wp2_with fail
          go_roundw
          case rel => exact ⟨m + 1 + 1, by omega, by go_num, HN2, HA2, HK5, hB5⟩
          case measure => simp [intOf]; omega

end Go.Proofs.YtebcocejgenadaaGreat
