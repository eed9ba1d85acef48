/-
  A world that is settled, by the program. Made by mkse2.py.
-/
import Derived.Test.YtlcjfiikiblcdaaGreatSe1
import Derived.Test.YtlcjfiikiblcdaaGreatPby
import Derived.Test.YtlcjfiikiblcdaaGreatWo2
namespace Go.Proofs.YtlcjfiikiblcdaaGreat
open Go.RowKit Go.WideMaps Go.Maps

set_option maxHeartbeats 16000000 in
set_option maxRecDepth 100000 in
theorem implSettled_any (x : Wrl) (a1 : Option Addr) (c1 : Nat) (a2 : Option Addr) (c2 : Nat) (a3 : Option Addr) (c3 : Nat) (a4 : Option Addr) (c4 : Nat) (lo : Nat) (w : World) (hin : WSl x lo a1 a2 a3 a4 w) :
    Calls Tryz.prog 23 #[.agg #[.int .i64 x.land.time, .slice a1 x.land.grants.length c1, .slice a2 x.land.places.length c2, .slice a3 x.mates.length c3, .slice a4 x.flight.length c4]] w fun e w' => e = .returned (.bool (seB x)) ∧ Below w.heap.size w w' := by
  have HI := Hid.intro hin
  clear hin
  have HK1 : Hid (Blk w.heap.size #[.int .i64 x.land.time, .slice a1 x.land.grants.length c1, .slice a2 x.land.places.length c2, .slice a3 x.mates.length c3, .slice a4 x.flight.length c4] 30 (w.alloc (Obj.cells #[.int .i64 x.land.time, .slice a1 x.land.grants.length c1, .slice a2 x.land.places.length c2, .slice a3 x.mates.length c3, .slice a4 x.flight.length c4] 30))) := Blk.alloc _ _ _
  have hB1 : Below w.heap.size w (w.alloc (Obj.cells #[.int .i64 x.land.time, .slice a1 x.land.grants.length c1, .slice a2 x.land.places.length c2, .slice a3 x.mates.length c3, .slice a4 x.flight.length c4] 30)) := (Below.refl _ w).alloc (Nat.le_refl _) _
  go_enter Tryz.func23, Tryz.ntmps23
  go_upto_region 1 with fail
  generalize w.alloc (Obj.cells #[.int .i64 x.land.time, .slice a1 x.land.grants.length c1, .slice a2 x.land.places.length c2, .slice a3 x.mates.length c3, .slice a4 x.flight.length c4] 30) = w1 at *
  go_wp2_with (refine wpList_load_mid rfl 30 _ rfl w.heap.size 0 (by first | rfl | (simp [go_sem]; done)) [.int .i64 x.land.time, .slice a1 x.land.grants.length c1, .slice a2 x.land.places.length c2, .slice a3 x.mates.length c3, .slice a4 x.flight.length c4] _ HK1.out.rangeA Tryz.underlying30 rfl isz_Wrl ?_)
  refine (implWorldOk_any x a1 c1 a2 c2 a3 c3 a4 c4 lo _ (HI.out.below hB1 (Nat.le_refl _))).mono ?_
  rintro e w2 ⟨rfl, hb2⟩
  have HK2 := Hid.intro (HK1.out.below hb2 HK1.out.lt)
  have hB2 := hB1.trans (hb2.mono hB1.size)
  clear hb2 HK1 hB1
  cases g0 : woB x with
  | false =>
    have HE : Hid (seB x = false) := by show _ = _; unfold seB; rw [g0]; rfl
    clear g0
    go_wp2_with fail
    go_ret
    exact ⟨ret_bool HE.out.symm, hB2⟩
  | true =>
  have HE : Hid (seB x = x.mates.all (stB x.land.places)) := by show _ = _; unfold seB; rw [g0]; rfl
  have HFW := Hid.intro (ok_few g0)
  have hm4 := HFW.out.1
  clear g0
  obtain ⟨vs, hvs⟩ := plv_of HI.out.sl.s2
  obtain ⟨vs2, hvs2⟩ := plv_of (HI.out.sl.s2.below PlmC.holds hB2 (Nat.le_refl _))
  clear hvs vs
  have HVS := Hid.intro hvs2
  clear hvs2
  have k2 : w2.cell? ⟨w.heap.size, 2, none⟩ = some (.slice a2 x.land.places.length c2) := HK2.out.cell rfl
  go_wp2_with fail
  refine (byNameP_any x.land.places vs2 a2 c2 lo _ HVS.out HI.out.sl.l2).mono ?_
  rintro e w3 ⟨m, n, rfl, hmg, hn, hmp, hb3⟩
  have HMP := Hid.intro hmp
  have HK3 := Hid.intro (HK2.out.below hb3 HK2.out.lt)
  have hB3 := hB2.trans (hb3.mono hB2.size)
  have HB23 := Hid.intro hb3
  clear hb3 HK2 hB2 k2 hmp hmg hn
  have k3 : w3.cell? ⟨w.heap.size, 3, none⟩ = some (.slice a3 x.mates.length c3) := HK3.out.cell rfl
  go_wp2_with fail
  go_loopw [16] (fun i wr => ∃ k : Nat, k ≤ x.mates.length ∧ i = .int .i64 k ∧ Hid (∀ (j : Nat) y, j < k → x.mates[j]? = some y → stB x.land.places y = true) ∧ Hid (wr.ownsMap Tryz.prog 9 anyElem m n (mTo vs2 x.land.places.length)) ∧ Hid (Below w2.heap.size w2 wr) ∧ Below w.heap.size w wr) (fun i _ => x.mates.length - (intOf i).toNat)
  case atStart => exact ⟨0, Nat.zero_le _, rfl, fun j q h => by omega, HMP, HB23, hB3⟩
  case round =>
    clear HK3 hB3 k3 HMP HB23
    obtain ⟨k, hk, rfl, hN, HMP, HB2, hB⟩ := hrel
    by_cases hlt : k < x.mates.length
    case neg =>
      have hke : k = x.mates.length := by omega
      subst hke
      have HE2 := Hid.intro (se_yes HE.out hN.out)
      go_wp2_with fail
      go_ret
      exact ⟨ret_bool HE2.out.symm, hB⟩
    obtain ⟨y, hy⟩ : ∃ y, x.mates[k]? = some y := ⟨x.mates[k], List.getElem?_eq_getElem hlt⟩
    obtain ⟨b, o, e1, _, hbl, hc⟩ := (HI.out.s3.below MteC.holds hB (Nat.le_refl _)).at hy
    subst e1
    obtain ⟨p5, q5, p6, q6, p7, q7, p8, q8, hra, hms⟩ := mte_at hc (HI.out.em k y hy)
    have HRA := Hid.intro hra
    have HMS := Hid.intro hms
    have HYY := Hid.intro hy
    clear hy hc hra hms hbl
    have hb4 : Below wr.heap.size wr (wr.alloc (Obj.cells #[.string y.name, .bool y.up, .int .i64 y.clock, .bool y.known, .int .i64 y.seen, .slice p5 y.wants.length q5, .slice p6 y.runs.length q6, .slice p7 y.asks.length q7, .slice p8 y.gives.length q8] 52)) := (Below.refl _ _).alloc (Nat.le_refl _) _
    have HG4 : Hid (Blk wr.heap.size #[.string y.name, .bool y.up, .int .i64 y.clock, .bool y.known, .int .i64 y.seen, .slice p5 y.wants.length q5, .slice p6 y.runs.length q6, .slice p7 y.asks.length q7, .slice p8 y.gives.length q8] 52 (wr.alloc (Obj.cells #[.string y.name, .bool y.up, .int .i64 y.clock, .bool y.known, .int .i64 y.seen, .slice p5 y.wants.length q5, .slice p6 y.runs.length q6, .slice p7 y.asks.length q7, .slice p8 y.gives.length q8] 52))) := Blk.alloc _ _ _
    have HM4 := Hid.intro (ownsMap_below HMP.out hb4 HMP.out.lt)
    have HB4 := Hid.intro (HB2.out.trans (hb4.mono HB2.out.size))
    have hB4 := hB.trans (hb4.mono hB.size)
    replace HMS := Hid.intro (HMS.out.below hb4 (Nat.le_refl _))
    clear HMP HB2 hB hb4
    go_upto_region 7 with (refine wpList_load_mid rfl 52 _ rfl b (o + k * 9) (by first | rfl | (simp [go_sem]; done)) [.string y.name, .bool y.up, .int .i64 y.clock, .bool y.known, .int .i64 y.seen, .slice p5 y.wants.length q5, .slice p6 y.runs.length q6, .slice p7 y.asks.length q7, .slice p8 y.gives.length q8] _ HRA.out Tryz.underlying52 rfl isz_Mte ?_)
    clear HRA
    generalize wr.alloc (Obj.cells #[.string y.name, .bool y.up, .int .i64 y.clock, .bool y.known, .int .i64 y.seen, .slice p5 y.wants.length q5, .slice p6 y.runs.length q6, .slice p7 y.asks.length q7, .slice p8 y.gives.length q8] 52) = w4 at *
    generalize wr.heap.size = qb at *
    have d0 : w4.cell? ⟨qb, 0, none⟩ = some (.string y.name) := HG4.out.cell rfl
    have d1 : w4.cell? ⟨qb, 1, none⟩ = some (.bool y.up) := HG4.out.cell rfl
    have d6 : w4.cell? ⟨qb, 6, none⟩ = some (.slice p6 y.runs.length q6) := HG4.out.cell rfl
    cases hu : y.up with
    | false =>
      have HE2 : Hid (seB x = false) := se_no HE.out HYY.out (by unfold stB; rw [hu]; rfl)
      rw [hu] at d1
      clear hu
      go_wp2_with fail
      go_ret
      exact ⟨ret_bool HE2.out.symm, hB4⟩
    | true =>
    obtain ⟨u, t, p2, q2, hft, hws⟩ := found_to HVS.out y.name x.land.places.length (Nat.le_refl _)
    have hlk := look_place HM4.out HMS.out.nm
    rw [hft] at hlk
    have HWS := Hid.intro (hws.below WntC.holds HB4.out (Nat.le_refl _))
    have HSE : Hid (stB x.land.places y = rdL y.runs (wTo x.land.places y.name x.land.places.length)) := by show _ = _; unfold stB; rw [hu]; rfl
    rw [hu] at d1
    clear hft hws hu
    generalize wTo x.land.places y.name x.land.places.length = W at *
    have hfd : ∀ w : World, (Instr.field 79 (.agg #[.string u, .int .i64 t, .slice p2 W.length q2]) 2).run Tryz.prog w = .ok (.slice p2 W.length q2) w := fun _ => by kernel_rfl
    go_wp2_with fail
    clear hlk hfd d0 d1 d6
    refine (eqFunc_any y.runs W p6 q6 p2 q2 lo lo _ HMS.out.s6 HWS.out HMS.out.l6).mono ?_
    rintro e w5 ⟨rfl, hb5⟩
    have hB5 := hB4.trans (hb5.mono hB4.size)
    have HM5 := Hid.intro (ownsMap_below HM4.out hb5 HM4.out.lt)
    have HB5 := Hid.intro (HB4.out.trans (hb5.mono HB4.out.size))
    clear hb5 hB4 HM4 HB4 HG4 HMS HWS
    cases hq : rdL y.runs W with
    | false =>
      have HE2 : Hid (seB x = false) := se_no HE.out HYY.out (HSE.out.trans hq)
      clear hq
      go_wp2_with fail
      go_ret
      exact ⟨ret_bool HE2.out.symm, hB5⟩
    | true =>
    have HST := Hid.intro (HSE.out.trans hq)
    clear hq
    have HN2 : Hid (∀ (j : Nat) z, j < k + 1 → x.mates[j]? = some z → stB x.land.places z = true) := fun j z hj hz => by
      by_cases e : j = k
      · subst e
        have := HYY.out.symm.trans hz
        cases this
        exact HST.out
      · exact hN.out j z (by omega) hz
    go_wp2_with fail
    go_roundw
    case rel => exact ⟨k + 1, by omega, by go_num, HN2, HM5, HB5, hB5⟩
    case measure => simp [intOf]; omega

end Go.Proofs.YtlcjfiikiblcdaaGreat
