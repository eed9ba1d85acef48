/-
  The program's checks of a book: places. Made by mklk1.py.
-/
import Derived.Test.YtebcocejgenadaaGreatLk1
namespace Go.Proofs.YtebcocejgenadaaGreat
open Go.RowKit

set_option maxHeartbeats 8000000 in
set_option maxRecDepth 100000 in
theorem places_any (x : Lnd) (a1 : Option Addr) (c1 : Nat) (a2 : Option Addr) (c2 : Nat) (lo : Nat) (w : World) (hin : LSl x lo a1 a2 w) :
    Calls Tryz.prog 101 #[.agg #[.int .i64 x.time, .slice a1 x.grants.length c1, .slice a2 x.places.length c2]] w fun e w' => e = .returned (.bool (psB x.places)) ∧ Below w.heap.size w w' := by
  have HI := Hid.intro hin
  clear hin
  have HK1 : Hid (Blk w.heap.size #[.int .i64 x.time, .slice a1 x.grants.length c1, .slice a2 x.places.length c2] 27 (w.alloc (Obj.cells #[.int .i64 x.time, .slice a1 x.grants.length c1, .slice a2 x.places.length c2] 27))) := Blk.alloc _ _ _
  have hB1 : Below w.heap.size w (w.alloc (Obj.cells #[.int .i64 x.time, .slice a1 x.grants.length c1, .slice a2 x.places.length c2] 27)) := (Below.refl _ w).alloc (Nat.le_refl _) _
  go_enter Tryz.func101, Tryz.ntmps101
  go_upto_region 1 with fail
  generalize w.alloc (Obj.cells #[.int .i64 x.time, .slice a1 x.grants.length c1, .slice a2 x.places.length c2] 27) = w1 at *
  have k2 : w1.cell? ⟨w.heap.size, 2, none⟩ = some (.slice a2 x.places.length c2) := HK1.out.cell rfl
  by_cases hl : x.places.length ≤ 4
  case neg =>
    have hl' : (4 : Int) < x.places.length := by omega
    have HE : Hid (psB x.places = false) := by show _ = _; unfold psB; rw [decide_eq_false hl]; rfl
    clear hl
    go_wp2_with fail
    go_ret
    exact ⟨ret_bool HE.out.symm, hB1⟩
  have hl' : (x.places.length : Int) ≤ 4 := by omega
  go_wp2_with fail
  refine (ascPlm_any x.places a2 c2 lo _ (HI.out.s2.below PlmC.holds hB1 (Nat.le_refl _)) HI.out.l2).mono ?_
  rintro e w2 ⟨rfl, hb2⟩
  have HK2 := Hid.intro (HK1.out.below hb2 HK1.out.lt)
  have hB2 := hB1.trans (hb2.mono hB1.size)
  clear hb2 HK1 hB1 k2
  have k2 : w2.cell? ⟨w.heap.size, 2, none⟩ = some (.slice a2 x.places.length c2) := HK2.out.cell rfl
  cases hasc : ascTo (x.places.map (·.berth)) x.places.length with
  | false =>
    have HE : Hid (psB x.places = false) := by show _ = _; unfold psB; rw [hasc]; simp
    go_wp2_with fail
    go_ret
    exact ⟨ret_bool HE.out.symm, hB2⟩
  | true =>
    have HASC := Hid.intro hasc
    clear hasc
    go_wp2_with fail
    go_loopw [18] (fun i wr => ∃ k : Nat, k ≤ x.places.length ∧ i = .int .i64 k ∧ Hid (∀ (j : Nat) y, j < k → x.places[j]? = some y → plB y = true) ∧ Below w.heap.size w wr) (fun i _ => x.places.length - (intOf i).toNat)
    case atStart => exact ⟨0, Nat.zero_le _, rfl, fun j q h => by omega, hB2⟩
    case round =>
      clear HK2 hB2 k2
      obtain ⟨k, hk, rfl, hN, hB⟩ := hrel
      by_cases hlt : k < x.places.length
      case neg =>
        have hke : k = x.places.length := by omega
        subst hke
        have HE := Hid.intro (psB_yes hl HASC.out hN.out)
        go_wp2_with fail
        go_ret
        exact ⟨ret_bool HE.out.symm, hB⟩
      obtain ⟨y, hy⟩ : ∃ y, x.places[k]? = some y := ⟨x.places[k], List.getElem?_eq_getElem hlt⟩
      obtain ⟨b, o, e1, _, hbl, hc⟩ := (HI.out.s2.below PlmC.holds hB (Nat.le_refl _)).at hy
      subst e1
      obtain ⟨p2, q2, hc⟩ := hc
      have HRA := Hid.intro (plm_range hc)
      obtain ⟨_, _, _, z0, n2⟩ := hc
      have Z0 := Hid.intro z0
      have N2 := Hid.intro n2
      have HWL := Hid.intro (wants_le hy HI.out.l3)
      have HXX := Hid.intro hy
      clear z0 n2 hy
      have hb4 : Below wr.heap.size wr (wr.alloc (Obj.cells #[.string y.berth, .int .i64 y.seen, .slice p2 y.wants.length q2] 89)) := (Below.refl _ _).alloc (Nat.le_refl _) _
      have HG4 : Hid (Blk wr.heap.size #[.string y.berth, .int .i64 y.seen, .slice p2 y.wants.length q2] 89 (wr.alloc (Obj.cells #[.string y.berth, .int .i64 y.seen, .slice p2 y.wants.length q2] 89))) := Blk.alloc _ _ _
      have hB4 := hB.trans (hb4.mono hB.size)
      replace N2 := Hid.intro (N2.out.below WntC.holds hb4 (Nat.le_refl _))
      clear hB hb4
      go_upto_region 6 with (refine wpList_load_mid rfl 89 _ rfl b (o + k * 3) (by first | rfl | (simp [go_sem]; done)) [.string y.berth, .int .i64 y.seen, .slice p2 y.wants.length q2] _ HRA.out Tryz.underlying89 rfl isz_Plm ?_)
      clear HRA
      generalize wr.alloc (Obj.cells #[.string y.berth, .int .i64 y.seen, .slice p2 y.wants.length q2] 89) = w4 at *
      generalize wr.heap.size = q at *
      have d0 : w4.cell? ⟨q, 0, none⟩ = some (.string y.berth) := HG4.out.cell rfl
      have d1 : w4.cell? ⟨q, 1, none⟩ = some (.int .i64 y.seen) := HG4.out.cell rfl
      have d2 : w4.cell? ⟨q, 2, none⟩ = some (.slice p2 y.wants.length q2) := HG4.out.cell rfl
      go_wp2_with fail
      refine (mname_any y.berth _ Z0.out).mono ?_
      rintro e v0 ⟨rfl, rfl⟩
      cases g0 : nmB y.berth with
      | false =>
        have HE := Hid.intro (psB_no HXX.out (show plB y = false by unfold plB; simp [g0]))
        clear g0
        go_wp2_with fail
        go_ret
        exact ⟨ret_bool HE.out.symm, hB4⟩
      | true =>
        go_wp2_with fail
        refine (isIn_any y.seen 1 1000000 _).mono ?_
        rintro e v1 ⟨rfl, rfl⟩
        cases g1 : inR y.seen 1 1000000 with
        | false =>
          have HE := Hid.intro (psB_no HXX.out (show plB y = false by unfold plB; simp [g1]))
          clear g0 g1
          go_wp2_with fail
          go_ret
          exact ⟨ret_bool HE.out.symm, hB4⟩
        | true =>
          go_wp2_with fail
          refine (implWantsOk_any y.wants p2 q2 lo _ N2.out HWL.out).mono ?_
          rintro e w5 ⟨rfl, hb5⟩
          have hB5 := hB4.trans (hb5.mono hB4.size)
          clear hb5 hB4 HG4 d0 d1 d2
          cases g2 : wsB y.wants with
          | false =>
            have HE := Hid.intro (psB_no HXX.out (show plB y = false by unfold plB; simp [g2]))
            clear g0 g1 g2
            go_wp2_with fail
            go_ret
            exact ⟨ret_bool HE.out.symm, hB5⟩
          | true =>
            have hro : plB y = true := by unfold plB; rw [g0, g1, g2]; rfl
            clear g0 g1 g2
            have HN2 : Hid (∀ (j : Nat) z, j < k + 1 → x.places[j]? = some z → plB z = true) := fun j z hj hz => by
              by_cases e : j = k
              · subst e
                have := HXX.out.symm.trans hz
                cases this
                exact hro
              · exact hN.out j z (by omega) hz
            clear hro
            go_wp2_with fail
            go_roundw
            case rel => exact ⟨k + 1, by omega, by go_num, HN2, hB5⟩
            case measure => simp [intOf]; omega

end Go.Proofs.YtebcocejgenadaaGreat
