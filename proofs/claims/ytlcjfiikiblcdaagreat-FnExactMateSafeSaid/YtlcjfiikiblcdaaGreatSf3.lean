/-
  A world that is safe, by the specification. Made by mksf3.py.
-/
import Derived.Test.YtlcjfiikiblcdaaGreatSfq
import Derived.Test.YtlcjfiikiblcdaaGreatWo3
namespace Go.Proofs.YtlcjfiikiblcdaaGreat
open Go.RowKit

set_option maxHeartbeats 16000000 in
set_option maxRecDepth 100000 in
theorem specSafe_any (x : Wrl) (a1 : Option Addr) (c1 : Nat) (a2 : Option Addr) (c2 : Nat) (a3 : Option Addr) (c3 : Nat) (a4 : Option Addr) (c4 : Nat) (lo : Nat) (w : World) (hin : WSl x lo a1 a2 a3 a4 w) :
    Calls Tryz.prog 20 #[.agg #[.int .i64 x.land.time, .slice a1 x.land.grants.length c1, .slice a2 x.land.places.length c2, .slice a3 x.mates.length c3, .slice a4 x.flight.length c4]] w fun e w' => e = .returned (.bool (sfB x)) ∧ Below w.heap.size w w' := by
  obtain ⟨i0, hi, hz0, hz1, hz2⟩ := info_parts info_str
  have HI := Hid.intro hin
  clear hin
  have HK1 : Hid (Blk w.heap.size #[.int .i64 x.land.time, .slice a1 x.land.grants.length c1, .slice a2 x.land.places.length c2, .slice a3 x.mates.length c3, .slice a4 x.flight.length c4] 30 (w.alloc (Obj.cells #[.int .i64 x.land.time, .slice a1 x.land.grants.length c1, .slice a2 x.land.places.length c2, .slice a3 x.mates.length c3, .slice a4 x.flight.length c4] 30))) := Blk.alloc _ _ _
  have hB1 : Below w.heap.size w (w.alloc (Obj.cells #[.int .i64 x.land.time, .slice a1 x.land.grants.length c1, .slice a2 x.land.places.length c2, .slice a3 x.mates.length c3, .slice a4 x.flight.length c4] 30)) := (Below.refl _ w).alloc (Nat.le_refl _) _
  go_enter Tryz.func20, Tryz.ntmps20
  go_upto_region 1 with fail
  generalize w.alloc (Obj.cells #[.int .i64 x.land.time, .slice a1 x.land.grants.length c1, .slice a2 x.land.places.length c2, .slice a3 x.mates.length c3, .slice a4 x.flight.length c4] 30) = w1 at *
  go_wp2_with (refine wpList_load_mid rfl 30 _ rfl w.heap.size 0 (by first | rfl | (simp [go_sem]; done)) [.int .i64 x.land.time, .slice a1 x.land.grants.length c1, .slice a2 x.land.places.length c2, .slice a3 x.mates.length c3, .slice a4 x.flight.length c4] _ HK1.out.rangeA Tryz.underlying30 rfl isz_Wrl ?_)
  refine (specWorldOk_any x a1 c1 a2 c2 a3 c3 a4 c4 lo _ (HI.out.below hB1 (Nat.le_refl _))).mono ?_
  rintro e w2 ⟨rfl, hb2⟩
  have HK2 := Hid.intro (HK1.out.below hb2 HK1.out.lt)
  have hB2 := hB1.trans (hb2.mono hB1.size)
  have hz2s : w.heap.size < w2.heap.size := HK2.out.lt
  clear hb2 HK1 hB1
  cases g0 : woB x with
  | false =>
    have HE : Hid (sfB x = false) := by show _ = _; unfold sfB; rw [g0]; rfl
    clear g0
    go_wp2_with fail
    go_ret
    exact ⟨ret_bool HE.out.symm, hB2⟩
  | true =>
  have HE : Hid (sfB x = difTo ((alW x.mates).map (·.hold)) (alW x.mates).length) := by show _ = _; unfold sfB; rw [g0]; rfl
  have HFW := Hid.intro (ok_few g0)
  have hm4 := HFW.out.1
  clear g0
  have hbM : Below w2.heap.size w2 (w2.alloc (Obj.cells #[] 9)) := (Below.refl _ _).alloc (Nat.le_refl _) _
  have HHM : Hid (HeldAt (w.heap.size + 1) (some ⟨w2.heap.size, 0, none⟩) 0 0 (hsM (x.mates.take 0)) (w2.alloc (Obj.cells #[] 9))) := ⟨by simp [hsM, alW, hlL], by simp [hsM, alW], by
    have h0 := World.ownsRow_made (e := 9) (size := 1) (base := w.heap.size + 1) w2 #[] 0 (by omega) (Nat.zero_le _) rfl
    simpa [hsM, alW, hlL] using h0⟩
  have HKM : Hid (Blk w.heap.size #[.int .i64 x.land.time, .slice a1 x.land.grants.length c1, .slice a2 x.land.places.length c2, .slice a3 x.mates.length c3, .slice a4 x.flight.length c4] 30 (w2.alloc (Obj.cells #[] 9))) := HK2.out.below hbM HK2.out.lt
  have hBM : Below w.heap.size w (w2.alloc (Obj.cells #[] 9)) := hB2.trans (hbM.mono hB2.size)
  clear hbM HK2 hB2
  go_wp2_with fail
  go_loopw [3, 4] (fun v i wr => ∃ (k : Nat) (b : Option Addr) (q m : Nat), k ≤ x.mates.length ∧ i = .int .i64 k ∧ v = .slice b m q ∧ m ≤ 20 * k ∧ Hid (HeldAt (w.heap.size + 1) b q m (hsM (x.mates.take k)) wr) ∧ Hid (Blk w.heap.size #[.int .i64 x.land.time, .slice a1 x.land.grants.length c1, .slice a2 x.land.places.length c2, .slice a3 x.mates.length c3, .slice a4 x.flight.length c4] 30 wr) ∧ Below w.heap.size w wr) (fun _ i _ => x.mates.length - (intOf i).toNat)
  case atStart => exact ⟨0, _, 0, 0, Nat.zero_le _, rfl, rfl, Nat.zero_le _, HHM, HKM, hBM⟩
  case round =>
    clear HHM HKM hBM hz2s
    obtain ⟨k, b1, q, m, hk, rfl, rfl, hm, HH, HK, hB⟩ := hrel
    have k3 : wr.cell? ⟨w.heap.size, 3, none⟩ = some (.slice a3 x.mates.length c3) := HK.out.cell rfl
    by_cases hlt : k < x.mates.length
    case neg =>
      have hke : k = x.mates.length := by omega
      subst hke
      rw [List.take_length] at HH
      have HE2 := Hid.intro (sf_yes HE.out HH.out.pw)
      go_wp2_with fail
      go_ret
      exact ⟨ret_bool HE2.out.symm, hB⟩
    obtain ⟨y, hy⟩ : ∃ y, x.mates[k]? = some y := ⟨x.mates[k], List.getElem?_eq_getElem hlt⟩
    obtain ⟨b, o, e1, _, hbl, hc⟩ := HI.out.s3.at hy
    subst e1
    obtain ⟨p5, q5, p6, q6, p7, q7, p8, q8, hra, hms⟩ := mte_at hc (HI.out.em k y hy)
    have HC6 : Hid (w.cell? ⟨b, o + k * 9 + 6, none⟩ = some (.slice p6 y.runs.length q6)) := hra 6 _ rfl
    have HMS := Hid.intro hms
    have HYY := Hid.intro hy
    have hr20 := HFW.out.2 k y hy
    clear hy hc hra hms
    go_wp2_with fail
    go_loopw [3, 5] (fun v i wr => ∃ (n : Nat) (bb : Option Addr) (q m : Nat), n ≤ y.runs.length ∧ i = .int .i64 n ∧ v = .slice bb m q ∧ m ≤ 20 * k + n ∧ Hid (HeldAt (w.heap.size + 1) bb q m (hsM (x.mates.take k) ++ hsR (y.runs.take n)) wr) ∧ Hid (Blk w.heap.size #[.int .i64 x.land.time, .slice a1 x.land.grants.length c1, .slice a2 x.land.places.length c2, .slice (some ⟨b, o, none⟩) x.mates.length c3, .slice a4 x.flight.length c4] 30 wr) ∧ Below w.heap.size w wr) (fun _ i _ => y.runs.length - (intOf i).toNat)
    case atStart => exact ⟨0, b1, q, m, Nat.zero_le _, rfl, rfl, by omega, by rw [show hsM (x.mates.take k) ++ hsR (y.runs.take 0) = hsM (x.mates.take k) by simp [hsR, alR]]; exact HH, HK, hB⟩
    case round =>
      clear HH HK hB hm k3
      obtain ⟨n, b1, q, m, hn, rfl, rfl, hm, HH, HK, hB⟩ := hrel
      have k3 : wr.cell? ⟨w.heap.size, 3, none⟩ = some (.slice (some ⟨b, o, none⟩) x.mates.length c3) := HK.out.cell rfl
      have k6 : wr.cell? ⟨b, o + k * 9 + 6, none⟩ = some (.slice p6 y.runs.length q6) := (hB.cell (p := ⟨b, o + k * 9 + 6, none⟩) hbl).trans HC6.out
      by_cases hnl : n < y.runs.length
      case neg =>
        have hne : n = y.runs.length := by omega
        subst hne
        rw [List.take_length, ← hsM_step HYY.out] at HH
        go_wp2_with fail
        go_roundw
        case rel => first | exact ⟨k + 1, b1, q, m, by omega, by go_num, rfl, by omega, HH, HK, hB⟩ | ((repeat apply Exists.intro); exact ⟨⟨k + 1, b1, q, m, by omega, by go_num, rfl, by omega, HH, HK, hB⟩, rfl⟩)
        case measure => simp [intOf]; omega
      obtain ⟨r, hr⟩ : ∃ r, y.runs[n]? = some r := ⟨y.runs[n], List.getElem?_eq_getElem hnl⟩
      obtain ⟨b6, o6, e6, _, hb6l, hc6⟩ := (HMS.out.s6.below RnC.holds hB (Nat.le_refl _)).at hr
      subst e6
      have HRR := Hid.intro (range_of_cells hc6)
      have HRX := Hid.intro hr
      clear hr hc6
      have hb6 : Below wr.heap.size wr (wr.alloc (Obj.cells #[.string r.want.copy, .int .i64 r.want.version, .string r.want.hold, .int .i64 r.want.pull, .int .i64 r.want.start, .int .i64 r.want.dies, .int .i64 r.want.grace, .int .i64 r.state, .int .i64 r.left, .int .i64 r.falls, .int .i64 r.until_] 74)) := (Below.refl _ _).alloc (Nat.le_refl _) _
      have HG6 : Hid (Blk wr.heap.size #[.string r.want.copy, .int .i64 r.want.version, .string r.want.hold, .int .i64 r.want.pull, .int .i64 r.want.start, .int .i64 r.want.dies, .int .i64 r.want.grace, .int .i64 r.state, .int .i64 r.left, .int .i64 r.falls, .int .i64 r.until_] 74 (wr.alloc (Obj.cells #[.string r.want.copy, .int .i64 r.want.version, .string r.want.hold, .int .i64 r.want.pull, .int .i64 r.want.start, .int .i64 r.want.dies, .int .i64 r.want.grace, .int .i64 r.state, .int .i64 r.left, .int .i64 r.falls, .int .i64 r.until_] 74))) := Blk.alloc _ _ _
      have HH6 := Hid.intro (HH.out.below hb6)
      have HK6 := Hid.intro (HK.out.below hb6 HK.out.lt)
      have hB6 := hB.trans (hb6.mono hB.size)
      clear HH HK hB hb6
      go_upto_region 11 with (refine wpList_load_mid rfl 74 _ rfl b6 (o6 + n * 11) (by first | rfl | (simp [go_sem]; done)) [.string r.want.copy, .int .i64 r.want.version, .string r.want.hold, .int .i64 r.want.pull, .int .i64 r.want.start, .int .i64 r.want.dies, .int .i64 r.want.grace, .int .i64 r.state, .int .i64 r.left, .int .i64 r.falls, .int .i64 r.until_] _ HRR.out Tryz.underlying74 rfl isz_Rn ?_)
      clear HRR k3 k6
      generalize wr.alloc (Obj.cells #[.string r.want.copy, .int .i64 r.want.version, .string r.want.hold, .int .i64 r.want.pull, .int .i64 r.want.start, .int .i64 r.want.dies, .int .i64 r.want.grace, .int .i64 r.state, .int .i64 r.left, .int .i64 r.falls, .int .i64 r.until_] 74) = w6 at *
      generalize wr.heap.size = p at *
      go_wp2_with (refine wpList_load_mid rfl 74 _ rfl p 0 (by first | rfl | (simp [go_sem]; done)) [.string r.want.copy, .int .i64 r.want.version, .string r.want.hold, .int .i64 r.want.pull, .int .i64 r.want.start, .int .i64 r.want.dies, .int .i64 r.want.grace, .int .i64 r.state, .int .i64 r.left, .int .i64 r.falls, .int .i64 r.until_] _ HG6.out.rangeA Tryz.underlying74 rfl isz_Rn ?_)
      refine (specAlive_any r _).mono ?_
      rintro e w7 ⟨rfl, hb7⟩
      have HG7 := Hid.intro (HG6.out.below hb7 HG6.out.lt)
      have HH7 := Hid.intro (HH6.out.below hb7)
      have HK7 := Hid.intro (HK6.out.below hb7 HK6.out.lt)
      have hB7 := hB6.trans (hb7.mono hB6.size)
      clear hb7 HG6 HH6 HK6 hB6
      have d2 : w7.cell? ⟨p, 2, none⟩ = some (.string r.want.hold) := HG7.out.cell rfl
      cases ga : alB r.state with
      | false =>
        rw [← hsR_no HRX.out ga] at HH7
        clear ga
        go_wp2_with fail
        go_roundw
        case rel => first | exact ⟨n + 1, b1, q, m, by omega, by go_num, rfl, by omega, HH7, HK7, hB7⟩ | ((repeat apply Exists.intro); exact ⟨⟨n + 1, b1, q, m, by omega, by go_num, rfl, by omega, HH7, HK7, hB7⟩, rfl⟩)
        case measure => simp [intOf]; omega
      | true =>
      have HAL := Hid.intro ga
      clear ga
      by_cases hh : r.want.hold.toList = []
      case pos =>
        have HH8 : Hid (HeldAt (w.heap.size + 1) b1 q m (hsM (x.mates.take k) ++ hsR (y.runs.take (n + 1))) w7) := by
          show HeldAt _ _ _ _ _ _
          rw [hsR_yes HRX.out HAL.out, ← List.append_assoc]
          exact ⟨by rw [hl_none hh]; exact HH7.out.len, pw_none HH7.out.pw hh, by rw [hl_none hh]; exact HH7.out.row⟩
        go_wp2_with fail
        clear hh
        go_roundw
        case rel => first | exact ⟨n + 1, b1, q, m, by omega, by go_num, rfl, by omega, HH8, HK7, hB7⟩ | ((repeat apply Exists.intro); exact ⟨⟨n + 1, b1, q, m, by omega, by go_num, rfl, by omega, HH8, HK7, hB7⟩, rfl⟩)
        case measure => simp [intOf]; omega
      have HNB := Hid.intro hh
      have hie : r.want.hold.toList.isEmpty = false := by simpa using hh
      clear hh
      go_wp2_with fail
      clear hie d2
      go_loopw [7] (fun j wr => ∃ s : Nat, s ≤ m ∧ j = .int .i64 s ∧ Hid (∀ (i : Nat) g, i < s → (hlL (hsM (x.mates.take k) ++ hsR (y.runs.take n)))[i]? = some g → ¬ g = r.want.hold) ∧ Hid (HeldAt (w.heap.size + 1) b1 q m (hsM (x.mates.take k) ++ hsR (y.runs.take n)) wr) ∧ Hid (Blk w.heap.size #[.int .i64 x.land.time, .slice a1 x.land.grants.length c1, .slice a2 x.land.places.length c2, .slice (some ⟨b, o, none⟩) x.mates.length c3, .slice a4 x.flight.length c4] 30 wr) ∧ Hid (Blk p #[.string r.want.copy, .int .i64 r.want.version, .string r.want.hold, .int .i64 r.want.pull, .int .i64 r.want.start, .int .i64 r.want.dies, .int .i64 r.want.grace, .int .i64 r.state, .int .i64 r.left, .int .i64 r.falls, .int .i64 r.until_] 74 wr) ∧ Below w.heap.size w wr) (fun j _ => m - (intOf j).toNat)
      case atStart => exact ⟨0, Nat.zero_le _, rfl, fun i g h => by omega, HH7, HK7, HG7, hB7⟩
      case round =>
        clear HH7 HK7 HG7 hB7
        obtain ⟨s, hs, rfl, hD, HH, HK, HG, hB⟩ := hrel
        by_cases hsl : s < m
        case neg =>
          have hse : s = m := by omega
          subst hse
          have d2 : wr.cell? ⟨p, 2, none⟩ = some (.string r.want.hold) := HG.out.cell rfl
          have HOA := Hid.intro (HH.out.row.alloc (Obj.cells #[.string r.want.hold] 9))
          have hws : w.heap.size < wr.heap.size := HK.out.lt
          have hbA : Below wr.heap.size wr (wr.alloc (Obj.cells #[.string r.want.hold] 9)) := (Below.refl _ _).alloc (Nat.le_refl _) _
          have HKA := Hid.intro (HK.out.below hbA HK.out.lt)
          have hBA := hB.trans (hbA.mono hB.size)
          have HLE := Hid.intro HH.out.len
          have HPW : Hid ((hsM (x.mates.take k) ++ hsR (y.runs.take (n + 1))).Pairwise NoTwo) := by
            show List.Pairwise _ _
            rw [hsR_yes HRX.out HAL.out, ← List.append_assoc]
            exact pw_one HH.out.pw (fun i g hg => hD.out i g (by have := lt_of_some hg; have := HH.out.len; omega) hg)
          clear HH HK HG hB hbA
          go_wp2_with (at_builtin; refine wpList_append_own _ rfl _ _ 22 rfl (w.heap.size + 1) 9 i0 (.string ⟨#[]⟩) 1 16 Tryz.underlying22 hi hz0 hz1 hz2 rfl (by decide) _ s _ rfl HOA.out ⟨wr.heap.size, 0, none⟩ 1 1 [.string r.want.hold] rfl rfl (news_oneW _ _ _) (one_strW _) (by unfold maxLen; omega) (by omega) (by simp; omega) ?_; intro v' w8 hown8 hgrow8 hnil8; have hv8 : v' ≠ .slice none 0 0 := (fun e => by have h9 := (hnil8.1 e).2; cases h9); obtain ⟨g8, q8, rfl⟩ := rowf hown8 hv8)
          have HH8 : Hid (HeldAt (w.heap.size + 1) (some ⟨g8, 0, none⟩) q8 (s + 1) (hsM (x.mates.take k) ++ hsR (y.runs.take (n + 1))) w8) := by
            have hq : hlL (hsM (x.mates.take k) ++ hsR (y.runs.take (n + 1))) = hlL (hsM (x.mates.take k) ++ hsR (y.runs.take n)) ++ [r.want.hold] := by rw [hsR_yes HRX.out HAL.out, ← List.append_assoc]; exact hl_one HNB.out
            exact ⟨by rw [hq, List.length_append, ← HLE.out]; rfl, HPW.out, by rw [hq, List.map_append]; exact hown8⟩
          have hbg := (Below.refl (w.heap.size + 1) (wr.alloc (Obj.cells #[.string r.want.hold] 9))).grown hgrow8 (by simp; omega) (own_blk HOA.out)
          have HK8 := Hid.intro (HKA.out.below hbg (Nat.lt_succ_self _))
          have hB8 := hBA.grown hgrow8 (by simp; omega) (fun j hj => Nat.le_trans (Nat.le_succ _) (own_blk HOA.out j hj))
          clear hown8 hgrow8 hnil8 hv8 hbg HOA HKA hBA HPW HLE d2
          go_wp2_with fail
          go_roundw
          case rel => first | exact ⟨n + 1, _, q8, s + 1, by omega, by go_num, rfl, by omega, HH8, HK8, hB8⟩ | ((repeat apply Exists.intro); exact ⟨⟨n + 1, _, q8, s + 1, by omega, by go_num, rfl, by omega, HH8, HK8, hB8⟩, rfl⟩)
          case measure => simp [intOf]; omega
        obtain ⟨c, g, e8, hg, hcg, _⟩ := held_at HH.out hsl
        subst e8
        have HCG : Hid (wr.drew.cell? ⟨c, s, none⟩ = some (.string g)) := hcg
        have HGG := Hid.intro hg
        clear hg hcg
        generalize hE : (g.toList == r.want.hold.toList) = Q
        have HQ := Hid.intro hE
        clear hE
        go_wp2_with fail
        refine wp_region_held_drew (S := fun wy => Blk p #[.string r.want.copy, .int .i64 r.want.version, .string r.want.hold, .int .i64 r.want.pull, .int .i64 r.want.start, .int .i64 r.want.dies, .int .i64 r.want.grace, .int .i64 r.state, .int .i64 r.left, .int .i64 r.falls, .int .i64 r.until_] 74 wy ∧ wy.cell? ⟨c, s, none⟩ = some (.string g)) (by kernel_rfl) ⟨HG.out.drew, HCG.out⟩ (fun hS => ?_)
        have hBd : Below w.heap.size w wr.drew := hB.drew
        have HHd := Hid.intro HH.out.drew
        have HKd : Hid (Blk w.heap.size #[.int .i64 x.land.time, .slice a1 x.land.grants.length c1, .slice a2 x.land.places.length c2, .slice (some ⟨b, o, none⟩) x.mates.length c3, .slice a4 x.flight.length c4] 30 wr.drew) := HK.out.drew
        have HGd : Hid (Blk p #[.string r.want.copy, .int .i64 r.want.version, .string r.want.hold, .int .i64 r.want.pull, .int .i64 r.want.start, .int .i64 r.want.dies, .int .i64 r.want.grace, .int .i64 r.state, .int .i64 r.left, .int .i64 r.falls, .int .i64 r.until_] 74 wr.drew) := HG.out.drew
        clear HH HK HG hB HCG
        generalize wr.drew = wd at *
        refine wpAnyH_take (i := 0) (oi := { dst := some 54, op := _, type := _, pos := _, after := _, guard := none }) (v := .slice (some ⟨c, 0, none⟩) m q) rfl (by kernel_rfl) (by kernel_rfl) (by kernel_rfl) (fun _ _ _ h => h) (Or.inl ⟨by rfl, ?_⟩) hS ?_
        · intro wy hy
          clear hy
          go_simp
        simp only [Act.put, List.setIfInBounds_toArray, List.set_cons_zero, List.set_cons_succ]
        refine wpAnyH_take (i := 1) (oi := { dst := some 55, op := _, type := _, pos := _, after := _, guard := none }) (v := .int .i64 (s : Int)) rfl (by kernel_rfl) (by kernel_rfl) (by kernel_rfl) (fun _ _ _ h => h) (Or.inl ⟨by rfl, ?_⟩) hS ?_
        · intro wy hy
          clear hy
          go_simp
        simp only [Act.put, List.setIfInBounds_toArray, List.set_cons_zero, List.set_cons_succ]
        refine wpAnyH_take (i := 2) (oi := { dst := some 56, op := _, type := _, pos := _, after := _, guard := none }) (v := .pointer (some ⟨c, s, none⟩)) rfl (by kernel_rfl) (by kernel_rfl) (by kernel_rfl) (fun _ _ _ h => h) (Or.inl ⟨by rfl, ?_⟩) hS ?_
        · intro wy hy
          clear hy
          first | (go_simp; done) | (go_simp; intro hh; omega) | (go_simp; omega)
        simp only [Act.put, List.setIfInBounds_toArray, List.set_cons_zero, List.set_cons_succ]
        refine wpAnyH_take (i := 3) (oi := { dst := some 57, op := _, type := _, pos := _, after := _, guard := none }) (v := .string g) rfl (by kernel_rfl) (by kernel_rfl) (by kernel_rfl) (fun _ _ _ h => h) (Or.inl ⟨by rfl, ?_⟩) hS ?_
        · intro wy hy
          have h0 := hy.2
          clear hy
          go_simp
        simp only [Act.put, List.setIfInBounds_toArray, List.set_cons_zero, List.set_cons_succ]
        refine wpAnyH_take (i := 4) (oi := { dst := some 58, op := _, type := _, pos := _, after := _, guard := none }) (v := .pointer (some ⟨p, 0, none⟩)) rfl (by kernel_rfl) (by kernel_rfl) (by kernel_rfl) (fun _ _ _ h => h) (Or.inl ⟨by rfl, ?_⟩) hS ?_
        · intro wy hy
          clear hy
          go_simp
        simp only [Act.put, List.setIfInBounds_toArray, List.set_cons_zero, List.set_cons_succ]
        refine wpAnyH_take (i := 5) (oi := { dst := some 59, op := _, type := _, pos := _, after := _, guard := none }) (v := .pointer (some ⟨p, 2, none⟩)) rfl (by kernel_rfl) (by kernel_rfl) (by kernel_rfl) (fun _ _ _ h => h) (Or.inl ⟨by rfl, ?_⟩) hS ?_
        · intro wy hy
          clear hy
          go_simp
        simp only [Act.put, List.setIfInBounds_toArray, List.set_cons_zero, List.set_cons_succ]
        refine wpAnyH_take (i := 6) (oi := { dst := some 60, op := _, type := _, pos := _, after := _, guard := none }) (v := .string r.want.hold) rfl (by kernel_rfl) (by kernel_rfl) (by kernel_rfl) (fun _ _ _ h => h) (Or.inl ⟨by rfl, ?_⟩) hS ?_
        · intro wy hy
          have h0 : wy.cell? ⟨p, 2, none⟩ = some (.string r.want.hold) := hy.1.cell rfl
          clear hy
          go_simp
        simp only [Act.put, List.setIfInBounds_toArray, List.set_cons_zero, List.set_cons_succ]
        refine wpAnyH_take (i := 7) (oi := { dst := some 61, op := _, type := _, pos := _, after := _, guard := none }) (v := .bool Q) rfl (by kernel_rfl) (by kernel_rfl) (by kernel_rfl) (fun _ _ _ h => h) (Or.inl ⟨by rfl, ?_⟩) hS ?_
        · intro wy hy
          clear hy
          go_simp; rw [HQ.out]
        simp only [Act.put, List.setIfInBounds_toArray, List.set_cons_zero, List.set_cons_succ]
        refine wpAnyH_done (by kernel_rfl) ?_ _
        clear hS
        cases Q with
        | true =>
          have HE2 : Hid (sfB x = false) := sf_no HE.out HYY.out HRX.out HAL.out HNB.out HGG.out (Classical.byContradiction fun h => by have := HQ.out; rw [bt_ne h] at this; cases this)
          clear HQ
          go_wp2_with fail
          go_ret
          exact ⟨ret_bool HE2.out.symm, hBd⟩
        | false =>
          have HD2 : Hid (∀ (i : Nat) u, i < s + 1 → (hlL (hsM (x.mates.take k) ++ hsR (y.runs.take n)))[i]? = some u → ¬ u = r.want.hold) := fun i u hi2 hu => by
            by_cases e : i = s
            · subst e
              have h5 := HGG.out.symm.trans hu
              cases h5
              intro e
              have h6 := HQ.out
              rw [e] at h6
              simp at h6
            · exact hD.out i u (by omega) hu
          clear HQ
          go_wp2_with fail
          go_roundw
          case rel => first | exact ⟨s + 1, by omega, by go_num, HD2, HHd, HKd, HGd, hBd⟩ | ((repeat apply Exists.intro); exact ⟨⟨s + 1, by omega, by go_num, HD2, HHd, HKd, HGd, hBd⟩, rfl⟩)
          case measure => simp [intOf]; omega

end Go.Proofs.YtlcjfiikiblcdaaGreat
