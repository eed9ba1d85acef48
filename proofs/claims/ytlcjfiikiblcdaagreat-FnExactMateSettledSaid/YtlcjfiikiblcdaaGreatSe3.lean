/-
  A world that is settled, by the specification. Made by mkse2.py.
-/
import Derived.Test.YtlcjfiikiblcdaaGreatSe1
import Derived.Test.YtlcjfiikiblcdaaGreatWo3
namespace Go.Proofs.YtlcjfiikiblcdaaGreat
open Go.RowKit

set_option maxHeartbeats 16000000 in
set_option maxRecDepth 100000 in
theorem specSettled_any (x : Wrl) (a1 : Option Addr) (c1 : Nat) (a2 : Option Addr) (c2 : Nat) (a3 : Option Addr) (c3 : Nat) (a4 : Option Addr) (c4 : Nat) (lo : Nat) (w : World) (hin : WSl x lo a1 a2 a3 a4 w) :
    Calls Tryz.prog 22 #[.agg #[.int .i64 x.land.time, .slice a1 x.land.grants.length c1, .slice a2 x.land.places.length c2, .slice a3 x.mates.length c3, .slice a4 x.flight.length c4]] w fun e w' => e = .returned (.bool (seB x)) ∧ Below w.heap.size w w' := by
  obtain ⟨i0, hi, hz0, hz1, hz2⟩ := info_parts info_Wnt
  have HI := Hid.intro hin
  clear hin
  have HK1 : Hid (Blk w.heap.size #[.int .i64 x.land.time, .slice a1 x.land.grants.length c1, .slice a2 x.land.places.length c2, .slice a3 x.mates.length c3, .slice a4 x.flight.length c4] 30 (w.alloc (Obj.cells #[.int .i64 x.land.time, .slice a1 x.land.grants.length c1, .slice a2 x.land.places.length c2, .slice a3 x.mates.length c3, .slice a4 x.flight.length c4] 30))) := Blk.alloc _ _ _
  have hB1 : Below w.heap.size w (w.alloc (Obj.cells #[.int .i64 x.land.time, .slice a1 x.land.grants.length c1, .slice a2 x.land.places.length c2, .slice a3 x.mates.length c3, .slice a4 x.flight.length c4] 30)) := (Below.refl _ w).alloc (Nat.le_refl _) _
  go_enter Tryz.func22, Tryz.ntmps22
  go_upto_region 1 with fail
  generalize w.alloc (Obj.cells #[.int .i64 x.land.time, .slice a1 x.land.grants.length c1, .slice a2 x.land.places.length c2, .slice a3 x.mates.length c3, .slice a4 x.flight.length c4] 30) = w1 at *
  go_wp2_with (refine wpList_load_mid rfl 30 _ rfl w.heap.size 0 (by first | rfl | (simp [go_sem]; done)) [.int .i64 x.land.time, .slice a1 x.land.grants.length c1, .slice a2 x.land.places.length c2, .slice a3 x.mates.length c3, .slice a4 x.flight.length c4] _ HK1.out.rangeA Tryz.underlying30 rfl isz_Wrl ?_)
  refine (specWorldOk_any x a1 c1 a2 c2 a3 c3 a4 c4 lo _ (HI.out.below hB1 (Nat.le_refl _))).mono ?_
  rintro e w2 ⟨rfl, hb2⟩
  have HK2 := Hid.intro (HK1.out.below hb2 HK1.out.lt)
  have hB2 := hB1.trans (hb2.mono hB1.size)
  clear hb2 HK1 hB1
  cases g0 : woB x with
  | false =>
    have HE : Hid (seB x = false) := by show _ = _; unfold seB; rw [g0]; rfl
    clear g0
    go_wp2_with fail
    go_ret
    exact ⟨ret_bool HE.out.symm, hB2⟩
  | true =>
  have HE : Hid (seB x = x.mates.all (stB x.land.places)) := by show _ = _; unfold seB; rw [g0]; rfl
  have HFW := Hid.intro (ok_few g0)
  have hm4 := HFW.out.1
  clear g0
  go_wp2_with fail
  go_loopw [3] (fun i wr => ∃ k : Nat, k ≤ x.mates.length ∧ i = .int .i64 k ∧ Hid (∀ (j : Nat) y, j < k → x.mates[j]? = some y → stB x.land.places y = true) ∧ Hid (Blk w.heap.size #[.int .i64 x.land.time, .slice a1 x.land.grants.length c1, .slice a2 x.land.places.length c2, .slice a3 x.mates.length c3, .slice a4 x.flight.length c4] 30 wr) ∧ Below w.heap.size w wr) (fun i _ => x.mates.length - (intOf i).toNat)
  case atStart => exact ⟨0, Nat.zero_le _, rfl, fun j q h => by omega, HK2, hB2⟩
  case round =>
    clear HK2 hB2
    obtain ⟨k, hk, rfl, hN, HK, hB⟩ := hrel
    have k3 : wr.cell? ⟨w.heap.size, 3, none⟩ = some (.slice a3 x.mates.length c3) := HK.out.cell rfl
    by_cases hlt : k < x.mates.length
    case neg =>
      have hke : k = x.mates.length := by omega
      subst hke
      have HE2 := Hid.intro (se_yes HE.out hN.out)
      go_wp2_with fail
      go_ret
      exact ⟨ret_bool HE2.out.symm, hB⟩
    obtain ⟨y, hy⟩ : ∃ y, x.mates[k]? = some y := ⟨x.mates[k], List.getElem?_eq_getElem hlt⟩
    obtain ⟨b, o, e1, _, hbl, hc⟩ := (HI.out.s3.below MteC.holds hB (Nat.le_refl _)).at hy
    subst e1
    obtain ⟨p5, q5, p6, q6, p7, q7, p8, q8, hra, hms⟩ := mte_at hc (HI.out.em k y hy)
    have HRA := Hid.intro hra
    have HMS := Hid.intro hms
    have HYY := Hid.intro hy
    have hr20 := HFW.out.2 k y hy
    clear hy hc hra hms hbl
    have hb4 : Below wr.heap.size wr (wr.alloc (Obj.cells #[.string y.name, .bool y.up, .int .i64 y.clock, .bool y.known, .int .i64 y.seen, .slice p5 y.wants.length q5, .slice p6 y.runs.length q6, .slice p7 y.asks.length q7, .slice p8 y.gives.length q8] 52)) := (Below.refl _ _).alloc (Nat.le_refl _) _
    have HG4 : Hid (Blk wr.heap.size #[.string y.name, .bool y.up, .int .i64 y.clock, .bool y.known, .int .i64 y.seen, .slice p5 y.wants.length q5, .slice p6 y.runs.length q6, .slice p7 y.asks.length q7, .slice p8 y.gives.length q8] 52 (wr.alloc (Obj.cells #[.string y.name, .bool y.up, .int .i64 y.clock, .bool y.known, .int .i64 y.seen, .slice p5 y.wants.length q5, .slice p6 y.runs.length q6, .slice p7 y.asks.length q7, .slice p8 y.gives.length q8] 52))) := Blk.alloc _ _ _
    have HK4 := Hid.intro (HK.out.below hb4 HK.out.lt)
    have hB4 := hB.trans (hb4.mono hB.size)
    replace HMS := Hid.intro (HMS.out.below hb4 (Nat.le_refl _))
    have hqs : wr.heap.size < (wr.alloc (Obj.cells #[.string y.name, .bool y.up, .int .i64 y.clock, .bool y.known, .int .i64 y.seen, .slice p5 y.wants.length q5, .slice p6 y.runs.length q6, .slice p7 y.asks.length q7, .slice p8 y.gives.length q8] 52)).heap.size := HG4.out.lt
    have hwq : w.heap.size ≤ wr.heap.size := hB.size
    clear HK hB hb4
    go_upto_region 7 with (refine wpList_load_mid rfl 52 _ rfl b (o + k * 9) (by first | rfl | (simp [go_sem]; done)) [.string y.name, .bool y.up, .int .i64 y.clock, .bool y.known, .int .i64 y.seen, .slice p5 y.wants.length q5, .slice p6 y.runs.length q6, .slice p7 y.asks.length q7, .slice p8 y.gives.length q8] _ HRA.out Tryz.underlying52 rfl isz_Mte ?_)
    clear HRA k3
    generalize wr.alloc (Obj.cells #[.string y.name, .bool y.up, .int .i64 y.clock, .bool y.known, .int .i64 y.seen, .slice p5 y.wants.length q5, .slice p6 y.runs.length q6, .slice p7 y.asks.length q7, .slice p8 y.gives.length q8] 52) = w4 at *
    generalize wr.heap.size = qb at *
    have hb5 : Below w4.heap.size w4 (w4.alloc (Obj.cells #[] 72)) := (Below.refl _ _).alloc (Nat.le_refl _) _
    have HG5 : Hid (Blk qb #[.string y.name, .bool y.up, .int .i64 y.clock, .bool y.known, .int .i64 y.seen, .slice p5 y.wants.length q5, .slice p6 y.runs.length q6, .slice p7 y.asks.length q7, .slice p8 y.gives.length q8] 52 (w4.alloc (Obj.cells #[] 72))) := HG4.out.below hb5 HG4.out.lt
    have HK5 : Hid (Blk w.heap.size #[.int .i64 x.land.time, .slice a1 x.land.grants.length c1, .slice a2 x.land.places.length c2, .slice (some ⟨b, o, none⟩) x.mates.length c3, .slice a4 x.flight.length c4] 30 (w4.alloc (Obj.cells #[] 72))) := HK4.out.below hb5 HK4.out.lt
    have hB5 := hB4.trans (hb5.mono hB4.size)
    have HM5 := Hid.intro (HMS.out.below hb5 (Nat.le_refl _))
    have HBs := Hid.intro hb5
    clear hb5 HG4 HK4 hB4
    go_wp2_with fail
    have hpl := HI.out.sl.l2
    go_loopw [5, 6] (fun v i wr => ∃ (s : Nat) (b5 : Option Addr) (c5 : Nat), s ≤ x.land.places.length ∧ i = .int .i64 s ∧ v = .slice b5 (wTo x.land.places y.name s).length c5 ∧ Hid (SliceC WntC 7 lo w b5 (wTo x.land.places y.name s)) ∧ Hid (Blk qb #[.string y.name, .bool y.up, .int .i64 y.clock, .bool y.known, .int .i64 y.seen, .slice p5 y.wants.length q5, .slice p6 y.runs.length q6, .slice p7 y.asks.length q7, .slice p8 y.gives.length q8] 52 wr) ∧ Hid (Blk w.heap.size #[.int .i64 x.land.time, .slice a1 x.land.grants.length c1, .slice a2 x.land.places.length c2, .slice (some ⟨b, o, none⟩) x.mates.length c3, .slice a4 x.flight.length c4] 30 wr) ∧ Hid (Below w4.heap.size w4 wr) ∧ Below w.heap.size w wr) (fun _ i _ => x.land.places.length - (intOf i).toNat)
    case atStart => exact ⟨0, _, 0, Nat.zero_le _, rfl, rfl, ⟨by simp [wTo], .inl rfl⟩, HG5, HK5, HBs, hB5⟩
    case round =>
      clear HG5 HK5 hB5 HBs
      obtain ⟨s, b5, c5, hs, rfl, rfl, HW, HG, HK, HBw, hB⟩ := hrel
      have k2 : wr.cell? ⟨w.heap.size, 2, none⟩ = some (.slice a2 x.land.places.length c2) := HK.out.cell rfl
      by_cases hsl : s < x.land.places.length
      case neg =>
        have hse : s = x.land.places.length := by omega
        subst hse
        have HSE : Hid (stB x.land.places y = (y.up && rdL y.runs (wTo x.land.places y.name x.land.places.length))) := rfl
        generalize wTo x.land.places y.name x.land.places.length = W at *
        have hb6 : Below wr.heap.size wr (wr.alloc (Obj.cells #[] 72)) := (Below.refl _ _).alloc (Nat.le_refl _) _
        have HG6 : Hid (Blk qb #[.string y.name, .bool y.up, .int .i64 y.clock, .bool y.known, .int .i64 y.seen, .slice p5 y.wants.length q5, .slice p6 y.runs.length q6, .slice p7 y.asks.length q7, .slice p8 y.gives.length q8] 52 (wr.alloc (Obj.cells #[] 72))) := HG.out.below hb6 HG.out.lt
        have HK6 : Hid (Blk w.heap.size #[.int .i64 x.land.time, .slice a1 x.land.grants.length c1, .slice a2 x.land.places.length c2, .slice (some ⟨b, o, none⟩) x.mates.length c3, .slice a4 x.flight.length c4] 30 (wr.alloc (Obj.cells #[] 72))) := HK.out.below hb6 HK.out.lt
        have hB6 := hB.trans (hb6.mono hB.size)
        have HB6 := Hid.intro (HBw.out.trans (hb6.mono HBw.out.size))
        obtain ⟨base, hbase⟩ : ∃ n, n = wr.heap.size := ⟨_, rfl⟩
        have HO6 : Hid ((wr.alloc (Obj.cells #[] 72)).ownsRow base 72 7 (.slice (some ⟨wr.heap.size, 0, none⟩) 0 0) 0 (rvWnt ((y.runs.take 0).map (·.want)))) := by
          have h0 := World.ownsRow_made (e := 72) (size := 7) (base := base) wr #[] 0 (by omega) (Nat.zero_le _) rfl
          show World.ownsRow _ _ _ _ _ _ _
          simpa [rvWnt] using h0
        have hqb : qb < base := by rw [hbase]; exact HG.out.lt
        have hb4b : w4.heap.size ≤ base := by rw [hbase]; exact HBw.out.size
        have hwb : w.heap.size < base := by rw [hbase]; exact HK.out.lt
        have hbw : base ≤ (wr.alloc (Obj.cells #[] 72)).heap.size := by rw [hbase]; exact hb6.size
        clear hb6 HG HK hB HBw hbase
        go_wp2_with fail
        clear k2
        go_loopw [7, 8] (fun v i wr => ∃ (n : Nat) (b7 : Option Addr) (q m : Nat), n ≤ y.runs.length ∧ i = .int .i64 n ∧ v = .slice b7 m q ∧ m = n ∧ Hid (∀ (j : Nat) r, j < n → y.runs[j]? = some r → r.state = 4) ∧ Hid (wr.ownsRow base 72 7 (.slice b7 m q) m (rvWnt ((y.runs.take n).map (·.want)))) ∧ Hid (Blk qb #[.string y.name, .bool y.up, .int .i64 y.clock, .bool y.known, .int .i64 y.seen, .slice p5 y.wants.length q5, .slice p6 y.runs.length q6, .slice p7 y.asks.length q7, .slice p8 y.gives.length q8] 52 wr) ∧ Hid (Blk w.heap.size #[.int .i64 x.land.time, .slice a1 x.land.grants.length c1, .slice a2 x.land.places.length c2, .slice (some ⟨b, o, none⟩) x.mates.length c3, .slice a4 x.flight.length c4] 30 wr) ∧ Hid (Below w4.heap.size w4 wr) ∧ base ≤ wr.heap.size ∧ Below w.heap.size w wr) (fun _ i _ => y.runs.length - (intOf i).toNat)
        case atStart => exact ⟨0, _, 0, 0, Nat.zero_le _, rfl, rfl, rfl, fun j r h => by omega, HO6, HG6, HK6, HB6, hbw, hB6⟩
        case round =>
          clear HO6 HG6 HK6 HB6 hbw hB6
          obtain ⟨n, b7, q, m, hn, rfl, rfl, hmn, hS4, HO, HG, HK, HBw, hbw, hB⟩ := hrel
          replace hmn := hmn.symm
          subst hmn
          have d6 : wr.cell? ⟨qb, 6, none⟩ = some (.slice p6 y.runs.length q6) := HG.out.cell rfl
          by_cases hnl : n < y.runs.length
          case neg =>
            have hne : n = y.runs.length := by omega
            subst hne
            rw [List.take_length] at HO
            have HRD := Hid.intro (rd_all W hS4.out)
            have HSZ : Hid (SzWnt (y.runs.map (·.want)) maxLen) := fun z hz => by
              obtain ⟨r, hr, rfl⟩ := List.mem_map.1 hz
              exact sz_runs HMS.out.s6 r hr
            have HL : Hid ((y.runs.map (·.want)).length = y.runs.length) := List.length_map _
            have d1 : wr.cell? ⟨qb, 1, none⟩ = some (.bool y.up) := HG.out.cell rfl
            generalize y.runs.map (·.want) = F at *
            have HOF : Hid (wr.ownsRow base 72 7 (.slice b7 F.length q) F.length (rvWnt F)) := by show World.ownsRow _ _ _ _ _ _ _; rw [HL.out]; exact HO.out
            have hl5 : F.length ≤ 1048576 := by have := HL.out; omega
            have HS := Hid.intro (rowslWntM HOF.out hl5 HSZ.out)
            have HWW := Hid.intro (HW.out.below WntC.holds hB (Nat.le_refl _))
            cases hu : y.up with
            | false =>
              have HE2 : Hid (seB x = false) := se_no HE.out HYY.out (by rw [HSE.out, hu]; rfl)
              rw [hu] at d1
              clear hu
              go_wp2_with fail
              go_ret
              exact ⟨ret_bool HE2.out.symm, hB⟩
            | true =>
              have HS3 : Hid (stB x.land.places y = sameW F W) := by show _ = _; rw [HSE.out, hu, HRD.out]; rfl
              rw [hu] at d1
              have CT := Hid.intro (same15_any F W b7 q b5 c5 base lo wr HS.out HWW.out hl5)
              rw [HL.out] at CT
              clear hu HO HOF HRD HSZ hS4 HL
              go_wp2_with fail
              clear d1 d6
              refine CT.out.mono ?_
              rintro e w8 ⟨rfl, hb8⟩
              have hB8 := hB.trans (hb8.mono hB.size)
              have HK8 := Hid.intro (HK.out.below hb8 HK.out.lt)
              clear hb8 hB HK HG HBw HS HWW CT
              cases hq : sameW F W with
              | false =>
                have HE2 : Hid (seB x = false) := se_no HE.out HYY.out (HS3.out.trans hq)
                clear hq
                go_wp2_with fail
                go_ret
                exact ⟨ret_bool HE2.out.symm, hB8⟩
              | true =>
                have HST := Hid.intro (HS3.out.trans hq)
                clear hq
                have HN2 : Hid (∀ (j : Nat) z, j < k + 1 → x.mates[j]? = some z → stB x.land.places z = true) := fun j z hj hz => by
                  by_cases e : j = k
                  · subst e
                    have := HYY.out.symm.trans hz
                    cases this
                    exact HST.out
                  · exact hN.out j z (by omega) hz
                go_wp2_with fail
                go_roundw
                case rel => first | exact ⟨k + 1, by omega, by go_num, HN2, HK8, hB8⟩ | ((repeat apply Exists.intro); exact ⟨⟨k + 1, by omega, by go_num, HN2, HK8, hB8⟩, rfl⟩)
                case measure => simp [intOf]; omega
          obtain ⟨r, hr⟩ : ∃ r, y.runs[n]? = some r := ⟨y.runs[n], List.getElem?_eq_getElem hnl⟩
          obtain ⟨b6, o6, e6, _, hb6l, hc6⟩ := HMS.out.s6.at hr
          subst e6
          have hb6w : b6 < wr.heap.size := Nat.lt_of_lt_of_le hb6l HBw.out.size
          have hra := range_belowW (range_of_cells hc6) HBw.out hb6l
          have HR7 := Hid.intro (run7o hra)
          have HC7 : Hid (wr.cell? ⟨b6, o6 + n * 11 + 7, none⟩ = some (.int .i64 r.state)) := hra 7 _ rfl
          have HRX := Hid.intro hr
          have HWS := Hid.intro (want_step hr)
          clear hr hc6 hra
          obtain ⟨NV, hnv⟩ : ∃ l, l = rcWnt r.want := ⟨_, rfl⟩
          have HNV := Hid.intro hnv
          clear hnv
          have HNL : Hid (NV.length = 1 * 7) := by show _ = _; rw [HNV.out]; rfl
          have HNN : Hid (∀ j u, NV[j]? = some u → (wr.alloc (Obj.cells #[.string r.want.copy, .int .i64 r.want.version, .string r.want.hold, .int .i64 r.want.pull, .int .i64 r.want.start, .int .i64 r.want.dies, .int .i64 r.want.grace] 72)).cell? ((⟨wr.heap.size, 0, none⟩ : Addr).add j) = some u) := by
            intro j u hj
            rw [Addr.add_mid]
            rw [HNV.out] at hj
            exact (Blk.alloc wr #[.string r.want.copy, .int .i64 r.want.version, .string r.want.hold, .int .i64 r.want.pull, .int .i64 r.want.start, .int .i64 r.want.dies, .int .i64 r.want.grace] 72).rangeA j u hj
          have HN1 : Hid (∀ u ∈ NV, u.oneCell' = true) := by
            intro u hu
            rw [HNV.out] at hu
            exact rvWnt_one [r.want] u (by simp only [rvWnt, List.append_nil]; exact hu)
          have HOA := Hid.intro (HO.out.alloc (Obj.cells #[.string r.want.copy, .int .i64 r.want.version, .string r.want.hold, .int .i64 r.want.pull, .int .i64 r.want.start, .int .i64 r.want.dies, .int .i64 r.want.grace] 72))
          have hbA : Below wr.heap.size wr (wr.alloc (Obj.cells #[.string r.want.copy, .int .i64 r.want.version, .string r.want.hold, .int .i64 r.want.pull, .int .i64 r.want.start, .int .i64 r.want.dies, .int .i64 r.want.grace] 72)) := (Below.refl _ _).alloc (Nat.le_refl _) _
          have HGA := Hid.intro (HG.out.below hbA HG.out.lt)
          have HKA := Hid.intro (HK.out.below hbA HK.out.lt)
          have hBA := hB.trans (hbA.mono hB.size)
          have HBA := Hid.intro (HBw.out.trans (hbA.mono HBw.out.size))
          have HCA : Hid ((wr.alloc (Obj.cells #[.string r.want.copy, .int .i64 r.want.version, .string r.want.hold, .int .i64 r.want.pull, .int .i64 r.want.start, .int .i64 r.want.dies, .int .i64 r.want.grace] 72)).cell? ⟨b6, o6 + n * 11 + 7, none⟩ = some (.int .i64 r.state)) := (hbA.cell (p := ⟨b6, o6 + n * 11 + 7, none⟩) hb6w).trans HC7.out
          clear HO HG HK hB HBw hbA HC7
          go_upto_region 18 with (first | (refine wpList_load_mid rfl 72 _ rfl b6 (o6 + n * 11) (by first | rfl | (simp [go_sem]; done)) [.string r.want.copy, .int .i64 r.want.version, .string r.want.hold, .int .i64 r.want.pull, .int .i64 r.want.start, .int .i64 r.want.dies, .int .i64 r.want.grace] _ HR7.out Tryz.underlying72 rfl isz_Wnt ?_) | (at_builtin; refine wpList_append_own _ rfl _ _ 48 rfl base 72 i0 _ 7 72 Tryz.underlying48 hi hz0 hz1 hz2 rfl (by decide) _ n _ rfl HOA.out ⟨wr.heap.size, 0, none⟩ 1 1 NV rfl HNL.out HNN.out HN1.out (by unfold maxLen; omega) (by omega) (by simp; omega) ?_; intro v' w8 hown8 hgrow8 hnil8; have hv8 : v' ≠ .slice none 0 0 := (fun e => by have h9 := (hnil8.1 e).2; cases h9); obtain ⟨g8, qq8, rfl⟩ := rowf hown8 hv8))
          have HO8 : Hid (w8.ownsRow base 72 7 (.slice (some ⟨g8, 0, none⟩) (n + 1) qq8) (n + 1) (rvWnt ((y.runs.take (n + 1)).map (·.want)))) := by
            show World.ownsRow _ _ _ _ _ _ _
            rw [HWS.out, rvWnt_app]
            rw [HNV.out] at hown8
            simp only [rvWnt, List.append_nil]
            exact hown8
          have hbg := (Below.refl base (wr.alloc (Obj.cells #[.string r.want.copy, .int .i64 r.want.version, .string r.want.hold, .int .i64 r.want.pull, .int .i64 r.want.start, .int .i64 r.want.dies, .int .i64 r.want.grace] 72))).grown hgrow8 (by simp; omega) (own_blk HOA.out)
          have HG8 := Hid.intro (HGA.out.below hbg hqb)
          have HK8 := Hid.intro (HKA.out.below hbg hwb)
          have hB8 := hBA.trans (hbg.mono (by omega))
          have HB8 := Hid.intro (HBA.out.trans (hbg.mono hb4b))
          have c7 : w8.cell? ⟨b6, o6 + n * 11 + 7, none⟩ = some (.int .i64 r.state) := (hbg.cell (p := ⟨b6, o6 + n * 11 + 7, none⟩) (by show b6 < base; omega)).trans HCA.out
          have hbw8 : base ≤ w8.heap.size := by have := hbg.size; simp at this; omega
          have e6 : w8.cell? ⟨qb, 6, none⟩ = some (.slice (some ⟨b6, o6, none⟩) y.runs.length q6) := HG8.out.cell rfl
          clear hown8 hgrow8 hnil8 hv8 hbg HOA HGA HKA hBA HBA HCA HNN HN1 HNL HNV HR7 HWS d6
          by_cases hs4 : r.state = 4
          case neg =>
            have HE2 : Hid (seB x = false) := se_no HE.out HYY.out (by rw [HSE.out, rd_state HRX.out hs4, Bool.and_false])
            go_wp2_with fail
            go_ret
            exact ⟨ret_bool HE2.out.symm, hB8⟩
          have HS5 : Hid (∀ (j : Nat) z, j < n + 1 → y.runs[j]? = some z → z.state = 4) := fun j z hj hz => by
            by_cases e : j = n
            · subst e
              have := HRX.out.symm.trans hz
              cases this
              exact hs4
            · exact hS4.out j z (by omega) hz
          rw [hs4] at c7
          clear hs4
          go_wp2_with fail
          clear c7 e6
          go_roundw
          case rel => first | exact ⟨n + 1, _, qq8, n + 1, by omega, by go_num, rfl, rfl, HS5, HO8, HG8, HK8, HB8, hbw8, hB8⟩ | ((repeat apply Exists.intro); exact ⟨⟨n + 1, _, qq8, n + 1, by omega, by go_num, rfl, rfl, HS5, HO8, HG8, HK8, HB8, hbw8, hB8⟩, rfl⟩)
          case measure => simp [intOf]; omega
      obtain ⟨p, hp⟩ : ∃ p, x.land.places[s]? = some p := ⟨x.land.places[s], List.getElem?_eq_getElem hsl⟩
      obtain ⟨bp, op, e2, _, hbp, hcp⟩ := HI.out.sl.s2.at hp
      subst e2
      obtain ⟨p2, q2, hcp⟩ := hcp
      have hrp := range_belowW (plm_range hcp) hB hbp
      obtain ⟨_, _, _, _, n2⟩ := hcp
      have HCP : Hid (wr.drew.cell? ⟨bp, op + s * 3, none⟩ = some (.string p.berth)) := Hid.intro (by simpa using hrp 0 _ rfl)
      have cw : wr.cell? ⟨bp, op + s * 3 + 2, none⟩ = some (.slice p2 p.wants.length q2) := hrp 2 _ rfl
      have HPX := Hid.intro hp
      have HN2 := Hid.intro n2
      have i0s : (0 : Int) ≤ (s : Int) := by omega
      have i1s : (s : Int) < (x.land.places.length : Int) := by omega
      clear hp hrp n2
      generalize hE : (p.berth.toList == y.name.toList) = E
      have HQ := Hid.intro hE
      clear hE
      go_upto_region 11 with fail
      refine wp_region_held_drew (S := fun wy => Blk qb #[.string y.name, .bool y.up, .int .i64 y.clock, .bool y.known, .int .i64 y.seen, .slice p5 y.wants.length q5, .slice p6 y.runs.length q6, .slice p7 y.asks.length q7, .slice p8 y.gives.length q8] 52 wy ∧ Blk w.heap.size #[.int .i64 x.land.time, .slice a1 x.land.grants.length c1, .slice (some ⟨bp, op, none⟩) x.land.places.length c2, .slice (some ⟨b, o, none⟩) x.mates.length c3, .slice a4 x.flight.length c4] 30 wy ∧ wy.cell? ⟨bp, op + s * 3, none⟩ = some (.string p.berth)) (by kernel_rfl) ⟨HG.out.drew, HK.out.drew, HCP.out⟩ (fun hS => ?_)
      have hBd : Below w.heap.size w wr.drew := hB.drew
      have HBd : Hid (Below w4.heap.size w4 wr.drew) := HBw.out.drew
      have HGd : Hid (Blk qb #[.string y.name, .bool y.up, .int .i64 y.clock, .bool y.known, .int .i64 y.seen, .slice p5 y.wants.length q5, .slice p6 y.runs.length q6, .slice p7 y.asks.length q7, .slice p8 y.gives.length q8] 52 wr.drew) := HG.out.drew
      have HKd : Hid (Blk w.heap.size #[.int .i64 x.land.time, .slice a1 x.land.grants.length c1, .slice (some ⟨bp, op, none⟩) x.land.places.length c2, .slice (some ⟨b, o, none⟩) x.mates.length c3, .slice a4 x.flight.length c4] 30 wr.drew) := HK.out.drew
      have cw2 : wr.drew.cell? ⟨bp, op + s * 3 + 2, none⟩ = some (.slice p2 p.wants.length q2) := cw
      clear HG HK hB HBw HCP cw k2
      generalize wr.drew = wd at *
      refine wpAnyH_take (i := 0) (oi := { dst := some 33, op := _, type := _, pos := _, after := _, guard := none }) (v := .pointer (some ⟨w.heap.size, 0, none⟩)) rfl (by kernel_rfl) (by kernel_rfl) (by kernel_rfl) (fun _ _ _ h => h) (Or.inl ⟨by rfl, ?_⟩) hS ?_
      · intro wy hy
        clear hy
        go_simp
      simp only [Act.put, List.setIfInBounds_toArray, List.set_cons_zero, List.set_cons_succ]
      refine wpAnyH_take (i := 1) (oi := { dst := some 34, op := _, type := _, pos := _, after := _, guard := none }) (v := .pointer (some ⟨w.heap.size, 2, none⟩)) rfl (by kernel_rfl) (by kernel_rfl) (by kernel_rfl) (fun _ _ _ h => h) (Or.inl ⟨by rfl, ?_⟩) hS ?_
      · intro wy hy
        clear hy
        go_simp
      simp only [Act.put, List.setIfInBounds_toArray, List.set_cons_zero, List.set_cons_succ]
      refine wpAnyH_take (i := 2) (oi := { dst := some 35, op := _, type := _, pos := _, after := _, guard := none }) (v := .slice (some ⟨bp, op, none⟩) x.land.places.length c2) rfl (by kernel_rfl) (by kernel_rfl) (by kernel_rfl) (fun _ _ _ h => h) (Or.inl ⟨by rfl, ?_⟩) hS ?_
      · intro wy hy
        have h0 : wy.cell? ⟨w.heap.size, 2, none⟩ = some (.slice (some ⟨bp, op, none⟩) x.land.places.length c2) := hy.2.1.cell rfl
        clear hy
        go_simp
      simp only [Act.put, List.setIfInBounds_toArray, List.set_cons_zero, List.set_cons_succ]
      refine wpAnyH_take (i := 3) (oi := { dst := some 36, op := _, type := _, pos := _, after := _, guard := none }) (v := .int .i64 (s : Int)) rfl (by kernel_rfl) (by kernel_rfl) (by kernel_rfl) (fun _ _ _ h => h) (Or.inl ⟨by rfl, ?_⟩) hS ?_
      · intro wy hy
        clear hy
        go_simp
      simp only [Act.put, List.setIfInBounds_toArray, List.set_cons_zero, List.set_cons_succ]
      refine wpAnyH_take (i := 4) (oi := { dst := some 37, op := _, type := _, pos := _, after := _, guard := none }) (v := .pointer (some ⟨bp, op + s * 3, none⟩)) rfl (by kernel_rfl) (by kernel_rfl) (by kernel_rfl) (fun _ _ _ h => h) (Or.inl ⟨by rfl, ?_⟩) hS ?_
      · intro wy hy
        clear hy
        first | (go_simp; done) | (go_simp; intro hh; omega) | (go_simp; omega)
      simp only [Act.put, List.setIfInBounds_toArray, List.set_cons_zero, List.set_cons_succ]
      refine wpAnyH_take (i := 5) (oi := { dst := some 38, op := _, type := _, pos := _, after := _, guard := none }) (v := .pointer (some ⟨bp, op + s * 3, none⟩)) rfl (by kernel_rfl) (by kernel_rfl) (by kernel_rfl) (fun _ _ _ h => h) (Or.inl ⟨by rfl, ?_⟩) hS ?_
      · intro wy hy
        clear hy
        go_simp
      simp only [Act.put, List.setIfInBounds_toArray, List.set_cons_zero, List.set_cons_succ]
      refine wpAnyH_take (i := 6) (oi := { dst := some 39, op := _, type := _, pos := _, after := _, guard := none }) (v := .string p.berth) rfl (by kernel_rfl) (by kernel_rfl) (by kernel_rfl) (fun _ _ _ h => h) (Or.inl ⟨by rfl, ?_⟩) hS ?_
      · intro wy hy
        have h0 := hy.2.2
        clear hy
        go_simp
      simp only [Act.put, List.setIfInBounds_toArray, List.set_cons_zero, List.set_cons_succ]
      refine wpAnyH_take (i := 7) (oi := { dst := some 40, op := _, type := _, pos := _, after := _, guard := none }) (v := .pointer (some ⟨qb, 0, none⟩)) rfl (by kernel_rfl) (by kernel_rfl) (by kernel_rfl) (fun _ _ _ h => h) (Or.inl ⟨by rfl, ?_⟩) hS ?_
      · intro wy hy
        clear hy
        go_simp
      simp only [Act.put, List.setIfInBounds_toArray, List.set_cons_zero, List.set_cons_succ]
      refine wpAnyH_take (i := 8) (oi := { dst := some 41, op := _, type := _, pos := _, after := _, guard := none }) (v := .string y.name) rfl (by kernel_rfl) (by kernel_rfl) (by kernel_rfl) (fun _ _ _ h => h) (Or.inl ⟨by rfl, ?_⟩) hS ?_
      · intro wy hy
        have h0 : wy.cell? ⟨qb, 0, none⟩ = some (.string y.name) := hy.1.cell rfl
        clear hy
        go_simp
      simp only [Act.put, List.setIfInBounds_toArray, List.set_cons_zero, List.set_cons_succ]
      refine wpAnyH_take (i := 9) (oi := { dst := some 42, op := _, type := _, pos := _, after := _, guard := none }) (v := .bool E) rfl (by kernel_rfl) (by kernel_rfl) (by kernel_rfl) (fun _ _ _ h => h) (Or.inl ⟨by rfl, ?_⟩) hS ?_
      · intro wy hy
        clear hy
        go_simp; rw [HQ.out]
      simp only [Act.put, List.setIfInBounds_toArray, List.set_cons_zero, List.set_cons_succ]
      refine wpAnyH_done (by kernel_rfl) ?_ _
      clear hS
      cases E with
      | true =>
        have heq : p.berth = y.name := Classical.byContradiction fun h => by have := HQ.out; rw [bt_ne h] at this; cases this
        have HW2 : Hid (wTo x.land.places y.name (s + 1) = p.wants) := by show _ = _; rw [wTo_step HPX.out, if_pos heq]
        have k2 : wd.cell? ⟨w.heap.size, 2, none⟩ = some (.slice (some ⟨bp, op, none⟩) x.land.places.length c2) := HKd.out.cell rfl
        clear heq HQ
        go_wp2_with fail
        clear k2 cw2
        go_roundw
        case rel => first | exact ⟨s + 1, p2, q2, by omega, by go_num, by rw [HW2.out], by rw [HW2.out]; exact HN2, HGd, HKd, HBd, hBd⟩ | ((repeat apply Exists.intro); exact ⟨⟨s + 1, p2, q2, by omega, by go_num, by rw [HW2.out], by rw [HW2.out]; exact HN2, HGd, HKd, HBd, hBd⟩, rfl⟩)
        case measure => simp [intOf]; omega
      | false =>
        have HW2 : Hid (wTo x.land.places y.name (s + 1) = wTo x.land.places y.name s) := by
          show _ = _
          rw [wTo_step HPX.out, if_neg (fun e => by have h6 := HQ.out; rw [e] at h6; simp at h6)]
        clear HQ cw2
        go_wp2_with fail
        go_roundw
        case rel => first | exact ⟨s + 1, b5, c5, by omega, by go_num, by rw [HW2.out], by rw [HW2.out]; exact HW, HGd, HKd, HBd, hBd⟩ | ((repeat apply Exists.intro); exact ⟨⟨s + 1, b5, c5, by omega, by go_num, by rw [HW2.out], by rw [HW2.out]; exact HW, HGd, HKd, HBd, hBd⟩, rfl⟩)
        case measure => simp [intOf]; omega

end Go.Proofs.YtlcjfiikiblcdaaGreat
