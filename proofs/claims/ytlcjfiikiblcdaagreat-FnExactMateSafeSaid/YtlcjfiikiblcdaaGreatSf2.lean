/-
  A world that is safe, by the program. Made by mksf.py.
-/
import Derived.Test.YtlcjfiikiblcdaaGreatSfp
import Derived.Test.YtlcjfiikiblcdaaGreatWo2
import Derived.Maps.AppendAt
namespace Go.Proofs.YtlcjfiikiblcdaaGreat
open Go.RowKit

set_option maxHeartbeats 16000000 in
set_option maxRecDepth 100000 in
theorem implSafe_any (x : Wrl) (a1 : Option Addr) (c1 : Nat) (a2 : Option Addr) (c2 : Nat) (a3 : Option Addr) (c3 : Nat) (a4 : Option Addr) (c4 : Nat) (lo : Nat) (w : World) (hin : WSl x lo a1 a2 a3 a4 w) :
    Calls Tryz.prog 21 #[.agg #[.int .i64 x.land.time, .slice a1 x.land.grants.length c1, .slice a2 x.land.places.length c2, .slice a3 x.mates.length c3, .slice a4 x.flight.length c4]] w fun e w' => e = .returned (.bool (sfB x)) ∧ Below w.heap.size w w' := by
  obtain ⟨i0, hi, hz0, hz1, hz2⟩ := info_parts info_Wnt
  have HI := Hid.intro hin
  clear hin
  have HK1 : Hid (Blk w.heap.size #[.int .i64 x.land.time, .slice a1 x.land.grants.length c1, .slice a2 x.land.places.length c2, .slice a3 x.mates.length c3, .slice a4 x.flight.length c4] 30 (w.alloc (Obj.cells #[.int .i64 x.land.time, .slice a1 x.land.grants.length c1, .slice a2 x.land.places.length c2, .slice a3 x.mates.length c3, .slice a4 x.flight.length c4] 30))) := Blk.alloc _ _ _
  have hB1 : Below w.heap.size w (w.alloc (Obj.cells #[.int .i64 x.land.time, .slice a1 x.land.grants.length c1, .slice a2 x.land.places.length c2, .slice a3 x.mates.length c3, .slice a4 x.flight.length c4] 30)) := (Below.refl _ w).alloc (Nat.le_refl _) _
  go_enter Tryz.func21, Tryz.ntmps21
  go_upto_region 1 with fail
  generalize w.alloc (Obj.cells #[.int .i64 x.land.time, .slice a1 x.land.grants.length c1, .slice a2 x.land.places.length c2, .slice a3 x.mates.length c3, .slice a4 x.flight.length c4] 30) = w1 at *
  go_wp2_with (refine wpList_load_mid rfl 30 _ rfl w.heap.size 0 (by first | rfl | (simp [go_sem]; done)) [.int .i64 x.land.time, .slice a1 x.land.grants.length c1, .slice a2 x.land.places.length c2, .slice a3 x.mates.length c3, .slice a4 x.flight.length c4] _ HK1.out.rangeA Tryz.underlying30 rfl isz_Wrl ?_)
  refine (implWorldOk_any x a1 c1 a2 c2 a3 c3 a4 c4 lo _ (HI.out.below hB1 (Nat.le_refl _))).mono ?_
  rintro e w2 ⟨rfl, hb2⟩
  have HK2 := Hid.intro (HK1.out.below hb2 HK1.out.lt)
  have hB2 := hB1.trans (hb2.mono hB1.size)
  clear hb2 HK1 hB1
  cases g0 : woB x with
  | false =>
    have HE : Hid (sfB x = false) := by show _ = _; unfold sfB; rw [g0]; rfl
    clear g0
    go_wp2_with fail
    go_ret
    exact ⟨ret_bool HE.out.symm, hB2⟩
  | true =>
  have HE : Hid (sfB x = difTo ((alW x.mates).map (·.hold)) (alW x.mates).length) := by show _ = _; unfold sfB; rw [g0]; rfl
  have HFW := Hid.intro (ok_few g0)
  have hm4 := HFW.out.1
  clear g0
  have k3 : w2.cell? ⟨w.heap.size, 3, none⟩ = some (.slice a3 x.mates.length c3) := HK2.out.cell rfl
  go_wp2_with fail
  go_loopw [3, 14] (fun v i wr => ∃ (k : Nat) (b : Option Addr) (q m : Nat), k ≤ x.mates.length ∧ i = .int .i64 k ∧ v = .slice b m q ∧ Hid (m = (alW (x.mates.take k)).length) ∧ m ≤ 20 * k ∧ Hid (wr.ownsRow w.heap.size 72 7 (.slice b m q) m (rvWnt (alW (x.mates.take k)))) ∧ Below w.heap.size w wr) (fun _ i _ => x.mates.length - (intOf i).toNat)
  case atStart => exact ⟨0, none, 0, 0, Nat.zero_le _, rfl, rfl, rfl, Nat.zero_le _, World.ownsRow_nil _ _ _ _, hB2⟩
  case round =>
    clear HK2 hB2 k3
    obtain ⟨k, b1, q, m, hk, rfl, rfl, HML, hm, HO, hB⟩ := hrel
    by_cases hlt : k < x.mates.length
    case neg =>
      have hke : k = x.mates.length := by omega
      subst hke
      rw [List.take_length] at HML HO
      have HSF := Hid.intro (sz_alW HI.out.s3)
      generalize alW x.mates = F at *
      have HX := HML.out
      subst HX
      have hl5 : F.length ≤ 1048576 := by omega
      have HS := Hid.intro (rowslWntM HO.out hl5 HSF.out)
      go_wp2_with fail
      refine (differ_any F b1 q _ _ HS.out hl5).mono ?_
      rintro e w5 ⟨rfl, hb5⟩
      have hB5 := hB.trans (hb5.mono hB.size)
      go_wp2_with fail
      go_ret
      exact ⟨ret_bool HE.out.symm, hB5⟩
    obtain ⟨y, hy⟩ : ∃ y, x.mates[k]? = some y := ⟨x.mates[k], List.getElem?_eq_getElem hlt⟩
    obtain ⟨b, o, e1, _, hbl, hc⟩ := (HI.out.s3.below MteC.holds hB (Nat.le_refl _)).at hy
    subst e1
    obtain ⟨p5, q5, p6, q6, p7, q7, p8, q8, hra, hms⟩ := mte_at hc (HI.out.em k y hy)
    have HRA := Hid.intro hra
    have HMS := Hid.intro hms
    have HST := Hid.intro (alW_step hy)
    have hr20 := HFW.out.2 k y hy
    clear hy hc hra hms hbl
    have hb4 : Below wr.heap.size wr (wr.alloc (Obj.cells #[.string y.name, .bool y.up, .int .i64 y.clock, .bool y.known, .int .i64 y.seen, .slice p5 y.wants.length q5, .slice p6 y.runs.length q6, .slice p7 y.asks.length q7, .slice p8 y.gives.length q8] 52)) := (Below.refl _ _).alloc (Nat.le_refl _) _
    have HG4 : Hid (Blk wr.heap.size #[.string y.name, .bool y.up, .int .i64 y.clock, .bool y.known, .int .i64 y.seen, .slice p5 y.wants.length q5, .slice p6 y.runs.length q6, .slice p7 y.asks.length q7, .slice p8 y.gives.length q8] 52 (wr.alloc (Obj.cells #[.string y.name, .bool y.up, .int .i64 y.clock, .bool y.known, .int .i64 y.seen, .slice p5 y.wants.length q5, .slice p6 y.runs.length q6, .slice p7 y.asks.length q7, .slice p8 y.gives.length q8] 52))) := Blk.alloc _ _ _
    have HO4 := Hid.intro (ownsRow_below HO.out hb4)
    have hB4 := hB.trans (hb4.mono hB.size)
    replace HMS := Hid.intro (HMS.out.below hb4 (Nat.le_refl _))
    clear HO hB hb4
    go_upto_region 7 with (refine wpList_load_mid rfl 52 _ rfl b (o + k * 9) (by first | rfl | (simp [go_sem]; done)) [.string y.name, .bool y.up, .int .i64 y.clock, .bool y.known, .int .i64 y.seen, .slice p5 y.wants.length q5, .slice p6 y.runs.length q6, .slice p7 y.asks.length q7, .slice p8 y.gives.length q8] _ HRA.out Tryz.underlying52 rfl isz_Mte ?_)
    clear HRA
    generalize wr.alloc (Obj.cells #[.string y.name, .bool y.up, .int .i64 y.clock, .bool y.known, .int .i64 y.seen, .slice p5 y.wants.length q5, .slice p6 y.runs.length q6, .slice p7 y.asks.length q7, .slice p8 y.gives.length q8] 52) = w4 at *
    generalize wr.heap.size = qb at *
    have d6 : w4.cell? ⟨qb, 6, none⟩ = some (.slice p6 y.runs.length q6) := HG4.out.cell rfl
    go_wp2_with fail
    refine (only_any 45 (fun r => alB r.state) y.runs p6 q6 lo _ HMS.out.s6 HMS.out.l6 (fun r v => implAlive_any r v) (enters_of Tryz.func45 (by kernel_rfl) rfl)).mono ?_
    rintro e w5 ⟨b2, c2, rfl, hf5, hb5⟩
    have HO5 := Hid.intro (ownsRow_below HO4.out hb5)
    have hB5 := hB4.trans (hb5.mono hB4.size)
    have HNE : Hid ((Value.slice b2 (alR y.runs).length c2).ownBlock = none ∨ (Value.slice b2 (alR y.runs).length c2).ownBlock ≠ (Value.slice b1 m q).ownBlock) := by
      cases hx : (Value.slice b2 (alR y.runs).length c2).ownBlock with
      | none => exact .inl rfl
      | some j =>
        refine .inr fun e => ?_
        have h1 := own_blk hf5 j hx
        have h2 := (HO4.out.lt j e.symm).2
        omega
    have HF5 : Hid (w5.ownsRow w4.heap.size 74 11 (.slice b2 (alR y.runs).length c2) (alR y.runs).length (rvRn (alR y.runs))) := hf5
    have hf20 : (alR y.runs).length ≤ 20 := Nat.le_trans (alR_len _) hr20
    have HFD : Hid (y.runs.filter (fun r => alB r.state) = alR y.runs) := rfl
    rw [HFD.out]
    clear hf5 hb5 hB4 HO4 HG4 HMS d6 hr20 HFD
    generalize alR y.runs = fs at *
    generalize w4.heap.size = base2 at *
    go_wp2_with fail
    go_loopw [3, 22] (fun v i wi => ∃ (n : Nat) (b : Option Addr) (q m : Nat), n ≤ fs.length ∧ i = .int .i64 n ∧ v = .slice b m q ∧ Hid (m = (alW (x.mates.take k) ++ (fs.take n).map (·.want)).length) ∧ m ≤ 20 * k + n ∧ Hid (wi.ownsRow w.heap.size 72 7 (.slice b m q) m (rvWnt (alW (x.mates.take k) ++ (fs.take n).map (·.want)))) ∧ Hid (wi.ownsRow base2 74 11 (.slice b2 fs.length c2) fs.length (rvRn fs)) ∧ Hid ((Value.slice b2 fs.length c2).ownBlock = none ∨ (Value.slice b2 fs.length c2).ownBlock ≠ (Value.slice b m q).ownBlock) ∧ Below w.heap.size w wi) (fun _ i _ => fs.length - (intOf i).toNat)
    case atStart =>
      refine ⟨0, b1, q, m, Nat.zero_le _, rfl, rfl, ?_, by omega, ?_, HF5, HNE, hB5⟩
      · show _ = _
        simp only [List.take_zero, List.map_nil, List.append_nil]
        exact HML.out
      · show World.ownsRow _ _ _ _ _ _ _
        simp only [List.take_zero, List.map_nil, List.append_nil]
        exact HO5.out
    case round =>
      clear HO5 hB5 HF5 HNE HML hm
      obtain ⟨n, b3, q3, m3, hn, rfl, rfl, HML, hm, HO, HF, HNE, hB⟩ := hrel
      by_cases hnl : n < fs.length
      case neg =>
        have hne : n = fs.length := by omega
        subst hne
        rw [List.take_length, ← HST.out] at HML HO
        go_wp2_with fail
        go_roundw
        case rel => exact ⟨k + 1, b3, q3, m3, by omega, by go_num, rfl, HML, by omega, HO, hB⟩
        case measure => simp [intOf]; omega
      obtain ⟨r, hr⟩ : ∃ r, fs[n]? = some r := ⟨fs[n], List.getElem?_eq_getElem hnl⟩
      obtain ⟨c, e3, hrr⟩ := own_at HF.out hr
      subst e3
      have HRR := Hid.intro hrr
      have HWS := Hid.intro (want_step hr)
      clear hr hrr
      have hb6 : Below wr.heap.size wr (wr.alloc (Obj.cells #[.string r.want.copy, .int .i64 r.want.version, .string r.want.hold, .int .i64 r.want.pull, .int .i64 r.want.start, .int .i64 r.want.dies, .int .i64 r.want.grace, .int .i64 r.state, .int .i64 r.left, .int .i64 r.falls, .int .i64 r.until_] 74)) := (Below.refl _ _).alloc (Nat.le_refl _) _
      have HG6 : Hid (Blk wr.heap.size #[.string r.want.copy, .int .i64 r.want.version, .string r.want.hold, .int .i64 r.want.pull, .int .i64 r.want.start, .int .i64 r.want.dies, .int .i64 r.want.grace, .int .i64 r.state, .int .i64 r.left, .int .i64 r.falls, .int .i64 r.until_] 74 (wr.alloc (Obj.cells #[.string r.want.copy, .int .i64 r.want.version, .string r.want.hold, .int .i64 r.want.pull, .int .i64 r.want.start, .int .i64 r.want.dies, .int .i64 r.want.grace, .int .i64 r.state, .int .i64 r.left, .int .i64 r.falls, .int .i64 r.until_] 74))) := Blk.alloc _ _ _
      have HO6 := Hid.intro (ownsRow_below HO.out hb6)
      have HF6 := Hid.intro (ownsRow_below HF.out hb6)
      have hB6 := hB.trans (hb6.mono hB.size)
      clear HO HF hB hb6
      go_upto_region 10 with (refine wpList_load_mid rfl 74 _ rfl c (n * 11) (by first | rfl | (simp [go_sem]; done)) [.string r.want.copy, .int .i64 r.want.version, .string r.want.hold, .int .i64 r.want.pull, .int .i64 r.want.start, .int .i64 r.want.dies, .int .i64 r.want.grace, .int .i64 r.state, .int .i64 r.left, .int .i64 r.falls, .int .i64 r.until_] _ HRR.out Tryz.underlying74 rfl isz_Rn ?_)
      clear HRR
      generalize wr.alloc (Obj.cells #[.string r.want.copy, .int .i64 r.want.version, .string r.want.hold, .int .i64 r.want.pull, .int .i64 r.want.start, .int .i64 r.want.dies, .int .i64 r.want.grace, .int .i64 r.state, .int .i64 r.left, .int .i64 r.falls, .int .i64 r.until_] 74) = w6 at *
      generalize wr.heap.size = p at *
      have HR7 := Hid.intro (run7 HG6.out.rangeA)
      clear HG6
      obtain ⟨NV, hnv⟩ : ∃ l, l = rcWnt r.want := ⟨_, rfl⟩
      have HNV := Hid.intro hnv
      clear hnv
      have HNL : Hid (NV.length = 1 * 7) := by show _ = _; rw [HNV.out]; rfl
      have HNN : Hid (∀ j u, NV[j]? = some u → (w6.alloc (Obj.cells #[.string r.want.copy, .int .i64 r.want.version, .string r.want.hold, .int .i64 r.want.pull, .int .i64 r.want.start, .int .i64 r.want.dies, .int .i64 r.want.grace] 72)).cell? ((⟨w6.heap.size, 0, none⟩ : Addr).add j) = some u) := by
        intro j u hj
        rw [Addr.add_mid]
        rw [HNV.out] at hj
        exact (Blk.alloc w6 #[.string r.want.copy, .int .i64 r.want.version, .string r.want.hold, .int .i64 r.want.pull, .int .i64 r.want.start, .int .i64 r.want.dies, .int .i64 r.want.grace] 72).rangeA j u hj
      have HN1 : Hid (∀ u ∈ NV, u.oneCell' = true) := by
        intro u hu
        rw [HNV.out] at hu
        exact rvWnt_one [r.want] u (by simp only [rvWnt, List.append_nil]; exact hu)
      have HOA := Hid.intro (HO6.out.alloc (Obj.cells #[.string r.want.copy, .int .i64 r.want.version, .string r.want.hold, .int .i64 r.want.pull, .int .i64 r.want.start, .int .i64 r.want.dies, .int .i64 r.want.grace] 72))
      have HFA := Hid.intro (HF6.out.alloc (Obj.cells #[.string r.want.copy, .int .i64 r.want.version, .string r.want.hold, .int .i64 r.want.pull, .int .i64 r.want.start, .int .i64 r.want.dies, .int .i64 r.want.grace] 72))
      have hws : w.heap.size ≤ w6.heap.size := hB6.size
      have hBA : Below w.heap.size w (w6.alloc (Obj.cells #[.string r.want.copy, .int .i64 r.want.version, .string r.want.hold, .int .i64 r.want.pull, .int .i64 r.want.start, .int .i64 r.want.dies, .int .i64 r.want.grace] 72)) := hB6.trans (((Below.refl w6.heap.size w6).alloc (Nat.le_refl _) _).mono hB6.size)
      clear HO6 HF6 hB6
      go_wp2_with (first | (refine wpList_load_mid rfl 72 _ rfl p 0 (by first | rfl | (simp [go_sem]; done)) [.string r.want.copy, .int .i64 r.want.version, .string r.want.hold, .int .i64 r.want.pull, .int .i64 r.want.start, .int .i64 r.want.dies, .int .i64 r.want.grace] _ HR7.out Tryz.underlying72 rfl isz_Wnt ?_) | (at_builtin; refine wpList_append_own_at _ rfl _ _ 48 rfl w.heap.size 72 i0 _ 7 72 Tryz.underlying48 hi hz0 hz1 hz2 rfl (by decide) _ m3 _ rfl HOA.out ⟨w6.heap.size, 0, none⟩ 1 1 NV rfl HNL.out HNN.out HN1.out (by unfold maxLen; omega) (by omega) (by simp; omega) ?_; intro v' w8 hown8 hgrow8 hnil8 hob8; have hv8 : v' ≠ .slice none 0 0 := (fun e => by have h9 := (hnil8.1 e).2; cases h9); obtain ⟨g8, q8, rfl⟩ := rowf hown8 hv8))
      have HO8 : Hid (w8.ownsRow w.heap.size 72 7 (.slice (some ⟨g8, 0, none⟩) (m3 + 1) q8) (m3 + 1) (rvWnt (alW (x.mates.take k) ++ (fs.take (n + 1)).map (·.want)))) := by
        show World.ownsRow _ _ _ _ _ _ _
        rw [HWS.out, ← List.append_assoc, rvWnt_app]
        rw [HNV.out] at hown8
        simp only [rvWnt, List.append_nil]
        exact hown8
      have HML2 : Hid (m3 + 1 = (alW (x.mates.take k) ++ (fs.take (n + 1)).map (·.want)).length) := by
        show _ = _
        rw [HWS.out, ← List.append_assoc, List.length_append, ← HML.out]
        rfl
      have HF8 : Hid (w8.ownsRow base2 74 11 (.slice (some ⟨c, 0, none⟩) fs.length c2) fs.length (rvRn fs)) := HFA.out.kept hgrow8 HNE.out
      have HNE8 : Hid ((Value.slice (some ⟨c, 0, none⟩) fs.length c2).ownBlock = none ∨ (Value.slice (some ⟨c, 0, none⟩) fs.length c2).ownBlock ≠ (Value.slice (some ⟨g8, 0, none⟩) (m3 + 1) q8).ownBlock) := by
        rcases hob8 with e | e
        · rw [e]
          exact HNE.out
        · rw [e]
          refine .inr fun e2 => ?_
          have h1 := (HFA.out.lt _ e2).2
          exact absurd h1 (Nat.lt_irrefl _)
      have hB8 := hBA.grown hgrow8 (by simp; omega) (own_blk HOA.out)
      clear hown8 hgrow8 hnil8 hob8 hv8 HOA HFA hBA HNN HN1 HNL HNV HR7 HWS
      go_wp2_with fail
      go_roundw
      case rel => exact ⟨n + 1, _, q8, m3 + 1, by omega, by go_num, rfl, HML2, by omega, HO8, HF8, HNE8, hB8⟩
      case measure => simp [intOf]; omega

end Go.Proofs.YtlcjfiikiblcdaaGreat
