/-
  Walks over slices of Mate: sizes, copies, equality. Made by mkwrl.py.
-/
import Derived.Test.YtlcjfiikiblcdaaGreatMte
namespace Go.Proofs.YtlcjfiikiblcdaaGreat
open Go.RowKit

set_option maxHeartbeats 1000000 in
theorem szMteS_any (xs : List Mte) (a : Option Addr) (cap lo : Nat) (L : Int) (w : World) (hin : SliceC MteC 9 lo w a xs) (h0 : 0 ≤ L) (h1 : L ≤ 1048576) :
    Calls Tryz.prog 35 #[.slice a xs.length cap, .int .i64 L] w fun e w' => e = .returned (.int .i64 (szR (wS wMte xs) L)) ∧ Below w.heap.size w w' := by
  have hlen := hin.1
  unfold maxLen at hlen
  have HI : Hid (SliceC MteC 9 lo w a xs) := hin
  clear hin
  have HW : Hid (wS wMte xs = xs.length + (xs.map wMte).sum) := rfl
  generalize wS wMte xs = W at *
  by_cases c1 : L - xs.length < 0
  · go_enter Tryz.func35, Tryz.ntmps35
    go_wp2_with fail
    go_ret
    exact ⟨ret_int (by have := HW.out; unfold szR; rw [if_neg (by omega)]), Below.refl _ _⟩
  · go_enter Tryz.func35, Tryz.ntmps35
    go_wp2_with fail
    go_loopw [1, 5] (fun l i wr => ∃ (k : Nat) (M : Int), k ≤ xs.length ∧ i = .int .i64 k ∧ l = .int .i64 M ∧ 0 ≤ M ∧ M ≤ 1048576 ∧ Hid (M = L - xs.length - ((xs.take k).map wMte).sum) ∧ Below w.heap.size w wr) (fun _ i _ => xs.length - (intOf i).toNat)
    case atStart => exact ⟨0, _, Nat.zero_le _, rfl, rfl, by omega, by omega, by show _ = _; simp, Below.refl _ _⟩
    case round =>
      obtain ⟨k, M, hk, rfl, rfl, hM0, hM1, hM, hbel⟩ := hrel
      by_cases hlt : k < xs.length
      · obtain ⟨x, hx⟩ : ∃ x, xs[k]? = some x := ⟨xs[k], List.getElem?_eq_getElem hlt⟩
        obtain ⟨b, o, rfl, _, _, hc⟩ := (HI.out.below MteC.holds hbel (Nat.le_refl _)).at hx
        obtain ⟨a5, c5, a6, c6, a7, c7, a8, c8, q0, q1, q2, q3, q4, q5, q6, q7, q8, z0, n5, n6, n7, n8⟩ := hc
        simp only [Nat.add_zero] at q0 q1 q2 q3 q4 q5 q6 q7 q8
        have HX : Hid (((xs.take (k + 1)).map wMte).sum = ((xs.take k).map wMte).sum + wMte x) := sum_take _ _ _ _ hx
        have HY : Hid (((xs.take (k + 1)).map wMte).sum ≤ (xs.map wMte).sum) := sum_take_le _ _ _
        have CT := szMte_any x a5 c5 a6 c6 a7 c7 a8 c8 lo M wr z0 n5 n6 n7 n8 hM0 hM1
        have HCT := Hid.intro CT
        clear hx CT
        by_cases hr : (wMte x : Int) ≤ M
        · rw [szR_pos hr] at HCT
          generalize hV : wMte x = V at *
          clear hV
          go_wp2_with fail
          refine HCT.out.mono ?_
          rintro e w1 ⟨rfl, hb1⟩
          clear HCT
          go_wp2_with fail
          go_roundw
          case rel =>
            refine ⟨k + 1, M - V, by omega, by go_num, rfl, by omega, by omega, ?_, hbel.trans (hb1.mono hbel.size)⟩
            have := hM.out
            have := HX.out
            show _ = _
            omega
          case measure => simp [intOf]; omega
        · rw [szR_neg hr] at HCT
          generalize hV : wMte x = V at *
          clear hV
          go_wp2_with fail
          refine HCT.out.mono ?_
          rintro e w1 ⟨rfl, hb1⟩
          clear HCT
          go_wp2_with fail
          go_ret
          refine ⟨ret_int ?_, hbel.trans (hb1.mono hbel.size)⟩
          have := HW.out
          have := HX.out
          have := HY.out
          have := hM.out
          unfold szR
          rw [if_neg (by omega)]
      · go_wp2_with fail
        go_ret
        refine ⟨ret_int ?_, hbel⟩
        have hke : k = xs.length := by omega
        subst hke
        have h3 := hM.out
        have h4 := HW.out
        simp only [List.take_length] at h3
        unfold szR
        rw [if_pos (by omega)]
        omega

theorem info_Mte : (Tryz.prog.info? 52).map (fun i => (i.zero, i.size, i.bytes)) = some (some (.agg #[.string ⟨#[]⟩, .bool false, .int .i64 0, .bool false, .int .i64 0, .slice none 0 0, .slice none 0 0, .slice none 0 0, .slice none 0 0]), 9, 144) := by kernel_rfl

set_option maxHeartbeats 2000000 in
theorem toMteS_any (xs : List Mte) (a : Option Addr) (cap lo : Nat) (w : World) (hin : SliceC MteC 9 lo w a xs) (hsm : wS wMte xs ≤ 1048576) :
    Calls Tryz.prog 40 #[.slice a xs.length cap] w fun e w' => ∃ g, e = .returned (.slice (some ⟨g, 0, none⟩) xs.length xs.length) ∧ w.heap.size ≤ g ∧ SliceC MteC 9 w.heap.size w' (some ⟨g, 0, none⟩) xs ∧ Below w.heap.size w w' := by
  obtain ⟨i0, hi, hz0, hz1, hz2⟩ := info_parts info_Mte
  have hlen : xs.length ≤ 1048576 := Nat.le_trans wS_len hsm
  have HI : Hid (SliceC MteC 9 lo w a xs) := hin
  have HSM : Hid (wS wMte xs ≤ 1048576) := hsm
  clear hin hsm
  go_enter Tryz.func40, Tryz.ntmps40
  go_wp2_with (at_make; refine wpList_make_full _ rfl _ _ 28 rfl w.heap.size 52 i0 _ 9 Tryz.underlying28 hi hz0 hz1 .i64 .i64 _ _ xs.length rfl rfl rfl rfl (by rw [hz2]; omega) (by unfold maxLen; omega) (Nat.le_refl _) ?_; intro w1 hown hgrow)
  have hb1 : Below w.heap.size w w1 := (Below.refl _ _).grown hgrow (Nat.le_refl _) (fun k h => by cases h)
  have hsz1 := (hown.lt w.heap.size rfl).2
  generalize hX : (madeCells _ (xs.length * 9)).toList = xs0 at hown
  clear hX hgrow hi hz0 hz1 hz2
  go_loopw [4] (fun i wr => ∃ (k : Nat) (cs : List Value), k ≤ xs.length ∧ i = .int .i64 k ∧ w.heap.size < wr.heap.size ∧ wr.ownsRow w.heap.size 52 9 (.slice (some ⟨w.heap.size, 0, none⟩) xs.length xs.length) xs.length cs ∧ RowC MteC 9 (w.heap.size + 1) wr cs xs k ∧ Below w.heap.size w wr) (fun i _ => xs.length - (intOf i).toNat)
  case atStart => exact ⟨0, xs0, Nat.zero_le _, rfl, hsz1, hown, fun j n h => by omega, hb1⟩
  case round =>
    clear hown hb1 hsz1
    obtain ⟨k, cs, hk, rfl, hszr, hown, hfil, hbel⟩ := hrel
    by_cases hlt : k < xs.length
    · obtain ⟨x, hx⟩ : ∃ x, xs[k]? = some x := ⟨xs[k], List.getElem?_eq_getElem hlt⟩
      obtain ⟨b, o, rfl, _, _, hc⟩ := (HI.out.below MteC.holds hbel (Nat.le_refl _)).at hx
      obtain ⟨a5, c5, a6, c6, a7, c7, a8, c8, q0, q1, q2, q3, q4, q5, q6, q7, q8, z0, n5, n6, n7, n8⟩ := hc
      simp only [Nat.add_zero] at q0 q1 q2 q3 q4 q5 q6 q7 q8
      have HN : Hid (xs[k]? = some x) := hx
      have hwx : wMte x ≤ 1048576 := Nat.le_trans (wS_mem (List.mem_of_getElem? hx)) HSM.out
      have HO : Hid (wr.ownsRow w.heap.size 52 9 (.slice (some ⟨w.heap.size, 0, none⟩) xs.length xs.length) xs.length cs) := hown
      have HF : Hid (RowC MteC 9 (w.heap.size + 1) wr cs xs k) := hfil
      have HS : Hid (w.heap.size < wr.heap.size) := hszr
      have CT := toMte_any x a5 c5 a6 c6 a7 c7 a8 c8 lo wr n5 n6 n7 n8 hwx
      have HCT := Hid.intro CT
      clear hx hown hfil CT hszr
      go_wp2_with fail
      refine HCT.out.mono ?_
      rintro e w2 ⟨g5, g6, g7, g8, rfl, m5, m6, m7, m8, hb2⟩
      clear HCT q0 q1 q2 q3 q4 q5 q6 q7 q8 n5 n6 n7 n8
      have ho2 := ownsRow_below HO.out hb2
      have HB2 : Hid (Below w.heap.size w w2) := hbel.trans (hb2.mono hbel.size)
      have HF2 : Hid (RowC MteC 9 (w.heap.size + 1) w2 cs xs k) := HF.out.keep MteC.holds (Keeps.of_below hb2 (Nat.le_refl _) _)
      have hs2 : Hid (w.heap.size < w2.heap.size) := Nat.lt_of_lt_of_le HS.out hb2.size
      have HR : Hid (MteC (w.heap.size + 1) w2 (fun i => ([.string x.name, .bool x.up, .int .i64 x.clock, .bool x.known, .int .i64 x.seen, .slice (some ⟨g5, 0, none⟩) x.wants.length x.wants.length, .slice (some ⟨g6, 0, none⟩) x.runs.length x.runs.length, .slice (some ⟨g7, 0, none⟩) x.asks.length x.asks.length, .slice (some ⟨g8, 0, none⟩) x.gives.length x.gives.length] : List Value)[i]?) x) := ⟨_, _, _, _, _, _, _, _, rfl, rfl, rfl, rfl, rfl, rfl, rfl, rfl, rfl, z0, m5.keep WntC.holds (Keeps.refl _ _) (by have := hbel.size; have := HS.out; omega), m6.keep RnC.holds (Keeps.refl _ _) (by have := hbel.size; have := HS.out; omega), m7.keep AksC.holds (Keeps.refl _ _) (by have := hbel.size; have := HS.out; omega), m8.keep AksC.holds (Keeps.refl _ _) (by have := hbel.size; have := HS.out; omega)⟩
      have hxl : cs.length = xs.length * 9 := ho2.1
      have HT : Hid (w2.there w.heap.size (k * 9) 9) := ownsRow_there ho2 (by omega)
      have HL : Hid (cs.length = xs.length * 9) := hxl
      have HO2 : Hid (w2.ownsRow w.heap.size 52 9 (.slice (some ⟨w.heap.size, 0, none⟩) xs.length xs.length) xs.length cs) := ho2
      clear hxl ho2 HO hb2 hwx m5 m6 m7 m8
      obtain ⟨w3, hw3⟩ : ∃ w', w' = w2.setCells w.heap.size (k * 9) [.string x.name, .bool x.up, .int .i64 x.clock, .bool x.known, .int .i64 x.seen, .slice (some ⟨g5, 0, none⟩) x.wants.length x.wants.length, .slice (some ⟨g6, 0, none⟩) x.runs.length x.runs.length, .slice (some ⟨g7, 0, none⟩) x.asks.length x.asks.length, .slice (some ⟨g8, 0, none⟩) x.gives.length x.gives.length] := ⟨_, rfl⟩
      have HW3 : Hid (w3 = w2.setCells w.heap.size (k * 9) [.string x.name, .bool x.up, .int .i64 x.clock, .bool x.known, .int .i64 x.seen, .slice (some ⟨g5, 0, none⟩) x.wants.length x.wants.length, .slice (some ⟨g6, 0, none⟩) x.runs.length x.runs.length, .slice (some ⟨g7, 0, none⟩) x.asks.length x.asks.length, .slice (some ⟨g8, 0, none⟩) x.gives.length x.gives.length]) := hw3
      have HS3 : Hid (w.heap.size < w3.heap.size) := by rw [hw3, size_setCells]; exact hs2
      have HO3 : Hid (w3.ownsRow w.heap.size 52 9 (.slice (some ⟨w.heap.size, 0, none⟩) xs.length xs.length) xs.length (setRun cs (k * 9) [.string x.name, .bool x.up, .int .i64 x.clock, .bool x.known, .int .i64 x.seen, .slice (some ⟨g5, 0, none⟩) x.wants.length x.wants.length, .slice (some ⟨g6, 0, none⟩) x.runs.length x.runs.length, .slice (some ⟨g7, 0, none⟩) x.asks.length x.asks.length, .slice (some ⟨g8, 0, none⟩) x.gives.length x.gives.length])) := by rw [hw3]; exact ownsRow_run _ _ _ _ HO2.out
      have HB3 : Hid (Below w.heap.size w w3) := by rw [hw3]; exact below_setCells (Nat.le_refl _) _ _ _ HB2.out
      have HR3 : Hid (RowC MteC 9 (w.heap.size + 1) w3 (setRun cs (k * 9) [.string x.name, .bool x.up, .int .i64 x.clock, .bool x.known, .int .i64 x.seen, .slice (some ⟨g5, 0, none⟩) x.wants.length x.wants.length, .slice (some ⟨g6, 0, none⟩) x.runs.length x.runs.length, .slice (some ⟨g7, 0, none⟩) x.asks.length x.asks.length, .slice (some ⟨g8, 0, none⟩) x.gives.length x.gives.length]) xs (k + 1)) := by
        rw [hw3]
        exact (HF2.out.step (vs := [.string x.name, .bool x.up, .int .i64 x.clock, .bool x.known, .int .i64 x.seen, .slice (some ⟨g5, 0, none⟩) x.wants.length x.wants.length, .slice (some ⟨g6, 0, none⟩) x.runs.length x.runs.length, .slice (some ⟨g7, 0, none⟩) x.asks.length x.asks.length, .slice (some ⟨g8, 0, none⟩) x.gives.length x.gives.length]) MteC.holds HN.out rfl (by have := HL.out; omega) HR.out).keep MteC.holds (Keeps.setCells (by omega) _ _ _)
      clear hw3 HB2 HF2 hs2 HR HL HO2
      go_wp2_with (refine wpList_store_to rfl 52 _ _ rfl w.heap.size (k * 9) #[.string x.name, .bool x.up, .int .i64 x.clock, .bool x.known, .int .i64 x.seen, .slice (some ⟨g5, 0, none⟩) x.wants.length x.wants.length, .slice (some ⟨g6, 0, none⟩) x.runs.length x.runs.length, .slice (some ⟨g7, 0, none⟩) x.asks.length x.asks.length, .slice (some ⟨g8, 0, none⟩) x.gives.length x.gives.length] (by first | rfl | (simp [go_sem]; done)) rfl HT.out isz_Mte (by simp [Value.oneCell']) w3 HW3.out ?_)
      go_roundw
      case rel => exact ⟨k + 1, _, by omega, by go_num, HS3.out, HO3.out, HR3.out, HB3.out⟩
      case measure => simp [intOf]; omega
    · have HO : Hid (wr.ownsRow w.heap.size 52 9 (.slice (some ⟨w.heap.size, 0, none⟩) xs.length xs.length) xs.length cs) := hown
      have HF : Hid (RowC MteC 9 (w.heap.size + 1) wr cs xs k) := hfil
      clear hown hfil
      go_wp2_with fail
      go_ret
      have hke : k = xs.length := by omega
      subst hke
      exact ⟨_, rfl, Nat.le_refl _, sliceC_of_row HO.out HF.out MteC.holds HI.out.1 (by omega) (Nat.le_refl _), hbel⟩

set_option maxHeartbeats 2000000 in
theorem eqMteS_any (xs : List Mte) (a a' : Option Addr) (cap cap' lo lo' : Nat) (w : World) (hg : SliceC MteC 9 lo w a xs) (hh : SliceC MteC 9 lo' w a' xs) (hsm : wS wMte xs ≤ 1048576) :
    Calls Tryz.prog 27 #[.slice a xs.length cap, .slice a' xs.length cap'] w fun e w' => e = .returned (.bool true) ∧ Below w.heap.size w w' := by
  have hlen : xs.length ≤ 1048576 := Nat.le_trans wS_len hsm
  have HG : Hid (SliceC MteC 9 lo w a xs) := hg
  have HH : Hid (SliceC MteC 9 lo' w a' xs) := hh
  have HSM : Hid (wS wMte xs ≤ 1048576) := hsm
  clear hg hh hsm
  go_enter Tryz.func27, Tryz.ntmps27
  go_wp2_with fail
  go_loopw [5] (fun i wr => ∃ (k : Nat), k ≤ xs.length ∧ i = .int .i64 k ∧ Below w.heap.size w wr) (fun i _ => xs.length - (intOf i).toNat)
  case atStart => exact ⟨0, Nat.zero_le _, rfl, Below.refl _ _⟩
  case round =>
    obtain ⟨k, hk, rfl, hbel⟩ := hrel
    by_cases hlt : k < xs.length
    · obtain ⟨x, hx⟩ : ∃ x, xs[k]? = some x := ⟨xs[k], List.getElem?_eq_getElem hlt⟩
      obtain ⟨b, o, rfl, _, _, hc⟩ := (HG.out.below MteC.holds hbel (Nat.le_refl _)).at hx
      obtain ⟨b', o', rfl, _, _, hc'⟩ := (HH.out.below MteC.holds hbel (Nat.le_refl _)).at hx
      obtain ⟨a5, c5, a6, c6, a7, c7, a8, c8, q0, q1, q2, q3, q4, q5, q6, q7, q8, _, n5, n6, n7, n8⟩ := hc
      obtain ⟨a5p, c5p, a6p, c6p, a7p, c7p, a8p, c8p, r0, r1, r2, r3, r4, r5, r6, r7, r8, _, p5, p6, p7, p8⟩ := hc'
      simp only [Nat.add_zero] at q0 q1 q2 q3 q4 q5 q6 q7 q8 r0 r1 r2 r3 r4 r5 r6 r7 r8
      have hwx : wMte x ≤ 1048576 := Nat.le_trans (wS_mem (List.mem_of_getElem? hx)) HSM.out
      have k0 := cell_regrown q0
      have l0 := cell_regrown r0
      have k1 := cell_regrown q1
      have l1 := cell_regrown r1
      have k2 := cell_regrown q2
      have l2 := cell_regrown r2
      have k3 := cell_regrown q3
      have l3 := cell_regrown r3
      have k4 := cell_regrown q4
      have l4 := cell_regrown r4
      have k5 := cell_regrown q5
      have l5 := cell_regrown r5
      have k6 := cell_regrown q6
      have l6 := cell_regrown r6
      have k7 := cell_regrown q7
      have l7 := cell_regrown r7
      have k8 := cell_regrown q8
      have l8 := cell_regrown r8
      have cE : ∀ d os, Calls Tryz.prog 57 #[.agg #[.string x.name, .bool x.up, .int .i64 x.clock, .bool x.known, .int .i64 x.seen, .slice a5 x.wants.length c5, .slice a6 x.runs.length c6, .slice a7 x.asks.length c7, .slice a8 x.gives.length c8], .agg #[.string x.name, .bool x.up, .int .i64 x.clock, .bool x.known, .int .i64 x.seen, .slice a5p x.wants.length c5p, .slice a6p x.runs.length c6p, .slice a7p x.asks.length c7p, .slice a8p x.gives.length c8p]] (Sort.grow (redrawn wr d) os) fun e w'' => e = .returned (.bool true) ∧ ∃ p : Regrown, w'' = Sort.grow (redrawn wr p.d) p.os := fun d os => Calls.regrown_of (eqMte_any x a5 c5 a6 c6 a7 c7 a8 c8 a5p c5p a6p c6p a7p c7p a8p c8p lo lo' _ (n5.below WntC.holds (below_regrown wr d os) (Nat.le_refl _)) (n6.below RnC.holds (below_regrown wr d os) (Nat.le_refl _)) (n7.below AksC.holds (below_regrown wr d os) (Nat.le_refl _)) (n8.below AksC.holds (below_regrown wr d os) (Nat.le_refl _)) (p5.below WntC.holds (below_regrown wr d os) (Nat.le_refl _)) (p6.below RnC.holds (below_regrown wr d os) (Nat.le_refl _)) (p7.below AksC.holds (below_regrown wr d os) (Nat.le_refl _)) (p8.below AksC.holds (below_regrown wr d os) (Nat.le_refl _)) hwx)
      have i0 : (0 : Int) ≤ (k : Int) := by omega
      have i1 : (k : Int) < (xs.length : Int) := by omega
      clear hx q0 q1 q2 q3 q4 q5 q6 q7 q8 r0 r1 r2 r3 r4 r5 r6 r7 r8 n5 p5 n6 p6 n7 p7 n8 p8 hwx
      go_wp2_with fail
      refine wp_region_quiet_below (by kernel_rfl) (by kernel_rfl) ?_
      repeat (quiet_step (first | exact cE _ _))
      refine wpQuiet_nil ?_
      intro _ hw'
      obtain ⟨⟨dq, osq⟩, hw''⟩ := hw'
      have hB := hbel.trans ((below_regrown wr dq osq).mono hbel.size)
      simp only [] at hw''
      rw [← hw''] at hB
      clear hw'' cE k0 l0 k1 l1 k2 l2 k3 l3 k4 l4 k5 l5 k6 l6 k7 l7 k8 l8
      go_wp2_with fail
      go_roundw
      case rel => exact ⟨k + 1, by omega, by go_num, hB⟩
      case measure => simp [intOf]; omega
    · go_wp2_with fail
      go_ret
      exact ⟨rfl, hbel⟩

end Go.Proofs.YtlcjfiikiblcdaaGreat
