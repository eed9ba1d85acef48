/-
  Names marked; a new world marked, held, and held against another one. Made by mknwl.py.
-/
import Derived.Test.YtebcocejgenadaaGreatNwm
import Derived.Test.YtebcocejgenadaaGreatNwh
namespace Go.Proofs.YtebcocejgenadaaGreat
open Go.RowKit

set_option maxHeartbeats 4000000 in
set_option maxRecDepth 100000 in
theorem markNames_any (ns : List ByteArray) (g q lo : Nat) (w : World) (hin : SliceC StrC 1 lo w (some ⟨g, 0, none⟩) ns) (hlo : 0 < lo) (hl : ns.length ≤ 1048576) :
    Calls Tryz.prog 10 #[.slice (some ⟨g, 0, none⟩) ns.length q, .int .i64 1] w fun e w' => e = .returned (.int .i64 ((1 + ns.length : Nat) : Int)) ∧ Bv (.slice (some ⟨g, 0, none⟩) ns.length q) w w' := by
  have HC0 : Hid (∀ (j : Nat) n, 0 ≤ j → ns[j]? = some n → w.cell? ⟨g, j, none⟩ = some (.string n)) := fun j n _ hn => by
    obtain ⟨b, o, e, _, _, hc⟩ := hin.at hn
    cases e
    simpa using hc.1
  have HF0 : Hid (ns = [] ∨ ∀ p, w.frozen? ⟨g, p, none⟩ = false) := by
    rcases hin.2 with h | ⟨b, o, e, ⟨_, h2⟩, _⟩
    · exact .inl h
    · cases e
      exact .inr (h2 hlo)
  have HL0 : Hid (ns = [] ∨ g < w.heap.size) := by
    rcases hin.2 with h | ⟨b, o, e, _, h3, _⟩
    · exact .inl h
    · cases e
      exact .inr h3
  clear hin
  go_enter Tryz.func10, Tryz.ntmps10
  go_wp2_with fail
  go_loopw [1, 5] (fun l u wr => ∃ i : Nat, i ≤ ns.length ∧ l = .int .i64 ((1 + i : Nat) : Int) ∧ u = .int .i64 i ∧ Hid (∀ (j : Nat) n, i ≤ j → ns[j]? = some n → wr.cell? ⟨g, j, none⟩ = some (.string n)) ∧ Hid (ns = [] ∨ ∀ p, wr.frozen? ⟨g, p, none⟩ = false) ∧ Hid (ns = [] ∨ g < wr.heap.size) ∧ Hid (Bv (.slice (some ⟨g, 0, none⟩) ns.length q) w wr)) (fun _ u _ => ns.length - (intOf u).toNat)
  case atStart => exact ⟨0, Nat.zero_le _, rfl, rfl, HC0, HF0, HL0, Bv.refl _ _⟩
  case round =>
    clear HC0 HF0 HL0
    obtain ⟨i, hi, rfl, rfl, HC, HF, HL, HV⟩ := hrel
    by_cases hlt : i < ns.length
    case neg =>
      have hie : i = ns.length := by omega
      subst hie
      go_wp2_with fail
      go_ret
      exact ⟨rfl, HV.out⟩
    have hne : ¬ ns = [] := fun e => by rw [e] at hlt; exact absurd hlt (Nat.not_lt_zero _)
    have hfz : ∀ p, wr.frozen? ⟨g, p, none⟩ = false := HF.out.resolve_left hne
    have hgl : g < wr.heap.size := HL.out.resolve_left hne
    obtain ⟨n, hn⟩ : ∃ n, ns[i]? = some n := ⟨ns[i], List.getElem?_eq_getElem hlt⟩
    have HCI := Hid.intro (HC.out i n (Nat.le_refl _) hn)
    have HFZ := Hid.intro hfz
    clear hn hfz HF HL hne
    go_wp2_with fail
    refine (markText_any (1 + i) _ (by omega) (by omega)).mono ?_
    rintro e w1 ⟨rfl, hb⟩
    have ci : w1.cell? ⟨g, i, none⟩ = some (.string n) := (hb.cell (p := ⟨g, i, none⟩) hgl).trans HCI.out
    have fi : w1.frozen? ⟨g, i, none⟩ = false := (hb.frozen (p := ⟨g, i, none⟩) hgl).trans (HFZ.out i)
    have HC1 : Hid (∀ (j : Nat) n, i + 1 ≤ j → ns[j]? = some n → (w1.setCell ⟨g, i, none⟩ (.string (mtOf (1 + i)))).cell? ⟨g, j, none⟩ = some (.string n)) := fun j m hj hm => by
      have h1 : w1.cell? ⟨g, j, none⟩ = some (.string m) := (hb.cell (p := ⟨g, j, none⟩) hgl).trans (HC.out j m (by omega) hm)
      have h2 := World.rangeAt_setCells_apart (range_cons h1 (range_nil _ _ _)) g i [.string (mtOf (1 + i))] (.inr (.inr (by simp; omega))) 0 _ rfl
      have h3 : (w1.setCells g i [.string (mtOf (1 + i))]).cell? ⟨g, j, none⟩ = some (.string m) := by simpa using h2
      exact h3
    have HF1 : Hid (ns = [] ∨ ∀ p, (w1.setCell ⟨g, i, none⟩ (.string (mtOf (1 + i)))).frozen? ⟨g, p, none⟩ = false) := .inr (fun p => by
      have h1 : w1.frozen? ⟨g, p, none⟩ = false := (hb.frozen (p := ⟨g, p, none⟩) hgl).trans (HFZ.out p)
      simpa using h1)
    have HL1 : Hid (ns = [] ∨ g < (w1.setCell ⟨g, i, none⟩ (.string (mtOf (1 + i)))).heap.size) := .inr (by have := hb.size; simp; omega)
    have HV1 : Hid (Bv (.slice (some ⟨g, 0, none⟩) ns.length q) w (w1.setCell ⟨g, i, none⟩ (.string (mtOf (1 + i))))) := (HV.out.to hb).set _ _
    clear hb HC HV HCI HFZ
    go_wp2_with fail
    go_roundw
    case rel => exact ⟨i + 1, by omega, by go_num, by go_num, HC1, HF1, HL1, HV1⟩
    case measure => simp [intOf]; omega

theorem markMates_any (xs : List Nm) (k : Nat) (bb : Option Addr) (q base : Nat) (w : World) (hO : w.ownsRow base 41 9 (.slice bb xs.length q) xs.length (rvNm xs)) (hl : xs.length ≤ 4) (hk : 0 < k ∧ k ≤ 100) :
    Calls Tryz.prog 20 #[.slice bb xs.length q, .int .i64 (k : Int)] w fun e w' => e = .returned (.int .i64 ((k + 5 * xs.length : Nat) : Int)) ∧ w'.ownsRow base 41 9 (.slice bb xs.length q) xs.length (mvL k xs.length) ∧ Bv (.slice bb xs.length q) w w' := by
  by_cases h0 : xs.length = 0
  · have e0 : xs = [] := List.length_eq_zero_iff.1 h0
    subst e0
    refine (markMateS_zero k bb q w).mono ?_
    rintro e w' ⟨rfl, hb⟩
    exact ⟨rfl, ownsRow_below hO hb, (Bv.refl _ _).to hb⟩
  · obtain ⟨g, c, e⟩ := rowf hO (fun e => by injection e with _ e2 _; omega)
    have e1 : bb = some ⟨g, 0, none⟩ := by injection e
    subst e1
    refine (markMs_any xs k g q base w hO hl hk).mono ?_
    rintro e w' ⟨rfl, h1, h2, _⟩
    exact ⟨rfl, h1, h2⟩

theorem heldMates_any (xs : List Nm) (k : Nat) (bb : Option Addr) (q base : Nat) (w : World) (hO : w.ownsRow base 41 9 (.slice bb xs.length q) xs.length (mvL k xs.length)) (hl : xs.length ≤ 4) (hk : 0 < k ∧ k ≤ 100) :
    Calls Tryz.prog 22 #[.slice bb xs.length q, .int .i64 (k : Int)] w fun e w' => e = .returned (.int .i64 ((k + 5 * xs.length : Nat) : Int)) ∧ Below w.heap.size w w' := by
  by_cases h0 : xs.length = 0
  · have e0 : xs = [] := List.length_eq_zero_iff.1 h0
    subst e0
    exact heldMateS_zero k bb q w
  · obtain ⟨g, c, e⟩ := rowf hO (fun e => by injection e with _ e2 _; omega)
    have e1 : bb = some ⟨g, 0, none⟩ := by injection e
    subst e1
    exact heldMs_any xs k g q base w hO hl hk

set_option maxHeartbeats 4000000 in
set_option maxRecDepth 100000 in
theorem markW_any (xs : List Nm) (bb : Option Addr) (q base : Nat) (w : World) (hO : w.ownsRow base 41 9 (.slice bb xs.length q) xs.length (rvNm xs)) (hl : xs.length ≤ 4) :
    Calls Tryz.prog 11 #[.agg #[.int .i64 0, .slice none 0 0, .slice none 0 0, .slice bb xs.length q, .slice none 0 0], .int .i64 1] w fun e w' => e = .returned (.int .i64 ((1 + 5 * xs.length : Nat) : Int)) ∧ w'.ownsRow base 41 9 (.slice bb xs.length q) xs.length (mvL 1 xs.length) ∧ Bv (.slice bb xs.length q) w w' := by
  have HK1 : Hid (Blk w.heap.size #[.int .i64 0, .slice none 0 0, .slice none 0 0, .slice bb xs.length q, .slice none 0 0] 30 (w.alloc (.cells #[.int .i64 0, .slice none 0 0, .slice none 0 0, .slice bb xs.length q, .slice none 0 0] 30))) := Blk.alloc _ _ _
  have hb1 : Below w.heap.size w (w.alloc (.cells #[.int .i64 0, .slice none 0 0, .slice none 0 0, .slice bb xs.length q, .slice none 0 0] 30)) := (Below.refl _ w).alloc (Nat.le_refl _) _
  have HO1 := Hid.intro (ownsRow_below hO hb1)
  have HV1 := Hid.intro ((Bv.refl (.slice bb xs.length q) w).to hb1)
  have hs1 : w.heap.size < (w.alloc (.cells #[.int .i64 0, .slice none 0 0, .slice none 0 0, .slice bb xs.length q, .slice none 0 0] 30)).heap.size := HK1.out.lt
  have hown : ∀ b, (Value.slice bb xs.length q).ownBlock = some b → b < w.heap.size := fun b e => (hO.lt b e).2
  clear hO hb1
  go_enter Tryz.func11, Tryz.ntmps11
  go_upto_region 1 with fail
  generalize w.alloc (Obj.cells #[.int .i64 0, .slice none 0 0, .slice none 0 0, .slice bb xs.length q, .slice none 0 0] 30) = w1 at *
  have HKL : Hid (w1.rangeAt w.heap.size 0 [.int .i64 0, .slice none 0 0, .slice none 0 0]) := range_cons (HK1.out.cell rfl) (range_cons (HK1.out.cell rfl) (range_cons (HK1.out.cell rfl) (range_nil _ _ _)))
  go_wp2_with (refine wpList_load_mid rfl 27 _ rfl w.heap.size 0 (by first | rfl | (simp [go_sem]; done)) [.int .i64 0, .slice none 0 0, .slice none 0 0] _ HKL.out Tryz.underlying27 rfl isz_Lnd ?_)
  refine (markMateLand_nil 1 _ (by omega)).mono ?_
  rintro e w2 ⟨rfl, hb⟩
  have HK2 := Hid.intro (HK1.out.below hb HK1.out.lt)
  have HO2 := Hid.intro (ownsRow_below HO1.out hb)
  have HV2 := Hid.intro (HV1.out.to hb)
  have hs2 : w.heap.size < w2.heap.size := HK2.out.lt
  clear hb HK1 HO1 HV1 HKL hs1
  have k3 : w2.cell? ⟨w.heap.size, 3, none⟩ = some (.slice bb xs.length q) := HK2.out.cell rfl
  go_wp2_with fail
  refine (markMates_any xs 1 bb q base _ HO2.out hl (by omega)).mono ?_
  rintro e w3 ⟨rfl, ho3, hv3⟩
  have HK3 := Hid.intro (HK2.out.bv hv3 (fun e => by have := hown _ e; omega))
  have HO3 := Hid.intro ho3
  have HV3 : Hid (Bv (.slice bb xs.length q) w w3) := ⟨hv3.os.trans HV2.out.os, hv3.tape.trans HV2.out.tape, hv3.output.trans HV2.out.output, Nat.le_trans HV2.out.size hv3.size, fun b hb hn => (hv3.block b (by omega) hn).trans (HV2.out.block b hb hn)⟩
  clear ho3 hv3 HK2 HO2 HV2 k3 hs2
  have k4 : w3.cell? ⟨w.heap.size, 4, none⟩ = some (.slice none 0 0) := HK3.out.cell rfl
  obtain ⟨T, hT⟩ : ∃ T, T = 1 + 5 * xs.length := ⟨_, rfl⟩
  have HT := Hid.intro hT
  rw [← hT]
  clear hT
  have hn5 : ¬ ((T : Int) < 0) := by omega
  have hn5' : (0 : Int) ≤ (T : Int) := by omega
  go_wp2_with fail
  refine (markStringS_nil (T : Int) 0 _).mono ?_
  rintro e w4 ⟨rfl, hb⟩
  have HO4 := Hid.intro (ownsRow_below HO3.out hb)
  have HV4 := Hid.intro (HV3.out.to hb)
  clear hb HK3 HO3 HV3 k4
  go_wp2_with fail
  go_ret
  exact ⟨ret_int (by have := HT.out; omega), HO4.out, HV4.out⟩


set_option maxHeartbeats 4000000 in
set_option maxRecDepth 100000 in
theorem heldW_any (xs : List Nm) (bb : Option Addr) (q base : Nat) (w : World) (hO : w.ownsRow base 41 9 (.slice bb xs.length q) xs.length (mvL 1 xs.length)) (hl : xs.length ≤ 4) :
    Calls Tryz.prog 12 #[.agg #[.int .i64 0, .slice none 0 0, .slice none 0 0, .slice bb xs.length q, .slice none 0 0], .int .i64 1] w fun e w' => e = .returned (.int .i64 ((1 + 5 * xs.length : Nat) : Int)) ∧ Below w.heap.size w w' := by
  have HK1 : Hid (Blk w.heap.size #[.int .i64 0, .slice none 0 0, .slice none 0 0, .slice bb xs.length q, .slice none 0 0] 30 (w.alloc (.cells #[.int .i64 0, .slice none 0 0, .slice none 0 0, .slice bb xs.length q, .slice none 0 0] 30))) := Blk.alloc _ _ _
  have hb1 : Below w.heap.size w (w.alloc (.cells #[.int .i64 0, .slice none 0 0, .slice none 0 0, .slice bb xs.length q, .slice none 0 0] 30)) := (Below.refl _ w).alloc (Nat.le_refl _) _
  have HO1 := Hid.intro (ownsRow_below hO hb1)
  have HV1 := Hid.intro hb1
  have hs1 : w.heap.size < (w.alloc (.cells #[.int .i64 0, .slice none 0 0, .slice none 0 0, .slice bb xs.length q, .slice none 0 0] 30)).heap.size := HK1.out.lt
  clear hO hb1
  go_enter Tryz.func12, Tryz.ntmps12
  go_upto_region 1 with fail
  generalize w.alloc (Obj.cells #[.int .i64 0, .slice none 0 0, .slice none 0 0, .slice bb xs.length q, .slice none 0 0] 30) = w1 at *
  have HKL : Hid (w1.rangeAt w.heap.size 0 [.int .i64 0, .slice none 0 0, .slice none 0 0]) := range_cons (HK1.out.cell rfl) (range_cons (HK1.out.cell rfl) (range_cons (HK1.out.cell rfl) (range_nil _ _ _)))
  go_wp2_with (refine wpList_load_mid rfl 27 _ rfl w.heap.size 0 (by first | rfl | (simp [go_sem]; done)) [.int .i64 0, .slice none 0 0, .slice none 0 0] _ HKL.out Tryz.underlying27 rfl isz_Lnd ?_)
  refine (heldMateLand_nil 1 _ (by omega)).mono ?_
  rintro e w2 ⟨rfl, hb⟩
  have HK2 := Hid.intro (HK1.out.below hb HK1.out.lt)
  have HO2 := Hid.intro (ownsRow_below HO1.out hb)
  have HV2 := Hid.intro (HV1.out.trans (hb.mono HV1.out.size))
  have hs2 : w.heap.size < w2.heap.size := HK2.out.lt
  clear hb HK1 HO1 HV1 HKL hs1
  have k3 : w2.cell? ⟨w.heap.size, 3, none⟩ = some (.slice bb xs.length q) := HK2.out.cell rfl
  go_wp2_with fail
  refine (heldMates_any xs 1 bb q base _ HO2.out hl (by omega)).mono ?_
  rintro e w3 ⟨rfl, hb⟩
  have HK3 := Hid.intro (HK2.out.below hb HK2.out.lt)
  have HO3 := Hid.intro (ownsRow_below HO2.out hb)
  have HV3 := Hid.intro (HV2.out.trans (hb.mono HV2.out.size))
  clear hb HK2 HO2 HV2 k3 hs2
  have k4 : w3.cell? ⟨w.heap.size, 4, none⟩ = some (.slice none 0 0) := HK3.out.cell rfl
  obtain ⟨T, hT⟩ : ∃ T, T = 1 + 5 * xs.length := ⟨_, rfl⟩
  have HT := Hid.intro hT
  rw [← hT]
  clear hT
  have hn5 : ¬ ((T : Int) < 0) := by omega
  have hn5' : (0 : Int) ≤ (T : Int) := by omega
  go_wp2_with fail
  refine (heldStringS_nil (T : Int) 0 _).mono ?_
  rintro e w4 ⟨rfl, hb⟩
  have HV4 := Hid.intro (HV3.out.trans (hb.mono HV3.out.size))
  clear hb HK3 HO3 HV3 k4
  go_wp2_with fail
  go_ret
  exact ⟨ret_int (by have := HT.out; omega), HV4.out⟩


theorem w_nw {xs : List Nm} {N : Nat} (h : wS ByteArray.size (xs.map (·.name)) ≤ N) : wWrl (nwW xs) ≤ N := by
  have e : ∀ ys : List Nm, (((ys.map mk0).map wMte).sum) = (ys.map (fun y => y.name.size)).sum := by
    intro ys
    induction ys with
    | nil => rfl
    | cons y r ih =>
      simp only [List.map_cons, List.sum_cons, ih]
      simp [mk0, wMte, wS]
  have h2 := e xs
  simp only [wWrl, nwW, wLnd, wS, List.map_nil, List.sum_nil, List.length_nil, List.length_map] at h ⊢
  rw [h2]
  simp only [List.map_map] at h
  have h3 : (xs.map (ByteArray.size ∘ fun x => x.name)).sum = (xs.map (fun y => y.name.size)).sum := rfl
  omega

/-- two new worlds of the same names are the same -/
theorem eqNew_any (xs : List Nm) (bb : Option Addr) (q base : Nat) (bc : Option Addr) (qc base2 : Nat) (w : World) (hO : w.ownsRow base 41 9 (.slice bb xs.length q) xs.length (rvNm xs)) (hO2 : w.ownsRow base2 41 9 (.slice bc xs.length qc) xs.length (rvNm xs)) (hl : xs.length ≤ 4) (hz : SzNm xs 1048576) (hs : wS ByteArray.size (xs.map (·.name)) ≤ 1048576) :
    Calls Tryz.prog 8 #[.agg #[.int .i64 0, .slice none 0 0, .slice none 0 0, .slice bb xs.length q, .slice none 0 0], .agg #[.int .i64 0, .slice none 0 0, .slice none 0 0, .slice bc xs.length qc, .slice none 0 0]] w fun e w' => e = .returned (.bool true) ∧ Below w.heap.size w w' := by
  have h := eqWrl_any (nwW xs) none 0 none 0 bb q none 0 none 0 none 0 bc qc none 0 base base2 w SliceC.nil SliceC.nil (slice_mk0 (rowslNm hO (by omega) hz)) SliceC.nil SliceC.nil SliceC.nil (slice_mk0 (rowslNm hO2 (by omega) hz)) SliceC.nil (w_nw hs)
  have e : (nwW xs).mates.length = xs.length := by show (xs.map mk0).length = _; rw [List.length_map]
  rw [e] at h
  exact h

end Go.Proofs.YtebcocejgenadaaGreat
