/-
  Runs watched, by the specification. Made by mkmw3.py.
-/
import Derived.Test.YtlhcadpelcegaaaMw2
namespace Go.Proofs.Ytlhcadpelcegaaa
open Go.RowKit

theorem ownsRow_set_other {base : Nat} {e : TypeId} {s n : Nat} {v : Value} {cs : List Value} {w : World} (h : w.ownsRow base e s v n cs) {a : Addr} (u : Value) (hne : ∀ g c, v = .slice (some ⟨g, 0, none⟩) n c → g ≠ a.block) : (w.setCell a u).ownsRow base e s v n cs := by
  refine ⟨h.1, ?_⟩
  rcases h.2 with h' | ⟨g, cap, cur, h1, h2, h3, h4⟩
  · exact .inl h'
  · exact .inr ⟨g, cap, cur, h1, h2, (Below.heap_setCell w a u g (hne g cap h1)).trans h3, h4⟩

set_option maxHeartbeats 8000000 in
set_option maxRecDepth 100000 in
theorem specWatch_any (xs : List Rn) (a : Option Addr) (cap lo : Nat) (c : Int) (w : World) (hin : SliceC RnC 11 lo w a xs) (hsm : xs.length ≤ 1048576) :
    Calls Try.prog 22 #[.slice a xs.length cap, .int .i64 c] w fun e w' => ∃ g q, e = .returned (.slice (some ⟨g, 0, none⟩) xs.length q) ∧ SliceC RnC 11 w.heap.size w' (some ⟨g, 0, none⟩) (xs.map (wdR · c)) ∧ g < w'.heap.size ∧ Below w.heap.size w w' := by
  obtain ⟨i0, hi, hz0, hz1, hz2⟩ := info_parts info_Rn
  have HI := Hid.intro hin
  clear hin
  go_enter Try.func22, Try.ntmps22
  go_wp2_with fail
  go_loopw [5, 6] (fun v i wr => ∃ (k g q : Nat), k ≤ xs.length ∧ i = .int .i64 k ∧ v = .slice (some ⟨g, 0, none⟩) k q ∧ Hid (wr.ownsRow w.heap.size 37 11 (.slice (some ⟨g, 0, none⟩) k q) k (rnV ((xs.take k).map (wdR · c)))) ∧ Below w.heap.size w wr) (fun _ i _ => xs.length - (intOf i).toNat)
  case atStart => exact ⟨0, w.heap.size, 0, Nat.zero_le _, rfl, rfl, World.ownsRow_made w #[] 0 (Nat.le_refl _) (Nat.zero_le _) rfl, (Below.refl _ w).alloc (Nat.le_refl _) _⟩
  case round =>
    obtain ⟨k, g, q, hk, rfl, rfl, HO, hB⟩ := hrel
    by_cases hlt : k < xs.length
    · obtain ⟨x, hx⟩ : ∃ x, xs[k]? = some x := ⟨xs[k], List.getElem?_eq_getElem hlt⟩
      obtain ⟨b, ob, rfl, _, hbl, hc⟩ := (HI.out.below RnC.holds hB (Nat.le_refl _)).at hx
      have HRA := Hid.intro (range_of_cells hc)
      have HXX := Hid.intro hx
      have hgb : w.heap.size ≤ g := row_base HO.out
      have hgl : g < wr.heap.size := (HO.out.lt g rfl).2
      clear hc hx
      have hza : Blk wr.heap.size #[.string ⟨#[]⟩, .int .i64 0, .string ⟨#[]⟩, .int .i64 0, .int .i64 0, .int .i64 0, .int .i64 0, .int .i64 0, .int .i64 0, .int .i64 0, .int .i64 0] 37 (wr.alloc (Obj.cells #[.string ⟨#[]⟩, .int .i64 0, .string ⟨#[]⟩, .int .i64 0, .int .i64 0, .int .i64 0, .int .i64 0, .int .i64 0, .int .i64 0, .int .i64 0, .int .i64 0] 37)) := Blk.alloc _ _ _
      have HTS : Hid ((wr.alloc (Obj.cells #[.string ⟨#[]⟩, .int .i64 0, .string ⟨#[]⟩, .int .i64 0, .int .i64 0, .int .i64 0, .int .i64 0, .int .i64 0, .int .i64 0, .int .i64 0, .int .i64 0] 37)).there wr.heap.size 0 11) := hza.there
      obtain ⟨w4, HW4⟩ : ∃ w4, Hid (w4 = (wr.alloc (Obj.cells #[.string ⟨#[]⟩, .int .i64 0, .string ⟨#[]⟩, .int .i64 0, .int .i64 0, .int .i64 0, .int .i64 0, .int .i64 0, .int .i64 0, .int .i64 0, .int .i64 0] 37)).setCells wr.heap.size 0 [.string x.want.copy, .int .i64 x.want.version, .string x.want.hold, .int .i64 x.want.pull, .int .i64 x.want.start, .int .i64 x.want.dies, .int .i64 x.want.grace, .int .i64 x.state, .int .i64 x.left, .int .i64 x.falls, .int .i64 x.until_]) := ⟨_, rfl⟩
      have HK4 : Hid (Blk wr.heap.size #[.string x.want.copy, .int .i64 x.want.version, .string x.want.hold, .int .i64 x.want.pull, .int .i64 x.want.start, .int .i64 x.want.dies, .int .i64 x.want.grace, .int .i64 x.state, .int .i64 x.left, .int .i64 x.falls, .int .i64 x.until_] 37 w4) := by
        show Blk _ _ _ _
        rw [HW4.out]
        exact hza.setAll #[.string x.want.copy, .int .i64 x.want.version, .string x.want.hold, .int .i64 x.want.pull, .int .i64 x.want.start, .int .i64 x.want.dies, .int .i64 x.want.grace, .int .i64 x.state, .int .i64 x.left, .int .i64 x.falls, .int .i64 x.until_] rfl
      have hbx : Below wr.heap.size wr w4 := by
        rw [HW4.out]
        exact below_setCells (Nat.le_refl _) _ _ _ ((Below.refl _ wr).alloc (Nat.le_refl _) _)
      have hB4 : Below w.heap.size w w4 := hB.trans (hbx.mono hB.size)
      have HO4 := Hid.intro (ownsRow_below HO.out hbx)
      have hwr : w.heap.size ≤ wr.heap.size := hB.size
      clear hza hbx HO hB
      go_upto_region 6 with (first | (refine wpList_load_mid rfl 37 _ rfl b (ob + k * 11) (by first | rfl | (simp [go_sem]; done)) [.string x.want.copy, .int .i64 x.want.version, .string x.want.hold, .int .i64 x.want.pull, .int .i64 x.want.start, .int .i64 x.want.dies, .int .i64 x.want.grace, .int .i64 x.state, .int .i64 x.left, .int .i64 x.falls, .int .i64 x.until_] _ HRA.out Try.underlying37 rfl isz_Rn ?_) | (refine wpList_store_to rfl 37 _ _ rfl wr.heap.size 0 #[.string x.want.copy, .int .i64 x.want.version, .string x.want.hold, .int .i64 x.want.pull, .int .i64 x.want.start, .int .i64 x.want.dies, .int .i64 x.want.grace, .int .i64 x.state, .int .i64 x.left, .int .i64 x.falls, .int .i64 x.until_] rfl rfl HTS.out isz_Rn (by simp [Value.oneCell']) w4 HW4.out ?_))
      clear HRA HTS HW4
      go_wp2_with (first | (refine wpList_load_mid rfl 37 _ rfl wr.heap.size 0 (by first | rfl | (simp [go_sem]; done)) [.string x.want.copy, .int .i64 x.want.version, .string x.want.hold, .int .i64 x.want.pull, .int .i64 x.want.start, .int .i64 x.want.dies, .int .i64 x.want.grace, .int .i64 x.state, .int .i64 x.left, .int .i64 x.falls, .int .i64 x.until_] _ HK4.out.rangeA Try.underlying37 rfl isz_Rn ?_))
      refine (specAlive_any x _).mono ?_
      rintro e w5 ⟨rfl, hb5⟩
      have HK5 := Hid.intro (HK4.out.below hb5 HK4.out.lt)
      have HO5 := Hid.intro (ownsRow_below HO4.out hb5)
      have hB5 := hB4.trans (hb5.mono hB4.size)
      clear hb5 hB4 HO4 HK4
      cases ha : alB x.state with
      | false =>
        have HW : Hid (wdR x c = x) := if_neg (by rw [ha]; simp)
        clear ha
        obtain ⟨NV, hnv⟩ : ∃ l, l = rnC x := ⟨_, rfl⟩
        have HNV := Hid.intro hnv
        clear hnv
        have HNL : Hid (NV.length = 1 * 11) := by show _ = _; rw [HNV.out]; rfl
        have HNN : Hid (∀ j u, NV[j]? = some u → (w5.alloc (Obj.cells #[.string x.want.copy, .int .i64 x.want.version, .string x.want.hold, .int .i64 x.want.pull, .int .i64 x.want.start, .int .i64 x.want.dies, .int .i64 x.want.grace, .int .i64 x.state, .int .i64 x.left, .int .i64 x.falls, .int .i64 x.until_] 37)).cell? ((⟨w5.heap.size, 0, none⟩ : Addr).add j) = some u) := by
          intro j u hj
          rw [Addr.add_mid]
          rw [HNV.out] at hj
          exact (Blk.alloc w5 #[.string x.want.copy, .int .i64 x.want.version, .string x.want.hold, .int .i64 x.want.pull, .int .i64 x.want.start, .int .i64 x.want.dies, .int .i64 x.want.grace, .int .i64 x.state, .int .i64 x.left, .int .i64 x.falls, .int .i64 x.until_] 37).rangeA j u hj
        have HN1 : Hid (∀ u ∈ NV, u.oneCell' = true) := by
          intro u hu
          rw [HNV.out] at hu
          exact rnV_one [x] u (by simp only [rnV, List.append_nil]; exact hu)
        have HOA := Hid.intro (HO5.out.alloc (Obj.cells #[.string x.want.copy, .int .i64 x.want.version, .string x.want.hold, .int .i64 x.want.pull, .int .i64 x.want.start, .int .i64 x.want.dies, .int .i64 x.want.grace, .int .i64 x.state, .int .i64 x.left, .int .i64 x.falls, .int .i64 x.until_] 37))
        go_wp2_with (first | (refine wpList_load_mid rfl 37 _ rfl wr.heap.size 0 (by first | rfl | (simp [go_sem]; done)) [.string x.want.copy, .int .i64 x.want.version, .string x.want.hold, .int .i64 x.want.pull, .int .i64 x.want.start, .int .i64 x.want.dies, .int .i64 x.want.grace, .int .i64 x.state, .int .i64 x.left, .int .i64 x.falls, .int .i64 x.until_] _ HK5.out.rangeA Try.underlying37 rfl isz_Rn ?_) | (at_builtin; refine wpList_append_own _ rfl _ _ 43 rfl w.heap.size 37 i0 _ 11 104 Try.underlying43 hi hz0 hz1 hz2 rfl (by decide) _ k _ rfl HOA.out ⟨w5.heap.size, 0, none⟩ 1 1 NV rfl HNL.out HNN.out HN1.out (by unfold maxLen; omega) (by omega) (by have := hB5.size; simp; omega) ?_; intro v' w8 hown8 hgrow8 hnil8; have hv8 : v' ≠ .slice none 0 0 := (fun e => by have := (hnil8.1 e).1; cases this); obtain ⟨g8, q8, rfl⟩ := row_form hown8 hv8))
        have HO8 : Hid (w8.ownsRow w.heap.size 37 11 (.slice (some ⟨g8, 0, none⟩) (k + 1) q8) (k + 1) (rnV ((xs.take (k + 1)).map (wdR · c)))) := by
          show World.ownsRow _ _ _ _ _ _ _
          rw [List.take_add_one, HXX.out, List.map_append, rnV_append]
          rw [HNV.out] at hown8
          simp only [Option.toList_some, List.map_cons, List.map_nil, rnV, List.append_nil]
          rw [HW.out]
          exact hown8
        have hB8 : Below w.heap.size w w8 := (hB5.alloc hB5.size _).grown hgrow8 (by have := hB5.size; simp; omega) (by intro j hj; cases hj; exact hgb)
        clear hown8 hgrow8 hnil8 hv8
        go_wp2_with fail
        go_roundw
        case rel => exact ⟨k + 1, g8, q8, by omega, by go_num, rfl, HO8, hB8⟩
        case measure => simp [intOf]; omega
      | true =>
        have HWA : Hid (wdR x c = if lsB x c = true then x else { x with state := 2, left := 0 }) := if_pos ha
        clear ha
        have k0 : w5.cell? ⟨wr.heap.size, 0, none⟩ = some (.string x.want.copy) := HK5.out.cell rfl
        have k1 : w5.cell? ⟨wr.heap.size, 1, none⟩ = some (.int .i64 x.want.version) := HK5.out.cell rfl
        have k2 : w5.cell? ⟨wr.heap.size, 2, none⟩ = some (.string x.want.hold) := HK5.out.cell rfl
        have k3 : w5.cell? ⟨wr.heap.size, 3, none⟩ = some (.int .i64 x.want.pull) := HK5.out.cell rfl
        have k4 : w5.cell? ⟨wr.heap.size, 4, none⟩ = some (.int .i64 x.want.start) := HK5.out.cell rfl
        have k5 : w5.cell? ⟨wr.heap.size, 5, none⟩ = some (.int .i64 x.want.dies) := HK5.out.cell rfl
        have k6 : w5.cell? ⟨wr.heap.size, 6, none⟩ = some (.int .i64 x.want.grace) := HK5.out.cell rfl
        have k7 : w5.cell? ⟨wr.heap.size, 7, none⟩ = some (.int .i64 x.state) := HK5.out.cell rfl
        have k8 : w5.cell? ⟨wr.heap.size, 8, none⟩ = some (.int .i64 x.left) := HK5.out.cell rfl
        have k9 : w5.cell? ⟨wr.heap.size, 9, none⟩ = some (.int .i64 x.falls) := HK5.out.cell rfl
        have k10 : w5.cell? ⟨wr.heap.size, 10, none⟩ = some (.int .i64 x.until_) := HK5.out.cell rfl
        go_wp2_with fail
        refine (leased11_any x c _).mono ?_
        rintro e w6 ⟨rfl, hb6⟩
        have HK6 := Hid.intro (HK5.out.below hb6 HK5.out.lt)
        have HO6 := Hid.intro (ownsRow_below HO5.out hb6)
        have hB6 := hB5.trans (hb6.mono hB5.size)
        clear hb6 hB5 HO5 HK5 k0 k1 k2 k3 k4 k5 k6 k7 k8 k9 k10
        cases hl : lsB x c with
        | true =>
          have HW : Hid (wdR x c = x) := HWA.out.trans (if_pos hl)
          clear hl HWA
          obtain ⟨NV, hnv⟩ : ∃ l, l = rnC x := ⟨_, rfl⟩
          have HNV := Hid.intro hnv
          clear hnv
          have HNL : Hid (NV.length = 1 * 11) := by show _ = _; rw [HNV.out]; rfl
          have HNN : Hid (∀ j u, NV[j]? = some u → (w6.alloc (Obj.cells #[.string x.want.copy, .int .i64 x.want.version, .string x.want.hold, .int .i64 x.want.pull, .int .i64 x.want.start, .int .i64 x.want.dies, .int .i64 x.want.grace, .int .i64 x.state, .int .i64 x.left, .int .i64 x.falls, .int .i64 x.until_] 37)).cell? ((⟨w6.heap.size, 0, none⟩ : Addr).add j) = some u) := by
            intro j u hj
            rw [Addr.add_mid]
            rw [HNV.out] at hj
            exact (Blk.alloc w6 #[.string x.want.copy, .int .i64 x.want.version, .string x.want.hold, .int .i64 x.want.pull, .int .i64 x.want.start, .int .i64 x.want.dies, .int .i64 x.want.grace, .int .i64 x.state, .int .i64 x.left, .int .i64 x.falls, .int .i64 x.until_] 37).rangeA j u hj
          have HN1 : Hid (∀ u ∈ NV, u.oneCell' = true) := by
            intro u hu
            rw [HNV.out] at hu
            exact rnV_one [x] u (by simp only [rnV, List.append_nil]; exact hu)
          have HOA := Hid.intro (HO6.out.alloc (Obj.cells #[.string x.want.copy, .int .i64 x.want.version, .string x.want.hold, .int .i64 x.want.pull, .int .i64 x.want.start, .int .i64 x.want.dies, .int .i64 x.want.grace, .int .i64 x.state, .int .i64 x.left, .int .i64 x.falls, .int .i64 x.until_] 37))
          go_wp2_with (first | (refine wpList_load_mid rfl 37 _ rfl wr.heap.size 0 (by first | rfl | (simp [go_sem]; done)) [.string x.want.copy, .int .i64 x.want.version, .string x.want.hold, .int .i64 x.want.pull, .int .i64 x.want.start, .int .i64 x.want.dies, .int .i64 x.want.grace, .int .i64 x.state, .int .i64 x.left, .int .i64 x.falls, .int .i64 x.until_] _ HK6.out.rangeA Try.underlying37 rfl isz_Rn ?_) | (at_builtin; refine wpList_append_own _ rfl _ _ 43 rfl w.heap.size 37 i0 _ 11 104 Try.underlying43 hi hz0 hz1 hz2 rfl (by decide) _ k _ rfl HOA.out ⟨w6.heap.size, 0, none⟩ 1 1 NV rfl HNL.out HNN.out HN1.out (by unfold maxLen; omega) (by omega) (by have := hB6.size; simp; omega) ?_; intro v' w8 hown8 hgrow8 hnil8; have hv8 : v' ≠ .slice none 0 0 := (fun e => by have := (hnil8.1 e).1; cases this); obtain ⟨g8, q8, rfl⟩ := row_form hown8 hv8))
          have HO8 : Hid (w8.ownsRow w.heap.size 37 11 (.slice (some ⟨g8, 0, none⟩) (k + 1) q8) (k + 1) (rnV ((xs.take (k + 1)).map (wdR · c)))) := by
            show World.ownsRow _ _ _ _ _ _ _
            rw [List.take_add_one, HXX.out, List.map_append, rnV_append]
            rw [HNV.out] at hown8
            simp only [Option.toList_some, List.map_cons, List.map_nil, rnV, List.append_nil]
            rw [HW.out]
            exact hown8
          have hB8 : Below w.heap.size w w8 := (hB6.alloc hB6.size _).grown hgrow8 (by have := hB6.size; simp; omega) (by intro j hj; cases hj; exact hgb)
          clear hown8 hgrow8 hnil8 hv8
          go_wp2_with fail
          go_roundw
          case rel => exact ⟨k + 1, g8, q8, by omega, by go_num, rfl, HO8, hB8⟩
          case measure => simp [intOf]; omega
        | false =>
          have HW : Hid (wdR x c = { x with state := 2, left := 0 }) := HWA.out.trans (if_neg (by rw [hl]; simp))
          clear hl HWA
          have k7 : w6.cell? ⟨wr.heap.size, 7, none⟩ = some (.int .i64 x.state) := HK6.out.cell rfl
          have k8 : w6.cell? ⟨wr.heap.size, 8, none⟩ = some (.int .i64 x.left) := HK6.out.cell rfl
          have f7 : w6.frozen? ⟨wr.heap.size, 7, none⟩ = false := HK6.out.frozen _
          have f8 : w6.frozen? ⟨wr.heap.size, 8, none⟩ = false := HK6.out.frozen _
          have HK9 : Hid (Blk wr.heap.size #[.string x.want.copy, .int .i64 x.want.version, .string x.want.hold, .int .i64 x.want.pull, .int .i64 x.want.start, .int .i64 x.want.dies, .int .i64 x.want.grace, .int .i64 2, .int .i64 0, .int .i64 x.falls, .int .i64 x.until_] 37 ((w6.setCell ⟨wr.heap.size, 7, none⟩ (.int .i64 2)).setCell ⟨wr.heap.size, 8, none⟩ (.int .i64 0))) := (HK6.out.set 7 _).set 8 _
          have HO9 : Hid (World.ownsRow ((w6.setCell ⟨wr.heap.size, 7, none⟩ (.int .i64 2)).setCell ⟨wr.heap.size, 8, none⟩ (.int .i64 0)) w.heap.size 37 11 (.slice (some ⟨g, 0, none⟩) k q) k (rnV ((xs.take k).map (wdR · c)))) := ownsRow_set_other (ownsRow_set_other HO6.out _ (fun g' c' e => by cases e; show g ≠ wr.heap.size; omega)) _ (fun g' c' e => by cases e; show g ≠ wr.heap.size; omega)
          have hB9 : Below w.heap.size w ((w6.setCell ⟨wr.heap.size, 7, none⟩ (.int .i64 2)).setCell ⟨wr.heap.size, 8, none⟩ (.int .i64 0)) := (hB6.setCell (p := ⟨wr.heap.size, 7, none⟩) hwr _).setCell (p := ⟨wr.heap.size, 8, none⟩) hwr _
          go_upto_region 9 with fail
          generalize (w6.setCell ⟨wr.heap.size, 7, none⟩ (Value.int .i64 2)).setCell ⟨wr.heap.size, 8, none⟩ (Value.int .i64 0) = w9 at *
          clear k7 k8 f7 f8 hB6 HO6 HK6
          obtain ⟨NV, hnv⟩ : ∃ l, l = rnC ({ x with state := 2, left := 0 } : Rn) := ⟨_, rfl⟩
          have HNV := Hid.intro hnv
          clear hnv
          have HNL : Hid (NV.length = 1 * 11) := by show _ = _; rw [HNV.out]; rfl
          have HNN : Hid (∀ j u, NV[j]? = some u → (w9.alloc (Obj.cells #[.string x.want.copy, .int .i64 x.want.version, .string x.want.hold, .int .i64 x.want.pull, .int .i64 x.want.start, .int .i64 x.want.dies, .int .i64 x.want.grace, .int .i64 2, .int .i64 0, .int .i64 x.falls, .int .i64 x.until_] 37)).cell? ((⟨w9.heap.size, 0, none⟩ : Addr).add j) = some u) := by
            intro j u hj
            rw [Addr.add_mid]
            rw [HNV.out] at hj
            exact (Blk.alloc w9 #[.string x.want.copy, .int .i64 x.want.version, .string x.want.hold, .int .i64 x.want.pull, .int .i64 x.want.start, .int .i64 x.want.dies, .int .i64 x.want.grace, .int .i64 2, .int .i64 0, .int .i64 x.falls, .int .i64 x.until_] 37).rangeA j u hj
          have HN1 : Hid (∀ u ∈ NV, u.oneCell' = true) := by
            intro u hu
            rw [HNV.out] at hu
            exact rnV_one [({ x with state := 2, left := 0 } : Rn)] u (by simp only [rnV, List.append_nil]; exact hu)
          have HOA := Hid.intro (HO9.out.alloc (Obj.cells #[.string x.want.copy, .int .i64 x.want.version, .string x.want.hold, .int .i64 x.want.pull, .int .i64 x.want.start, .int .i64 x.want.dies, .int .i64 x.want.grace, .int .i64 2, .int .i64 0, .int .i64 x.falls, .int .i64 x.until_] 37))
          go_wp2_with (first | (refine wpList_load_mid rfl 37 _ rfl wr.heap.size 0 (by first | rfl | (simp [go_sem]; done)) [.string x.want.copy, .int .i64 x.want.version, .string x.want.hold, .int .i64 x.want.pull, .int .i64 x.want.start, .int .i64 x.want.dies, .int .i64 x.want.grace, .int .i64 2, .int .i64 0, .int .i64 x.falls, .int .i64 x.until_] _ HK9.out.rangeA Try.underlying37 rfl isz_Rn ?_) | (at_builtin; refine wpList_append_own _ rfl _ _ 43 rfl w.heap.size 37 i0 _ 11 104 Try.underlying43 hi hz0 hz1 hz2 rfl (by decide) _ k _ rfl HOA.out ⟨w9.heap.size, 0, none⟩ 1 1 NV rfl HNL.out HNN.out HN1.out (by unfold maxLen; omega) (by omega) (by have := hB9.size; simp; omega) ?_; intro v' w8 hown8 hgrow8 hnil8; have hv8 : v' ≠ .slice none 0 0 := (fun e => by have := (hnil8.1 e).1; cases this); obtain ⟨g8, q8, rfl⟩ := row_form hown8 hv8))
          have HO8 : Hid (w8.ownsRow w.heap.size 37 11 (.slice (some ⟨g8, 0, none⟩) (k + 1) q8) (k + 1) (rnV ((xs.take (k + 1)).map (wdR · c)))) := by
            show World.ownsRow _ _ _ _ _ _ _
            rw [List.take_add_one, HXX.out, List.map_append, rnV_append]
            rw [HNV.out] at hown8
            simp only [Option.toList_some, List.map_cons, List.map_nil, rnV, List.append_nil]
            rw [HW.out]
            exact hown8
          have hB8 : Below w.heap.size w w8 := (hB9.alloc hB9.size _).grown hgrow8 (by have := hB9.size; simp; omega) (by intro j hj; cases hj; exact hgb)
          clear hown8 hgrow8 hnil8 hv8
          go_wp2_with fail
          go_roundw
          case rel => exact ⟨k + 1, g8, q8, by omega, by go_num, rfl, HO8, hB8⟩
          case measure => simp [intOf]; omega
    · have hke : k = xs.length := by omega
      subst hke
      have HS : Hid (∀ x ∈ xs, x.want.copy.size ≤ maxLen ∧ x.want.hold.size ≤ maxLen) := by
        intro x hx
        obtain ⟨j, hj, e⟩ := List.getElem_of_mem hx
        obtain ⟨b, ob, _, _, _, hc⟩ := HI.out.at (by rw [List.getElem?_eq_getElem hj, e])
        obtain ⟨_, _, _, _, _, _, _, _, _, _, _, z0, z2⟩ := hc
        exact ⟨z0, z2⟩
      have HSL : Hid (SliceC RnC 11 w.heap.size wr (some ⟨g, 0, none⟩) (xs.map (wdR · c))) := by
        have h := HO.out
        rw [List.take_length] at h
        have hl : (xs.map (wdR · c)).length = xs.length := by simp
        rw [← hl] at h
        refine row_sl h (by rw [hl]; exact HI.out.1) (row_base h) (fun x hx => ?_)
        obtain ⟨y, hy, rfl⟩ := List.mem_map.1 hx
        rw [wdR_want]
        exact HS.out y hy
      have hgl : g < wr.heap.size := (HO.out.lt g rfl).2
      clear HO
      go_wp2_with fail
      go_ret
      exact ⟨g, q, rfl, HSL.out, hgl, hB⟩

end Go.Proofs.Ytlhcadpelcegaaa
