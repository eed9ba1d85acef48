import Derived.Test.YtnifmiacobfplaaTkw
import Derived.Test.YtnifmiacobfplaaAv5
namespace Go.Proofs.Ytnifmiacobfplaa
open Go.RowKit

theorem guardWnt : Try.prog.eqGuardType Try.prog.depth 36 = false := by kernel_rfl
theorem fieldsWnt : Try.prog.underlying 36 = some (.struct (Try.prog.fieldsOf 36)) := by kernel_rfl
theorem stoodWnt : Try.prog.stoodInHeld 36 = false := by kernel_rfl

set_option maxHeartbeats 1000000 in
theorem equalWnt (x : Wnt) (w : World) : (Op.equalIn 10000 36 (.agg #[.string x.copy, .int .i64 x.version, .string x.hold, .int .i64 x.pull, .int .i64 x.start, .int .i64 x.dies, .int .i64 x.grace]) (.agg #[.string x.copy, .int .i64 x.version, .string x.hold, .int .i64 x.pull, .int .i64 x.start, .int .i64 x.dies, .int .i64 x.grace])).run Try.prog w = .ok true w := by
 rw [show (10000 : Nat) = 9999 + 1 from rfl, run_equalIn_struct w 9999 _ _ _ fieldsWnt stoodWnt]
 simp [go_sem, Program.fieldsOf, Try.underlying36, Try.underlying3, Try.underlying9]

set_option maxHeartbeats 4000000 in
set_option maxRecDepth 100000 in
theorem wmWnt_any (xs : List Wnt) (a a' : Option Addr) (cap cap' lo lo' : Nat) (w : World) (hin : SliceC WntC 7 lo w a xs) (hin' : SliceC WntC 7 lo' w a' xs) (hsm : xs.length ≤ 1048576) :
  Calls Try.prog 23 #[.slice a xs.length cap, .slice a' xs.length cap'] w fun e w' => e = .returned (.bool true) ∧ Below w.heap.size w w' := by
 have HI := Hid.intro hin
 have HI' := Hid.intro hin'
 have hgt := guardWnt
 clear hin hin'
 go_enter Try.func23, Try.ntmps23
 go_wp2_with fail
 go_loopw [5] (fun i wr => ∃ k : Nat, k ≤ xs.length ∧ i = .int .i64 k ∧ Below w.heap.size w wr) (fun i _ => xs.length - (intOf i).toNat)
 case atStart => exact ⟨0, Nat.zero_le _, rfl, by go_grown⟩
 case round =>
  obtain ⟨k, hk, rfl, hB⟩ := hrel
  by_cases hlt : k < xs.length
  case neg =>
   go_wp2_with fail
   go_ret
   exact ⟨rfl, hB⟩
  obtain ⟨x, hx⟩ : ∃ x, xs[k]? = some x := ⟨xs[k], List.getElem?_eq_getElem hlt⟩
  obtain ⟨b, o, rfl, _, _, hc⟩ := (HI.out.below WntC.holds hB (Nat.le_refl _)).at hx
  obtain ⟨b', o', rfl, _, _, hc'⟩ := (HI'.out.below WntC.holds hB (Nat.le_refl _)).at hx
  have HRA := Hid.intro (wnt_range hc)
  have HRB := Hid.intro (wnt_range hc')
  clear hc hc' hx
  go_upto_region 6 with fail
  refine wp_region_held_drew (S := fun wy => wy.rangeAt b (o + k * 7) [.string x.copy, .int .i64 x.version, .string x.hold, .int .i64 x.pull, .int .i64 x.start, .int .i64 x.dies, .int .i64 x.grace] ∧ wy.rangeAt b' (o' + k * 7) [.string x.copy, .int .i64 x.version, .string x.hold, .int .i64 x.pull, .int .i64 x.start, .int .i64 x.dies, .int .i64 x.grace]) (by kernel_rfl) ⟨range_drew HRA.out, range_drew HRB.out⟩ (fun hS => ?_)
  have hB2 : Below w.heap.size w wr.drew := hB.drew
  clear HRA HRB hB
  generalize wr.drew = wd at *
  refine ty 0 ⟨some 17, _, _, _, _, none⟩ (.slice (some ⟨b, o, none⟩) xs.length cap) rfl (by rfl) ?_ hS ?_
  ·intro wy hy
   clear hy
   go_simp
  simp only [pA, pB, pC, pD]
  refine ty 1 ⟨some 18, _, _, _, _, none⟩ (.int .i64 (k : Int)) rfl (by rfl) ?_ hS ?_
  ·intro wy hy
   clear hy
   go_simp
  simp only [pA, pB, pC, pD]
  refine ty 2 ⟨some 19, _, _, _, _, none⟩ (.pointer (some ⟨b, o + k * 7, none⟩)) rfl (by rfl) ?_ hS ?_
  ·intro wy hy
   clear hy
   first | (go_simp; done) | (go_simp; intro hh; omega)
  simp only [pA, pB, pC, pD]
  refine tk 3 ⟨some 20, _, _, _, _, none⟩ (.agg #[.string x.copy, .int .i64 x.version, .string x.hold, .int .i64 x.pull, .int .i64 x.start, .int .i64 x.dies, .int .i64 x.grace]) rfl (yieldsIf_load_mid (by rfl) _ _ rfl b (o + k * 7) rfl [.string x.copy, .int .i64 x.version, .string x.hold, .int .i64 x.pull, .int .i64 x.start, .int .i64 x.dies, .int .i64 x.grace] _ (fun _ h => h.1) Try.underlying36 rfl isz_Wnt) hS ?_
  simp only [pA, pB, pC, pD]
  refine ty 4 ⟨some 21, _, _, _, _, none⟩ (.slice (some ⟨b', o', none⟩) xs.length cap') rfl (by rfl) ?_ hS ?_
  ·intro wy hy
   clear hy
   go_simp
  simp only [pA, pB, pC, pD]
  refine ty 5 ⟨some 22, _, _, _, _, none⟩ (.int .i64 (k : Int)) rfl (by rfl) ?_ hS ?_
  ·intro wy hy
   clear hy
   go_simp
  simp only [pA, pB, pC, pD]
  refine ty 6 ⟨some 23, _, _, _, _, none⟩ (.pointer (some ⟨b', o' + k * 7, none⟩)) rfl (by rfl) ?_ hS ?_
  ·intro wy hy
   clear hy
   first | (go_simp; done) | (go_simp; intro hh; omega)
  simp only [pA, pB, pC, pD]
  refine tk 7 ⟨some 24, _, _, _, _, none⟩ (.agg #[.string x.copy, .int .i64 x.version, .string x.hold, .int .i64 x.pull, .int .i64 x.start, .int .i64 x.dies, .int .i64 x.grace]) rfl (yieldsIf_load_mid (by rfl) _ _ rfl b' (o' + k * 7) rfl [.string x.copy, .int .i64 x.version, .string x.hold, .int .i64 x.pull, .int .i64 x.start, .int .i64 x.dies, .int .i64 x.grace] _ (fun _ h => h.2) Try.underlying36 rfl isz_Wnt) hS ?_
  simp only [pA, pB, pC, pD]
  refine ty 8 ⟨some 25, _, _, _, _, none⟩ (.bool false) rfl (by rfl) ?_ hS ?_
  ·intro wy hy
   have hq := equalWnt x wy
   clear hy
   first | (go_simp; done) | (simp [go_sem, hq]; done)
  simp only [pA, pB, pC, pD]
  refine wpAnyH_done (by kernel_rfl) ?_ _
  clear hS
  go_wp2_with fail
  go_roundw
  case rel => first | exact ⟨k + 1, by omega, by go_num, hB2⟩ | ((repeat apply Exists.intro); exact ⟨⟨k + 1, by omega, by go_num, hB2⟩, rfl⟩)
  case measure => simp [intOf]; omega

theorem guardRn : Try.prog.eqGuardType Try.prog.depth 38 = false := by kernel_rfl
theorem fieldsRn : Try.prog.underlying 38 = some (.struct (Try.prog.fieldsOf 38)) := by kernel_rfl
theorem stoodRn : Try.prog.stoodInHeld 38 = false := by kernel_rfl

set_option maxHeartbeats 1000000 in
theorem equalRn (x : Rn) (w : World) : (Op.equalIn 10000 38 (.agg #[.string x.want.copy, .int .i64 x.want.version, .string x.want.hold, .int .i64 x.want.pull, .int .i64 x.want.start, .int .i64 x.want.dies, .int .i64 x.want.grace, .int .i64 x.state, .int .i64 x.left, .int .i64 x.falls, .int .i64 x.until_]) (.agg #[.string x.want.copy, .int .i64 x.want.version, .string x.want.hold, .int .i64 x.want.pull, .int .i64 x.want.start, .int .i64 x.want.dies, .int .i64 x.want.grace, .int .i64 x.state, .int .i64 x.left, .int .i64 x.falls, .int .i64 x.until_])).run Try.prog w = .ok true w := by
 rw [show (10000 : Nat) = 9999 + 1 from rfl, run_equalIn_struct w 9999 _ _ _ fieldsRn stoodRn]
 simp [go_sem, Program.fieldsOf, Try.underlying38, Try.underlying36, Try.underlying3, Try.underlying9]

set_option maxHeartbeats 4000000 in
set_option maxRecDepth 100000 in
theorem wmRn_any (xs : List Rn) (a a' : Option Addr) (cap cap' lo lo' : Nat) (w : World) (hin : SliceC RnC 11 lo w a xs) (hin' : SliceC RnC 11 lo' w a' xs) (hsm : xs.length ≤ 1048576) :
  Calls Try.prog 14 #[.slice a xs.length cap, .slice a' xs.length cap'] w fun e w' => e = .returned (.bool true) ∧ Below w.heap.size w w' := by
 have HI := Hid.intro hin
 have HI' := Hid.intro hin'
 have hgt := guardRn
 clear hin hin'
 go_enter Try.func14, Try.ntmps14
 go_wp2_with fail
 go_loopw [5] (fun i wr => ∃ k : Nat, k ≤ xs.length ∧ i = .int .i64 k ∧ Below w.heap.size w wr) (fun i _ => xs.length - (intOf i).toNat)
 case atStart => exact ⟨0, Nat.zero_le _, rfl, by go_grown⟩
 case round =>
  obtain ⟨k, hk, rfl, hB⟩ := hrel
  by_cases hlt : k < xs.length
  case neg =>
   go_wp2_with fail
   go_ret
   exact ⟨rfl, hB⟩
  obtain ⟨x, hx⟩ : ∃ x, xs[k]? = some x := ⟨xs[k], List.getElem?_eq_getElem hlt⟩
  obtain ⟨b, o, rfl, _, _, hc⟩ := (HI.out.below RnC.holds hB (Nat.le_refl _)).at hx
  obtain ⟨b', o', rfl, _, _, hc'⟩ := (HI'.out.below RnC.holds hB (Nat.le_refl _)).at hx
  have HRA := Hid.intro (range_of_cells hc)
  have HRB := Hid.intro (range_of_cells hc')
  clear hc hc' hx
  go_upto_region 6 with fail
  refine wp_region_held_drew (S := fun wy => wy.rangeAt b (o + k * 11) [.string x.want.copy, .int .i64 x.want.version, .string x.want.hold, .int .i64 x.want.pull, .int .i64 x.want.start, .int .i64 x.want.dies, .int .i64 x.want.grace, .int .i64 x.state, .int .i64 x.left, .int .i64 x.falls, .int .i64 x.until_] ∧ wy.rangeAt b' (o' + k * 11) [.string x.want.copy, .int .i64 x.want.version, .string x.want.hold, .int .i64 x.want.pull, .int .i64 x.want.start, .int .i64 x.want.dies, .int .i64 x.want.grace, .int .i64 x.state, .int .i64 x.left, .int .i64 x.falls, .int .i64 x.until_]) (by kernel_rfl) ⟨range_drew HRA.out, range_drew HRB.out⟩ (fun hS => ?_)
  have hB2 : Below w.heap.size w wr.drew := hB.drew
  clear HRA HRB hB
  generalize wr.drew = wd at *
  refine ty 0 ⟨some 17, _, _, _, _, none⟩ (.slice (some ⟨b, o, none⟩) xs.length cap) rfl (by rfl) ?_ hS ?_
  ·intro wy hy
   clear hy
   go_simp
  simp only [pA, pB, pC, pD]
  refine ty 1 ⟨some 18, _, _, _, _, none⟩ (.int .i64 (k : Int)) rfl (by rfl) ?_ hS ?_
  ·intro wy hy
   clear hy
   go_simp
  simp only [pA, pB, pC, pD]
  refine ty 2 ⟨some 19, _, _, _, _, none⟩ (.pointer (some ⟨b, o + k * 11, none⟩)) rfl (by rfl) ?_ hS ?_
  ·intro wy hy
   clear hy
   first | (go_simp; done) | (go_simp; intro hh; omega)
  simp only [pA, pB, pC, pD]
  refine tk 3 ⟨some 20, _, _, _, _, none⟩ (.agg #[.string x.want.copy, .int .i64 x.want.version, .string x.want.hold, .int .i64 x.want.pull, .int .i64 x.want.start, .int .i64 x.want.dies, .int .i64 x.want.grace, .int .i64 x.state, .int .i64 x.left, .int .i64 x.falls, .int .i64 x.until_]) rfl (yieldsIf_load_mid (by rfl) _ _ rfl b (o + k * 11) rfl [.string x.want.copy, .int .i64 x.want.version, .string x.want.hold, .int .i64 x.want.pull, .int .i64 x.want.start, .int .i64 x.want.dies, .int .i64 x.want.grace, .int .i64 x.state, .int .i64 x.left, .int .i64 x.falls, .int .i64 x.until_] _ (fun _ h => h.1) Try.underlying38 rfl isz_Rn) hS ?_
  simp only [pA, pB, pC, pD]
  refine ty 4 ⟨some 21, _, _, _, _, none⟩ (.slice (some ⟨b', o', none⟩) xs.length cap') rfl (by rfl) ?_ hS ?_
  ·intro wy hy
   clear hy
   go_simp
  simp only [pA, pB, pC, pD]
  refine ty 5 ⟨some 22, _, _, _, _, none⟩ (.int .i64 (k : Int)) rfl (by rfl) ?_ hS ?_
  ·intro wy hy
   clear hy
   go_simp
  simp only [pA, pB, pC, pD]
  refine ty 6 ⟨some 23, _, _, _, _, none⟩ (.pointer (some ⟨b', o' + k * 11, none⟩)) rfl (by rfl) ?_ hS ?_
  ·intro wy hy
   clear hy
   first | (go_simp; done) | (go_simp; intro hh; omega)
  simp only [pA, pB, pC, pD]
  refine tk 7 ⟨some 24, _, _, _, _, none⟩ (.agg #[.string x.want.copy, .int .i64 x.want.version, .string x.want.hold, .int .i64 x.want.pull, .int .i64 x.want.start, .int .i64 x.want.dies, .int .i64 x.want.grace, .int .i64 x.state, .int .i64 x.left, .int .i64 x.falls, .int .i64 x.until_]) rfl (yieldsIf_load_mid (by rfl) _ _ rfl b' (o' + k * 11) rfl [.string x.want.copy, .int .i64 x.want.version, .string x.want.hold, .int .i64 x.want.pull, .int .i64 x.want.start, .int .i64 x.want.dies, .int .i64 x.want.grace, .int .i64 x.state, .int .i64 x.left, .int .i64 x.falls, .int .i64 x.until_] _ (fun _ h => h.2) Try.underlying38 rfl isz_Rn) hS ?_
  simp only [pA, pB, pC, pD]
  refine ty 8 ⟨some 25, _, _, _, _, none⟩ (.bool false) rfl (by rfl) ?_ hS ?_
  ·intro wy hy
   have hq := equalRn x wy
   clear hy
   first | (go_simp; done) | (simp [go_sem, hq]; done)
  simp only [pA, pB, pC, pD]
  refine wpAnyH_done (by kernel_rfl) ?_ _
  clear hS
  go_wp2_with fail
  go_roundw
  case rel => first | exact ⟨k + 1, by omega, by go_num, hB2⟩ | ((repeat apply Exists.intro); exact ⟨⟨k + 1, by omega, by go_num, hB2⟩, rfl⟩)
  case measure => simp [intOf]; omega

theorem guardAks : Try.prog.eqGuardType Try.prog.depth 57 = false := by kernel_rfl
theorem fieldsAks : Try.prog.underlying 57 = some (.struct (Try.prog.fieldsOf 57)) := by kernel_rfl
theorem stoodAks : Try.prog.stoodInHeld 57 = false := by kernel_rfl

set_option maxHeartbeats 1000000 in
theorem equalAks (x : Aks) (w : World) : (Op.equalIn 10000 57 (.agg #[.string x.hold, .string x.copy, .int .i64 x.first, .int .i64 x.at_]) (.agg #[.string x.hold, .string x.copy, .int .i64 x.first, .int .i64 x.at_])).run Try.prog w = .ok true w := by
 rw [show (10000 : Nat) = 9999 + 1 from rfl, run_equalIn_struct w 9999 _ _ _ fieldsAks stoodAks]
 simp [go_sem, Program.fieldsOf, Try.underlying57, Try.underlying3, Try.underlying9]

set_option maxHeartbeats 4000000 in
set_option maxRecDepth 100000 in
theorem wmAks_any (xs : List Aks) (a a' : Option Addr) (cap cap' lo lo' : Nat) (w : World) (hin : SliceC AksC 4 lo w a xs) (hin' : SliceC AksC 4 lo' w a' xs) (hsm : xs.length ≤ 1048576) :
  Calls Try.prog 24 #[.slice a xs.length cap, .slice a' xs.length cap'] w fun e w' => e = .returned (.bool true) ∧ Below w.heap.size w w' := by
 have HI := Hid.intro hin
 have HI' := Hid.intro hin'
 have hgt := guardAks
 clear hin hin'
 go_enter Try.func24, Try.ntmps24
 go_wp2_with fail
 go_loopw [5] (fun i wr => ∃ k : Nat, k ≤ xs.length ∧ i = .int .i64 k ∧ Below w.heap.size w wr) (fun i _ => xs.length - (intOf i).toNat)
 case atStart => exact ⟨0, Nat.zero_le _, rfl, by go_grown⟩
 case round =>
  obtain ⟨k, hk, rfl, hB⟩ := hrel
  by_cases hlt : k < xs.length
  case neg =>
   go_wp2_with fail
   go_ret
   exact ⟨rfl, hB⟩
  obtain ⟨x, hx⟩ : ∃ x, xs[k]? = some x := ⟨xs[k], List.getElem?_eq_getElem hlt⟩
  obtain ⟨b, o, rfl, _, _, hc⟩ := (HI.out.below AksC.holds hB (Nat.le_refl _)).at hx
  obtain ⟨b', o', rfl, _, _, hc'⟩ := (HI'.out.below AksC.holds hB (Nat.le_refl _)).at hx
  have HRA := Hid.intro (aks_range hc)
  have HRB := Hid.intro (aks_range hc')
  clear hc hc' hx
  go_upto_region 6 with fail
  refine wp_region_held_drew (S := fun wy => wy.rangeAt b (o + k * 4) [.string x.hold, .string x.copy, .int .i64 x.first, .int .i64 x.at_] ∧ wy.rangeAt b' (o' + k * 4) [.string x.hold, .string x.copy, .int .i64 x.first, .int .i64 x.at_]) (by kernel_rfl) ⟨range_drew HRA.out, range_drew HRB.out⟩ (fun hS => ?_)
  have hB2 : Below w.heap.size w wr.drew := hB.drew
  clear HRA HRB hB
  generalize wr.drew = wd at *
  refine ty 0 ⟨some 17, _, _, _, _, none⟩ (.slice (some ⟨b, o, none⟩) xs.length cap) rfl (by rfl) ?_ hS ?_
  ·intro wy hy
   clear hy
   go_simp
  simp only [pA, pB, pC, pD]
  refine ty 1 ⟨some 18, _, _, _, _, none⟩ (.int .i64 (k : Int)) rfl (by rfl) ?_ hS ?_
  ·intro wy hy
   clear hy
   go_simp
  simp only [pA, pB, pC, pD]
  refine ty 2 ⟨some 19, _, _, _, _, none⟩ (.pointer (some ⟨b, o + k * 4, none⟩)) rfl (by rfl) ?_ hS ?_
  ·intro wy hy
   clear hy
   first | (go_simp; done) | (go_simp; intro hh; omega)
  simp only [pA, pB, pC, pD]
  refine tk 3 ⟨some 20, _, _, _, _, none⟩ (.agg #[.string x.hold, .string x.copy, .int .i64 x.first, .int .i64 x.at_]) rfl (yieldsIf_load_mid (by rfl) _ _ rfl b (o + k * 4) rfl [.string x.hold, .string x.copy, .int .i64 x.first, .int .i64 x.at_] _ (fun _ h => h.1) Try.underlying57 rfl isz_Aks) hS ?_
  simp only [pA, pB, pC, pD]
  refine ty 4 ⟨some 21, _, _, _, _, none⟩ (.slice (some ⟨b', o', none⟩) xs.length cap') rfl (by rfl) ?_ hS ?_
  ·intro wy hy
   clear hy
   go_simp
  simp only [pA, pB, pC, pD]
  refine ty 5 ⟨some 22, _, _, _, _, none⟩ (.int .i64 (k : Int)) rfl (by rfl) ?_ hS ?_
  ·intro wy hy
   clear hy
   go_simp
  simp only [pA, pB, pC, pD]
  refine ty 6 ⟨some 23, _, _, _, _, none⟩ (.pointer (some ⟨b', o' + k * 4, none⟩)) rfl (by rfl) ?_ hS ?_
  ·intro wy hy
   clear hy
   first | (go_simp; done) | (go_simp; intro hh; omega)
  simp only [pA, pB, pC, pD]
  refine tk 7 ⟨some 24, _, _, _, _, none⟩ (.agg #[.string x.hold, .string x.copy, .int .i64 x.first, .int .i64 x.at_]) rfl (yieldsIf_load_mid (by rfl) _ _ rfl b' (o' + k * 4) rfl [.string x.hold, .string x.copy, .int .i64 x.first, .int .i64 x.at_] _ (fun _ h => h.2) Try.underlying57 rfl isz_Aks) hS ?_
  simp only [pA, pB, pC, pD]
  refine ty 8 ⟨some 25, _, _, _, _, none⟩ (.bool false) rfl (by rfl) ?_ hS ?_
  ·intro wy hy
   have hq := equalAks x wy
   clear hy
   first | (go_simp; done) | (simp [go_sem, hq]; done)
  simp only [pA, pB, pC, pD]
  refine wpAnyH_done (by kernel_rfl) ?_ _
  clear hS
  go_wp2_with fail
  go_roundw
  case rel => first | exact ⟨k + 1, by omega, by go_num, hB2⟩ | ((repeat apply Exists.intro); exact ⟨⟨k + 1, by omega, by go_num, hB2⟩, rfl⟩)
  case measure => simp [intOf]; omega

set_option maxHeartbeats 4000000 in
set_option maxRecDepth 100000 in
theorem wmMte_any (y : Mte) (a5 : Option Addr) (c5 : Nat) (a6 : Option Addr) (c6 : Nat) (a7 : Option Addr) (c7 : Nat) (a8 : Option Addr) (c8 : Nat) (b5 : Option Addr) (d5 : Nat) (b6 : Option Addr) (d6 : Nat) (b7 : Option Addr) (d7 : Nat) (b8 : Option Addr) (d8 : Nat) (lo lo' : Nat) (w : World) (n5 : SliceC WntC 7 lo w a5 y.wants) (n6 : SliceC RnC 11 lo w a6 y.runs) (n7 : SliceC AksC 4 lo w a7 y.asks) (n8 : SliceC AksC 4 lo w a8 y.gives) (m5 : SliceC WntC 7 lo' w b5 y.wants) (m6 : SliceC RnC 11 lo' w b6 y.runs) (m7 : SliceC AksC 4 lo' w b7 y.asks) (m8 : SliceC AksC 4 lo' w b8 y.gives) (l5 : y.wants.length ≤ 1048576) (l6 : y.runs.length ≤ 1048576) (l7 : y.asks.length ≤ 1048576) (l8 : y.gives.length ≤ 1048576) :
  Calls Try.prog 7 #[.agg #[.string y.name, .bool y.up, .int .i64 y.clock, .bool y.known, .int .i64 y.seen, .slice a5 y.wants.length c5, .slice a6 y.runs.length c6, .slice a7 y.asks.length c7, .slice a8 y.gives.length c8], .agg #[.string y.name, .bool y.up, .int .i64 y.clock, .bool y.known, .int .i64 y.seen, .slice b5 y.wants.length d5, .slice b6 y.runs.length d6, .slice b7 y.asks.length d7, .slice b8 y.gives.length d8]] w fun e w' => e = .returned (.bool true) ∧ Below w.heap.size w w' := by
 have N5 := Hid.intro n5
 have N6 := Hid.intro n6
 have N7 := Hid.intro n7
 have N8 := Hid.intro n8
 have M5 := Hid.intro m5
 have M6 := Hid.intro m6
 have M7 := Hid.intro m7
 have M8 := Hid.intro m8
 clear n5 n6 n7 n8 m5 m6 m7 m8
 have HAa : Blk w.heap.size #[.string y.name, .bool y.up, .int .i64 y.clock, .bool y.known, .int .i64 y.seen, .slice a5 y.wants.length c5, .slice a6 y.runs.length c6, .slice a7 y.asks.length c7, .slice a8 y.gives.length c8] 27 (w.alloc (Obj.cells #[.string y.name, .bool y.up, .int .i64 y.clock, .bool y.known, .int .i64 y.seen, .slice a5 y.wants.length c5, .slice a6 y.runs.length c6, .slice a7 y.asks.length c7, .slice a8 y.gives.length c8] 27)) := Blk.alloc _ _ _
 have HB1 : Hid (Blk (w.heap.size + 1) #[.string y.name, .bool y.up, .int .i64 y.clock, .bool y.known, .int .i64 y.seen, .slice b5 y.wants.length d5, .slice b6 y.runs.length d6, .slice b7 y.asks.length d7, .slice b8 y.gives.length d8] 27 ((w.alloc (Obj.cells #[.string y.name, .bool y.up, .int .i64 y.clock, .bool y.known, .int .i64 y.seen, .slice a5 y.wants.length c5, .slice a6 y.runs.length c6, .slice a7 y.asks.length c7, .slice a8 y.gives.length c8] 27)).alloc (Obj.cells #[.string y.name, .bool y.up, .int .i64 y.clock, .bool y.known, .int .i64 y.seen, .slice b5 y.wants.length d5, .slice b6 y.runs.length d6, .slice b7 y.asks.length d7, .slice b8 y.gives.length d8] 27))) := by
  have := Blk.alloc (w.alloc (Obj.cells #[.string y.name, .bool y.up, .int .i64 y.clock, .bool y.known, .int .i64 y.seen, .slice a5 y.wants.length c5, .slice a6 y.runs.length c6, .slice a7 y.asks.length c7, .slice a8 y.gives.length c8] 27)) #[.string y.name, .bool y.up, .int .i64 y.clock, .bool y.known, .int .i64 y.seen, .slice b5 y.wants.length d5, .slice b6 y.runs.length d6, .slice b7 y.asks.length d7, .slice b8 y.gives.length d8] 27
  show Blk _ _ _ _
  simpa using this
 have HA1 : Hid (Blk w.heap.size #[.string y.name, .bool y.up, .int .i64 y.clock, .bool y.known, .int .i64 y.seen, .slice a5 y.wants.length c5, .slice a6 y.runs.length c6, .slice a7 y.asks.length c7, .slice a8 y.gives.length c8] 27 ((w.alloc (Obj.cells #[.string y.name, .bool y.up, .int .i64 y.clock, .bool y.known, .int .i64 y.seen, .slice a5 y.wants.length c5, .slice a6 y.runs.length c6, .slice a7 y.asks.length c7, .slice a8 y.gives.length c8] 27)).alloc (Obj.cells #[.string y.name, .bool y.up, .int .i64 y.clock, .bool y.known, .int .i64 y.seen, .slice b5 y.wants.length d5, .slice b6 y.runs.length d6, .slice b7 y.asks.length d7, .slice b8 y.gives.length d8] 27))) := HAa.below ((Below.refl _ _).alloc (Nat.le_refl _) _) HAa.lt
 have hB1 : Below w.heap.size w ((w.alloc (Obj.cells #[.string y.name, .bool y.up, .int .i64 y.clock, .bool y.known, .int .i64 y.seen, .slice a5 y.wants.length c5, .slice a6 y.runs.length c6, .slice a7 y.asks.length c7, .slice a8 y.gives.length c8] 27)).alloc (Obj.cells #[.string y.name, .bool y.up, .int .i64 y.clock, .bool y.known, .int .i64 y.seen, .slice b5 y.wants.length d5, .slice b6 y.runs.length d6, .slice b7 y.asks.length d7, .slice b8 y.gives.length d8] 27)) := by go_grown
 clear HAa
 go_enter Try.func7, Try.ntmps7
 go_upto_region 1 with fail
 generalize ((w.alloc (Obj.cells #[.string y.name, .bool y.up, .int .i64 y.clock, .bool y.known, .int .i64 y.seen, .slice a5 y.wants.length c5, .slice a6 y.runs.length c6, .slice a7 y.asks.length c7, .slice a8 y.gives.length c8] 27)).alloc (Obj.cells #[.string y.name, .bool y.up, .int .i64 y.clock, .bool y.known, .int .i64 y.seen, .slice b5 y.wants.length d5, .slice b6 y.runs.length d6, .slice b7 y.asks.length d7, .slice b8 y.gives.length d8] 27)) = w1 at *
 have ka0 : w1.cell? ⟨w.heap.size, 0, none⟩ = some (.string y.name) := HA1.out.cell rfl
 have ka1 : w1.cell? ⟨w.heap.size, 1, none⟩ = some (.bool y.up) := HA1.out.cell rfl
 have ka2 : w1.cell? ⟨w.heap.size, 2, none⟩ = some (.int .i64 y.clock) := HA1.out.cell rfl
 have ka3 : w1.cell? ⟨w.heap.size, 3, none⟩ = some (.bool y.known) := HA1.out.cell rfl
 have ka4 : w1.cell? ⟨w.heap.size, 4, none⟩ = some (.int .i64 y.seen) := HA1.out.cell rfl
 have ka5 : w1.cell? ⟨w.heap.size, 5, none⟩ = some (.slice a5 y.wants.length c5) := HA1.out.cell rfl
 have kb0 : w1.cell? ⟨w.heap.size + 1, 0, none⟩ = some (.string y.name) := HB1.out.cell rfl
 have kb1 : w1.cell? ⟨w.heap.size + 1, 1, none⟩ = some (.bool y.up) := HB1.out.cell rfl
 have kb2 : w1.cell? ⟨w.heap.size + 1, 2, none⟩ = some (.int .i64 y.clock) := HB1.out.cell rfl
 have kb3 : w1.cell? ⟨w.heap.size + 1, 3, none⟩ = some (.bool y.known) := HB1.out.cell rfl
 have kb4 : w1.cell? ⟨w.heap.size + 1, 4, none⟩ = some (.int .i64 y.seen) := HB1.out.cell rfl
 have kb5 : w1.cell? ⟨w.heap.size + 1, 5, none⟩ = some (.slice b5 y.wants.length d5) := HB1.out.cell rfl
 go_wp2_with fail
 refine (wmWnt_any y.wants a5 b5 c5 d5 lo lo' _ (N5.out.below WntC.holds hB1 (Nat.le_refl _)) (M5.out.below WntC.holds hB1 (Nat.le_refl _)) l5).mono ?_
 rintro e w2 ⟨rfl, hb⟩
 have HA2 := Hid.intro (HA1.out.below hb HA1.out.lt)
 have HB2 := Hid.intro (HB1.out.below hb HB1.out.lt)
 have hB2 := hB1.trans (hb.mono hB1.size)
 clear hb HA1 HB1 hB1 ka0 kb0 ka1 kb1 ka2 kb2 ka3 kb3 ka4 kb4 ka5 kb5
 have ka6 : w2.cell? ⟨w.heap.size, 6, none⟩ = some (.slice a6 y.runs.length c6) := HA2.out.cell rfl
 have kb6 : w2.cell? ⟨w.heap.size + 1, 6, none⟩ = some (.slice b6 y.runs.length d6) := HB2.out.cell rfl
 go_wp2_with fail
 refine (wmRn_any y.runs a6 b6 c6 d6 lo lo' _ (N6.out.below RnC.holds hB2 (Nat.le_refl _)) (M6.out.below RnC.holds hB2 (Nat.le_refl _)) l6).mono ?_
 rintro e w3 ⟨rfl, hb⟩
 have HA3 := Hid.intro (HA2.out.below hb HA2.out.lt)
 have HB3 := Hid.intro (HB2.out.below hb HB2.out.lt)
 have hB3 := hB2.trans (hb.mono hB2.size)
 clear hb HA2 HB2 hB2 ka6 kb6
 have ka7 : w3.cell? ⟨w.heap.size, 7, none⟩ = some (.slice a7 y.asks.length c7) := HA3.out.cell rfl
 have kb7 : w3.cell? ⟨w.heap.size + 1, 7, none⟩ = some (.slice b7 y.asks.length d7) := HB3.out.cell rfl
 go_wp2_with fail
 refine (wmAks_any y.asks a7 b7 c7 d7 lo lo' _ (N7.out.below AksC.holds hB3 (Nat.le_refl _)) (M7.out.below AksC.holds hB3 (Nat.le_refl _)) l7).mono ?_
 rintro e w4 ⟨rfl, hb⟩
 have HA4 := Hid.intro (HA3.out.below hb HA3.out.lt)
 have HB4 := Hid.intro (HB3.out.below hb HB3.out.lt)
 have hB4 := hB3.trans (hb.mono hB3.size)
 clear hb HA3 HB3 hB3 ka7 kb7
 have ka8 : w4.cell? ⟨w.heap.size, 8, none⟩ = some (.slice a8 y.gives.length c8) := HA4.out.cell rfl
 have kb8 : w4.cell? ⟨w.heap.size + 1, 8, none⟩ = some (.slice b8 y.gives.length d8) := HB4.out.cell rfl
 go_wp2_with fail
 refine (wmAks_any y.gives a8 b8 c8 d8 lo lo' _ (N8.out.below AksC.holds hB4 (Nat.le_refl _)) (M8.out.below AksC.holds hB4 (Nat.le_refl _)) l8).mono ?_
 rintro e w5 ⟨rfl, hb⟩
 have HA5 := Hid.intro (HA4.out.below hb HA4.out.lt)
 have HB5 := Hid.intro (HB4.out.below hb HB4.out.lt)
 have hB5 := hB4.trans (hb.mono hB4.size)
 clear hb HA4 HB4 hB4 ka8 kb8
 go_wp2_with fail
 go_ret
 exact ⟨rfl, hB5⟩

end Go.Proofs.Ytnifmiacobfplaa
