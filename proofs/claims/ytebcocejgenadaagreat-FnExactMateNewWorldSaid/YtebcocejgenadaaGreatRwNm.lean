/-
  Lists cloned, each thing made anew: Mate. Made by mknm.py.
-/
import Derived.Test.YtebcocejgenadaaGreatNm0
namespace Go.Proofs.YtebcocejgenadaaGreat
open Go.RowKit

/-- the cells of one, of a list -/
def rcNm (x : Nm) : List Value := [.string x.name, .bool true, .int .i64 0, .bool false, .int .i64 0, .slice none 0 0, .slice none 0 0, .slice none 0 0, .slice none 0 0]
def rvNm : List Nm → List Value
  | [] => []
  | x :: r => rcNm x ++ rvNm r

theorem rcNm_len (x : Nm) : (rcNm x).length = 9 := rfl
theorem rvNm_len : ∀ xs : List Nm, (rvNm xs).length = xs.length * 9
  | [] => rfl
  | x :: r => by
    have := rvNm_len r
    simp only [rvNm, List.length_append, List.length_cons, rcNm_len]
    omega

theorem rvNm_at : ∀ (xs : List Nm) (k : Nat) (x : Nm) (j : Nat), xs[k]? = some x → j < 9 → (rvNm xs)[k * 9 + j]? = (rcNm x)[j]?
  | [], _, _, _, h, _ => by simp at h
  | y :: r, 0, x, j, h, hj => by
    simp at h
    subst h
    simp only [rvNm]
    rw [List.getElem?_append_left (by rw [rcNm_len]; omega)]
    simp
  | y :: r, k + 1, x, j, h, hj => by
    simp at h
    simp only [rvNm]
    rw [List.getElem?_append_right (by rw [rcNm_len]; omega), rcNm_len, show (k + 1) * 9 + j - 9 = k * 9 + j by omega]
    exact rvNm_at r k x j h hj

theorem rvNm_same : ∀ (xs : List Nm) (k : Nat) (x : Nm), xs[k]? = some x → setRun (rvNm xs) (k * 9) (rcNm x) = rvNm xs
  | [], _, _, h => by simp at h
  | z :: r, 0, x, h => by
    simp at h
    subst h
    rfl
  | z :: r, k + 1, x, h => by
    simp at h
    simp only [rvNm]
    rw [setRun_app _ _ _ _ (by rw [rcNm_len]; omega), rcNm_len, show (k + 1) * 9 - 9 = k * 9 by omega, rvNm_same r k x h]

theorem rvNm_one : ∀ (xs : List Nm), ∀ u ∈ rvNm xs, u.oneCell' = true
  | [], u, h => by cases h
  | x :: r, u, h => by
    simp only [rvNm, List.mem_append] at h
    rcases h with h | h
    · have : ∀ v ∈ rcNm x, v.oneCell' = true := by
        intro v hv
        simp only [rcNm, List.mem_cons, List.not_mem_nil, or_false] at hv
        rcases hv with rfl | rfl | rfl | rfl | rfl | rfl | rfl | rfl | rfl <;> rfl
      exact this u h
    · exact rvNm_one r u h

theorem cells_rcNm {lo : Nat} {w : World} {f : Nat → Option Value} {x : Nm} (h : NmC lo w f x) (j : Nat) (v : Value) (hv : (rcNm x)[j]? = some v) : f j = some v := by
  obtain ⟨q0, q1, q2, q3, q4, q5, q6, q7, q8, _, _⟩ := h
  have hj : j < 9 := lt_of_some hv
  have hc : j = 0 ∨ j = 1 ∨ j = 2 ∨ j = 3 ∨ j = 4 ∨ j = 5 ∨ j = 6 ∨ j = 7 ∨ j = 8 := by omega
  rcases hc with rfl | rfl | rfl | rfl | rfl | rfl | rfl | rfl | rfl <;> (cases hv; assumption)

theorem rcNm_cells {lo : Nat} {w : World} {f : Nat → Option Value} {x : Nm} (h : ∀ j v, (rcNm x)[j]? = some v → f j = some v) (z0 : x.name.size ≤ maxLen) (z2 : x.name.size ≤ maxLen) : NmC lo w f x :=
  ⟨h 0 _ rfl, h 1 _ rfl, h 2 _ rfl, h 3 _ rfl, h 4 _ rfl, h 5 _ rfl, h 6 _ rfl, h 7 _ rfl, h 8 _ rfl, z0, z2⟩

theorem newsNm {lo : Nat} {w : World} {b o : Nat} {xs : List Nm} (h : SliceC NmC 9 lo w (some ⟨b, o, none⟩) xs) (j : Nat) (u : Value) (hu : (rvNm xs)[j]? = some u) : w.cell? ((⟨b, o, none⟩ : Addr).add j) = some u := by
  have hl : j < xs.length * 9 := by have := lt_of_some hu; rwa [rvNm_len] at this
  obtain ⟨x, hx⟩ : ∃ x, xs[j / 9]? = some x := ⟨xs[j / 9]'(by omega), List.getElem?_eq_getElem (by omega)⟩
  obtain ⟨b', o', e, _, _, hc⟩ := h.at hx
  cases e
  rw [show j = j / 9 * 9 + j % 9 by omega, rvNm_at xs (j / 9) x (j % 9) hx (by omega)] at hu
  have := cells_rcNm hc (j % 9) u hu
  rw [Addr.add_mid, show o + j = o + j / 9 * 9 + j % 9 by omega]
  exact this

/-- the texts in a list are no longer than they may be -/
def SzNm (xs : List Nm) (m : Nat) : Prop := ∀ x ∈ xs, x.name.size ≤ m ∧ x.name.size ≤ m

theorem rowslNm {base cap : Nat} {a : Option Addr} {w : World} {xs : List Nm} (h : w.ownsRow base 41 9 (.slice a xs.length cap) xs.length (rvNm xs)) (hm : xs.length ≤ 1048576) (hz : SzNm xs 1048576) : SliceC NmC 9 base w a xs := by
  rcases h.2 with ⟨h1, _⟩ | ⟨g', cap', cur, h1, _⟩
  · have : xs.length = 0 := by injection h1
    rw [List.length_eq_zero_iff.1 this]
    exact SliceC.nil
  · have e : a = some ⟨g', 0, none⟩ := by injection h1
    subst e
    refine ⟨by unfold maxLen; omega, .inr ⟨g', 0, rfl, ⟨rowb h, fun _ p => h.frozenAt p⟩, (h.lt g' rfl).2, fun k x hk => ?_⟩⟩
    have hlt := lt_of_some hk
    have hzz := hz x (List.mem_of_getElem? hk)
    refine rcNm_cells (fun j v hv => ?_) (by unfold maxLen; omega) (by unfold maxLen; omega)
    have hj : j < 9 := lt_of_some hv
    show w.cell? ⟨g', 0 + k * 9 + j, none⟩ = some v
    have := h.cellAt (k * 9 + j) (by omega)
    rw [Nat.zero_add]
    rw [this, rvNm_at xs k x j hk hj]
    exact hv

set_option maxHeartbeats 1000000 in
set_option maxRecDepth 100000 in
theorem clNm_any (xs : List Nm) (b ob cap lo : Nat) (w : World) (hin : SliceC NmC 9 lo w (some ⟨b, ob, none⟩) xs) (hsm : xs.length ≤ 1048576) :
    Calls Tryz.prog 28 #[.slice (some ⟨b, ob, none⟩) xs.length cap] w fun e w' => ∃ g c, e = .returned (.slice (some ⟨g, 0, none⟩) xs.length c) ∧ w'.ownsRow w.heap.size 41 9 (.slice (some ⟨g, 0, none⟩) xs.length c) xs.length (rvNm xs) ∧ Below w.heap.size w w' := by
  obtain ⟨i0, hi, hz0, hz1, hz2⟩ := info_parts info_Nm
  have q22 : ∀ (w : World) (a : Option Addr) (n c n' c' : Nat), (binOp .eql 28 (.slice a n c) (.slice none n' c')).run Tryz.prog w = .ok (.bool a.isNone) w := fun w a n c n' c' => Lib.run_eql_slice_nil w _ _ a n c n' c' Tryz.underlying28
  have HS : Hid (∀ j u, (rvNm xs)[j]? = some u → w.cell? ((⟨b, ob, none⟩ : Addr).add j) = some u) := newsNm hin
  clear hin
  go_enter Tryz.func28, Tryz.ntmps28
  go_wp2_with (at_builtin; refine wpList_append_own _ rfl _ _ 28 rfl w.heap.size 41 i0 _ 9 144 Tryz.underlying28 hi hz0 hz1 hz2 rfl (by decide) _ _ _ rfl (World.ownsRow_made w #[] 0 (Nat.le_refl _) (Nat.zero_le _) rfl) ⟨b, ob, none⟩ xs.length _ (rvNm xs) rfl (by rw [rvNm_len]) (fun j u hj => Lib.cell?_alloc_some _ (HS.out j u hj)) (rvNm_one xs) (by unfold maxLen; omega) (by omega) (by simp) ?_; intro v' w1 hown hgrow hnil)
  have hv : v' ≠ .slice none 0 0 := fun e => by have := (hnil.1 e).1; cases this
  have hown' : w1.ownsRow w.heap.size 41 9 v' xs.length (rvNm xs) := by simpa using hown
  obtain ⟨g, c, rfl⟩ := rowf hown' hv
  have HO := Hid.intro hown'
  have hB : Below w.heap.size w w1 := ((Below.refl _ w).alloc (Nat.le_refl _) _).grown hgrow (by simp) (by intro k hk; cases hk; exact Nat.le_refl _)
  clear hown hgrow hnil hv hown'
  go_wp2_with fail
  go_ret
  exact ⟨g, c, rfl, HO.out, hB⟩

set_option maxHeartbeats 1000000 in
theorem clnNm_any (cap : Nat) (w : World) :
    Calls Tryz.prog 28 #[.slice none 0 cap] w fun e w' => e = .returned (.slice none 0 0) ∧ Below w.heap.size w w' := by
  have q22 : ∀ (w : World) (a : Option Addr) (n c n' c' : Nat), (binOp .eql 28 (.slice a n c) (.slice none n' c')).run Tryz.prog w = .ok (.bool a.isNone) w := fun w a n c n' c' => Lib.run_eql_slice_nil w _ _ a n c n' c' Tryz.underlying28
  go_enter Tryz.func28, Tryz.ntmps28
  go_wp2_with fail
  go_ret
  exact ⟨rfl, Below.refl _ _⟩

set_option maxHeartbeats 1000000 in
set_option maxRecDepth 100000 in
theorem eanNm_any (f : Value) (cap : Nat) (w : World) :
    Calls Tryz.prog 66 #[.slice none 0 cap, f] w fun e w' => e = .returned (.slice none 0 0) ∧ Below w.heap.size w w' := by
  go_enter Tryz.func66, Tryz.ntmps66
  go_wp2_with fail
  refine (clnNm_any cap _).mono ?_
  rintro e w1 ⟨rfl, hb⟩
  have HB := Hid.intro hb
  clear hb
  go_wp2_with fail
  go_loopw [11] (fun i wr => i = .int .i64 0 ∧ Below w.heap.size w wr) (fun i _ => 0)
  case atStart => exact ⟨rfl, HB.out⟩
  case round =>
    obtain ⟨rfl, hB⟩ := hrel
    go_wp2_with fail
    go_ret
    exact ⟨rfl, hB⟩

set_option maxHeartbeats 4000000 in
set_option maxRecDepth 100000 in
theorem eaNm_any (xs : List Nm) (b ob cap lo : Nat) (w : World) (hin : SliceC NmC 9 lo w (some ⟨b, ob, none⟩) xs) (hsm : xs.length ≤ 1048576) (hz : SzNm xs 1048576) :
    Calls Tryz.prog 66 #[.slice (some ⟨b, ob, none⟩) xs.length cap, .func (.func 67) #[] #[]] w fun e w' => ∃ g q, e = .returned (.slice (some ⟨g, 0, none⟩) xs.length q) ∧ w'.ownsRow w.heap.size 41 9 (.slice (some ⟨g, 0, none⟩) xs.length q) xs.length (rvNm xs) ∧ Below w.heap.size w w' := by
  have HI := Hid.intro hin
  have HZ := Hid.intro hz
  clear hin hz
  go_enter Tryz.func66, Tryz.ntmps66
  go_wp2_with fail
  refine (clNm_any xs b ob cap lo _ HI.out hsm).mono ?_
  rintro e w1 ⟨g, q, rfl, hO1, hB1⟩
  have HO1 := Hid.intro hO1
  clear hO1
  go_wp2_with fail
  go_loopw [11] (fun i wr => ∃ k : Nat, k ≤ xs.length ∧ i = .int .i64 k ∧ Hid (wr.ownsRow w.heap.size 41 9 (.slice (some ⟨g, 0, none⟩) xs.length q) xs.length (rvNm xs)) ∧ Below w.heap.size w wr) (fun i _ => xs.length - (intOf i).toNat)
  case atStart => exact ⟨0, Nat.zero_le _, rfl, HO1, hB1⟩
  case round =>
    clear HO1 hB1
    obtain ⟨k, hk, rfl, HO, hB⟩ := hrel
    by_cases hlt : k < xs.length
    · obtain ⟨x, hx⟩ : ∃ x, xs[k]? = some x := ⟨xs[k], List.getElem?_eq_getElem hlt⟩
      have HXX := Hid.intro hx
      have Z := Hid.intro (HZ.out x (List.mem_of_getElem? hx))
      have hgl : g < wr.heap.size := (HO.out.lt g rfl).2
      have hgb : w.heap.size ≤ g := rowb HO.out
      have HRA : Hid (wr.rangeAt g (k * 9) [.string x.name, .bool true, .int .i64 0, .bool false, .int .i64 0, .slice none 0 0, .slice none 0 0, .slice none 0 0, .slice none 0 0]) := fun j v hv => by
        have hj : j < 9 := lt_of_some hv
        have h1 := HO.out.cellAt (k * 9 + j) (by omega)
        rw [rvNm_at _ k x j hx hj] at h1
        exact h1.trans hv
      clear hx
      have hza : Blk wr.heap.size #[.string ⟨#[]⟩, .bool false, .int .i64 0, .bool false, .int .i64 0, .slice none 0 0, .slice none 0 0, .slice none 0 0, .slice none 0 0] 41 (wr.alloc (Obj.cells #[.string ⟨#[]⟩, .bool false, .int .i64 0, .bool false, .int .i64 0, .slice none 0 0, .slice none 0 0, .slice none 0 0, .slice none 0 0] 41)) := Blk.alloc _ _ _
      have HTS : Hid ((wr.alloc (Obj.cells #[.string ⟨#[]⟩, .bool false, .int .i64 0, .bool false, .int .i64 0, .slice none 0 0, .slice none 0 0, .slice none 0 0, .slice none 0 0] 41)).there wr.heap.size 0 9) := hza.there
      obtain ⟨w4, HW4⟩ : ∃ w4, Hid (w4 = (wr.alloc (Obj.cells #[.string ⟨#[]⟩, .bool false, .int .i64 0, .bool false, .int .i64 0, .slice none 0 0, .slice none 0 0, .slice none 0 0, .slice none 0 0] 41)).setCells wr.heap.size 0 [.string x.name, .bool true, .int .i64 0, .bool false, .int .i64 0, .slice none 0 0, .slice none 0 0, .slice none 0 0, .slice none 0 0]) := ⟨_, rfl⟩
      have HK4 : Hid (Blk wr.heap.size #[.string x.name, .bool true, .int .i64 0, .bool false, .int .i64 0, .slice none 0 0, .slice none 0 0, .slice none 0 0, .slice none 0 0] 41 w4) := by
        show Blk _ _ _ _
        rw [HW4.out]
        exact hza.setAll #[.string x.name, .bool true, .int .i64 0, .bool false, .int .i64 0, .slice none 0 0, .slice none 0 0, .slice none 0 0, .slice none 0 0] rfl
      have hbx : Below wr.heap.size wr w4 := by
        rw [HW4.out]
        exact below_setCells (Nat.le_refl _) _ _ _ ((Below.refl _ wr).alloc (Nat.le_refl _) _)
      have hB4 : Below w.heap.size w w4 := hB.trans (hbx.mono hB.size)
      have HO4 := Hid.intro (ownsRow_below HO.out hbx)
      clear hza hbx HO hB
      go_upto_region 5 with (first | (refine wpList_load_mid rfl 41 _ rfl g (k * 9) (by first | rfl | (simp [go_sem]; done)) [.string x.name, .bool true, .int .i64 0, .bool false, .int .i64 0, .slice none 0 0, .slice none 0 0, .slice none 0 0, .slice none 0 0] _ HRA.out Tryz.underlying41 rfl isz_Nm ?_) | (refine wpList_store_to rfl 41 _ _ rfl wr.heap.size 0 #[.string x.name, .bool true, .int .i64 0, .bool false, .int .i64 0, .slice none 0 0, .slice none 0 0, .slice none 0 0, .slice none 0 0] rfl rfl HTS.out isz_Nm (by simp [Value.oneCell']) w4 HW4.out ?_))
      clear HRA HTS HW4
      go_wp2_with (first | (refine wpList_load_mid rfl 41 _ rfl wr.heap.size 0 (by first | rfl | (simp [go_sem]; done)) [.string x.name, .bool true, .int .i64 0, .bool false, .int .i64 0, .slice none 0 0, .slice none 0 0, .slice none 0 0, .slice none 0 0] _ HK4.out.rangeA Tryz.underlying41 rfl isz_Nm ?_))
      refine (nwNm_any x _ Z.out.1 Z.out.2).mono ?_
      rintro e w5 ⟨rfl, hb5⟩
      have HO5 := Hid.intro (ownsRow_below HO4.out hb5)
      have hB5 := hB4.trans (hb5.mono hB4.size)
      clear hb5 hB4 HO4 HK4
      have HT5 : Hid (w5.there g (k * 9) 9) := ownsRow_there HO5.out (by rw [rvNm_len]; omega)
      obtain ⟨w6, HW6⟩ : ∃ w6, Hid (w6 = w5.setCells g (k * 9) (rcNm x)) := ⟨_, rfl⟩
      have HO6 : Hid (w6.ownsRow w.heap.size 41 9 (.slice (some ⟨g, 0, none⟩) xs.length q) xs.length (rvNm xs)) := by
        have h := ownsRow_run (rcNm x) _ (k * 9) _ HO5.out
        rw [rvNm_same xs k x HXX.out, ← HW6.out] at h
        exact h
      have hB6 : Below w.heap.size w w6 := by
        rw [HW6.out]
        exact below_setCells hgb _ _ _ hB5
      unfold rcNm at HW6
      clear hB5 HO5
      have i0 : (0 : Int) ≤ (k : Int) := by omega
      have i1 : (k : Int) < (xs.length : Int) := by omega
      go_wp2_with (first | (refine wpList_store_to rfl 41 _ _ rfl g (k * 9) #[.string x.name, .bool true, .int .i64 0, .bool false, .int .i64 0, .slice none 0 0, .slice none 0 0, .slice none 0 0, .slice none 0 0] (by first | rfl | (simp [go_sem]; done)) rfl HT5.out isz_Nm (by simp [Value.oneCell']) w6 HW6.out ?_))
      go_roundw
      case rel => exact ⟨k + 1, by omega, by go_num, HO6, hB6⟩
      case measure => simp [intOf]; omega
    · have hke : k = xs.length := by omega
      subst hke
      go_wp2_with fail
      go_ret
      exact ⟨g, q, rfl, HO.out, hB⟩

end Go.Proofs.YtebcocejgenadaaGreat
