/-
  Lists cloned, each thing made anew: MateWant. Made by mkrw.py.
-/
import Derived.Test.YtebcocejgenadaaGreatRwg
namespace Go.Proofs.YtebcocejgenadaaGreat
open Go.RowKit

/-- the cells of one, of a list -/
def rcWnt (x : Wnt) : List Value := [.string x.copy, .int .i64 x.version, .string x.hold, .int .i64 x.pull, .int .i64 x.start, .int .i64 x.dies, .int .i64 x.grace]
def rvWnt : List Wnt → List Value
  | [] => []
  | x :: r => rcWnt x ++ rvWnt r

theorem rcWnt_len (x : Wnt) : (rcWnt x).length = 7 := rfl
theorem rvWnt_len : ∀ xs : List Wnt, (rvWnt xs).length = xs.length * 7
  | [] => rfl
  | x :: r => by
    have := rvWnt_len r
    simp only [rvWnt, List.length_append, List.length_cons, rcWnt_len]
    omega

theorem rvWnt_at : ∀ (xs : List Wnt) (k : Nat) (x : Wnt) (j : Nat), xs[k]? = some x → j < 7 → (rvWnt xs)[k * 7 + j]? = (rcWnt x)[j]?
  | [], _, _, _, h, _ => by simp at h
  | y :: r, 0, x, j, h, hj => by
    simp at h
    subst h
    simp only [rvWnt]
    rw [List.getElem?_append_left (by rw [rcWnt_len]; omega)]
    simp
  | y :: r, k + 1, x, j, h, hj => by
    simp at h
    simp only [rvWnt]
    rw [List.getElem?_append_right (by rw [rcWnt_len]; omega), rcWnt_len, show (k + 1) * 7 + j - 7 = k * 7 + j by omega]
    exact rvWnt_at r k x j h hj

theorem rvWnt_same : ∀ (xs : List Wnt) (k : Nat) (x : Wnt), xs[k]? = some x → setRun (rvWnt xs) (k * 7) (rcWnt x) = rvWnt xs
  | [], _, _, h => by simp at h
  | z :: r, 0, x, h => by
    simp at h
    subst h
    rfl
  | z :: r, k + 1, x, h => by
    simp at h
    simp only [rvWnt]
    rw [setRun_app _ _ _ _ (by rw [rcWnt_len]; omega), rcWnt_len, show (k + 1) * 7 - 7 = k * 7 by omega, rvWnt_same r k x h]

theorem rvWnt_one : ∀ (xs : List Wnt), ∀ u ∈ rvWnt xs, u.oneCell' = true
  | [], u, h => by cases h
  | x :: r, u, h => by
    simp only [rvWnt, List.mem_append] at h
    rcases h with h | h
    · have : ∀ v ∈ rcWnt x, v.oneCell' = true := by
        intro v hv
        simp only [rcWnt, List.mem_cons, List.not_mem_nil, or_false] at hv
        rcases hv with rfl | rfl | rfl | rfl | rfl | rfl | rfl <;> rfl
      exact this u h
    · exact rvWnt_one r u h

theorem cells_rcWnt {lo : Nat} {w : World} {f : Nat → Option Value} {x : Wnt} (h : WntC lo w f x) (j : Nat) (v : Value) (hv : (rcWnt x)[j]? = some v) : f j = some v := by
  obtain ⟨q0, q1, q2, q3, q4, q5, q6, _, _⟩ := h
  have hj : j < 7 := lt_of_some hv
  have hc : j = 0 ∨ j = 1 ∨ j = 2 ∨ j = 3 ∨ j = 4 ∨ j = 5 ∨ j = 6 := by omega
  rcases hc with rfl | rfl | rfl | rfl | rfl | rfl | rfl <;> (cases hv; assumption)

theorem rcWnt_cells {lo : Nat} {w : World} {f : Nat → Option Value} {x : Wnt} (h : ∀ j v, (rcWnt x)[j]? = some v → f j = some v) (z0 : x.copy.size ≤ maxLen) (z2 : x.hold.size ≤ maxLen) : WntC lo w f x :=
  ⟨h 0 _ rfl, h 1 _ rfl, h 2 _ rfl, h 3 _ rfl, h 4 _ rfl, h 5 _ rfl, h 6 _ rfl, z0, z2⟩

theorem newsWnt {lo : Nat} {w : World} {b o : Nat} {xs : List Wnt} (h : SliceC WntC 7 lo w (some ⟨b, o, none⟩) xs) (j : Nat) (u : Value) (hu : (rvWnt xs)[j]? = some u) : w.cell? ((⟨b, o, none⟩ : Addr).add j) = some u := by
  have hl : j < xs.length * 7 := by have := lt_of_some hu; rwa [rvWnt_len] at this
  obtain ⟨x, hx⟩ : ∃ x, xs[j / 7]? = some x := ⟨xs[j / 7]'(by omega), List.getElem?_eq_getElem (by omega)⟩
  obtain ⟨b', o', e, _, _, hc⟩ := h.at hx
  cases e
  rw [show j = j / 7 * 7 + j % 7 by omega, rvWnt_at xs (j / 7) x (j % 7) hx (by omega)] at hu
  have := cells_rcWnt hc (j % 7) u hu
  rw [Addr.add_mid, show o + j = o + j / 7 * 7 + j % 7 by omega]
  exact this

/-- the texts in a list are no longer than they may be -/
def SzWnt (xs : List Wnt) (m : Nat) : Prop := ∀ x ∈ xs, x.copy.size ≤ m ∧ x.hold.size ≤ m

theorem rowslWnt {base cap : Nat} {a : Option Addr} {w : World} {xs : List Wnt} (h : w.ownsRow base 79 7 (.slice a xs.length cap) xs.length (rvWnt xs)) (hm : xs.length ≤ 1048576) (hz : SzWnt xs 1048576) : SliceC WntC 7 base w a xs := by
  rcases h.2 with ⟨h1, _⟩ | ⟨g', cap', cur, h1, _⟩
  · have : xs.length = 0 := by injection h1
    rw [List.length_eq_zero_iff.1 this]
    exact SliceC.nil
  · have e : a = some ⟨g', 0, none⟩ := by injection h1
    subst e
    refine ⟨by unfold maxLen; omega, .inr ⟨g', 0, rfl, ⟨rowb h, fun _ p => h.frozenAt p⟩, (h.lt g' rfl).2, fun k x hk => ?_⟩⟩
    have hlt := lt_of_some hk
    have hzz := hz x (List.mem_of_getElem? hk)
    refine rcWnt_cells (fun j v hv => ?_) (by unfold maxLen; omega) (by unfold maxLen; omega)
    have hj : j < 7 := lt_of_some hv
    show w.cell? ⟨g', 0 + k * 7 + j, none⟩ = some v
    have := h.cellAt (k * 7 + j) (by omega)
    rw [Nat.zero_add]
    rw [this, rvWnt_at xs k x j hk hj]
    exact hv

set_option maxHeartbeats 1000000 in
set_option maxRecDepth 100000 in
theorem clWnt_any (xs : List Wnt) (b ob cap lo : Nat) (w : World) (hin : SliceC WntC 7 lo w (some ⟨b, ob, none⟩) xs) (hsm : xs.length ≤ 1048576) :
    Calls Tryz.prog 96 #[.slice (some ⟨b, ob, none⟩) xs.length cap] w fun e w' => ∃ g c, e = .returned (.slice (some ⟨g, 0, none⟩) xs.length c) ∧ w'.ownsRow w.heap.size 79 7 (.slice (some ⟨g, 0, none⟩) xs.length c) xs.length (rvWnt xs) ∧ Below w.heap.size w w' := by
  obtain ⟨i0, hi, hz0, hz1, hz2⟩ := info_parts info_Wnt
  have q22 : ∀ (w : World) (a : Option Addr) (n c n' c' : Nat), (binOp .eql 37 (.slice a n c) (.slice none n' c')).run Tryz.prog w = .ok (.bool a.isNone) w := fun w a n c n' c' => Lib.run_eql_slice_nil w _ _ a n c n' c' Tryz.underlying37
  have HS : Hid (∀ j u, (rvWnt xs)[j]? = some u → w.cell? ((⟨b, ob, none⟩ : Addr).add j) = some u) := newsWnt hin
  clear hin
  go_enter Tryz.func96, Tryz.ntmps96
  go_wp2_with (at_builtin; refine wpList_append_own _ rfl _ _ 37 rfl w.heap.size 79 i0 _ 7 72 Tryz.underlying37 hi hz0 hz1 hz2 rfl (by decide) _ _ _ rfl (World.ownsRow_made w #[] 0 (Nat.le_refl _) (Nat.zero_le _) rfl) ⟨b, ob, none⟩ xs.length _ (rvWnt xs) rfl (by rw [rvWnt_len]) (fun j u hj => Lib.cell?_alloc_some _ (HS.out j u hj)) (rvWnt_one xs) (by unfold maxLen; omega) (by omega) (by simp) ?_; intro v' w1 hown hgrow hnil)
  have hv : v' ≠ .slice none 0 0 := fun e => by have := (hnil.1 e).1; cases this
  have hown' : w1.ownsRow w.heap.size 79 7 v' xs.length (rvWnt xs) := by simpa using hown
  obtain ⟨g, c, rfl⟩ := rowf hown' hv
  have HO := Hid.intro hown'
  have hB : Below w.heap.size w w1 := ((Below.refl _ w).alloc (Nat.le_refl _) _).grown hgrow (by simp) (by intro k hk; cases hk; exact Nat.le_refl _)
  clear hown hgrow hnil hv hown'
  go_wp2_with fail
  go_ret
  exact ⟨g, c, rfl, HO.out, hB⟩

set_option maxHeartbeats 1000000 in
theorem clnWnt_any (cap : Nat) (w : World) :
    Calls Tryz.prog 96 #[.slice none 0 cap] w fun e w' => e = .returned (.slice none 0 0) ∧ Below w.heap.size w w' := by
  have q22 : ∀ (w : World) (a : Option Addr) (n c n' c' : Nat), (binOp .eql 37 (.slice a n c) (.slice none n' c')).run Tryz.prog w = .ok (.bool a.isNone) w := fun w a n c n' c' => Lib.run_eql_slice_nil w _ _ a n c n' c' Tryz.underlying37
  go_enter Tryz.func96, Tryz.ntmps96
  go_wp2_with fail
  go_ret
  exact ⟨rfl, Below.refl _ _⟩

set_option maxHeartbeats 1000000 in
set_option maxRecDepth 100000 in
theorem eanWnt_any (f : Value) (cap : Nat) (w : World) :
    Calls Tryz.prog 83 #[.slice none 0 cap, f] w fun e w' => e = .returned (.slice none 0 0) ∧ Below w.heap.size w w' := by
  go_enter Tryz.func83, Tryz.ntmps83
  go_wp2_with fail
  refine (clnWnt_any cap _).mono ?_
  rintro e w1 ⟨rfl, hb⟩
  have HB := Hid.intro hb
  clear hb
  go_wp2_with fail
  go_loopw [11] (fun i wr => i = .int .i64 0 ∧ Below w.heap.size w wr) (fun i _ => 0)
  case atStart => exact ⟨rfl, HB.out⟩
  case round =>
    obtain ⟨rfl, hB⟩ := hrel
    go_wp2_with fail
    go_ret
    exact ⟨rfl, hB⟩

set_option maxHeartbeats 4000000 in
set_option maxRecDepth 100000 in
theorem eaWnt_any (xs : List Wnt) (b ob cap lo : Nat) (w : World) (hin : SliceC WntC 7 lo w (some ⟨b, ob, none⟩) xs) (hsm : xs.length ≤ 1048576) (hz : SzWnt xs 1048576) :
    Calls Tryz.prog 83 #[.slice (some ⟨b, ob, none⟩) xs.length cap, .func (.func 84) #[] #[]] w fun e w' => ∃ g q, e = .returned (.slice (some ⟨g, 0, none⟩) xs.length q) ∧ w'.ownsRow w.heap.size 79 7 (.slice (some ⟨g, 0, none⟩) xs.length q) xs.length (rvWnt xs) ∧ Below w.heap.size w w' := by
  have HI := Hid.intro hin
  have HZ := Hid.intro hz
  clear hin hz
  go_enter Tryz.func83, Tryz.ntmps83
  go_wp2_with fail
  refine (clWnt_any xs b ob cap lo _ HI.out hsm).mono ?_
  rintro e w1 ⟨g, q, rfl, hO1, hB1⟩
  have HO1 := Hid.intro hO1
  clear hO1
  go_wp2_with fail
  go_loopw [11] (fun i wr => ∃ k : Nat, k ≤ xs.length ∧ i = .int .i64 k ∧ Hid (wr.ownsRow w.heap.size 79 7 (.slice (some ⟨g, 0, none⟩) xs.length q) xs.length (rvWnt xs)) ∧ Below w.heap.size w wr) (fun i _ => xs.length - (intOf i).toNat)
  case atStart => exact ⟨0, Nat.zero_le _, rfl, HO1, hB1⟩
  case round =>
    clear HO1 hB1
    obtain ⟨k, hk, rfl, HO, hB⟩ := hrel
    by_cases hlt : k < xs.length
    · obtain ⟨x, hx⟩ : ∃ x, xs[k]? = some x := ⟨xs[k], List.getElem?_eq_getElem hlt⟩
      have HXX := Hid.intro hx
      have Z := Hid.intro (HZ.out x (List.mem_of_getElem? hx))
      have hgl : g < wr.heap.size := (HO.out.lt g rfl).2
      have hgb : w.heap.size ≤ g := rowb HO.out
      have HRA : Hid (wr.rangeAt g (k * 7) [.string x.copy, .int .i64 x.version, .string x.hold, .int .i64 x.pull, .int .i64 x.start, .int .i64 x.dies, .int .i64 x.grace]) := fun j v hv => by
        have hj : j < 7 := lt_of_some hv
        have h1 := HO.out.cellAt (k * 7 + j) (by omega)
        rw [rvWnt_at _ k x j hx hj] at h1
        exact h1.trans hv
      clear hx
      have hza : Blk wr.heap.size #[.string ⟨#[]⟩, .int .i64 0, .string ⟨#[]⟩, .int .i64 0, .int .i64 0, .int .i64 0, .int .i64 0] 79 (wr.alloc (Obj.cells #[.string ⟨#[]⟩, .int .i64 0, .string ⟨#[]⟩, .int .i64 0, .int .i64 0, .int .i64 0, .int .i64 0] 79)) := Blk.alloc _ _ _
      have HTS : Hid ((wr.alloc (Obj.cells #[.string ⟨#[]⟩, .int .i64 0, .string ⟨#[]⟩, .int .i64 0, .int .i64 0, .int .i64 0, .int .i64 0] 79)).there wr.heap.size 0 7) := hza.there
      obtain ⟨w4, HW4⟩ : ∃ w4, Hid (w4 = (wr.alloc (Obj.cells #[.string ⟨#[]⟩, .int .i64 0, .string ⟨#[]⟩, .int .i64 0, .int .i64 0, .int .i64 0, .int .i64 0] 79)).setCells wr.heap.size 0 [.string x.copy, .int .i64 x.version, .string x.hold, .int .i64 x.pull, .int .i64 x.start, .int .i64 x.dies, .int .i64 x.grace]) := ⟨_, rfl⟩
      have HK4 : Hid (Blk wr.heap.size #[.string x.copy, .int .i64 x.version, .string x.hold, .int .i64 x.pull, .int .i64 x.start, .int .i64 x.dies, .int .i64 x.grace] 79 w4) := by
        show Blk _ _ _ _
        rw [HW4.out]
        exact hza.setAll #[.string x.copy, .int .i64 x.version, .string x.hold, .int .i64 x.pull, .int .i64 x.start, .int .i64 x.dies, .int .i64 x.grace] rfl
      have hbx : Below wr.heap.size wr w4 := by
        rw [HW4.out]
        exact below_setCells (Nat.le_refl _) _ _ _ ((Below.refl _ wr).alloc (Nat.le_refl _) _)
      have hB4 : Below w.heap.size w w4 := hB.trans (hbx.mono hB.size)
      have HO4 := Hid.intro (ownsRow_below HO.out hbx)
      clear hza hbx HO hB
      go_upto_region 5 with (first | (refine wpList_load_mid rfl 79 _ rfl g (k * 7) (by first | rfl | (simp [go_sem]; done)) [.string x.copy, .int .i64 x.version, .string x.hold, .int .i64 x.pull, .int .i64 x.start, .int .i64 x.dies, .int .i64 x.grace] _ HRA.out Tryz.underlying79 rfl isz_Wnt ?_) | (refine wpList_store_to rfl 79 _ _ rfl wr.heap.size 0 #[.string x.copy, .int .i64 x.version, .string x.hold, .int .i64 x.pull, .int .i64 x.start, .int .i64 x.dies, .int .i64 x.grace] rfl rfl HTS.out isz_Wnt (by simp [Value.oneCell']) w4 HW4.out ?_))
      clear HRA HTS HW4
      go_wp2_with (first | (refine wpList_load_mid rfl 79 _ rfl wr.heap.size 0 (by first | rfl | (simp [go_sem]; done)) [.string x.copy, .int .i64 x.version, .string x.hold, .int .i64 x.pull, .int .i64 x.start, .int .i64 x.dies, .int .i64 x.grace] _ HK4.out.rangeA Tryz.underlying79 rfl isz_Wnt ?_))
      refine (nwWnt_any x _ Z.out.1 Z.out.2).mono ?_
      rintro e w5 ⟨rfl, hb5⟩
      have HO5 := Hid.intro (ownsRow_below HO4.out hb5)
      have hB5 := hB4.trans (hb5.mono hB4.size)
      clear hb5 hB4 HO4 HK4
      have HT5 : Hid (w5.there g (k * 7) 7) := ownsRow_there HO5.out (by rw [rvWnt_len]; omega)
      obtain ⟨w6, HW6⟩ : ∃ w6, Hid (w6 = w5.setCells g (k * 7) (rcWnt x)) := ⟨_, rfl⟩
      have HO6 : Hid (w6.ownsRow w.heap.size 79 7 (.slice (some ⟨g, 0, none⟩) xs.length q) xs.length (rvWnt xs)) := by
        have h := ownsRow_run (rcWnt x) _ (k * 7) _ HO5.out
        rw [rvWnt_same xs k x HXX.out, ← HW6.out] at h
        exact h
      have hB6 : Below w.heap.size w w6 := by
        rw [HW6.out]
        exact below_setCells hgb _ _ _ hB5
      unfold rcWnt at HW6
      clear hB5 HO5
      have i0 : (0 : Int) ≤ (k : Int) := by omega
      have i1 : (k : Int) < (xs.length : Int) := by omega
      go_wp2_with (first | (refine wpList_store_to rfl 79 _ _ rfl g (k * 7) #[.string x.copy, .int .i64 x.version, .string x.hold, .int .i64 x.pull, .int .i64 x.start, .int .i64 x.dies, .int .i64 x.grace] (by first | rfl | (simp [go_sem]; done)) rfl HT5.out isz_Wnt (by simp [Value.oneCell']) w6 HW6.out ?_))
      go_roundw
      case rel => exact ⟨k + 1, by omega, by go_num, HO6, hB6⟩
      case measure => simp [intOf]; omega
    · have hke : k = xs.length := by omega
      subst hke
      go_wp2_with fail
      go_ret
      exact ⟨g, q, rfl, HO.out, hB⟩

end Go.Proofs.YtebcocejgenadaaGreat
