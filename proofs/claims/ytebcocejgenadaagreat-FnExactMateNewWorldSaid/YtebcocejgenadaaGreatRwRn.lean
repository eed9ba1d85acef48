/-
  Lists cloned, each thing made anew: MateRun. Made by mkrw.py.
-/
import Derived.Test.YtebcocejgenadaaGreatRwg
namespace Go.Proofs.YtebcocejgenadaaGreat
open Go.RowKit

/-- the cells of one, of a list -/
def rcRn (x : Rn) : List Value := [.string x.want.copy, .int .i64 x.want.version, .string x.want.hold, .int .i64 x.want.pull, .int .i64 x.want.start, .int .i64 x.want.dies, .int .i64 x.want.grace, .int .i64 x.state, .int .i64 x.left, .int .i64 x.falls, .int .i64 x.until_]
def rvRn : List Rn → List Value
  | [] => []
  | x :: r => rcRn x ++ rvRn r

theorem rcRn_len (x : Rn) : (rcRn x).length = 11 := rfl
theorem rvRn_len : ∀ xs : List Rn, (rvRn xs).length = xs.length * 11
  | [] => rfl
  | x :: r => by
    have := rvRn_len r
    simp only [rvRn, List.length_append, List.length_cons, rcRn_len]
    omega

theorem rvRn_at : ∀ (xs : List Rn) (k : Nat) (x : Rn) (j : Nat), xs[k]? = some x → j < 11 → (rvRn xs)[k * 11 + j]? = (rcRn x)[j]?
  | [], _, _, _, h, _ => by simp at h
  | y :: r, 0, x, j, h, hj => by
    simp at h
    subst h
    simp only [rvRn]
    rw [List.getElem?_append_left (by rw [rcRn_len]; omega)]
    simp
  | y :: r, k + 1, x, j, h, hj => by
    simp at h
    simp only [rvRn]
    rw [List.getElem?_append_right (by rw [rcRn_len]; omega), rcRn_len, show (k + 1) * 11 + j - 11 = k * 11 + j by omega]
    exact rvRn_at r k x j h hj

theorem rvRn_same : ∀ (xs : List Rn) (k : Nat) (x : Rn), xs[k]? = some x → setRun (rvRn xs) (k * 11) (rcRn x) = rvRn xs
  | [], _, _, h => by simp at h
  | z :: r, 0, x, h => by
    simp at h
    subst h
    rfl
  | z :: r, k + 1, x, h => by
    simp at h
    simp only [rvRn]
    rw [setRun_app _ _ _ _ (by rw [rcRn_len]; omega), rcRn_len, show (k + 1) * 11 - 11 = k * 11 by omega, rvRn_same r k x h]

theorem rvRn_one : ∀ (xs : List Rn), ∀ u ∈ rvRn xs, u.oneCell' = true
  | [], u, h => by cases h
  | x :: r, u, h => by
    simp only [rvRn, List.mem_append] at h
    rcases h with h | h
    · have : ∀ v ∈ rcRn x, v.oneCell' = true := by
        intro v hv
        simp only [rcRn, List.mem_cons, List.not_mem_nil, or_false] at hv
        rcases hv with rfl | rfl | rfl | rfl | rfl | rfl | rfl | rfl | rfl | rfl | rfl <;> rfl
      exact this u h
    · exact rvRn_one r u h

theorem cells_rcRn {lo : Nat} {w : World} {f : Nat → Option Value} {x : Rn} (h : RnC lo w f x) (j : Nat) (v : Value) (hv : (rcRn x)[j]? = some v) : f j = some v := by
  obtain ⟨q0, q1, q2, q3, q4, q5, q6, q7, q8, q9, q10, _, _⟩ := h
  have hj : j < 11 := lt_of_some hv
  have hc : j = 0 ∨ j = 1 ∨ j = 2 ∨ j = 3 ∨ j = 4 ∨ j = 5 ∨ j = 6 ∨ j = 7 ∨ j = 8 ∨ j = 9 ∨ j = 10 := by omega
  rcases hc with rfl | rfl | rfl | rfl | rfl | rfl | rfl | rfl | rfl | rfl | rfl <;> (cases hv; assumption)

theorem rcRn_cells {lo : Nat} {w : World} {f : Nat → Option Value} {x : Rn} (h : ∀ j v, (rcRn x)[j]? = some v → f j = some v) (z0 : x.want.copy.size ≤ maxLen) (z2 : x.want.hold.size ≤ maxLen) : RnC lo w f x :=
  ⟨h 0 _ rfl, h 1 _ rfl, h 2 _ rfl, h 3 _ rfl, h 4 _ rfl, h 5 _ rfl, h 6 _ rfl, h 7 _ rfl, h 8 _ rfl, h 9 _ rfl, h 10 _ rfl, z0, z2⟩

theorem newsRn {lo : Nat} {w : World} {b o : Nat} {xs : List Rn} (h : SliceC RnC 11 lo w (some ⟨b, o, none⟩) xs) (j : Nat) (u : Value) (hu : (rvRn xs)[j]? = some u) : w.cell? ((⟨b, o, none⟩ : Addr).add j) = some u := by
  have hl : j < xs.length * 11 := by have := lt_of_some hu; rwa [rvRn_len] at this
  obtain ⟨x, hx⟩ : ∃ x, xs[j / 11]? = some x := ⟨xs[j / 11]'(by omega), List.getElem?_eq_getElem (by omega)⟩
  obtain ⟨b', o', e, _, _, hc⟩ := h.at hx
  cases e
  rw [show j = j / 11 * 11 + j % 11 by omega, rvRn_at xs (j / 11) x (j % 11) hx (by omega)] at hu
  have := cells_rcRn hc (j % 11) u hu
  rw [Addr.add_mid, show o + j = o + j / 11 * 11 + j % 11 by omega]
  exact this

/-- the texts in a list are no longer than they may be -/
def SzRn (xs : List Rn) (m : Nat) : Prop := ∀ x ∈ xs, x.want.copy.size ≤ m ∧ x.want.hold.size ≤ m

theorem rowslRn {base cap : Nat} {a : Option Addr} {w : World} {xs : List Rn} (h : w.ownsRow base 81 11 (.slice a xs.length cap) xs.length (rvRn xs)) (hm : xs.length ≤ 1048576) (hz : SzRn xs 1048576) : SliceC RnC 11 base w a xs := by
  rcases h.2 with ⟨h1, _⟩ | ⟨g', cap', cur, h1, _⟩
  · have : xs.length = 0 := by injection h1
    rw [List.length_eq_zero_iff.1 this]
    exact SliceC.nil
  · have e : a = some ⟨g', 0, none⟩ := by injection h1
    subst e
    refine ⟨by unfold maxLen; omega, .inr ⟨g', 0, rfl, ⟨rowb h, fun _ p => h.frozenAt p⟩, (h.lt g' rfl).2, fun k x hk => ?_⟩⟩
    have hlt := lt_of_some hk
    have hzz := hz x (List.mem_of_getElem? hk)
    refine rcRn_cells (fun j v hv => ?_) (by unfold maxLen; omega) (by unfold maxLen; omega)
    have hj : j < 11 := lt_of_some hv
    show w.cell? ⟨g', 0 + k * 11 + j, none⟩ = some v
    have := h.cellAt (k * 11 + j) (by omega)
    rw [Nat.zero_add]
    rw [this, rvRn_at xs k x j hk hj]
    exact hv

set_option maxHeartbeats 1000000 in
set_option maxRecDepth 100000 in
theorem clRn_any (xs : List Rn) (b ob cap lo : Nat) (w : World) (hin : SliceC RnC 11 lo w (some ⟨b, ob, none⟩) xs) (hsm : xs.length ≤ 1048576) :
    Calls Tryz.prog 97 #[.slice (some ⟨b, ob, none⟩) xs.length cap] w fun e w' => ∃ g c, e = .returned (.slice (some ⟨g, 0, none⟩) xs.length c) ∧ w'.ownsRow w.heap.size 81 11 (.slice (some ⟨g, 0, none⟩) xs.length c) xs.length (rvRn xs) ∧ Below w.heap.size w w' := by
  obtain ⟨i0, hi, hz0, hz1, hz2⟩ := info_parts info_Rn
  have q22 : ∀ (w : World) (a : Option Addr) (n c n' c' : Nat), (binOp .eql 38 (.slice a n c) (.slice none n' c')).run Tryz.prog w = .ok (.bool a.isNone) w := fun w a n c n' c' => Lib.run_eql_slice_nil w _ _ a n c n' c' Tryz.underlying38
  have HS : Hid (∀ j u, (rvRn xs)[j]? = some u → w.cell? ((⟨b, ob, none⟩ : Addr).add j) = some u) := newsRn hin
  clear hin
  go_enter Tryz.func97, Tryz.ntmps97
  go_wp2_with (at_builtin; refine wpList_append_own _ rfl _ _ 38 rfl w.heap.size 81 i0 _ 11 104 Tryz.underlying38 hi hz0 hz1 hz2 rfl (by decide) _ _ _ rfl (World.ownsRow_made w #[] 0 (Nat.le_refl _) (Nat.zero_le _) rfl) ⟨b, ob, none⟩ xs.length _ (rvRn xs) rfl (by rw [rvRn_len]) (fun j u hj => Lib.cell?_alloc_some _ (HS.out j u hj)) (rvRn_one xs) (by unfold maxLen; omega) (by omega) (by simp) ?_; intro v' w1 hown hgrow hnil)
  have hv : v' ≠ .slice none 0 0 := fun e => by have := (hnil.1 e).1; cases this
  have hown' : w1.ownsRow w.heap.size 81 11 v' xs.length (rvRn xs) := by simpa using hown
  obtain ⟨g, c, rfl⟩ := rowf hown' hv
  have HO := Hid.intro hown'
  have hB : Below w.heap.size w w1 := ((Below.refl _ w).alloc (Nat.le_refl _) _).grown hgrow (by simp) (by intro k hk; cases hk; exact Nat.le_refl _)
  clear hown hgrow hnil hv hown'
  go_wp2_with fail
  go_ret
  exact ⟨g, c, rfl, HO.out, hB⟩

set_option maxHeartbeats 1000000 in
theorem clnRn_any (cap : Nat) (w : World) :
    Calls Tryz.prog 97 #[.slice none 0 cap] w fun e w' => e = .returned (.slice none 0 0) ∧ Below w.heap.size w w' := by
  have q22 : ∀ (w : World) (a : Option Addr) (n c n' c' : Nat), (binOp .eql 38 (.slice a n c) (.slice none n' c')).run Tryz.prog w = .ok (.bool a.isNone) w := fun w a n c n' c' => Lib.run_eql_slice_nil w _ _ a n c n' c' Tryz.underlying38
  go_enter Tryz.func97, Tryz.ntmps97
  go_wp2_with fail
  go_ret
  exact ⟨rfl, Below.refl _ _⟩

set_option maxHeartbeats 1000000 in
set_option maxRecDepth 100000 in
theorem eanRn_any (f : Value) (cap : Nat) (w : World) :
    Calls Tryz.prog 85 #[.slice none 0 cap, f] w fun e w' => e = .returned (.slice none 0 0) ∧ Below w.heap.size w w' := by
  go_enter Tryz.func85, Tryz.ntmps85
  go_wp2_with fail
  refine (clnRn_any cap _).mono ?_
  rintro e w1 ⟨rfl, hb⟩
  have HB := Hid.intro hb
  clear hb
  go_wp2_with fail
  go_loopw [11] (fun i wr => i = .int .i64 0 ∧ Below w.heap.size w wr) (fun i _ => 0)
  case atStart => exact ⟨rfl, HB.out⟩
  case round =>
    obtain ⟨rfl, hB⟩ := hrel
    go_wp2_with fail
    go_ret
    exact ⟨rfl, hB⟩

set_option maxHeartbeats 4000000 in
set_option maxRecDepth 100000 in
theorem eaRn_any (xs : List Rn) (b ob cap lo : Nat) (w : World) (hin : SliceC RnC 11 lo w (some ⟨b, ob, none⟩) xs) (hsm : xs.length ≤ 1048576) (hz : SzRn xs 1048576) :
    Calls Tryz.prog 85 #[.slice (some ⟨b, ob, none⟩) xs.length cap, .func (.func 86) #[] #[]] w fun e w' => ∃ g q, e = .returned (.slice (some ⟨g, 0, none⟩) xs.length q) ∧ w'.ownsRow w.heap.size 81 11 (.slice (some ⟨g, 0, none⟩) xs.length q) xs.length (rvRn xs) ∧ Below w.heap.size w w' := by
  have HI := Hid.intro hin
  have HZ := Hid.intro hz
  clear hin hz
  go_enter Tryz.func85, Tryz.ntmps85
  go_wp2_with fail
  refine (clRn_any xs b ob cap lo _ HI.out hsm).mono ?_
  rintro e w1 ⟨g, q, rfl, hO1, hB1⟩
  have HO1 := Hid.intro hO1
  clear hO1
  go_wp2_with fail
  go_loopw [11] (fun i wr => ∃ k : Nat, k ≤ xs.length ∧ i = .int .i64 k ∧ Hid (wr.ownsRow w.heap.size 81 11 (.slice (some ⟨g, 0, none⟩) xs.length q) xs.length (rvRn xs)) ∧ Below w.heap.size w wr) (fun i _ => xs.length - (intOf i).toNat)
  case atStart => exact ⟨0, Nat.zero_le _, rfl, HO1, hB1⟩
  case round =>
    clear HO1 hB1
    obtain ⟨k, hk, rfl, HO, hB⟩ := hrel
    by_cases hlt : k < xs.length
    · obtain ⟨x, hx⟩ : ∃ x, xs[k]? = some x := ⟨xs[k], List.getElem?_eq_getElem hlt⟩
      have HXX := Hid.intro hx
      have Z := Hid.intro (HZ.out x (List.mem_of_getElem? hx))
      have hgl : g < wr.heap.size := (HO.out.lt g rfl).2
      have hgb : w.heap.size ≤ g := rowb HO.out
      have HRA : Hid (wr.rangeAt g (k * 11) [.string x.want.copy, .int .i64 x.want.version, .string x.want.hold, .int .i64 x.want.pull, .int .i64 x.want.start, .int .i64 x.want.dies, .int .i64 x.want.grace, .int .i64 x.state, .int .i64 x.left, .int .i64 x.falls, .int .i64 x.until_]) := fun j v hv => by
        have hj : j < 11 := lt_of_some hv
        have h1 := HO.out.cellAt (k * 11 + j) (by omega)
        rw [rvRn_at _ k x j hx hj] at h1
        exact h1.trans hv
      clear hx
      have hza : Blk wr.heap.size #[.string ⟨#[]⟩, .int .i64 0, .string ⟨#[]⟩, .int .i64 0, .int .i64 0, .int .i64 0, .int .i64 0, .int .i64 0, .int .i64 0, .int .i64 0, .int .i64 0] 81 (wr.alloc (Obj.cells #[.string ⟨#[]⟩, .int .i64 0, .string ⟨#[]⟩, .int .i64 0, .int .i64 0, .int .i64 0, .int .i64 0, .int .i64 0, .int .i64 0, .int .i64 0, .int .i64 0] 81)) := Blk.alloc _ _ _
      have HTS : Hid ((wr.alloc (Obj.cells #[.string ⟨#[]⟩, .int .i64 0, .string ⟨#[]⟩, .int .i64 0, .int .i64 0, .int .i64 0, .int .i64 0, .int .i64 0, .int .i64 0, .int .i64 0, .int .i64 0] 81)).there wr.heap.size 0 11) := hza.there
      obtain ⟨w4, HW4⟩ : ∃ w4, Hid (w4 = (wr.alloc (Obj.cells #[.string ⟨#[]⟩, .int .i64 0, .string ⟨#[]⟩, .int .i64 0, .int .i64 0, .int .i64 0, .int .i64 0, .int .i64 0, .int .i64 0, .int .i64 0, .int .i64 0] 81)).setCells wr.heap.size 0 [.string x.want.copy, .int .i64 x.want.version, .string x.want.hold, .int .i64 x.want.pull, .int .i64 x.want.start, .int .i64 x.want.dies, .int .i64 x.want.grace, .int .i64 x.state, .int .i64 x.left, .int .i64 x.falls, .int .i64 x.until_]) := ⟨_, rfl⟩
      have HK4 : Hid (Blk wr.heap.size #[.string x.want.copy, .int .i64 x.want.version, .string x.want.hold, .int .i64 x.want.pull, .int .i64 x.want.start, .int .i64 x.want.dies, .int .i64 x.want.grace, .int .i64 x.state, .int .i64 x.left, .int .i64 x.falls, .int .i64 x.until_] 81 w4) := by
        show Blk _ _ _ _
        rw [HW4.out]
        exact hza.setAll #[.string x.want.copy, .int .i64 x.want.version, .string x.want.hold, .int .i64 x.want.pull, .int .i64 x.want.start, .int .i64 x.want.dies, .int .i64 x.want.grace, .int .i64 x.state, .int .i64 x.left, .int .i64 x.falls, .int .i64 x.until_] rfl
      have hbx : Below wr.heap.size wr w4 := by
        rw [HW4.out]
        exact below_setCells (Nat.le_refl _) _ _ _ ((Below.refl _ wr).alloc (Nat.le_refl _) _)
      have hB4 : Below w.heap.size w w4 := hB.trans (hbx.mono hB.size)
      have HO4 := Hid.intro (ownsRow_below HO.out hbx)
      clear hza hbx HO hB
      go_upto_region 5 with (first | (refine wpList_load_mid rfl 81 _ rfl g (k * 11) (by first | rfl | (simp [go_sem]; done)) [.string x.want.copy, .int .i64 x.want.version, .string x.want.hold, .int .i64 x.want.pull, .int .i64 x.want.start, .int .i64 x.want.dies, .int .i64 x.want.grace, .int .i64 x.state, .int .i64 x.left, .int .i64 x.falls, .int .i64 x.until_] _ HRA.out Tryz.underlying81 rfl isz_Rn ?_) | (refine wpList_store_to rfl 81 _ _ rfl wr.heap.size 0 #[.string x.want.copy, .int .i64 x.want.version, .string x.want.hold, .int .i64 x.want.pull, .int .i64 x.want.start, .int .i64 x.want.dies, .int .i64 x.want.grace, .int .i64 x.state, .int .i64 x.left, .int .i64 x.falls, .int .i64 x.until_] rfl rfl HTS.out isz_Rn (by simp [Value.oneCell']) w4 HW4.out ?_))
      clear HRA HTS HW4
      go_wp2_with (first | (refine wpList_load_mid rfl 81 _ rfl wr.heap.size 0 (by first | rfl | (simp [go_sem]; done)) [.string x.want.copy, .int .i64 x.want.version, .string x.want.hold, .int .i64 x.want.pull, .int .i64 x.want.start, .int .i64 x.want.dies, .int .i64 x.want.grace, .int .i64 x.state, .int .i64 x.left, .int .i64 x.falls, .int .i64 x.until_] _ HK4.out.rangeA Tryz.underlying81 rfl isz_Rn ?_))
      refine (nwRn_any x _ Z.out.1 Z.out.2).mono ?_
      rintro e w5 ⟨rfl, hb5⟩
      have HO5 := Hid.intro (ownsRow_below HO4.out hb5)
      have hB5 := hB4.trans (hb5.mono hB4.size)
      clear hb5 hB4 HO4 HK4
      have HT5 : Hid (w5.there g (k * 11) 11) := ownsRow_there HO5.out (by rw [rvRn_len]; omega)
      obtain ⟨w6, HW6⟩ : ∃ w6, Hid (w6 = w5.setCells g (k * 11) (rcRn x)) := ⟨_, rfl⟩
      have HO6 : Hid (w6.ownsRow w.heap.size 81 11 (.slice (some ⟨g, 0, none⟩) xs.length q) xs.length (rvRn xs)) := by
        have h := ownsRow_run (rcRn x) _ (k * 11) _ HO5.out
        rw [rvRn_same xs k x HXX.out, ← HW6.out] at h
        exact h
      have hB6 : Below w.heap.size w w6 := by
        rw [HW6.out]
        exact below_setCells hgb _ _ _ hB5
      unfold rcRn at HW6
      clear hB5 HO5
      have i0 : (0 : Int) ≤ (k : Int) := by omega
      have i1 : (k : Int) < (xs.length : Int) := by omega
      go_wp2_with (first | (refine wpList_store_to rfl 81 _ _ rfl g (k * 11) #[.string x.want.copy, .int .i64 x.want.version, .string x.want.hold, .int .i64 x.want.pull, .int .i64 x.want.start, .int .i64 x.want.dies, .int .i64 x.want.grace, .int .i64 x.state, .int .i64 x.left, .int .i64 x.falls, .int .i64 x.until_] (by first | rfl | (simp [go_sem]; done)) rfl HT5.out isz_Rn (by simp [Value.oneCell']) w6 HW6.out ?_))
      go_roundw
      case rel => exact ⟨k + 1, by omega, by go_num, HO6, hB6⟩
      case measure => simp [intOf]; omega
    · have hke : k = xs.length := by omega
      subst hke
      go_wp2_with fail
      go_ret
      exact ⟨g, q, rfl, HO.out, hB⟩

end Go.Proofs.YtebcocejgenadaaGreat
