/-
  Lists cloned, each thing made anew: FleetRan. Made by mkrw.py.
-/
import Derived.Test.YtlegklkbmifdeaaRwg
import Derived.Test.YtlegklkbmifdeaaNwr
namespace Go.Proofs.Ytlegklkbmifdeaa
open Go.RowKit

/-- the cells of one, of a list -/
def rcRan (x : Ran) : List Value := [.string x.copy, .int .i64 x.version, .int .i64 x.state]
def rvRan : List Ran → List Value
  | [] => []
  | x :: r => rcRan x ++ rvRan r

theorem rcRan_len (x : Ran) : (rcRan x).length = 3 := rfl
theorem rvRan_len : ∀ xs : List Ran, (rvRan xs).length = xs.length * 3
  | [] => rfl
  | x :: r => by
    have := rvRan_len r
    simp only [rvRan, List.length_append, List.length_cons, rcRan_len]
    omega

theorem rvRan_at : ∀ (xs : List Ran) (k : Nat) (x : Ran) (j : Nat), xs[k]? = some x → j < 3 → (rvRan xs)[k * 3 + j]? = (rcRan x)[j]?
  | [], _, _, _, h, _ => by simp at h
  | y :: r, 0, x, j, h, hj => by
    simp at h
    subst h
    simp only [rvRan]
    rw [List.getElem?_append_left (by rw [rcRan_len]; omega)]
    simp
  | y :: r, k + 1, x, j, h, hj => by
    simp at h
    simp only [rvRan]
    rw [List.getElem?_append_right (by rw [rcRan_len]; omega), rcRan_len, show (k + 1) * 3 + j - 3 = k * 3 + j by omega]
    exact rvRan_at r k x j h hj

theorem rvRan_same : ∀ (xs : List Ran) (k : Nat) (x : Ran), xs[k]? = some x → setRun (rvRan xs) (k * 3) (rcRan x) = rvRan xs
  | [], _, _, h => by simp at h
  | z :: r, 0, x, h => by
    simp at h
    subst h
    rfl
  | z :: r, k + 1, x, h => by
    simp at h
    simp only [rvRan]
    rw [setRun_app _ _ _ _ (by rw [rcRan_len]; omega), rcRan_len, show (k + 1) * 3 - 3 = k * 3 by omega, rvRan_same r k x h]

theorem rvRan_one : ∀ (xs : List Ran), ∀ u ∈ rvRan xs, u.oneCell' = true
  | [], u, h => by cases h
  | x :: r, u, h => by
    simp only [rvRan, List.mem_append] at h
    rcases h with h | h
    · have : ∀ v ∈ rcRan x, v.oneCell' = true := by
        intro v hv
        simp only [rcRan, List.mem_cons, List.not_mem_nil, or_false] at hv
        rcases hv with rfl | rfl | rfl <;> rfl
      exact this u h
    · exact rvRan_one r u h

theorem cells_rcRan {lo : Nat} {w : World} {f : Nat → Option Value} {x : Ran} (h : RanC lo w f x) (j : Nat) (v : Value) (hv : (rcRan x)[j]? = some v) : f j = some v := by
  obtain ⟨q0, q1, q2, _⟩ := h
  have hj : j < 3 := lt_of_some hv
  have hc : j = 0 ∨ j = 1 ∨ j = 2 := by omega
  rcases hc with rfl | rfl | rfl <;> (cases hv; assumption)

theorem rcRan_cells {lo : Nat} {w : World} {f : Nat → Option Value} {x : Ran} (h : ∀ j v, (rcRan x)[j]? = some v → f j = some v) (z0 : x.copy.size ≤ maxLen) : RanC lo w f x :=
  ⟨h 0 _ rfl, h 1 _ rfl, h 2 _ rfl, z0⟩

theorem newsRan {lo : Nat} {w : World} {b o : Nat} {xs : List Ran} (h : SliceC RanC 3 lo w (some ⟨b, o, none⟩) xs) (j : Nat) (u : Value) (hu : (rvRan xs)[j]? = some u) : w.cell? ((⟨b, o, none⟩ : Addr).add j) = some u := by
  have hl : j < xs.length * 3 := by have := lt_of_some hu; rwa [rvRan_len] at this
  obtain ⟨x, hx⟩ : ∃ x, xs[j / 3]? = some x := ⟨xs[j / 3]'(by omega), List.getElem?_eq_getElem (by omega)⟩
  obtain ⟨b', o', e, _, _, hc⟩ := h.at hx
  cases e
  rw [show j = j / 3 * 3 + j % 3 by omega, rvRan_at xs (j / 3) x (j % 3) hx (by omega)] at hu
  have := cells_rcRan hc (j % 3) u hu
  rw [Addr.add_mid, show o + j = o + j / 3 * 3 + j % 3 by omega]
  exact this

/-- the texts in a list are no longer than they may be -/
def SzRan (xs : List Ran) (m : Nat) : Prop := ∀ x ∈ xs, x.copy.size ≤ m

theorem rowslRan {base cap : Nat} {a : Option Addr} {w : World} {xs : List Ran} (h : w.ownsRow base 52 3 (.slice a xs.length cap) xs.length (rvRan xs)) (hm : xs.length ≤ 1048576) (hz : SzRan xs 1048576) : SliceC RanC 3 base w a xs := by
  rcases h.2 with ⟨h1, _⟩ | ⟨g', cap', cur, h1, _⟩
  · have : xs.length = 0 := by injection h1
    rw [List.length_eq_zero_iff.1 this]
    exact SliceC.nil
  · have e : a = some ⟨g', 0, none⟩ := by injection h1
    subst e
    refine ⟨by unfold maxLen; omega, .inr ⟨g', 0, rfl, ⟨rowb h, fun _ p => h.frozenAt p⟩, (h.lt g' rfl).2, fun k x hk => ?_⟩⟩
    have hlt := lt_of_some hk
    have hzz := hz x (List.mem_of_getElem? hk)
    refine rcRan_cells (fun j v hv => ?_) (by unfold maxLen; omega)
    have hj : j < 3 := lt_of_some hv
    show w.cell? ⟨g', 0 + k * 3 + j, none⟩ = some v
    have := h.cellAt (k * 3 + j) (by omega)
    rw [Nat.zero_add]
    rw [this, rvRan_at xs k x j hk hj]
    exact hv

set_option maxHeartbeats 1000000 in
set_option maxRecDepth 100000 in
theorem clRan_any (xs : List Ran) (b ob cap lo : Nat) (w : World) (hin : SliceC RanC 3 lo w (some ⟨b, ob, none⟩) xs) (hsm : xs.length ≤ 1048576) :
    Calls Try.prog 63 #[.slice (some ⟨b, ob, none⟩) xs.length cap] w fun e w' => ∃ g c, e = .returned (.slice (some ⟨g, 0, none⟩) xs.length c) ∧ w'.ownsRow w.heap.size 52 3 (.slice (some ⟨g, 0, none⟩) xs.length c) xs.length (rvRan xs) ∧ Below w.heap.size w w' := by
  obtain ⟨i0, hi, hz0, hz1, hz2⟩ := info_parts info_Ran
  have q22 : ∀ (w : World) (a : Option Addr) (n c n' c' : Nat), (binOp .eql 28 (.slice a n c) (.slice none n' c')).run Try.prog w = .ok (.bool a.isNone) w := fun w a n c n' c' => Lib.run_eql_slice_nil w _ _ a n c n' c' Try.underlying28
  have HS : Hid (∀ j u, (rvRan xs)[j]? = some u → w.cell? ((⟨b, ob, none⟩ : Addr).add j) = some u) := newsRan hin
  clear hin
  go_enter Try.func63, Try.ntmps63
  go_wp2_with (at_builtin; refine wpList_append_own _ rfl _ _ 28 rfl w.heap.size 52 i0 _ 3 32 Try.underlying28 hi hz0 hz1 hz2 rfl (by decide) _ _ _ rfl (World.ownsRow_made w #[] 0 (Nat.le_refl _) (Nat.zero_le _) rfl) ⟨b, ob, none⟩ xs.length _ (rvRan xs) rfl (by rw [rvRan_len]) (fun j u hj => Lib.cell?_alloc_some _ (HS.out j u hj)) (rvRan_one xs) (by unfold maxLen; omega) (by omega) (by simp) ?_; intro v' w1 hown hgrow hnil)
  have hv : v' ≠ .slice none 0 0 := fun e => by have := (hnil.1 e).1; cases this
  have hown' : w1.ownsRow w.heap.size 52 3 v' xs.length (rvRan xs) := by simpa using hown
  obtain ⟨g, c, rfl⟩ := rowf hown' hv
  have HO := Hid.intro hown'
  have hB : Below w.heap.size w w1 := ((Below.refl _ w).alloc (Nat.le_refl _) _).grown hgrow (by simp) (by intro k hk; cases hk; exact Nat.le_refl _)
  clear hown hgrow hnil hv hown'
  go_wp2_with fail
  go_ret
  exact ⟨g, c, rfl, HO.out, hB⟩

set_option maxHeartbeats 1000000 in
theorem clnRan_any (cap : Nat) (w : World) :
    Calls Try.prog 63 #[.slice none 0 cap] w fun e w' => e = .returned (.slice none 0 0) ∧ Below w.heap.size w w' := by
  have q22 : ∀ (w : World) (a : Option Addr) (n c n' c' : Nat), (binOp .eql 28 (.slice a n c) (.slice none n' c')).run Try.prog w = .ok (.bool a.isNone) w := fun w a n c n' c' => Lib.run_eql_slice_nil w _ _ a n c n' c' Try.underlying28
  go_enter Try.func63, Try.ntmps63
  go_wp2_with fail
  go_ret
  exact ⟨rfl, Below.refl _ _⟩

set_option maxHeartbeats 1000000 in
set_option maxRecDepth 100000 in
theorem eanRan_any (f : Value) (cap : Nat) (w : World) :
    Calls Try.prog 47 #[.slice none 0 cap, f] w fun e w' => e = .returned (.slice none 0 0) ∧ Below w.heap.size w w' := by
  go_enter Try.func47, Try.ntmps47
  go_wp2_with fail
  refine (clnRan_any cap _).mono ?_
  rintro e w1 ⟨rfl, hb⟩
  have HB := Hid.intro hb
  clear hb
  go_wp2_with fail
  go_loopw [11] (fun i wr => i = .int .i64 0 ∧ Below w.heap.size w wr) (fun i _ => 0)
  case atStart => exact ⟨rfl, HB.out⟩
  case round =>
    obtain ⟨rfl, hB⟩ := hrel
    go_wp2_with fail
    go_ret
    exact ⟨rfl, hB⟩

set_option maxHeartbeats 4000000 in
set_option maxRecDepth 100000 in
theorem eaRan_any (xs : List Ran) (b ob cap lo : Nat) (w : World) (hin : SliceC RanC 3 lo w (some ⟨b, ob, none⟩) xs) (hsm : xs.length ≤ 1048576) (hz : SzRan xs 1048576) :
    Calls Try.prog 47 #[.slice (some ⟨b, ob, none⟩) xs.length cap, .func (.func 48) #[] #[]] w fun e w' => ∃ g q, e = .returned (.slice (some ⟨g, 0, none⟩) xs.length q) ∧ w'.ownsRow w.heap.size 52 3 (.slice (some ⟨g, 0, none⟩) xs.length q) xs.length (rvRan xs) ∧ Below w.heap.size w w' := by
  have HI := Hid.intro hin
  have HZ := Hid.intro hz
  clear hin hz
  go_enter Try.func47, Try.ntmps47
  go_wp2_with fail
  refine (clRan_any xs b ob cap lo _ HI.out hsm).mono ?_
  rintro e w1 ⟨g, q, rfl, hO1, hB1⟩
  have HO1 := Hid.intro hO1
  clear hO1
  go_wp2_with fail
  go_loopw [11] (fun i wr => ∃ k : Nat, k ≤ xs.length ∧ i = .int .i64 k ∧ Hid (wr.ownsRow w.heap.size 52 3 (.slice (some ⟨g, 0, none⟩) xs.length q) xs.length (rvRan xs)) ∧ Below w.heap.size w wr) (fun i _ => xs.length - (intOf i).toNat)
  case atStart => exact ⟨0, Nat.zero_le _, rfl, HO1, hB1⟩
  case round =>
    clear HO1 hB1
    obtain ⟨k, hk, rfl, HO, hB⟩ := hrel
    by_cases hlt : k < xs.length
    · obtain ⟨x, hx⟩ : ∃ x, xs[k]? = some x := ⟨xs[k], List.getElem?_eq_getElem hlt⟩
      have HXX := Hid.intro hx
      have Z := Hid.intro (HZ.out x (List.mem_of_getElem? hx))
      have hgl : g < wr.heap.size := (HO.out.lt g rfl).2
      have hgb : w.heap.size ≤ g := rowb HO.out
      have HRA : Hid (wr.rangeAt g (k * 3) [.string x.copy, .int .i64 x.version, .int .i64 x.state]) := fun j v hv => by
        have hj : j < 3 := lt_of_some hv
        have h1 := HO.out.cellAt (k * 3 + j) (by omega)
        rw [rvRan_at _ k x j hx hj] at h1
        exact h1.trans hv
      clear hx
      have hza : Blk wr.heap.size #[.string ⟨#[]⟩, .int .i64 0, .int .i64 0] 52 (wr.alloc (Obj.cells #[.string ⟨#[]⟩, .int .i64 0, .int .i64 0] 52)) := Blk.alloc _ _ _
      have HTS : Hid ((wr.alloc (Obj.cells #[.string ⟨#[]⟩, .int .i64 0, .int .i64 0] 52)).there wr.heap.size 0 3) := hza.there
      obtain ⟨w4, HW4⟩ : ∃ w4, Hid (w4 = (wr.alloc (Obj.cells #[.string ⟨#[]⟩, .int .i64 0, .int .i64 0] 52)).setCells wr.heap.size 0 [.string x.copy, .int .i64 x.version, .int .i64 x.state]) := ⟨_, rfl⟩
      have HK4 : Hid (Blk wr.heap.size #[.string x.copy, .int .i64 x.version, .int .i64 x.state] 52 w4) := by
        show Blk _ _ _ _
        rw [HW4.out]
        exact hza.setAll #[.string x.copy, .int .i64 x.version, .int .i64 x.state] rfl
      have hbx : Below wr.heap.size wr w4 := by
        rw [HW4.out]
        exact below_setCells (Nat.le_refl _) _ _ _ ((Below.refl _ wr).alloc (Nat.le_refl _) _)
      have hB4 : Below w.heap.size w w4 := hB.trans (hbx.mono hB.size)
      have HO4 := Hid.intro (ownsRow_below HO.out hbx)
      clear hza hbx HO hB
      go_upto_region 5 with (first | (refine wpList_load_mid rfl 52 _ rfl g (k * 3) (by first | rfl | (simp [go_sem]; done)) [.string x.copy, .int .i64 x.version, .int .i64 x.state] _ HRA.out Try.underlying52 rfl isz_Ran ?_) | (refine wpList_store_to rfl 52 _ _ rfl wr.heap.size 0 #[.string x.copy, .int .i64 x.version, .int .i64 x.state] rfl rfl HTS.out isz_Ran (by simp [Value.oneCell']) w4 HW4.out ?_))
      clear HRA HTS HW4
      go_wp2_with (first | (refine wpList_load_mid rfl 52 _ rfl wr.heap.size 0 (by first | rfl | (simp [go_sem]; done)) [.string x.copy, .int .i64 x.version, .int .i64 x.state] _ HK4.out.rangeA Try.underlying52 rfl isz_Ran ?_))
      refine (nwRan_any x _ Z.out).mono ?_
      rintro e w5 ⟨rfl, hb5⟩
      have HO5 := Hid.intro (ownsRow_below HO4.out hb5)
      have hB5 := hB4.trans (hb5.mono hB4.size)
      clear hb5 hB4 HO4 HK4
      have HT5 : Hid (w5.there g (k * 3) 3) := ownsRow_there HO5.out (by rw [rvRan_len]; omega)
      obtain ⟨w6, HW6⟩ : ∃ w6, Hid (w6 = w5.setCells g (k * 3) (rcRan x)) := ⟨_, rfl⟩
      have HO6 : Hid (w6.ownsRow w.heap.size 52 3 (.slice (some ⟨g, 0, none⟩) xs.length q) xs.length (rvRan xs)) := by
        have h := ownsRow_run (rcRan x) _ (k * 3) _ HO5.out
        rw [rvRan_same xs k x HXX.out, ← HW6.out] at h
        exact h
      have hB6 : Below w.heap.size w w6 := by
        rw [HW6.out]
        exact below_setCells hgb _ _ _ hB5
      unfold rcRan at HW6
      clear hB5 HO5
      have i0 : (0 : Int) ≤ (k : Int) := by omega
      have i1 : (k : Int) < (xs.length : Int) := by omega
      go_wp2_with (first | (refine wpList_store_to rfl 52 _ _ rfl g (k * 3) #[.string x.copy, .int .i64 x.version, .int .i64 x.state] (by first | rfl | (simp [go_sem]; done)) rfl HT5.out isz_Ran (by simp [Value.oneCell']) w6 HW6.out ?_))
      go_roundw
      case rel => exact ⟨k + 1, by omega, by go_num, HO6, hB6⟩
      case measure => simp [intOf]; omega
    · have hke : k = xs.length := by omega
      subst hke
      go_wp2_with fail
      go_ret
      exact ⟨g, q, rfl, HO.out, hB⟩

end Go.Proofs.Ytlegklkbmifdeaa
