/-
  Runs watched, by the program. Made by mkmw2.py.
-/
import Derived.Test.YtlhcadpelcegaaaMw1
import Derived.Test.YtlhcadpelcegaaaMt5
import Derived.Lib.Walk
import Derived.Lib.SliceRun
namespace Go.Proofs.Ytlhcadpelcegaaa
open Go.RowKit

/-- the cells of a run, of runs -/
def rnC (x : Rn) : List Value := [.string x.want.copy, .int .i64 x.want.version, .string x.want.hold, .int .i64 x.want.pull, .int .i64 x.want.start, .int .i64 x.want.dies, .int .i64 x.want.grace, .int .i64 x.state, .int .i64 x.left, .int .i64 x.falls, .int .i64 x.until_]
def rnV : List Rn → List Value
  | [] => []
  | x :: r => rnC x ++ rnV r

theorem rnC_len (x : Rn) : (rnC x).length = 11 := rfl
theorem rnV_len : ∀ xs : List Rn, (rnV xs).length = xs.length * 11
  | [] => rfl
  | x :: r => by
    have := rnV_len r
    simp only [rnV, List.length_append, List.length_cons, rnC_len]
    omega

theorem rnV_at : ∀ (xs : List Rn) (k : Nat) (x : Rn) (j : Nat), xs[k]? = some x → j < 11 → (rnV xs)[k * 11 + j]? = (rnC x)[j]?
  | [], _, _, _, h, _ => by simp at h
  | y :: r, 0, x, j, h, hj => by
    simp at h
    subst h
    simp only [rnV]
    rw [List.getElem?_append_left (by rw [rnC_len]; omega)]
    simp
  | y :: r, k + 1, x, j, h, hj => by
    simp at h
    simp only [rnV]
    rw [List.getElem?_append_right (by rw [rnC_len]; omega), rnC_len, show (k + 1) * 11 + j - 11 = k * 11 + j by omega]
    exact rnV_at r k x j h hj

theorem setRun_append : ∀ (vs a b : List Value) (o : Nat), a.length ≤ o → setRun (a ++ b) o vs = a ++ setRun b (o - a.length) vs
  | [], _, _, _, _ => rfl
  | v :: vs, a, b, o, h => by
    simp only [setRun]
    rw [List.set_append_right _ _ h, setRun_append vs a _ (o + 1) (by omega), show o + 1 - a.length = o - a.length + 1 by omega]

theorem setRun_front (y : Rn) (x : Rn) (b : List Value) : setRun (rnC x ++ b) 0 (rnC y) = rnC y ++ b := rfl

theorem rnV_set : ∀ (xs : List Rn) (k : Nat) (x y : Rn), xs[k]? = some x → setRun (rnV xs) (k * 11) (rnC y) = rnV (xs.set k y)
  | [], _, _, _, h => by simp at h
  | z :: r, 0, x, y, h => setRun_front y z (rnV r)
  | z :: r, k + 1, x, y, h => by
    simp at h
    simp only [rnV, List.set_cons_succ]
    rw [setRun_append _ _ _ _ (by rw [rnC_len]; omega), rnC_len, show (k + 1) * 11 - 11 = k * 11 by omega, rnV_set r k x y h]

theorem rnV_one : ∀ (xs : List Rn), ∀ u ∈ rnV xs, u.oneCell' = true
  | [], u, h => by cases h
  | x :: r, u, h => by
    simp only [rnV, List.mem_append] at h
    rcases h with h | h
    · have : ∀ v ∈ rnC x, v.oneCell' = true := by
        intro v hv
        simp only [rnC, List.mem_cons, List.not_mem_nil, or_false] at hv
        rcases hv with rfl | rfl | rfl | rfl | rfl | rfl | rfl | rfl | rfl | rfl | rfl <;> rfl
      exact this u h
    · exact rnV_one r u h

theorem rnV_append : ∀ (xs ys : List Rn), rnV (xs ++ ys) = rnV xs ++ rnV ys
  | [], _ => rfl
  | x :: r, ys => by simp only [List.cons_append, rnV, rnV_append r ys, List.append_assoc]

theorem cells_rnC {lo : Nat} {w : World} {f : Nat → Option Value} {x : Rn} (h : RnC lo w f x) (j : Nat) (v : Value) (hv : (rnC x)[j]? = some v) : f j = some v := by
  obtain ⟨q0, q1, q2, q3, q4, q5, q6, q7, q8, q9, q10, _, _⟩ := h
  have hj : j < 11 := lt_of_some hv
  have hc : j = 0 ∨ j = 1 ∨ j = 2 ∨ j = 3 ∨ j = 4 ∨ j = 5 ∨ j = 6 ∨ j = 7 ∨ j = 8 ∨ j = 9 ∨ j = 10 := by omega
  rcases hc with rfl | rfl | rfl | rfl | rfl | rfl | rfl | rfl | rfl | rfl | rfl <;> (cases hv; assumption)

theorem rnC_cells {lo : Nat} {w : World} {f : Nat → Option Value} {x : Rn} (h : ∀ j v, (rnC x)[j]? = some v → f j = some v) (z0 : x.want.copy.size ≤ maxLen) (z2 : x.want.hold.size ≤ maxLen) : RnC lo w f x :=
  ⟨h 0 _ rfl, h 1 _ rfl, h 2 _ rfl, h 3 _ rfl, h 4 _ rfl, h 5 _ rfl, h 6 _ rfl, h 7 _ rfl, h 8 _ rfl, h 9 _ rfl, h 10 _ rfl, z0, z2⟩

theorem slice_news {lo : Nat} {w : World} {b o : Nat} {xs : List Rn} (h : SliceC RnC 11 lo w (some ⟨b, o, none⟩) xs) (j : Nat) (u : Value) (hu : (rnV xs)[j]? = some u) : w.cell? ((⟨b, o, none⟩ : Addr).add j) = some u := by
  have hl : j < xs.length * 11 := by have := lt_of_some hu; rwa [rnV_len] at this
  obtain ⟨x, hx⟩ : ∃ x, xs[j / 11]? = some x := ⟨xs[j / 11]'(by omega), List.getElem?_eq_getElem (by omega)⟩
  obtain ⟨b', o', e, _, _, hc⟩ := h.at hx
  cases e
  rw [show j = j / 11 * 11 + j % 11 by omega, rnV_at xs (j / 11) x (j % 11) hx (by omega)] at hu
  have := cells_rnC hc (j % 11) u hu
  rw [Addr.add_mid, show o + j = o + j / 11 * 11 + j % 11 by omega]
  exact this

theorem row_sl {base g cap : Nat} {w : World} {xs : List Rn} (h : w.ownsRow base 37 11 (.slice (some ⟨g, 0, none⟩) xs.length cap) xs.length (rnV xs)) (hm : xs.length ≤ maxLen) (hb : base ≤ g) (hz : ∀ x ∈ xs, x.want.copy.size ≤ maxLen ∧ x.want.hold.size ≤ maxLen) : SliceC RnC 11 base w (some ⟨g, 0, none⟩) xs := by
  refine ⟨hm, .inr ⟨g, 0, rfl, ⟨hb, fun _ p => h.frozenAt p⟩, (h.lt g rfl).2, fun k x hk => ?_⟩⟩
  have hlt := lt_of_some hk
  refine rnC_cells (fun j v hv => ?_) (hz x (List.mem_of_getElem? hk)).1 (hz x (List.mem_of_getElem? hk)).2
  have hj : j < 11 := lt_of_some hv
  show w.cell? ⟨g, 0 + k * 11 + j, none⟩ = some v
  have := h.cellAt (k * 11 + j) (by omega)
  rw [Nat.zero_add]
  rw [this, rnV_at xs k x j hk hj]
  exact hv

theorem row_base {base g cap n : Nat} {w : World} {e : TypeId} {s : Nat} {cs : List Value} (h : w.ownsRow base e s (.slice (some ⟨g, 0, none⟩) n cap) n cs) : base ≤ g := by
  rcases h.2 with ⟨h1, _⟩ | ⟨g', cap', cur, h1, h2, _⟩
  · cases h1
  · cases h1; exact h2

theorem row_form {base n : Nat} {w : World} {e : TypeId} {s : Nat} {cs : List Value} {v : Value} (h : w.ownsRow base e s v n cs) (hn : v ≠ .slice none 0 0) : ∃ g cap, v = .slice (some ⟨g, 0, none⟩) n cap := by
  rcases h.2 with ⟨h1, _⟩ | ⟨g', cap', cur, h1, _⟩
  · exact absurd h1 hn
  · exact ⟨g', cap', h1⟩

set_option maxHeartbeats 1000000 in
set_option maxRecDepth 100000 in
theorem rclone_any (xs : List Rn) (b ob cap lo : Nat) (w : World) (hin : SliceC RnC 11 lo w (some ⟨b, ob, none⟩) xs) (hsm : xs.length ≤ 1048576) :
    Calls Try.prog 64 #[.slice (some ⟨b, ob, none⟩) xs.length cap] w fun e w' => ∃ g c, e = .returned (.slice (some ⟨g, 0, none⟩) xs.length c) ∧ w'.ownsRow w.heap.size 37 11 (.slice (some ⟨g, 0, none⟩) xs.length c) xs.length (rnV xs) ∧ Below w.heap.size w w' := by
  obtain ⟨i0, hi, hz0, hz1, hz2⟩ := info_parts info_Rn
  have q22 : ∀ (w : World) (a : Option Addr) (n c n' c' : Nat), (binOp .eql 43 (.slice a n c) (.slice none n' c')).run Try.prog w = .ok (.bool a.isNone) w := fun w a n c n' c' => Lib.run_eql_slice_nil w _ _ a n c n' c' Try.underlying43
  have HS : Hid (∀ j u, (rnV xs)[j]? = some u → w.cell? ((⟨b, ob, none⟩ : Addr).add j) = some u) := slice_news hin
  clear hin
  go_enter Try.func64, Try.ntmps64
  go_wp2_with (at_builtin; refine wpList_append_own _ rfl _ _ 43 rfl w.heap.size 37 i0 _ 11 104 Try.underlying43 hi hz0 hz1 hz2 rfl (by decide) _ _ _ rfl (World.ownsRow_made w #[] 0 (Nat.le_refl _) (Nat.zero_le _) rfl) ⟨b, ob, none⟩ xs.length _ (rnV xs) rfl (by rw [rnV_len]) (fun j u hj => Lib.cell?_alloc_some _ (HS.out j u hj)) (rnV_one xs) (by unfold maxLen; omega) (by omega) (by simp) ?_; intro v' w1 hown hgrow hnil)
  have hv : v' ≠ .slice none 0 0 := fun e => by have := (hnil.1 e).1; cases this
  have hown' : w1.ownsRow w.heap.size 37 11 v' xs.length (rnV xs) := by simpa using hown
  obtain ⟨g, c, rfl⟩ := row_form hown' hv
  have HO := Hid.intro hown'
  have hB : Below w.heap.size w w1 := ((Below.refl _ w).alloc (Nat.le_refl _) _).grown hgrow (by simp) (by intro k hk; cases hk; exact Nat.le_refl _)
  clear hown hgrow hnil hv hown'
  go_wp2_with fail
  go_ret
  exact ⟨g, c, rfl, HO.out, hB⟩

/-- the first k watched -/
def mixL (c : Int) (xs : List Rn) (k : Nat) : List Rn := (xs.take k).map (wdR · c) ++ xs.drop k

theorem mixL_len (c : Int) (xs : List Rn) (k : Nat) : (mixL c xs k).length = xs.length := by simp [mixL]; omega
theorem mixL_at {c : Int} {xs : List Rn} {k : Nat} {x : Rn} (h : xs[k]? = some x) : (mixL c xs k)[k]? = some x := by
  have hl := lt_of_some h
  unfold mixL
  rw [List.getElem?_append_right (by simp; omega)]
  simp only [List.length_map, List.length_take, List.getElem?_drop]
  rw [show k + (k - min k xs.length) = k by omega]
  exact h
theorem mixL_step {c : Int} {xs : List Rn} {k : Nat} {x : Rn} (h : xs[k]? = some x) : (mixL c xs k).set k (wdR x c) = mixL c xs (k + 1) := by
  have hl := lt_of_some h
  unfold mixL
  rw [List.set_append_right _ _ (by simp; omega)]
  simp only [List.length_map, List.length_take]
  rw [show k - min k xs.length = 0 by omega, List.drop_eq_getElem_cons hl, List.set_cons_zero, List.take_add_one, h]
  have e : xs[k] = x := by rw [List.getElem?_eq_getElem hl] at h; exact Option.some.inj h
  simp
theorem mixL_end (c : Int) (xs : List Rn) : mixL c xs xs.length = xs.map (wdR · c) := by simp [mixL]

set_option maxHeartbeats 4000000 in
set_option maxRecDepth 100000 in
theorem each_any (xs : List Rn) (b ob cap lo : Nat) (c : Int) (p : Nat) (w : World) (hin : SliceC RnC 11 lo w (some ⟨b, ob, none⟩) xs) (hsm : xs.length ≤ 1048576) (hz : ∀ x ∈ xs, x.want.copy.size ≤ 1048576 ∧ x.want.hold.size ≤ 1048576) (hP : w.cell? ⟨p, 0, none⟩ = some (.int .i64 c)) (hp : p < w.heap.size) :
    Calls Try.prog 42 #[.slice (some ⟨b, ob, none⟩) xs.length cap, .func (.func 43) #[] #[.pointer (some ⟨p, 0, none⟩)]] w fun e w' => ∃ g q, e = .returned (.slice (some ⟨g, 0, none⟩) xs.length q) ∧ w'.ownsRow w.heap.size 37 11 (.slice (some ⟨g, 0, none⟩) xs.length q) xs.length (rnV (xs.map (wdR · c))) ∧ Below w.heap.size w w' := by
  have HI := Hid.intro hin
  have HZ := Hid.intro hz
  have HP := Hid.intro hP
  clear hin hz hP
  go_enter Try.func42, Try.ntmps42
  go_wp2_with fail
  refine (rclone_any xs b ob cap lo _ HI.out hsm).mono ?_
  rintro e w1 ⟨g, q, rfl, hO1, hB1⟩
  have HO1 := Hid.intro hO1
  clear hO1
  go_wp2_with fail
  go_loopw [11] (fun i wr => ∃ k : Nat, k ≤ xs.length ∧ i = .int .i64 k ∧ Hid (wr.ownsRow w.heap.size 37 11 (.slice (some ⟨g, 0, none⟩) xs.length q) xs.length (rnV (mixL c xs k))) ∧ Below w.heap.size w wr) (fun i _ => xs.length - (intOf i).toNat)
  case atStart => exact ⟨0, Nat.zero_le _, rfl, by show World.ownsRow _ _ _ _ _ _ _; rw [show mixL c xs 0 = xs by simp [mixL]]; exact HO1.out, hB1⟩
  case round =>
    clear HO1 hB1
    obtain ⟨k, hk, rfl, HO, hB⟩ := hrel
    by_cases hlt : k < xs.length
    · obtain ⟨x, hx⟩ : ∃ x, xs[k]? = some x := ⟨xs[k], List.getElem?_eq_getElem hlt⟩
      have HXX := Hid.intro hx
      have Z := Hid.intro (HZ.out x (List.mem_of_getElem? hx))
      have hgl : g < wr.heap.size := (HO.out.lt g rfl).2
      have hgb : w.heap.size ≤ g := row_base HO.out
      have HRA : Hid (wr.rangeAt g (k * 11) [.string x.want.copy, .int .i64 x.want.version, .string x.want.hold, .int .i64 x.want.pull, .int .i64 x.want.start, .int .i64 x.want.dies, .int .i64 x.want.grace, .int .i64 x.state, .int .i64 x.left, .int .i64 x.falls, .int .i64 x.until_]) := fun j v hv => by
        have hj : j < 11 := lt_of_some hv
        have h1 := HO.out.cellAt (k * 11 + j) (by omega)
        rw [rnV_at _ k x j (mixL_at hx) hj] at h1
        exact h1.trans hv
      clear hx
      have hza : Blk wr.heap.size #[.string ⟨#[]⟩, .int .i64 0, .string ⟨#[]⟩, .int .i64 0, .int .i64 0, .int .i64 0, .int .i64 0, .int .i64 0, .int .i64 0, .int .i64 0, .int .i64 0] 37 (wr.alloc (Obj.cells #[.string ⟨#[]⟩, .int .i64 0, .string ⟨#[]⟩, .int .i64 0, .int .i64 0, .int .i64 0, .int .i64 0, .int .i64 0, .int .i64 0, .int .i64 0, .int .i64 0] 37)) := Blk.alloc _ _ _
      have HTS : Hid ((wr.alloc (Obj.cells #[.string ⟨#[]⟩, .int .i64 0, .string ⟨#[]⟩, .int .i64 0, .int .i64 0, .int .i64 0, .int .i64 0, .int .i64 0, .int .i64 0, .int .i64 0, .int .i64 0] 37)).there wr.heap.size 0 11) := hza.there
      obtain ⟨w4, HW4⟩ : ∃ w4, Hid (w4 = (wr.alloc (Obj.cells #[.string ⟨#[]⟩, .int .i64 0, .string ⟨#[]⟩, .int .i64 0, .int .i64 0, .int .i64 0, .int .i64 0, .int .i64 0, .int .i64 0, .int .i64 0, .int .i64 0] 37)).setCells wr.heap.size 0 [.string x.want.copy, .int .i64 x.want.version, .string x.want.hold, .int .i64 x.want.pull, .int .i64 x.want.start, .int .i64 x.want.dies, .int .i64 x.want.grace, .int .i64 x.state, .int .i64 x.left, .int .i64 x.falls, .int .i64 x.until_]) := ⟨_, rfl⟩
      have HK4 : Hid (Blk wr.heap.size #[.string x.want.copy, .int .i64 x.want.version, .string x.want.hold, .int .i64 x.want.pull, .int .i64 x.want.start, .int .i64 x.want.dies, .int .i64 x.want.grace, .int .i64 x.state, .int .i64 x.left, .int .i64 x.falls, .int .i64 x.until_] 37 w4) := by
        show Blk _ _ _ _
        rw [HW4.out]
        exact hza.setAll #[.string x.want.copy, .int .i64 x.want.version, .string x.want.hold, .int .i64 x.want.pull, .int .i64 x.want.start, .int .i64 x.want.dies, .int .i64 x.want.grace, .int .i64 x.state, .int .i64 x.left, .int .i64 x.falls, .int .i64 x.until_] rfl
      have hbx : Below wr.heap.size wr w4 := by
        rw [HW4.out]
        exact below_setCells (Nat.le_refl _) _ _ _ ((Below.refl _ wr).alloc (Nat.le_refl _) _)
      have hB4 : Below w.heap.size w w4 := hB.trans (hbx.mono hB.size)
      have HO4 := Hid.intro (ownsRow_below HO.out hbx)
      clear hza hbx HO hB
      go_upto_region 5 with (first | (refine wpList_load_mid rfl 37 _ rfl g (k * 11) (by first | rfl | (simp [go_sem]; done)) [.string x.want.copy, .int .i64 x.want.version, .string x.want.hold, .int .i64 x.want.pull, .int .i64 x.want.start, .int .i64 x.want.dies, .int .i64 x.want.grace, .int .i64 x.state, .int .i64 x.left, .int .i64 x.falls, .int .i64 x.until_] _ HRA.out Try.underlying37 rfl isz_Rn ?_) | (refine wpList_store_to rfl 37 _ _ rfl wr.heap.size 0 #[.string x.want.copy, .int .i64 x.want.version, .string x.want.hold, .int .i64 x.want.pull, .int .i64 x.want.start, .int .i64 x.want.dies, .int .i64 x.want.grace, .int .i64 x.state, .int .i64 x.left, .int .i64 x.falls, .int .i64 x.until_] rfl rfl HTS.out isz_Rn (by simp [Value.oneCell']) w4 HW4.out ?_))
      clear HRA HTS HW4
      go_wp2_with (first | (refine wpList_load_mid rfl 37 _ rfl wr.heap.size 0 (by first | rfl | (simp [go_sem]; done)) [.string x.want.copy, .int .i64 x.want.version, .string x.want.hold, .int .i64 x.want.pull, .int .i64 x.want.start, .int .i64 x.want.dies, .int .i64 x.want.grace, .int .i64 x.state, .int .i64 x.left, .int .i64 x.falls, .int .i64 x.until_] _ HK4.out.rangeA Try.underlying37 rfl isz_Rn ?_))
      refine (watch1_any x c p _ ((hB4.cell (p := ⟨p, 0, none⟩) hp).trans HP.out) (Nat.lt_of_lt_of_le hp hB4.size) Z.out.1 Z.out.2).mono ?_
      rintro e w5 ⟨rfl, hb5⟩
      have HO5 := Hid.intro (ownsRow_below HO4.out hb5)
      have hB5 := hB4.trans (hb5.mono hB4.size)
      clear hb5 hB4 HO4 HK4
      have HT5 : Hid (w5.there g (k * 11) 11) := ownsRow_there HO5.out (by rw [rnV_len, mixL_len]; omega)
      obtain ⟨w6, HW6⟩ : ∃ w6, Hid (w6 = w5.setCells g (k * 11) (rnC (wdR x c))) := ⟨_, rfl⟩
      have HO6 : Hid (w6.ownsRow w.heap.size 37 11 (.slice (some ⟨g, 0, none⟩) xs.length q) xs.length (rnV (mixL c xs (k + 1)))) := by
        show World.ownsRow _ _ _ _ _ _ _
        rw [HW6.out, ← mixL_step HXX.out, ← rnV_set _ k x _ (mixL_at HXX.out)]
        exact ownsRow_run _ _ _ _ HO5.out
      have hB6 : Below w.heap.size w w6 := by
        rw [HW6.out]
        exact below_setCells hgb _ _ _ hB5
      unfold rnC at HW6
      clear hB5 HO5
      generalize wdR x c = G at *
      have i0 : (0 : Int) ≤ (k : Int) := by omega
      have i1 : (k : Int) < (xs.length : Int) := by omega
      go_wp2_with (first | (refine wpList_store_to rfl 37 _ _ rfl g (k * 11) #[.string G.want.copy, .int .i64 G.want.version, .string G.want.hold, .int .i64 G.want.pull, .int .i64 G.want.start, .int .i64 G.want.dies, .int .i64 G.want.grace, .int .i64 G.state, .int .i64 G.left, .int .i64 G.falls, .int .i64 G.until_] (by first | rfl | (simp [go_sem]; done)) rfl HT5.out isz_Rn (by simp [Value.oneCell']) w6 HW6.out ?_))
      go_roundw
      case rel => exact ⟨k + 1, by omega, by go_num, HO6, hB6⟩
      case measure => simp [intOf]; omega
    · have hke : k = xs.length := by omega
      subst hke
      rw [mixL_end] at HO
      go_wp2_with fail
      go_ret
      exact ⟨g, q, rfl, HO.out, hB⟩

set_option maxHeartbeats 1000000 in
set_option maxRecDepth 100000 in
theorem implWatch_any (xs : List Rn) (b ob cap lo : Nat) (c : Int) (w : World) (hin : SliceC RnC 11 lo w (some ⟨b, ob, none⟩) xs) (hsm : xs.length ≤ 1048576) (hz : ∀ x ∈ xs, x.want.copy.size ≤ 1048576 ∧ x.want.hold.size ≤ 1048576) :
    Calls Try.prog 23 #[.slice (some ⟨b, ob, none⟩) xs.length cap, .int .i64 c] w fun e w' => ∃ g q, e = .returned (.slice (some ⟨g, 0, none⟩) xs.length q) ∧ SliceC RnC 11 (w.heap.size + 1) w' (some ⟨g, 0, none⟩) (xs.map (wdR · c)) ∧ w.heap.size + 1 ≤ w'.heap.size ∧ Below w.heap.size w w' := by
  have hP : (w.alloc (Obj.cells #[.int .i64 c] 3)).cell? ⟨w.heap.size, 0, none⟩ = some (.int .i64 c) := (Blk.alloc w #[.int .i64 c] 3).cell rfl
  have hb0 : Below w.heap.size w (w.alloc (Obj.cells #[.int .i64 c] 3)) := (Below.refl _ w).alloc (Nat.le_refl _) _
  have hs : w.heap.size < (w.alloc (Obj.cells #[.int .i64 c] 3)).heap.size := by simp
  have hs1 : (w.alloc (Obj.cells #[.int .i64 c] 3)).heap.size = w.heap.size + 1 := by simp
  have HI := Hid.intro (hin.below RnC.holds hb0 (Nat.le_refl _))
  have HP := Hid.intro hP
  have HZ := Hid.intro hz
  clear hin hz hP
  go_enter Try.func23, Try.ntmps23
  go_wp2_with fail
  generalize w.alloc (Obj.cells #[.int .i64 c] 3) = w0 at *
  refine (each_any xs b ob cap lo c w.heap.size w0 HI.out hsm HZ.out HP.out hs).mono ?_
  rintro e w1 ⟨g, q, rfl, hO1, hb1⟩
  have HS : Hid (SliceC RnC 11 (w.heap.size + 1) w1 (some ⟨g, 0, none⟩) (xs.map (wdR · c))) := by
    rw [hs1] at hO1
    have hl : (xs.map (wdR · c)).length = xs.length := by simp
    rw [← hl] at hO1
    refine row_sl hO1 (by rw [hl]; unfold maxLen; omega) (row_base hO1) (fun x hx => ?_)
    obtain ⟨y, hy, rfl⟩ := List.mem_map.1 hx
    have := HZ.out y hy
    rw [wdR_want]
    unfold maxLen
    omega
  have hsz : w.heap.size + 1 ≤ w1.heap.size := by have := hb1.size; omega
  have hB1 := hb0.trans (hb1.mono hb0.size)
  clear hO1 hb1 hb0
  go_wp2_with fail
  go_ret
  exact ⟨g, q, rfl, HS.out, hsz, hB1⟩

end Go.Proofs.Ytlhcadpelcegaaa
