/-
  A stewards' book that is valid, by the program. Made by mksvi.py.
-/
import Derived.Test.YtnkggfnblcadoaaSi6
namespace Go.Proofs.Ytnkggfnblcadoaa
open Go.RowKit Go.WideMaps Go.Maps

/-- no list is too long -/
def fwB (x : Sbk) : Bool := decide (x.services.length ≤ 8) && decide (x.copies.length ≤ 200) && decide (x.berths.length ≤ 6)

set_option maxHeartbeats 2000000 in
set_option maxRecDepth 100000 in
theorem sfew_any (x : Sbk) (a1 : Option Addr) (c1 : Nat) (a2 : Option Addr) (c2 : Nat) (a3 : Option Addr) (c3 : Nat) (w : World) :
    Calls Try.prog 56 #[.agg #[.int .i64 x.now, .slice a1 x.services.length c1, .slice a2 x.copies.length c2, .slice a3 x.berths.length c3]] w fun e w' => e = .returned (.bool (fwB x)) ∧ Below w.heap.size w w' := by
  have hB1 : Below w.heap.size w (w.alloc (Obj.cells #[.int .i64 x.now, .slice a1 x.services.length c1, .slice a2 x.copies.length c2, .slice a3 x.berths.length c3] 37)) := by go_grown
  have HK : Hid (Blk w.heap.size #[.int .i64 x.now, .slice a1 x.services.length c1, .slice a2 x.copies.length c2, .slice a3 x.berths.length c3] 37 (w.alloc (Obj.cells #[.int .i64 x.now, .slice a1 x.services.length c1, .slice a2 x.copies.length c2, .slice a3 x.berths.length c3] 37))) := Blk.alloc _ _ _
  go_enter Try.func56, Try.ntmps56
  go_upto_region 1 with fail
  generalize w.alloc (Obj.cells #[.int .i64 x.now, .slice a1 x.services.length c1, .slice a2 x.copies.length c2, .slice a3 x.berths.length c3] 37) = w1 at *
  have k0 : w1.cell? ⟨w.heap.size, 0, none⟩ = some (.int .i64 x.now) := HK.out.cell rfl
  have k1 : w1.cell? ⟨w.heap.size, 1, none⟩ = some (.slice a1 x.services.length c1) := HK.out.cell rfl
  have k2 : w1.cell? ⟨w.heap.size, 2, none⟩ = some (.slice a2 x.copies.length c2) := HK.out.cell rfl
  have k3 : w1.cell? ⟨w.heap.size, 3, none⟩ = some (.slice a3 x.berths.length c3) := HK.out.cell rfl
  clear HK
  by_cases h1 : x.services.length ≤ 8
  case neg =>
    have hi : (8 : Int) < (x.services.length : Int) := by omega
    have HE : Hid (fwB x = false) := by show _ = _; unfold fwB; rw [decide_eq_false h1]; rfl
    have hd : decide ((x.services.length : Int) ≤ 8) = false := by simp; omega
    go_wp2_with fail
    go_ret
    exact ⟨ret_bool HE.out.symm, hB1⟩
  have g1 : (x.services.length : Int) ≤ 8 := by omega
  by_cases h2 : x.copies.length ≤ 200
  case neg =>
    have hi : (200 : Int) < (x.copies.length : Int) := by omega
    have HE : Hid (fwB x = false) := by show _ = _; unfold fwB; rw [decide_eq_false h2]; simp
    have hd : decide ((x.copies.length : Int) ≤ 200) = false := by simp; omega
    go_wp2_with fail
    go_ret
    exact ⟨ret_bool HE.out.symm, hB1⟩
  have g2 : (x.copies.length : Int) ≤ 200 := by omega
  by_cases h3 : x.berths.length ≤ 6
  case neg =>
    have hi : (6 : Int) < (x.berths.length : Int) := by omega
    have HE : Hid (fwB x = false) := by show _ = _; unfold fwB; rw [decide_eq_false h3]; simp
    have hd : decide ((x.berths.length : Int) ≤ 6) = false := by simp; omega
    go_wp2_with fail
    go_ret
    exact ⟨ret_bool HE.out.symm, hB1⟩
  have g3 : (x.berths.length : Int) ≤ 6 := by omega
  have HE : Hid (fwB x = true) := by show _ = _; unfold fwB; rw [decide_eq_true h1, decide_eq_true h2, decide_eq_true h3]; rfl
  go_wp2_with fail
  go_ret
  exact ⟨ret_bool HE.out.symm, hB1⟩

/-- the checks of a book -/
def bkR (x : Sbk) (p : Nat) : List Chk := [(63, #[], inR x.now 0 1000000), (64, #[], svK x p), (65, #[], btK x p), (66, #[], cpK x p)]
abbrev bkV : Array Value := #[.func (.func 63) #[] #[], .func (.func 64) #[] #[], .func (.func 65) #[] #[], .func (.func 66) #[] #[]]
theorem bkR_enters (x : Sbk) (p : Nat) : Enters (bkR x p) := by
  intro k r hk
  have h := List.mem_of_getElem? hk
  simp only [bkR, List.mem_cons, List.not_mem_nil, or_false] at h
  rcases h with rfl | rfl | rfl | rfl
  · exact enters_of Try.func63 (by kernel_rfl) rfl
  · exact enters_of Try.func64 (by kernel_rfl) rfl
  · exact enters_of Try.func65 (by kernel_rfl) rfl
  · exact enters_of Try.func66 (by kernel_rfl) rfl
theorem bkR_in {g p : Nat} {w : World} {t : TypeId} (x : Sbk) (h : Blk g bkV t w) : ChkIn g (bkR x p) w := by
  intro k r hk
  have hk8 : k < 4 := (List.getElem?_eq_some_iff.1 hk).1
  have hc : k = 0 ∨ k = 1 ∨ k = 2 ∨ k = 3 := by omega
  rcases hc with rfl | rfl | rfl | rfl
  · cases hk; exact h.cell rfl
  · cases hk; exact h.cell rfl
  · cases hk; exact h.cell rfl
  · cases hk; exact h.cell rfl

theorem svK_iff (x : Sbk) (p : Nat) : svK x p = true ↔ (∀ (j : Nat) y, x.services[j]? = some y → svB y x.now = true) ∧ (∀ (j : Nat) u v, x.services[j]? = some u → x.services[j + 1]? = some v → Op.bytesLess u.name.toList v.name.toList = true) := by
  unfold svK
  rw [Bool.and_eq_true, all_at, show x.services.length = (x.services.map (·.name)).length by simp, asc_iff]
  simp only [svR_all]
  constructor
  · rintro ⟨h1, h2⟩
    exact ⟨h2, fun j u v hu hv => h1 j _ _ (by rw [List.getElem?_map, hu]; rfl) (by rw [List.getElem?_map, hv]; rfl)⟩
  · rintro ⟨h1, h2⟩
    refine ⟨fun j u v hu hv => ?_, h1⟩
    rw [List.getElem?_map] at hu hv
    obtain ⟨a, ha, rfl⟩ := Option.map_eq_some_iff.1 hu
    obtain ⟨b, hb, rfl⟩ := Option.map_eq_some_iff.1 hv
    exact h2 j a b ha hb

theorem btK_iff (x : Sbk) (p : Nat) : btK x p = true ↔ (∀ (j : Nat) y, x.berths[j]? = some y → snB y.name = true) ∧ (∀ (j : Nat) u v, x.berths[j]? = some u → x.berths[j + 1]? = some v → Op.bytesLess u.name.toList v.name.toList = true) := by
  unfold btK
  rw [Bool.and_eq_true, all_at, show x.berths.length = (x.berths.map (·.name)).length by simp, asc_iff]
  simp only [btR_all]
  constructor
  · rintro ⟨h1, h2⟩
    exact ⟨h2, fun j u v hu hv => h1 j _ _ (by rw [List.getElem?_map, hu]; rfl) (by rw [List.getElem?_map, hv]; rfl)⟩
  · rintro ⟨h1, h2⟩
    refine ⟨fun j u v hu hv => ?_, h1⟩
    rw [List.getElem?_map] at hu hv
    obtain ⟨a, ha, rfl⟩ := Option.map_eq_some_iff.1 hu
    obtain ⟨b, hb, rfl⟩ := Option.map_eq_some_iff.1 hv
    exact h2 j a b ha hb

theorem cpK_iff (x : Sbk) (p : Nat) : cpK x p = true ↔ (∀ (j : Nat) y, x.copies[j]? = some y → cpB x y = true) ∧ (∀ (j : Nat) u v, x.copies[j]? = some u → x.copies[j + 1]? = some v → ahB u v = true) := by
  unfold cpK
  rw [Bool.and_eq_true, all_at, ac_iff]
  simp only [cpR_all]
  exact ⟨fun h => ⟨h.2, h.1⟩, fun h => ⟨h.2, h.1⟩⟩

theorem svB_next {x : Sbk} (h : ∀ (j : Nat) y, x.services[j]? = some y → svB y x.now = true) : ∀ v ∈ x.services, 1 ≤ v.next ∧ v.next ≤ 1000000 := by
  intro v hv
  obtain ⟨j, hj⟩ := List.getElem?_of_mem hv
  have h9 := h j v hj
  unfold svB at h9
  simp [inR] at h9
  exact ⟨by omega, by omega⟩

theorem bk_iff (x : Sbk) (p : Nat) (hf : fwB x = true) : allR (bkR x p) = true ↔ SVal x := by
  have h3 : x.services.length ≤ 8 ∧ x.copies.length ≤ 200 ∧ x.berths.length ≤ 6 := by
    unfold fwB at hf
    simp at hf
    exact ⟨hf.1.1, hf.1.2, hf.2⟩
  have h4 : allR (bkR x p) = true ↔ (inR x.now 0 1000000 = true ∧ svK x p = true ∧ btK x p = true ∧ cpK x p = true) := by
    simp [allR, bkR]
  rw [h4, svK_iff, btK_iff, cpK_iff]
  constructor
  · rintro ⟨h0, ⟨h1, h2⟩, ⟨h5, h6⟩, ⟨h7, h8⟩⟩
    exact ⟨h0, h3.1, h3.2.1, h3.2.2, h1, h2, h5, h6, h7, h8⟩
  · intro h
    exact ⟨h.now, ⟨h.s1, h.s2⟩, ⟨h.b1, h.b2⟩, ⟨h.c1, h.c2⟩⟩

theorem sval_few {x : Sbk} (h : SVal x) : fwB x = true := by
  unfold fwB
  rw [decide_eq_true h.l1, decide_eq_true h.l2, decide_eq_true h.l3]
  rfl

/-- a valid book is found, and one that is not is not -/
def FvRes (x : Sbk) (a1 : Option Addr) (c1 : Nat) (a2 : Option Addr) (c2 : Nat) (a3 : Option Addr) (c3 : Nat) (lo : Nat) (w : World) (e : Ending) (w' : World) : Prop := ((¬ SVal x ∧ e = .returned (.tuple #[.pointer none, .bool false])) ∨ (SVal x ∧ ∃ p m n : Nat, e = .returned (.tuple #[.pointer (some ⟨p, 0, none⟩), .bool true]) ∧ FndS x a1 c1 a2 c2 a3 c3 p m n lo w')) ∧ Below w.heap.size w w'

set_option maxHeartbeats 1000000 in
set_option maxRecDepth 100000 in
theorem bkChecks_any (w : World) :
    Calls Try.prog 59 #[] w fun e w' => e = .returned (.slice (some ⟨w.heap.size, 0, none⟩) 4 4) ∧ Blk w.heap.size bkV 110 w' ∧ Below w.heap.size w w' := by
  go_enter Try.func59, Try.ntmps59
  go_wp2_with fail
  go_ret
  exact ⟨rfl, Blk.alloc _ _ _, by go_grown⟩

set_option maxHeartbeats 4000000 in
set_option maxRecDepth 100000 in
theorem findValid_any (x : Sbk) (a1 : Option Addr) (c1 : Nat) (a2 : Option Addr) (c2 : Nat) (a3 : Option Addr) (c3 : Nat) (lo : Nat) (w : World) (n1 : SliceC SsvC 13 lo w a1 x.services) (n2 : SliceC ScpC 7 lo w a2 x.copies) (n3 : SliceC SbtC 2 lo w a3 x.berths) (hw : NumOk x) :
    Calls Try.prog 52 #[.agg #[.int .i64 x.now, .slice a1 x.services.length c1, .slice a2 x.copies.length c2, .slice a3 x.berths.length c3]] w fun e w' => FvRes x a1 c1 a2 c2 a3 c3 lo w e w' := by
  have HN1 := Hid.intro n1
  have HN2 := Hid.intro n2
  have HN3 := Hid.intro n3
  have HW := Hid.intro hw
  clear n1 n2 n3 hw
  have HK1 : Hid (Blk w.heap.size #[.int .i64 x.now, .slice a1 x.services.length c1, .slice a2 x.copies.length c2, .slice a3 x.berths.length c3] 37 (w.alloc (Obj.cells #[.int .i64 x.now, .slice a1 x.services.length c1, .slice a2 x.copies.length c2, .slice a3 x.berths.length c3] 37))) := Blk.alloc _ _ _
  have hB1 : Below w.heap.size w (w.alloc (Obj.cells #[.int .i64 x.now, .slice a1 x.services.length c1, .slice a2 x.copies.length c2, .slice a3 x.berths.length c3] 37)) := by go_grown
  go_enter Try.func52, Try.ntmps52
  go_upto_region 1 with fail
  generalize w.alloc (Obj.cells #[.int .i64 x.now, .slice a1 x.services.length c1, .slice a2 x.copies.length c2, .slice a3 x.berths.length c3] 37) = w1 at *
  go_wp2_with (refine wpList_load_mid rfl 37 _ rfl w.heap.size 0 (by first | rfl | (simp [go_sem]; done)) [.int .i64 x.now, .slice a1 x.services.length c1, .slice a2 x.copies.length c2, .slice a3 x.berths.length c3] _ HK1.out.rangeA Try.underlying37 rfl isz_Sbk ?_)
  refine (sfew_any x a1 c1 a2 c2 a3 c3 _).mono ?_
  rintro e w2 ⟨rfl, hb2⟩
  have HK2 := Hid.intro (HK1.out.below hb2 HK1.out.lt)
  have hB2 : Below w.heap.size w w2 := hB1.trans (hb2.mono hB1.size)
  clear hb2 HK1 hB1
  cases hf : fwB x with
  | false =>
    have HE : Hid (¬ SVal x) := fun h => by rw [sval_few h] at hf; cases hf
    clear hf
    go_wp2_with fail
    exact bodyPost_ret (results_tmp2 rfl _ _ _) rfl ⟨.inl ⟨HE.out, rfl⟩, hB2⟩
  | true =>
    have HBI : Hid (∀ p, allR (bkR x p) = true ↔ SVal x) := fun p => bk_iff x p hf
    have h3 : x.services.length ≤ 8 ∧ x.copies.length ≤ 200 ∧ x.berths.length ≤ 6 := by
      unfold fwB at hf
      simp at hf
      exact ⟨hf.1.1, hf.1.2, hf.2⟩
    obtain ⟨h31, h32, h33⟩ := h3
    clear hf
    go_wp2_with (refine wpList_load_mid rfl 37 _ rfl w.heap.size 0 (by first | rfl | (simp [go_sem]; done)) [.int .i64 x.now, .slice a1 x.services.length c1, .slice a2 x.copies.length c2, .slice a3 x.berths.length c3] _ HK2.out.rangeA Try.underlying37 rfl isz_Sbk ?_)
    refine (sfind_any x a1 c1 a2 c2 a3 c3 lo _ (HN1.out.below SsvC.holds hB2 (Nat.le_refl _)) (HN2.out.below ScpC.holds hB2 (Nat.le_refl _)) (HN3.out.below SbtC.holds hB2 (Nat.le_refl _)) h31 h32 h33 HW.out).mono ?_
    rintro e w3 ⟨p, m, n, rfl, hP, hO, hb3⟩
    have hB3 : Below w.heap.size w w3 := hB2.trans (hb3.mono hB2.size)
    have HF3 : Hid (FndS x a1 c1 a2 c2 a3 c3 p m n lo w3) := ⟨hP, hO, HN1.out.below SsvC.holds hB3 (Nat.le_refl _), HN2.out.below ScpC.holds hB3 (Nat.le_refl _), HN3.out.below SbtC.holds hB3 (Nat.le_refl _)⟩
    clear hP hO hb3 hB2 HK2
    go_wp2_with fail
    refine (bkChecks_any _).mono ?_
    rintro e w4 ⟨rfl, hC4, hb4⟩
    have HF4 := Hid.intro (HF3.out.below hb4)
    have hB4 : Below w.heap.size w w4 := hB3.trans (hb4.mono hB3.size)
    have HC4 := Hid.intro hC4
    generalize w3.heap.size = g at *
    clear HF3 hb4 hB3 hC4
    go_wp2_with fail
    refine (allF_any p (bkR x p) g 4 w4 (by show 4 ≤ 8; omega) ?_ (bkR_enters x p) (bkR_in x HC4.out) HC4.out.lt).mono ?_
    · intro k r hk hprev v hv
      have HFv := HF4.out.below hv
      have hk8 : k < 4 := (List.getElem?_eq_some_iff.1 hk).1
      have hc : k = 0 ∨ k = 1 ∨ k = 2 ∨ k = 3 := by omega
      rcases hc with rfl | rfl | rfl | rfl
      · cases hk
        refine (nowOk_any x a1 c1 a2 c2 a3 c3 p m n lo v HFv).mono ?_
        rintro e w' ⟨rfl, rfl⟩
        exact ⟨rfl, Below.refl _ _⟩
      · cases hk
        exact fservicesOk_any x a1 c1 a2 c2 a3 c3 p m n lo v HFv (by omega)
      · cases hk
        exact fberthsOk_any x a1 c1 a2 c2 a3 c3 p m n lo v HFv (by omega)
      · cases hk
        have hs := (svK_iff x p).1 (hprev 1 _ (by omega) rfl)
        exact fcopiesOk_any x a1 c1 a2 c2 a3 c3 p m n lo v HFv (by omega) (asc_uniq hs.2) (svB_next hs.1)
    · rintro e w5 ⟨rfl, hb5⟩
      have HF5 := Hid.intro (HF4.out.below hb5)
      have hB5 : Below w.heap.size w w5 := hB4.trans (hb5.mono hB4.size)
      clear hb5 HF4 hB4
      cases ha : allR (bkR x p) with
      | false =>
        have HE : Hid (¬ SVal x) := fun h => by rw [(HBI.out p).2 h] at ha; cases ha
        clear ha
        go_wp2_with fail
        exact bodyPost_ret (results_tmp2 rfl _ _ _) rfl ⟨.inl ⟨HE.out, rfl⟩, hB5⟩
      | true =>
        have HE : Hid (SVal x) := (HBI.out p).1 ha
        clear ha
        go_wp2_with fail
        exact bodyPost_ret (results_tmp2 rfl _ _ _) rfl ⟨.inr ⟨HE.out, p, m, n, rfl, HF5.out⟩, hB5⟩

set_option maxHeartbeats 4000000 in
set_option maxRecDepth 100000 in
theorem implSVal_any (x : Sbk) (a1 : Option Addr) (c1 : Nat) (a2 : Option Addr) (c2 : Nat) (a3 : Option Addr) (c3 : Nat) (lo : Nat) (w : World) (n1 : SliceC SsvC 13 lo w a1 x.services) (n2 : SliceC ScpC 7 lo w a2 x.copies) (n3 : SliceC SbtC 2 lo w a3 x.berths) (hw : NumOk x) :
    Calls Try.prog 43 #[.agg #[.int .i64 x.now, .slice a1 x.services.length c1, .slice a2 x.copies.length c2, .slice a3 x.berths.length c3]] w fun e w' => SvRes x w e w' := by
  have HN1 := Hid.intro n1
  have HN2 := Hid.intro n2
  have HN3 := Hid.intro n3
  have HW := Hid.intro hw
  clear n1 n2 n3 hw
  have HK1 : Hid (Blk w.heap.size #[.int .i64 x.now, .slice a1 x.services.length c1, .slice a2 x.copies.length c2, .slice a3 x.berths.length c3] 37 (w.alloc (Obj.cells #[.int .i64 x.now, .slice a1 x.services.length c1, .slice a2 x.copies.length c2, .slice a3 x.berths.length c3] 37))) := Blk.alloc _ _ _
  have hB1 : Below w.heap.size w (w.alloc (Obj.cells #[.int .i64 x.now, .slice a1 x.services.length c1, .slice a2 x.copies.length c2, .slice a3 x.berths.length c3] 37)) := by go_grown
  go_enter Try.func43, Try.ntmps43
  go_upto_region 1 with fail
  generalize w.alloc (Obj.cells #[.int .i64 x.now, .slice a1 x.services.length c1, .slice a2 x.copies.length c2, .slice a3 x.berths.length c3] 37) = w1 at *
  go_wp2_with (refine wpList_load_mid rfl 37 _ rfl w.heap.size 0 (by first | rfl | (simp [go_sem]; done)) [.int .i64 x.now, .slice a1 x.services.length c1, .slice a2 x.copies.length c2, .slice a3 x.berths.length c3] _ HK1.out.rangeA Try.underlying37 rfl isz_Sbk ?_)
  refine (findValid_any x a1 c1 a2 c2 a3 c3 lo _ (HN1.out.below SsvC.holds hB1 (Nat.le_refl _)) (HN2.out.below ScpC.holds hB1 (Nat.le_refl _)) (HN3.out.below SbtC.holds hB1 (Nat.le_refl _)) HW.out).mono ?_
  rintro e w2 ⟨hr, hb2⟩
  have hB2 : Below w.heap.size w w2 := hB1.trans (hb2.mono hB1.size)
  clear hb2 hB1 HK1
  rcases hr with ⟨hn, rfl⟩ | ⟨hy, p, m, n, rfl, _⟩
  · have HE := Hid.intro hn
    clear hn
    go_wp2_with fail
    go_ret
    exact ⟨false, rfl, ⟨fun h => (by cases h), fun h => absurd h HE.out⟩, hB2⟩
  · have HE := Hid.intro hy
    clear hy
    go_wp2_with fail
    go_ret
    exact ⟨true, rfl, ⟨fun _ => HE.out, fun _ => rfl⟩, hB2⟩

end Go.Proofs.Ytnkggfnblcadoaa
