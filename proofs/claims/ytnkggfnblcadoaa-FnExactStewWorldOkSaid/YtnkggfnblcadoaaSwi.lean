/-
  A world that is ok, by the program. Made by mkswi.py.
-/
import Derived.Test.YtnkggfnblcadoaaSww
import Derived.Test.YtnkggfnblcadoaaSwe
import Derived.Test.YtnkggfnblcadoaaSwj
namespace Go.Proofs.Ytnkggfnblcadoaa
open Go.RowKit

/-- the numbers of all its copies are numbers -/
def NumW (x : Swd) : Prop := NumOk x.book ∧ ∀ b ∈ x.past, NumOk b

theorem few_any (x : Swd) (a0 : Option Addr) (c0 : Nat) (a1 : Option Addr) (c1 : Nat) (a2 : Option Addr) (c2 : Nat) (a3 : Option Addr) (c3 : Nat) (w : World) :
    Calls Try.prog 29 #[.agg #[.slice a0 x.past.length c0, .int .i64 x.book.now, .slice a1 x.book.services.length c1, .slice a2 x.book.copies.length c2, .slice a3 x.book.berths.length c3]] w fun e w' => e = .returned (.bool (decide (x.past.length ≤ 8))) ∧ Below w.heap.size w w' := by
  have HK1 : Hid (Blk w.heap.size #[.slice a0 x.past.length c0, .int .i64 x.book.now, .slice a1 x.book.services.length c1, .slice a2 x.book.copies.length c2, .slice a3 x.book.berths.length c3] 39 (w.alloc (Obj.cells #[.slice a0 x.past.length c0, .int .i64 x.book.now, .slice a1 x.book.services.length c1, .slice a2 x.book.copies.length c2, .slice a3 x.book.berths.length c3] 39))) := Blk.alloc _ _ _
  have hB1 : Below w.heap.size w (w.alloc (Obj.cells #[.slice a0 x.past.length c0, .int .i64 x.book.now, .slice a1 x.book.services.length c1, .slice a2 x.book.copies.length c2, .slice a3 x.book.berths.length c3] 39)) := by go_grown
  go_enter Try.func29, Try.ntmps29
  go_upto_region 1 with fail
  generalize w.alloc (Obj.cells #[.slice a0 x.past.length c0, .int .i64 x.book.now, .slice a1 x.book.services.length c1, .slice a2 x.book.copies.length c2, .slice a3 x.book.berths.length c3] 39) = w1 at *
  have k0 : w1.cell? ⟨w.heap.size, 0, none⟩ = some (.slice a0 x.past.length c0) := HK1.out.cell rfl
  have k1 : w1.cell? ⟨w.heap.size, 1, none⟩ = some (.int .i64 x.book.now) := HK1.out.cell rfl
  have k2 : w1.cell? ⟨w.heap.size, 2, none⟩ = some (.slice a1 x.book.services.length c1) := HK1.out.cell rfl
  have k3 : w1.cell? ⟨w.heap.size, 3, none⟩ = some (.slice a2 x.book.copies.length c2) := HK1.out.cell rfl
  have k4 : w1.cell? ⟨w.heap.size, 4, none⟩ = some (.slice a3 x.book.berths.length c3) := HK1.out.cell rfl
  go_wp2_with fail
  go_ret
  exact ⟨ret_bool (by simp; omega), hB1⟩

set_option maxHeartbeats 2000000 in
theorem books_any (x : Swd) (a0 : Option Addr) (c0 : Nat) (a1 : Option Addr) (c1 : Nat) (a2 : Option Addr) (c2 : Nat) (a3 : Option Addr) (c3 : Nat) (lo : Nat) (w : World) (n0 : SliceC SbkC 4 lo w a0 x.past) (n1 : SliceC SsvC 13 lo w a1 x.book.services) (n2 : SliceC ScpC 7 lo w a2 x.book.copies) (n3 : SliceC SbtC 2 lo w a3 x.book.berths) (h8 : x.past.length ≤ 8) (hw : NumW x) :
    Calls Try.prog 30 #[.agg #[.slice a0 x.past.length c0, .int .i64 x.book.now, .slice a1 x.book.services.length c1, .slice a2 x.book.copies.length c2, .slice a3 x.book.berths.length c3]] w fun e w' => ∃ t : Bool, e = .returned (.bool t) ∧ (t = true ↔ SVal x.book ∧ ∀ b ∈ x.past, SVal b) ∧ Below w.heap.size w w' := by
  have N0 := Hid.intro n0
  have N1 := Hid.intro n1
  have N2 := Hid.intro n2
  have N3 := Hid.intro n3
  have HW := Hid.intro hw
  clear n0 n1 n2 n3 hw
  have HK1 : Hid (Blk w.heap.size #[.slice a0 x.past.length c0, .int .i64 x.book.now, .slice a1 x.book.services.length c1, .slice a2 x.book.copies.length c2, .slice a3 x.book.berths.length c3] 39 (w.alloc (Obj.cells #[.slice a0 x.past.length c0, .int .i64 x.book.now, .slice a1 x.book.services.length c1, .slice a2 x.book.copies.length c2, .slice a3 x.book.berths.length c3] 39))) := Blk.alloc _ _ _
  have hB1 : Below w.heap.size w (w.alloc (Obj.cells #[.slice a0 x.past.length c0, .int .i64 x.book.now, .slice a1 x.book.services.length c1, .slice a2 x.book.copies.length c2, .slice a3 x.book.berths.length c3] 39)) := by go_grown
  go_enter Try.func30, Try.ntmps30
  go_upto_region 1 with fail
  generalize w.alloc (Obj.cells #[.slice a0 x.past.length c0, .int .i64 x.book.now, .slice a1 x.book.services.length c1, .slice a2 x.book.copies.length c2, .slice a3 x.book.berths.length c3] 39) = w1 at *
  have k0 : w1.cell? ⟨w.heap.size, 0, none⟩ = some (.slice a0 x.past.length c0) := HK1.out.cell rfl
  have k1 : w1.cell? ⟨w.heap.size, 1, none⟩ = some (.int .i64 x.book.now) := HK1.out.cell rfl
  have k2 : w1.cell? ⟨w.heap.size, 2, none⟩ = some (.slice a1 x.book.services.length c1) := HK1.out.cell rfl
  have k3 : w1.cell? ⟨w.heap.size, 3, none⟩ = some (.slice a2 x.book.copies.length c2) := HK1.out.cell rfl
  have k4 : w1.cell? ⟨w.heap.size, 4, none⟩ = some (.slice a3 x.book.berths.length c3) := HK1.out.cell rfl
  go_wp2_with fail
  obtain ⟨t, ht⟩ := svT x.book
  have HT := Hid.intro ht
  clear ht
  refine (implSValT_any x.book t HT.out a1 c1 a2 c2 a3 c3 lo _ (N1.out.below SsvC.holds hB1 (Nat.le_refl _)) (N2.out.below ScpC.holds hB1 (Nat.le_refl _)) (N3.out.below SbtC.holds hB1 (Nat.le_refl _)) HW.out.1).mono ?_
  rintro e w2 ⟨rfl, hb2⟩
  have HK2 := Hid.intro (HK1.out.below hb2 HK1.out.lt)
  have hB2 : Below w.heap.size w w2 := hB1.trans (hb2.mono hB1.size)
  clear hb2 k0 k1 k2 k3 k4 HK1 hB1
  have k0 : w2.cell? ⟨w.heap.size, 0, none⟩ = some (.slice a0 x.past.length c0) := HK2.out.cell rfl
  cases t with
  | false =>
    have HE : Hid (¬ SVal x.book) := fun h => by have := HT.out.2 h; cases this
    go_wp2_with fail
    go_ret
    exact ⟨false, rfl, by simp [HE.out], hB2⟩
  | true =>
    have HE : Hid (SVal x.book) := HT.out.1 rfl
    clear HT
    go_wp2_with fail
    refine (eachSbk_any x.past w2.heap.size c0 lo a0 _ (N0.out.below SbkC.holds (hB2.trans ((show Below w2.heap.size w2 _ by go_grown).mono hB2.size)) (Nat.le_refl _)) (by omega) HW.out.2 (by simp [go_sem]) (by simp)).mono ?_
    rintro e w4 ⟨u, rfl, hu, hb4⟩
    have HU := Hid.intro hu
    have hB4 : Below w.heap.size w w4 := hB2.trans ((show Below w2.heap.size w2 _ by go_grown).trans (hb4.mono (by simp)) |>.mono hB2.size)
    clear hb4 hB2 HK2 k0 hu
    go_wp2_with fail
    go_ret
    exact ⟨u, rfl, by rw [HU.out]; simp [HE.out], hB4⟩

theorem rises_le {ns : List Int} (h : Rises ns) : ∀ (d i : Nat) a b, ns[i]? = some a → ns[i + d]? = some b → a ≤ b
  | 0, i, a, b, ha, hb => by
    rw [Nat.add_zero, ha] at hb
    cases hb
    exact Int.le_refl _
  | d + 1, i, a, b, ha, hb => by
    have hl := lt_of_some hb
    obtain ⟨c, hc⟩ : ∃ c, ns[i + d]? = some c := ⟨ns[i + d]'(by omega), List.getElem?_eq_getElem (by omega)⟩
    have h1 := rises_le h d i a c ha hc
    have h2 := h (i + d) c b hc hb
    omega

theorem nows_at {x : Swd} {i : Nat} {b : Sbk} (h : x.past[i]? = some b) : (x.past.map (·.now) ++ [x.book.now])[i]? = some b.now := by
  rw [List.getElem?_append_left (by rw [List.length_map]; exact lt_of_some h), List.getElem?_map, h]
  rfl

theorem nows_end (x : Swd) : (x.past.map (·.now) ++ [x.book.now])[x.past.length]? = some x.book.now := by
  rw [List.getElem?_append_right (by simp)]
  simp

theorem wok_iff (x : Swd) : WOk x ↔ x.past.length ≤ 8 ∧ (SVal x.book ∧ ∀ b ∈ x.past, SVal b) ∧ Rises (x.past.map (·.now) ++ [x.book.now]) := by
  constructor
  · rintro ⟨h1, h2, h3⟩
    refine ⟨h2, ⟨h1, fun b hb => ?_⟩, fun j a b ha hb => ?_⟩
    · obtain ⟨j, hj⟩ := List.getElem?_of_mem hb
      exact (h3 j (lt_of_some hj) b hj).1
    · have hl := lt_of_some hb
      simp at hl
      obtain ⟨u, hu⟩ : ∃ u, x.past[j]? = some u := ⟨x.past[j]'(by omega), List.getElem?_eq_getElem (by omega)⟩
      rw [nows_at hu] at ha
      cases ha
      by_cases e : j + 1 = x.past.length
      · rw [e, nows_end] at hb
        cases hb
        exact (h3 j (by omega) u hu).2.1
      · obtain ⟨v, hv⟩ : ∃ v, x.past[j + 1]? = some v := ⟨x.past[j + 1]'(by omega), List.getElem?_eq_getElem (by omega)⟩
        rw [nows_at hv] at hb
        cases hb
        exact (h3 (j + 1) (by omega) v hv).2.2 (Nat.succ_pos _) u hu
  · rintro ⟨h1, ⟨h2, h3⟩, h4⟩
    refine ⟨h2, h1, fun i hi b hb => ⟨h3 b (List.mem_of_getElem? hb), ?_, fun h0 a ha => ?_⟩⟩
    · exact rises_le h4 (x.past.length - i) i b.now x.book.now (nows_at hb) (by rw [show i + (x.past.length - i) = x.past.length by omega]; exact nows_end x)
    · exact h4 (i - 1) a.now b.now (nows_at ha) (by rw [show i - 1 + 1 = i by omega]; exact nows_at hb)

set_option maxHeartbeats 4000000 in
set_option maxRecDepth 100000 in
theorem rise_any (x : Swd) (a0 : Option Addr) (c0 : Nat) (a1 : Option Addr) (c1 : Nat) (a2 : Option Addr) (c2 : Nat) (a3 : Option Addr) (c3 : Nat) (lo : Nat) (w : World) (n0 : SliceC SbkC 4 lo w a0 x.past) (h8 : x.past.length ≤ 8) :
    Calls Try.prog 31 #[.agg #[.slice a0 x.past.length c0, .int .i64 x.book.now, .slice a1 x.book.services.length c1, .slice a2 x.book.copies.length c2, .slice a3 x.book.berths.length c3]] w fun e w' => ∃ t : Bool, e = .returned (.bool t) ∧ (t = true ↔ Rises (x.past.map (·.now) ++ [x.book.now])) ∧ Below w.heap.size w w' := by
  obtain ⟨rs, hr1, hr2, hr3⟩ := slice_rows n0
  have hrl : rs.length = x.past.length := by have := congrArg List.length hr1; simpa using this
  have HR1 := Hid.intro hr1
  have HR2 := Hid.intro hr2
  have HR3 := Hid.intro hr3
  have HRL := Hid.intro hrl
  clear n0 hr1 hr2 hr3 hrl
  have HK1 : Hid (Blk w.heap.size #[.slice a0 x.past.length c0, .int .i64 x.book.now, .slice a1 x.book.services.length c1, .slice a2 x.book.copies.length c2, .slice a3 x.book.berths.length c3] 39 (w.alloc (Obj.cells #[.slice a0 x.past.length c0, .int .i64 x.book.now, .slice a1 x.book.services.length c1, .slice a2 x.book.copies.length c2, .slice a3 x.book.berths.length c3] 39))) := Blk.alloc _ _ _
  have hB1 : Below w.heap.size w (w.alloc (Obj.cells #[.slice a0 x.past.length c0, .int .i64 x.book.now, .slice a1 x.book.services.length c1, .slice a2 x.book.copies.length c2, .slice a3 x.book.berths.length c3] 39)) := by go_grown
  go_enter Try.func31, Try.ntmps31
  go_upto_region 1 with fail
  generalize w.alloc (Obj.cells #[.slice a0 x.past.length c0, .int .i64 x.book.now, .slice a1 x.book.services.length c1, .slice a2 x.book.copies.length c2, .slice a3 x.book.berths.length c3] 39) = w1 at *
  have k0 : w1.cell? ⟨w.heap.size, 0, none⟩ = some (.slice a0 x.past.length c0) := HK1.out.cell rfl
  have k1 : w1.cell? ⟨w.heap.size, 1, none⟩ = some (.int .i64 x.book.now) := HK1.out.cell rfl
  have k2 : w1.cell? ⟨w.heap.size, 2, none⟩ = some (.slice a1 x.book.services.length c1) := HK1.out.cell rfl
  have k3 : w1.cell? ⟨w.heap.size, 3, none⟩ = some (.slice a2 x.book.copies.length c2) := HK1.out.cell rfl
  have k4 : w1.cell? ⟨w.heap.size, 4, none⟩ = some (.slice a3 x.book.berths.length c3) := HK1.out.cell rfl
  go_wp2_with fail
  refine (concatB_any a0 x.past.length c0 w1.heap.size (w1.heap.size + 1) rs ⟨x.book.now, a1, x.book.services.length, c1, a2, x.book.copies.length, c2, a3, x.book.berths.length, c3⟩ _ HRL.out h8 HR2.out (fun ad e j u hj => below_some (hB1.trans ((show Below w1.heap.size w1 _ by go_grown).mono hB1.size)) (HR3.out ad e j u hj)) (fun j u hj => by
    have hj4 : j < 4 := lt_of_some hj
    have hc : j = 0 ∨ j = 1 ∨ j = 2 ∨ j = 3 := by omega
    rcases hc with rfl | rfl | rfl | rfl <;> (cases hj; simp [go_sem])) (by simp [go_sem]) (by simp [go_sem])).mono ?_
  rintro e w4 ⟨g, G, rfl, hO, hb4⟩
  have HO := Hid.intro hO
  have hB4 : Below w.heap.size w w4 := hB1.trans ((show Below w1.heap.size w1 _ by go_grown).trans (hb4.mono (by simp; omega)) |>.mono hB1.size)
  clear hb4 hO k0 k1 k2 k3 k4 HK1
  go_wp2_with fail
  refine (sortedB_any (rs ++ [⟨x.book.now, a1, x.book.services.length, c1, a2, x.book.copies.length, c2, a3, x.book.berths.length, c3⟩]) x.past.length g G _ _ (by simp [HRL.out]) h8 HO.out).mono ?_
  rintro e w5 ⟨u, rfl, hu, hb5⟩
  have HU := Hid.intro hu
  have hB5 := hB4.trans (hb5.mono hB4.size)
  clear hb5 hB4 hu HO
  go_wp2_with fail
  go_ret
  exact ⟨u, rfl, by rw [HU.out, List.map_append, HR1.out]; exact Iff.rfl, hB5⟩

theorem wchecks_any (w : World) :
    Calls Try.prog 15 #[] w fun e w' => ∃ g, e = .returned (.slice (some ⟨g, 0, none⟩) 3 3) ∧ g < w'.heap.size ∧ w'.cell? ⟨g, 0, none⟩ = some (.func (.func 29) #[] #[]) ∧ w'.cell? ⟨g, 1, none⟩ = some (.func (.func 30) #[] #[]) ∧ w'.cell? ⟨g, 2, none⟩ = some (.func (.func 31) #[] #[]) ∧ Below w.heap.size w w' := by
  go_enter Try.func15, Try.ntmps15
  go_wp2_with fail
  go_ret
  exact ⟨w.heap.size, rfl, by simp, by simp [go_sem], by simp [go_sem], by simp [go_sem], by go_grown⟩

set_option maxHeartbeats 4000000 in
set_option maxRecDepth 100000 in
theorem implWk_any (x : Swd) (a0 : Option Addr) (k0 : Nat) (a1 : Option Addr) (k1 : Nat) (a2 : Option Addr) (k2 : Nat) (a3 : Option Addr) (k3 : Nat) (lo : Nat) (w : World) (n0 : SliceC SbkC 4 lo w a0 x.past) (n1 : SliceC SsvC 13 lo w a1 x.book.services) (n2 : SliceC ScpC 7 lo w a2 x.book.copies) (n3 : SliceC SbtC 2 lo w a3 x.book.berths) (hw : NumW x) :
    Calls Try.prog 7 #[.agg #[.slice a0 x.past.length k0, .int .i64 x.book.now, .slice a1 x.book.services.length k1, .slice a2 x.book.copies.length k2, .slice a3 x.book.berths.length k3]] w fun e w' => WkRes x w e w' := by
  obtain ⟨t2, ht2⟩ : ∃ t : Bool, t = true ↔ (SVal x.book ∧ ∀ b ∈ x.past, SVal b) := by
    by_cases h : SVal x.book ∧ ∀ b ∈ x.past, SVal b
    · exact ⟨true, ⟨fun _ => h, fun _ => rfl⟩⟩
    · exact ⟨false, ⟨fun e => (by cases e), fun e => absurd e h⟩⟩
  obtain ⟨t3, ht3⟩ : ∃ t : Bool, t = true ↔ Rises (x.past.map (·.now) ++ [x.book.now]) := by
    by_cases h : Rises (x.past.map (·.now) ++ [x.book.now])
    · exact ⟨true, ⟨fun _ => h, fun _ => rfl⟩⟩
    · exact ⟨false, ⟨fun e => (by cases e), fun e => absurd e h⟩⟩
  have HSAY : Hid (∀ v, Below w.heap.size w v → ∀ (k : Nat) r, ([(29, #[], decide (x.past.length ≤ 8)), (30, #[], t2), (31, #[], t3)] : List Chk)[k]? = some r → (∀ (j : Nat) q, j < k → ([(29, #[], decide (x.past.length ≤ 8)), (30, #[], t2), (31, #[], t3)] : List Chk)[j]? = some q → q.2.2 = true) → ∀ u, Below v.heap.size v u → Calls Try.prog r.1 (r.2.1 ++ #[.agg #[.slice a0 x.past.length k0, .int .i64 x.book.now, .slice a1 x.book.services.length k1, .slice a2 x.book.copies.length k2, .slice a3 x.book.berths.length k3]]) u fun e w' => e = .returned (.bool r.2.2) ∧ Below u.heap.size u w') := by
    intro v hv k r hr hq u hu
    have hU : Below w.heap.size w u := hv.trans (hu.mono hv.size)
    have m0 := n0.below SbkC.holds hU (Nat.le_refl _)
    have m1 := n1.below SsvC.holds hU (Nat.le_refl _)
    have m2 := n2.below ScpC.holds hU (Nat.le_refl _)
    have m3 := n3.below SbtC.holds hU (Nat.le_refl _)
    match k, hr, hq with
    | 0, hr, _ =>
      simp at hr
      subst hr
      exact few_any x a0 k0 a1 k1 a2 k2 a3 k3 u
    | 1, hr, hq =>
      simp at hr
      subst hr
      have h8 : x.past.length ≤ 8 := by simpa using hq 0 _ (by omega) rfl
      refine (books_any x a0 k0 a1 k1 a2 k2 a3 k3 lo u m0 m1 m2 m3 h8 hw).mono ?_
      rintro e w' ⟨t, rfl, ht, hb⟩
      have : t = t2 := Bool.eq_iff_iff.2 (ht.trans ht2.symm)
      subst this
      exact ⟨rfl, hb⟩
    | 2, hr, hq =>
      simp at hr
      subst hr
      have h8 : x.past.length ≤ 8 := by simpa using hq 0 _ (by omega) rfl
      refine (rise_any x a0 k0 a1 k1 a2 k2 a3 k3 lo u m0 h8).mono ?_
      rintro e w' ⟨t, rfl, ht, hb⟩
      have : t = t3 := Bool.eq_iff_iff.2 (ht.trans ht3.symm)
      subst this
      exact ⟨rfl, hb⟩
    | k + 3, hr, _ => simp at hr
  have HEN : Hid (Enters [(29, #[], decide (x.past.length ≤ 8)), (30, #[], t2), (31, #[], t3)]) := by
    intro k r hr
    match k, hr with
    | 0, hr => simp at hr; subst hr; exact fun _ _ => rfl
    | 1, hr => simp at hr; subst hr; exact fun _ _ => rfl
    | 2, hr => simp at hr; subst hr; exact fun _ _ => rfl
    | k + 3, hr => simp at hr
  have HCI : Hid (∀ {v : World} {g : Nat}, v.cell? ⟨g, 0, none⟩ = some (.func (.func 29) #[] #[]) → v.cell? ⟨g, 1, none⟩ = some (.func (.func 30) #[] #[]) → v.cell? ⟨g, 2, none⟩ = some (.func (.func 31) #[] #[]) → ChkIn g [(29, #[], decide (x.past.length ≤ 8)), (30, #[], t2), (31, #[], t3)] v) := by
    intro v g h0 h1 h2 k r hr
    match k, hr with
    | 0, hr => simp at hr; subst hr; exact h0
    | 1, hr => simp at hr; subst hr; exact h1
    | 2, hr => simp at hr; subst hr; exact h2
    | k + 3, hr => simp at hr
  have HAR : Hid (allR [(29, #[], decide (x.past.length ≤ 8)), (30, #[], t2), (31, #[], t3)] = (decide (x.past.length ≤ 8) && t2 && t3)) := by show _ = _; simp [allR, Bool.and_assoc]
  have HTT : Hid ((decide (x.past.length ≤ 8) && t2 && t3) = true ↔ WOk x) := by
    show _ ↔ _
    rw [wok_iff, ← ht2, ← ht3]
    simp [and_assoc]
  clear n0 n1 n2 n3 hw ht2 ht3
  have HK1 : Hid (Blk w.heap.size #[.slice a0 x.past.length k0, .int .i64 x.book.now, .slice a1 x.book.services.length k1, .slice a2 x.book.copies.length k2, .slice a3 x.book.berths.length k3] 39 (w.alloc (Obj.cells #[.slice a0 x.past.length k0, .int .i64 x.book.now, .slice a1 x.book.services.length k1, .slice a2 x.book.copies.length k2, .slice a3 x.book.berths.length k3] 39))) := Blk.alloc _ _ _
  have hB1 : Below w.heap.size w (w.alloc (Obj.cells #[.slice a0 x.past.length k0, .int .i64 x.book.now, .slice a1 x.book.services.length k1, .slice a2 x.book.copies.length k2, .slice a3 x.book.berths.length k3] 39)) := by go_grown
  go_enter Try.func7, Try.ntmps7
  go_upto_region 1 with fail
  generalize w.alloc (Obj.cells #[.slice a0 x.past.length k0, .int .i64 x.book.now, .slice a1 x.book.services.length k1, .slice a2 x.book.copies.length k2, .slice a3 x.book.berths.length k3] 39) = w1 at *
  refine wp_region_held_drew (S := fun wy => Blk w.heap.size #[.slice a0 x.past.length k0, .int .i64 x.book.now, .slice a1 x.book.services.length k1, .slice a2 x.book.copies.length k2, .slice a3 x.book.berths.length k3] 39 wy ∧ Below w.heap.size w wy) (by kernel_rfl) ⟨HK1.out.drew, hB1.drew⟩ (fun hS => ?_)
  clear HK1 hB1
  generalize w1.drew = wa at *
  refine wpAnyH_take (i := 1) (oi := { dst := some 4, op := _, type := _, pos := _, after := _, guard := none }) (v := .agg #[.slice a0 x.past.length k0, .int .i64 x.book.now, .slice a1 x.book.services.length k1, .slice a2 x.book.copies.length k2, .slice a3 x.book.berths.length k3]) rfl (by kernel_rfl) (by kernel_rfl) (by kernel_rfl) (fun _ _ _ h => h) (yieldsIf_load_mid (by rfl) _ _ rfl w.heap.size (0) rfl [.slice a0 x.past.length k0, .int .i64 x.book.now, .slice a1 x.book.services.length k1, .slice a2 x.book.copies.length k2, .slice a3 x.book.berths.length k3] _ (fun _ h => h.1.rangeA) Try.underlying39 rfl isz_Swd) hS ?_
  simp only [Act.put, List.setIfInBounds_toArray, List.set_cons_zero, List.set_cons_succ]
  refine wpAnyH_ready (rs := [0]) (by kernel_rfl) (by simp) (AllReadyH.cons (o := { dst := some 3, op := _, type := _, pos := _, after := _, guard := none }) rfl (fun K hK => ?_) AllReadyH.nil)
  go_simp
  refine (wchecks_any _).mono ?_
  rintro e w5 ⟨g, rfl, hg, c0, c1, c2, hb5⟩
  have C0 := Hid.intro c0
  have C1 := Hid.intro c1
  have C2 := Hid.intro c2
  clear c0 c1 c2
  refine hK.out _ _ ⟨hS.1.below hb5 hS.1.lt, hS.2.trans (hb5.mono hS.2.size)⟩ (fun hS => ?_)
  clear hK K
  clear hb5
  refine wpAnyH_ready (rs := [2]) (by kernel_rfl) (by simp) (AllReadyH.cons (o := { dst := some 5, op := _, type := _, pos := _, after := _, guard := none }) rfl (fun K hK => ?_) AllReadyH.nil)
  go_simp
  refine (allSwd_any x a0 k0 a1 k1 a2 k2 a3 k3 [(29, #[], decide (x.past.length ≤ 8)), (30, #[], t2), (31, #[], t3)] g 3 _ (by simp) (HSAY.out _ hS.2) HEN.out (HCI.out C0.out C1.out C2.out) hg).mono ?_
  rintro e w6 ⟨rfl, hb6⟩
  refine hK.out _ _ ⟨hS.1.below hb6 hS.1.lt, hS.2.trans (hb6.mono hS.2.size)⟩ (fun hS => ?_)
  clear hK K
  rw [HAR.out]
  clear hb6 C0 C1 C2
  refine wpAnyH_take (i := 3) (oi := { dst := some 2, op := _, type := _, pos := _, after := _, guard := none }) (v := .bool (decide (x.past.length ≤ 8) && t2 && t3)) rfl (by kernel_rfl) (by kernel_rfl) (by kernel_rfl) (fun _ _ _ h => h) (Or.inl ⟨by rfl, ?_⟩) hS ?_
  · intro wy hy
    clear hy
    go_simp
  simp only [Act.put, List.setIfInBounds_toArray, List.set_cons_zero, List.set_cons_succ]
  have hB := hS.2
  refine wpAnyH_done (by kernel_rfl) ?_ _
  clear hS
  go_wp2_with fail
  go_ret
  exact ⟨_, rfl, HTT.out, hB⟩

end Go.Proofs.Ytnkggfnblcadoaa
