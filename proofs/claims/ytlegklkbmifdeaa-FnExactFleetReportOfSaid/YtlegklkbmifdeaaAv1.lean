/-
  Asks that are ok, by the program. Made by mkav1.py.
-/
import Derived.Test.YtlegklkbmifdeaaAks
import Derived.Test.YtlegklkbmifdeaaMt8
namespace Go.Proofs.Ytlegklkbmifdeaa
open Go.RowKit


set_option maxHeartbeats 1000000 in
theorem nameAks_any (x : Aks) (w : World) :
    Calls Try.prog 80 #[.agg #[.string x.hold, .string x.copy, .int .i64 x.first, .int .i64 x.at_]] w fun e w' => e = .returned (.string x.hold) ∧ Below w.heap.size w w' := by
  go_enter Try.func80, Try.ntmps80
  go_wp2_with fail
  go_ret
  exact ⟨rfl, by go_grown⟩

set_option maxHeartbeats 4000000 in
set_option maxRecDepth 100000 in
theorem ascAks_any (xs : List Aks) (a : Option Addr) (cap lo : Nat) (w : World) (hin : SliceC AksC 4 lo w a xs) (hsm : xs.length ≤ 1048576) :
    Calls Try.prog 79 #[.slice a xs.length cap, .func (.func 80) #[] #[]] w fun e w' => e = .returned (.bool (ascTo (xs.map (·.hold)) xs.length)) ∧ Below w.heap.size w w' := by
  have HI : Hid (SliceC AksC 4 lo w a xs) := hin
  clear hin
  go_enter Try.func79, Try.ntmps79
  go_wp2_with fail
  go_loopw [5] (fun i wr => ∃ m : Nat, (m = 0 ∨ m + 1 ≤ xs.length) ∧ i = .int .i64 ((m : Int) + 1) ∧ Hid (ascTo (xs.map (·.hold)) (m + 1) = true) ∧ Below w.heap.size w wr) (fun i _ => xs.length + 1 - (intOf i).toNat)
  case atStart => exact ⟨0, .inl rfl, rfl, rfl, by go_grown⟩
  case round =>
    obtain ⟨m, hm, rfl, ho, hbel⟩ := hrel
    by_cases hlt : m + 1 < xs.length
    · obtain ⟨x, hx⟩ : ∃ x, xs[m]? = some x := ⟨xs[m], List.getElem?_eq_getElem (by omega)⟩
      obtain ⟨y, hy⟩ : ∃ y, xs[m + 1]? = some y := ⟨xs[m + 1], List.getElem?_eq_getElem (by omega)⟩
      have HIR := HI.out.below AksC.holds hbel (Nat.le_refl _)
      obtain ⟨b, o, rfl, _, _, hc⟩ := HIR.at hx
      obtain ⟨b', o', e', _, _, hc'⟩ := HIR.at hy
      cases e'
      obtain ⟨q0, q1, q2, q3, _, _⟩ := hc
      obtain ⟨r0, r1, r2, r3, _, _⟩ := hc'
      simp only [Nat.add_zero] at q0 q1 q2 q3 r0 r1 r2 r3
      have HA : Hid (ascAt (xs.map (·.hold)) (m + 1) = Op.bytesLess x.hold.toList y.hold.toList) := ascAt_at (by rw [List.getElem?_map, hx]; rfl) (by rw [List.getElem?_map, hy]; rfl)
      have k0 := cell_regrown q0
      have l0 := cell_regrown r0
      have k1 := cell_regrown q1
      have l1 := cell_regrown r1
      have k2 := cell_regrown q2
      have l2 := cell_regrown r2
      have k3 := cell_regrown q3
      have l3 := cell_regrown r3
      have cX : ∀ d os, Calls Try.prog 80 #[.agg #[.string x.hold, .string x.copy, .int .i64 x.first, .int .i64 x.at_]] (Sort.grow (redrawn wr d) os) fun e w'' => e = .returned (.string x.hold) ∧ ∃ p : Regrown, w'' = Sort.grow (redrawn wr p.d) p.os := fun d os => Calls.regrown_of (nameAks_any x _)
      have cY : ∀ d os, Calls Try.prog 80 #[.agg #[.string y.hold, .string y.copy, .int .i64 y.first, .int .i64 y.at_]] (Sort.grow (redrawn wr d) os) fun e w'' => e = .returned (.string y.hold) ∧ ∃ p : Regrown, w'' = Sort.grow (redrawn wr p.d) p.os := fun d os => Calls.regrown_of (nameAks_any y _)
      have i0 : (0 : Int) ≤ (m : Int) := by omega
      have i1 : (m : Int) < (xs.length : Int) := by omega
      have i2 : (0 : Int) ≤ (m : Int) + 1 := by omega
      have i3 : (m : Int) + 1 < (xs.length : Int) := by omega
      clear hx hy q0 q1 q2 q3 r0 r1 r2 r3 HIR
      have HWM : Hid (IntKind.i64.wrap (m : Int) = (m : Int)) := by show _ = _; rw [IntKind.wrap_i64]; omega
      have HLT : Hid (m + 1 < xs.length) := hlt
      generalize hq : Op.bytesLess x.hold.toList y.hold.toList = Q at HA
      have HQ : Hid (Op.bytesLess x.hold.toList y.hold.toList = Q) := hq
      clear hq hlt
      go_wp2_with fail
      refine wp_region_quiet_below (by kernel_rfl) (by kernel_rfl) ?_
      repeat (quiet_step (first | exact cX _ _ | exact cY _ _))
      rw [HWM.out]
      repeat (quiet_step (first | exact cX _ _ | exact cY _ _))
      refine wpQuiet_nil ?_
      intro _ hw'
      obtain ⟨⟨dq, osq⟩, hw''⟩ := hw'
      have hB := hbel.trans ((below_regrown wr dq osq).mono hbel.size)
      simp only [] at hw''
      rw [← hw''] at hB
      clear hw'' cX cY k0 l0 k1 l1 k2 l2 k3 l3
      rw [HQ.out]
      cases Q with
      | false =>
        have HE := Hid.intro (ascTo_false HA.out _ HLT.out)
        go_wp2_with fail
        go_ret
        exact ⟨ret_bool HE.out.symm, hB⟩
      | true =>
        have HE : Hid (ascTo (xs.map (·.hold)) (m + 1 + 1) = true) := by show _ = _; rw [ascTo, ho.out, HA.out]; rfl
        have hlt := HLT.out
        go_wp2_with fail
        go_roundw
        case rel => exact ⟨m + 1, .inr (by omega), by go_num, HE, hB⟩
        case measure => simp [intOf]; omega
    · have HE : Hid (ascTo (xs.map (·.hold)) xs.length = true) := by
        rcases (show m + 1 = xs.length ∨ xs.length = 0 by omega) with e | e
        · rw [← e]; exact ho.out
        · rw [e]; rfl
      go_wp2_with fail
      go_ret
      exact ⟨ret_bool HE.out.symm, hbel⟩

/-- an ask that is ok -/
def akB (x : Aks) (c : Int) : Bool := hdB x.hold && nmB x.copy && inR x.at_ 0 c && inR x.first 0 x.at_
/-- asks that are ok -/
def aksB (xs : List Aks) (c : Int) : Bool := decide (xs.length ≤ 40) && (ascTo (xs.map (·.hold)) xs.length && xs.all (akB · c))

theorem aksB_no {xs : List Aks} {c : Int} {k : Nat} {x : Aks} (h : xs[k]? = some x) (hr : akB x c = false) : aksB xs c = false := by
  have : xs.all (akB · c) = false := by
    rw [List.all_eq_false]
    exact ⟨x, List.mem_of_getElem? h, by simp [hr]⟩
  unfold aksB
  rw [this, Bool.and_false, Bool.and_false]

theorem aksB_yes {xs : List Aks} {c : Int} (hl : xs.length ≤ 40) (ha : ascTo (xs.map (·.hold)) xs.length = true) (h : ∀ (j : Nat) x, j < xs.length → xs[j]? = some x → akB x c = true) : aksB xs c = true := by
  have : xs.all (akB · c) = true := by
    rw [List.all_eq_true]
    intro r hr
    obtain ⟨j, hj, e⟩ := List.getElem_of_mem hr
    exact h j r hj (by rw [List.getElem?_eq_getElem hj, e])
  unfold aksB
  rw [this, ha, decide_eq_true hl]
  rfl

theorem aksB_asc {xs : List Aks} {c : Int} {k : Nat} (hk : k < xs.length) (h : ascAt (xs.map (·.hold)) k = false) : aksB xs c = false := by
  unfold aksB
  rw [ascTo_false h _ hk]
  simp

theorem aks_range {lo : Nat} {w : World} {b o : Nat} {x : Aks} (h : AksC lo w (fun i => w.cell? ⟨b, o + i, none⟩) x) : w.rangeAt b o [.string x.hold, .string x.copy, .int .i64 x.first, .int .i64 x.at_] := by
  obtain ⟨q0, q1, q2, q3, _, _⟩ := h
  simp only [Nat.add_zero] at q0 q1 q2 q3
  exact range_cons q0 (range_cons q1 (range_cons q2 (range_cons q3 (range_nil _ _ _))))

set_option maxHeartbeats 4000000 in
set_option maxRecDepth 100000 in
theorem implAsksOk_any (xs : List Aks) (a : Option Addr) (cap lo : Nat) (c : Int) (w : World) (hin : SliceC AksC 4 lo w a xs) (hsm : xs.length ≤ 1048576) :
    Calls Try.prog 69 #[.slice a xs.length cap, .int .i64 c] w fun e w' => e = .returned (.bool (aksB xs c)) ∧ Below w.heap.size w w' := by
  have HI : Hid (SliceC AksC 4 lo w a xs) := hin
  clear hin
  by_cases hl : xs.length ≤ 40
  case neg =>
    have hl' : (40 : Int) < xs.length := by omega
    have HE : Hid (aksB xs c = false) := by show _ = _; unfold aksB; rw [decide_eq_false hl]; rfl
    clear hl
    go_enter Try.func69, Try.ntmps69
    go_wp2_with fail
    go_ret
    exact ⟨ret_bool HE.out.symm, by go_grown⟩
  have hl' : (xs.length : Int) ≤ 40 := by omega
  go_enter Try.func69, Try.ntmps69
  go_wp2_with fail
  refine (ascAks_any xs a cap lo _ HI.out hsm).mono ?_
  rintro e w1 ⟨rfl, hb1⟩
  cases hasc : ascTo (xs.map (·.hold)) xs.length with
  | false =>
    have HE : Hid (aksB xs c = false) := by show _ = _; unfold aksB; rw [hasc]; simp
    go_wp2_with fail
    go_ret
    exact ⟨ret_bool HE.out.symm, hb1⟩
  | true =>
    have HASC := Hid.intro hasc
    clear hasc
    go_wp2_with fail
    go_loopw [17] (fun i wr => ∃ k : Nat, k ≤ xs.length ∧ i = .int .i64 k ∧ Hid (∀ (j : Nat) x, j < k → xs[j]? = some x → akB x c = true) ∧ Below w.heap.size w wr) (fun i _ => xs.length - (intOf i).toNat)
    case atStart => exact ⟨0, Nat.zero_le _, rfl, fun j q h => by omega, hb1⟩
    case round =>
      clear hb1
      obtain ⟨k, hk, rfl, hN, hB⟩ := hrel
      by_cases hlt : k < xs.length
      case neg =>
        have hke : k = xs.length := by omega
        subst hke
        have HE := Hid.intro (aksB_yes hl HASC.out hN.out)
        go_wp2_with fail
        go_ret
        exact ⟨ret_bool HE.out.symm, hB⟩
      obtain ⟨x, hx⟩ : ∃ x, xs[k]? = some x := ⟨xs[k], List.getElem?_eq_getElem hlt⟩
      obtain ⟨b, o, rfl, _, hbl, hc⟩ := (HI.out.below AksC.holds hB (Nat.le_refl _)).at hx
      have hz := hc
      obtain ⟨_, _, _, _, z0, z1⟩ := hz
      have HRA := Hid.intro (aks_range hc)
      have Z0 := Hid.intro z0
      have Z1 := Hid.intro z1
      have HXX := Hid.intro hx
      clear hc z0 z1 hx
      have hza : Blk wr.heap.size #[.string ⟨#[]⟩, .string ⟨#[]⟩, .int .i64 0, .int .i64 0] 79 (wr.alloc (Obj.cells #[.string ⟨#[]⟩, .string ⟨#[]⟩, .int .i64 0, .int .i64 0] 79)) := Blk.alloc _ _ _
      have HTS : Hid ((wr.alloc (Obj.cells #[.string ⟨#[]⟩, .string ⟨#[]⟩, .int .i64 0, .int .i64 0] 79)).there wr.heap.size 0 4) := hza.there
      obtain ⟨w4, HW4⟩ : ∃ w4, Hid (w4 = (wr.alloc (Obj.cells #[.string ⟨#[]⟩, .string ⟨#[]⟩, .int .i64 0, .int .i64 0] 79)).setCells wr.heap.size 0 [.string x.hold, .string x.copy, .int .i64 x.first, .int .i64 x.at_]) := ⟨_, rfl⟩
      have HK4 : Hid (Blk wr.heap.size #[.string x.hold, .string x.copy, .int .i64 x.first, .int .i64 x.at_] 79 w4) := by
        show Blk _ _ _ _
        rw [HW4.out]
        exact hza.setAll #[.string x.hold, .string x.copy, .int .i64 x.first, .int .i64 x.at_] rfl
      have hbx : Below wr.heap.size wr w4 := by
        rw [HW4.out]
        exact below_setCells (Nat.le_refl _) _ _ _ ((Below.refl _ wr).alloc (Nat.le_refl _) _)
      have hB4 : Below w.heap.size w w4 := hB.trans (hbx.mono hB.size)
      clear hza hbx
      have k0 : w4.cell? ⟨wr.heap.size, 0, none⟩ = some (.string x.hold) := HK4.out.cell rfl
      have k1 : w4.cell? ⟨wr.heap.size, 1, none⟩ = some (.string x.copy) := HK4.out.cell rfl
      have k2 : w4.cell? ⟨wr.heap.size, 2, none⟩ = some (.int .i64 x.first) := HK4.out.cell rfl
      have k3 : w4.cell? ⟨wr.heap.size, 3, none⟩ = some (.int .i64 x.at_) := HK4.out.cell rfl
      go_upto_region 6 with (first | (refine wpList_load_mid rfl 79 _ rfl b (o + k * 4) (by first | rfl | (simp [go_sem]; done)) [.string x.hold, .string x.copy, .int .i64 x.first, .int .i64 x.at_] _ HRA.out Try.underlying79 rfl isz_Aks ?_) | (refine wpList_store_to rfl 79 _ _ rfl wr.heap.size 0 #[.string x.hold, .string x.copy, .int .i64 x.first, .int .i64 x.at_] rfl rfl HTS.out isz_Aks (by simp [Value.oneCell']) w4 HW4.out ?_))
      clear HRA HTS HW4 HK4
      generalize wr.heap.size = g at *
      go_wp2_with fail
      refine (mhold_any x.hold _ Z0.out).mono ?_
      rintro e v0 ⟨rfl, rfl⟩
      cases g0 : hdB x.hold with
      | false =>
        have HE := Hid.intro (aksB_no (c := c) HXX.out (show akB x c = false by unfold akB; simp [g0]))
        clear g0
        go_wp2_with fail
        go_ret
        exact ⟨ret_bool HE.out.symm, hB4⟩
      | true =>
        go_wp2_with fail
        refine (mname_any x.copy _ Z1.out).mono ?_
        rintro e v1 ⟨rfl, rfl⟩
        cases g1 : nmB x.copy with
        | false =>
          have HE := Hid.intro (aksB_no (c := c) HXX.out (show akB x c = false by unfold akB; simp [g1]))
          clear g0 g1
          go_wp2_with fail
          go_ret
          exact ⟨ret_bool HE.out.symm, hB4⟩
        | true =>
          go_wp2_with fail
          refine (isIn_any x.at_ 0 c _).mono ?_
          rintro e v2 ⟨rfl, rfl⟩
          cases g2 : inR x.at_ 0 c with
          | false =>
            have HE := Hid.intro (aksB_no (c := c) HXX.out (show akB x c = false by unfold akB; simp [g2]))
            clear g0 g1 g2
            go_wp2_with fail
            go_ret
            exact ⟨ret_bool HE.out.symm, hB4⟩
          | true =>
            go_wp2_with fail
            refine (isIn_any x.first 0 x.at_ _).mono ?_
            rintro e v3 ⟨rfl, rfl⟩
            cases g3 : inR x.first 0 x.at_ with
            | false =>
              have HE := Hid.intro (aksB_no (c := c) HXX.out (show akB x c = false by unfold akB; simp [g3]))
              clear g0 g1 g2 g3
              go_wp2_with fail
              go_ret
              exact ⟨ret_bool HE.out.symm, hB4⟩
            | true =>
              have hro : akB x c = true := by unfold akB; rw [g0, g1, g2, g3]; rfl
              clear g0 g1 g2 g3
              have HN2 : Hid (∀ (j : Nat) y, j < k + 1 → xs[j]? = some y → akB y c = true) := fun j y hj hy => by
                by_cases e : j = k
                · subst e
                  have := HXX.out.symm.trans hy
                  cases this
                  exact hro
                · exact hN.out j y (by omega) hy
              clear hro
              go_wp2_with fail
              go_roundw
              case rel => exact ⟨k + 1, by omega, by go_num, HN2, hB4⟩
              case measure => simp [intOf]; omega

end Go.Proofs.Ytlegklkbmifdeaa
