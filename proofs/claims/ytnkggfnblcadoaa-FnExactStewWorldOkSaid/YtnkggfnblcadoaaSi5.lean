/-
  Copies held against each other, and their order. Made by mksi5.py.
-/
import Derived.Test.YtnkggfnblcadoaaSi4
namespace Go.Proofs.Ytnkggfnblcadoaa
open Go.RowKit

/-- the first that is not 0 -/
def orI (a b : Int) : Int := if a = 0 then b else a

set_option maxHeartbeats 1000000 in
set_option maxRecDepth 100000 in
theorem cmpOr_any (a b : Int) (g : Nat) (w : World) (h0 : w.cell? ⟨g, 0, none⟩ = some (.int .i64 a)) (h1 : w.cell? ⟨g, 1, none⟩ = some (.int .i64 b)) :
    Calls Try.prog 99 #[.slice (some ⟨g, 0, none⟩) 2 2] w fun e w' => e = .returned (.int .i64 (orI a b)) ∧ w' = w := by
  go_enter Try.func99, Try.ntmps99
  go_wp2_with fail
  go_loop [8] (fun i => ∃ k : Nat, i = .int .i64 k ∧ Hid (k = 0 ∨ (k = 1 ∧ a = 0) ∨ (k = 2 ∧ a = 0 ∧ b = 0))) (fun i => 2 - (intOf i).toNat)
  case atStart => exact ⟨0, rfl, .inl rfl⟩
  case round =>
    obtain ⟨k, rfl, HC⟩ := hrel
    rcases HC.out with c | ⟨c, ca⟩ | ⟨c, ca, cb⟩
    · subst c
      by_cases ha : a = 0
      · have hb : (a == 0) = true := by simpa using ha
        have HA := Hid.intro ha
        clear ha
        go_wp2_with fail
        go_round
        case rel => exact ⟨1, rfl, .inr (.inl ⟨rfl, HA.out⟩)⟩
        case measure => simp [intOf]
      · have HE : Hid (orI a b = a) := if_neg ha
        have hb : (a == 0) = false := by simpa using ha
        go_wp2_with fail
        go_ret
        exact ⟨ret_int HE.out.symm, rfl⟩
    · subst c
      have HA := Hid.intro ca
      have HO : Hid (orI a b = b) := if_pos ca
      clear ca
      by_cases hb : b = 0
      · have hb2 : (b == 0) = true := by simpa using hb
        have HB := Hid.intro hb
        clear hb
        go_wp2_with fail
        go_round
        case rel => exact ⟨2, rfl, .inr (.inr ⟨rfl, HA.out, HB.out⟩)⟩
        case measure => simp [intOf]
      · have hb2 : (b == 0) = false := by simpa using hb
        go_wp2_with fail
        go_ret
        exact ⟨ret_int HO.out.symm, rfl⟩
    · subst c
      have HO : Hid (orI a b = 0) := by show _ = _; unfold orI; rw [if_pos ca, cb]
      clear ca cb
      go_wp2_with fail
      go_ret
      exact ⟨ret_int HO.out.symm, rfl⟩

/-- two copies held against each other -/
def cmC (x y : Scp) : Int := orI (Lib.compareBytes x.service.data.toList y.service.data.toList) (cmpI x.number y.number)

theorem cmC_ah (x y : Scp) : decide (0 ≤ cmC x y) = !ahB x y := by
  unfold cmC ahB orI cmpI
  rw [ByteArray.toList_eq, ByteArray.toList_eq]
  rcases cmpL_cases x.service.data.toList y.service.data.toList with ⟨e1, e2, e3, e4⟩ | ⟨e1, e2, e3, e4⟩ | ⟨e1, e2, e3, e4⟩
  · rw [e1, e2]; rfl
  · rw [e1, e2, e4]
    simp
    by_cases h : x.number < y.number
    · simp [h]
    · by_cases h2 : y.number < x.number
      · simp [h, h2]
      · simp [h, h2]
  · rw [e1, e2]
    simp
    exact .inl (fun h => e4 (by rw [h]))

set_option maxHeartbeats 4000000 in
set_option maxRecDepth 100000 in
theorem cmpCopies_any (x y : Scp) (w : World) :
    Calls Try.prog 94 #[.agg #[.string x.service, .int .i64 x.number, .int .i64 x.version, .int .i64 x.image, .int .i64 x.state, .bool x.ending, .string x.berth], .agg #[.string y.service, .int .i64 y.number, .int .i64 y.version, .int .i64 y.image, .int .i64 y.state, .bool y.ending, .string y.berth]] w fun e w' => e = .returned (.int .i64 (cmC x y)) ∧ Below w.heap.size w w' := by
  have HXa : Blk w.heap.size #[.string x.service, .int .i64 x.number, .int .i64 x.version, .int .i64 x.image, .int .i64 x.state, .bool x.ending, .string x.berth] 65 (w.alloc (.cells #[.string x.service, .int .i64 x.number, .int .i64 x.version, .int .i64 x.image, .int .i64 x.state, .bool x.ending, .string x.berth] 65)) := Blk.alloc _ _ _
  have HY1 : Hid (Blk (w.heap.size + 1) #[.string y.service, .int .i64 y.number, .int .i64 y.version, .int .i64 y.image, .int .i64 y.state, .bool y.ending, .string y.berth] 65 ((w.alloc (.cells #[.string x.service, .int .i64 x.number, .int .i64 x.version, .int .i64 x.image, .int .i64 x.state, .bool x.ending, .string x.berth] 65)).alloc (.cells #[.string y.service, .int .i64 y.number, .int .i64 y.version, .int .i64 y.image, .int .i64 y.state, .bool y.ending, .string y.berth] 65))) := by
    have := Blk.alloc (w.alloc (.cells #[.string x.service, .int .i64 x.number, .int .i64 x.version, .int .i64 x.image, .int .i64 x.state, .bool x.ending, .string x.berth] 65)) #[.string y.service, .int .i64 y.number, .int .i64 y.version, .int .i64 y.image, .int .i64 y.state, .bool y.ending, .string y.berth] 65
    show Blk _ _ _ _
    simpa using this
  have HX1 : Hid (Blk w.heap.size #[.string x.service, .int .i64 x.number, .int .i64 x.version, .int .i64 x.image, .int .i64 x.state, .bool x.ending, .string x.berth] 65 ((w.alloc (.cells #[.string x.service, .int .i64 x.number, .int .i64 x.version, .int .i64 x.image, .int .i64 x.state, .bool x.ending, .string x.berth] 65)).alloc (.cells #[.string y.service, .int .i64 y.number, .int .i64 y.version, .int .i64 y.image, .int .i64 y.state, .bool y.ending, .string y.berth] 65))) := HXa.below ((Below.refl _ _).alloc (Nat.le_refl _) _) HXa.lt
  have hB1 : Below w.heap.size w ((w.alloc (.cells #[.string x.service, .int .i64 x.number, .int .i64 x.version, .int .i64 x.image, .int .i64 x.state, .bool x.ending, .string x.berth] 65)).alloc (.cells #[.string y.service, .int .i64 y.number, .int .i64 y.version, .int .i64 y.image, .int .i64 y.state, .bool y.ending, .string y.berth] 65)) := by go_grown
  clear HXa
  go_enter Try.func94, Try.ntmps94
  go_upto_region 1 with fail
  generalize (w.alloc (Obj.cells #[.string x.service, .int .i64 x.number, .int .i64 x.version, .int .i64 x.image, .int .i64 x.state, .bool x.ending, .string x.berth] 65)).alloc (Obj.cells #[.string y.service, .int .i64 y.number, .int .i64 y.version, .int .i64 y.image, .int .i64 y.state, .bool y.ending, .string y.berth] 65) = w1 at *
  refine wp_region_held_drew (S := fun wy => Blk w.heap.size #[.string x.service, .int .i64 x.number, .int .i64 x.version, .int .i64 x.image, .int .i64 x.state, .bool x.ending, .string x.berth] 65 wy ∧ Blk (w.heap.size + 1) #[.string y.service, .int .i64 y.number, .int .i64 y.version, .int .i64 y.image, .int .i64 y.state, .bool y.ending, .string y.berth] 65 wy) (by kernel_rfl) ⟨HX1.out.drew, HY1.out.drew⟩ (fun hS => ?_)
  have hB2 : Below w.heap.size w w1.drew := hB1.drew
  clear HX1 HY1 hB1
  generalize w1.drew = w2 at *
  refine wpAnyH_take (i := 0) (oi := { dst := some 5, op := _, type := _, pos := _, after := _, guard := none }) (v := .pointer (some ⟨w.heap.size, 0, none⟩)) rfl (by kernel_rfl) (by kernel_rfl) (by kernel_rfl) (fun _ _ _ h => h) (Or.inl ⟨by rfl, ?_⟩) hS ?_
  · intro wy hy
    clear hy
    go_simp
  simp only [Act.put, List.setIfInBounds_toArray, List.set_cons_zero, List.set_cons_succ]
  refine wpAnyH_take (i := 1) (oi := { dst := some 6, op := _, type := _, pos := _, after := _, guard := none }) (v := .string x.service) rfl (by kernel_rfl) (by kernel_rfl) (by kernel_rfl) (fun _ _ _ h => h) (Or.inl ⟨by rfl, ?_⟩) hS ?_
  · intro wy hy
    have h0 : wy.cell? ⟨w.heap.size, 0, none⟩ = some (.string x.service) := hy.1.cell rfl
    clear hy
    go_simp
  simp only [Act.put, List.setIfInBounds_toArray, List.set_cons_zero, List.set_cons_succ]
  refine wpAnyH_take (i := 2) (oi := { dst := some 7, op := _, type := _, pos := _, after := _, guard := none }) (v := .pointer (some ⟨w.heap.size + 1, 0, none⟩)) rfl (by kernel_rfl) (by kernel_rfl) (by kernel_rfl) (fun _ _ _ h => h) (Or.inl ⟨by rfl, ?_⟩) hS ?_
  · intro wy hy
    clear hy
    go_simp
  simp only [Act.put, List.setIfInBounds_toArray, List.set_cons_zero, List.set_cons_succ]
  refine wpAnyH_take (i := 3) (oi := { dst := some 8, op := _, type := _, pos := _, after := _, guard := none }) (v := .string y.service) rfl (by kernel_rfl) (by kernel_rfl) (by kernel_rfl) (fun _ _ _ h => h) (Or.inl ⟨by rfl, ?_⟩) hS ?_
  · intro wy hy
    have h0 : wy.cell? ⟨w.heap.size + 1, 0, none⟩ = some (.string y.service) := hy.2.cell rfl
    clear hy
    go_simp
  simp only [Act.put, List.setIfInBounds_toArray, List.set_cons_zero, List.set_cons_succ]
  refine wpAnyH_take (i := 5) (oi := { dst := some 10, op := _, type := _, pos := _, after := _, guard := none }) (v := .pointer (some ⟨w.heap.size, 1, none⟩)) rfl (by kernel_rfl) (by kernel_rfl) (by kernel_rfl) (fun _ _ _ h => h) (Or.inl ⟨by rfl, ?_⟩) hS ?_
  · intro wy hy
    clear hy
    go_simp
  simp only [Act.put, List.setIfInBounds_toArray, List.set_cons_zero, List.set_cons_succ]
  refine wpAnyH_take (i := 6) (oi := { dst := some 11, op := _, type := _, pos := _, after := _, guard := none }) (v := .int .i64 x.number) rfl (by kernel_rfl) (by kernel_rfl) (by kernel_rfl) (fun _ _ _ h => h) (Or.inl ⟨by rfl, ?_⟩) hS ?_
  · intro wy hy
    have h0 : wy.cell? ⟨w.heap.size, 1, none⟩ = some (.int .i64 x.number) := hy.1.cell rfl
    clear hy
    go_simp
  simp only [Act.put, List.setIfInBounds_toArray, List.set_cons_zero, List.set_cons_succ]
  refine wpAnyH_take (i := 7) (oi := { dst := some 12, op := _, type := _, pos := _, after := _, guard := none }) (v := .pointer (some ⟨w.heap.size + 1, 1, none⟩)) rfl (by kernel_rfl) (by kernel_rfl) (by kernel_rfl) (fun _ _ _ h => h) (Or.inl ⟨by rfl, ?_⟩) hS ?_
  · intro wy hy
    clear hy
    go_simp
  simp only [Act.put, List.setIfInBounds_toArray, List.set_cons_zero, List.set_cons_succ]
  refine wpAnyH_take (i := 8) (oi := { dst := some 13, op := _, type := _, pos := _, after := _, guard := none }) (v := .int .i64 y.number) rfl (by kernel_rfl) (by kernel_rfl) (by kernel_rfl) (fun _ _ _ h => h) (Or.inl ⟨by rfl, ?_⟩) hS ?_
  · intro wy hy
    have h0 : wy.cell? ⟨w.heap.size + 1, 1, none⟩ = some (.int .i64 y.number) := hy.2.cell rfl
    clear hy
    go_simp
  simp only [Act.put, List.setIfInBounds_toArray, List.set_cons_zero, List.set_cons_succ]
  refine wpAnyH_ready (rs := [4]) (by kernel_rfl) (by simp) (AllReadyH.cons (o := { dst := some 9, op := _, type := _, pos := _, after := _, guard := none }) rfl (fun K hK => ?_) AllReadyH.nil)
  go_simp
  refine (strCmp_any x.service y.service _).mono ?_
  rintro e w3 ⟨rfl, rfl⟩
  refine hK.out _ _ hS (fun hS => ?_)
  clear hK K
  refine wpAnyH_ready (rs := [9]) (by kernel_rfl) (by simp) (AllReadyH.cons (o := { dst := some 14, op := _, type := _, pos := _, after := _, guard := none }) rfl (fun K hK => ?_) AllReadyH.nil)
  go_simp
  refine (cmpInt_any x.number y.number _).mono ?_
  rintro e w4 ⟨rfl, rfl⟩
  refine hK.out _ _ hS (fun hS => ?_)
  clear hK K
  refine wpAnyH_ready (rs := [10]) (by kernel_rfl) (by simp) (AllReadyH.cons (o := { dst := some 15, op := _, type := _, pos := _, after := _, guard := none }) rfl (fun K hK => ?_) AllReadyH.nil)
  go_simp
  generalize hca : Lib.compareBytes x.service.data.toList y.service.data.toList = ca at *
  generalize hcb : cmpI x.number y.number = cb at *
  have HCA := Hid.intro hca
  have HCB := Hid.intro hcb
  clear hca hcb
  have HS3 : Hid (Blk w4.heap.size #[.int .i64 ca, .int .i64 cb] 3 (w4.alloc (Obj.cells #[.int .i64 ca, .int .i64 cb] 3))) := Blk.alloc _ _ _
  have hB3 : Below w.heap.size w (w4.alloc (Obj.cells #[.int .i64 ca, .int .i64 cb] 3)) := hB2.alloc hB2.size _
  refine hK.out _ _ ⟨hS.1.below ((Below.refl _ w4).alloc (Nat.le_refl _) _) hS.1.lt, hS.2.below ((Below.refl _ w4).alloc (Nat.le_refl _) _) hS.2.lt⟩ (fun hS => ?_)
  clear hK K hB2
  generalize w4.alloc (Obj.cells #[.int .i64 ca, .int .i64 cb] 3) = w5 at *
  generalize w4.heap.size = g at *
  refine wpAnyH_ready (rs := [11]) (by kernel_rfl) (by simp) (AllReadyH.cons (o := { dst := some 16, op := _, type := _, pos := _, after := _, guard := none }) rfl (fun K hK => ?_) AllReadyH.nil)
  go_simp
  refine (cmpOr_any ca cb g _ (HS3.out.cell rfl) (HS3.out.cell rfl)).mono ?_
  rintro e w6 ⟨rfl, rfl⟩
  refine hK.out _ _ hS (fun hS => ?_)
  clear hK K
  refine wpAnyH_take (i := 12) (oi := { dst := some 4, op := _, type := _, pos := _, after := _, guard := none }) (v := .int .i64 (orI ca cb)) rfl (by kernel_rfl) (by kernel_rfl) (by kernel_rfl) (fun _ _ _ h => h) (Or.inl ⟨by rfl, ?_⟩) hS ?_
  · intro wy hy
    clear hy
    go_simp
  simp only [Act.put, List.setIfInBounds_toArray, List.set_cons_zero, List.set_cons_succ]
  refine wpAnyH_done (by kernel_rfl) ?_ _
  clear hS
  go_wp2_with fail
  go_ret
  exact ⟨ret_int (by unfold cmC; rw [HCA.out, HCB.out]), hB3⟩

/-- the copy at a place stands behind the one ahead of it -/
def acAt (xs : List Scp) : Nat → Bool
  | 0 => true
  | m + 1 => match xs[m]?, xs[m + 1]? with
    | some u, some v => ahB u v
    | _, _ => true

def acTo (xs : List Scp) : Nat → Bool
  | 0 => true
  | k + 1 => acTo xs k && acAt xs k

theorem acTo_false {xs : List Scp} {k : Nat} (h : acAt xs k = false) : ∀ n, k < n → acTo xs n = false
  | 0, hn => absurd hn (Nat.not_lt_zero _)
  | n + 1, hn => by
    by_cases e : k = n
    · subst e; simp only [acTo, h, Bool.and_false]
    · simp only [acTo, acTo_false h n (by omega), Bool.false_and]

theorem acAt_at {xs : List Scp} {m : Nat} {u v : Scp} (h : xs[m]? = some u) (h2 : xs[m + 1]? = some v) : acAt xs (m + 1) = ahB u v := by
  simp only [acAt, h, h2]

theorem acTo_all {xs : List Scp} : ∀ n, acTo xs n = true → ∀ k, k < n → acAt xs k = true
  | 0, _, k, hk => by omega
  | n + 1, h, k, hk => by
    simp only [acTo, Bool.and_eq_true] at h
    by_cases e : k = n
    · subst e; exact h.2
    · exact acTo_all n h.1 k (by omega)

theorem acTo_yes {xs : List Scp} : ∀ n, (∀ k, k < n → acAt xs k = true) → acTo xs n = true
  | 0, _ => rfl
  | n + 1, h => by
    simp only [acTo, Bool.and_eq_true]
    exact ⟨acTo_yes n (fun k hk => h k (by omega)), h n (by omega)⟩

set_option maxHeartbeats 4000000 in
set_option maxRecDepth 100000 in
theorem ascC_any (xs : List Scp) (a : Option Addr) (cap lo : Nat) (w : World) (hin : SliceC ScpC 7 lo w a xs) (hsm : xs.length ≤ 1048576) :
    Calls Try.prog 80 #[.slice a xs.length cap] w fun e w' => e = .returned (.bool (acTo xs xs.length)) ∧ Below w.heap.size w w' := by
  have HI := Hid.intro hin
  clear hin
  go_enter Try.func80, Try.ntmps80
  go_wp2_with fail
  go_loopw [3] (fun i wr => ∃ m : Nat, (m = 0 ∨ m + 1 ≤ xs.length) ∧ i = .int .i64 ((m : Int) + 1) ∧ Hid (acTo xs (m + 1) = true) ∧ Below w.heap.size w wr) (fun i _ => xs.length + 1 - (intOf i).toNat)
  case atStart => exact ⟨0, .inl rfl, rfl, rfl, by go_grown⟩
  case round =>
    obtain ⟨m, hm, rfl, ho, hbel⟩ := hrel
    by_cases hlt : m + 1 < xs.length
    case neg =>
      have HE : Hid (acTo xs xs.length = true) := by
        rcases (show m + 1 = xs.length ∨ xs.length = 0 by omega) with e | e
        · rw [← e]; exact ho.out
        · rw [e]; rfl
      go_wp2_with fail
      go_ret
      exact ⟨ret_bool HE.out.symm, hbel⟩
    obtain ⟨x, hx⟩ : ∃ x, xs[m]? = some x := ⟨xs[m], List.getElem?_eq_getElem (by omega)⟩
    obtain ⟨y, hy⟩ : ∃ y, xs[m + 1]? = some y := ⟨xs[m + 1], List.getElem?_eq_getElem (by omega)⟩
    have HIR := HI.out.below ScpC.holds hbel (Nat.le_refl _)
    obtain ⟨b, o, ea, _, hbl, hc⟩ := HIR.at hx
    obtain ⟨b', o', e', _, _, hc'⟩ := HIR.at hy
    subst ea
    cases e'
    have HRX := Hid.intro (rngScp hc)
    have HRY := Hid.intro (rngScp hc')
    have HA := Hid.intro (acAt_at hx hy)
    have HWM : Hid (IntKind.i64.wrap (m : Int) = (m : Int)) := by show _ = _; rw [IntKind.wrap_i64]; omega
    have i0 : (0 : Int) ≤ (m : Int) := by omega
    have i1 : (m : Int) < (xs.length : Int) := by omega
    have i2 : (0 : Int) ≤ (m : Int) + 1 := by omega
    have i3 : (m : Int) + 1 < (xs.length : Int) := by omega
    have i4 : m < xs.length := by omega
    have i5 : ((m : Int) + 1).toNat = m + 1 := by omega
    clear HIR hc hc' hx hy
    go_wp2_with fail
    refine wp_region_held_drew (S := fun wy => wy.rangeAt b (o + m * 7) [.string x.service, .int .i64 x.number, .int .i64 x.version, .int .i64 x.image, .int .i64 x.state, .bool x.ending, .string x.berth] ∧ wy.rangeAt b (o + (m + 1) * 7) [.string y.service, .int .i64 y.number, .int .i64 y.version, .int .i64 y.image, .int .i64 y.state, .bool y.ending, .string y.berth]) (by kernel_rfl) ⟨HRX.out, HRY.out⟩ (fun hS => ?_)
    have hB2 : Below w.heap.size w wr.drew := hbel.drew
    replace hbl : b < wr.drew.heap.size := hbl
    clear hbel HRX HRY
    generalize wr.drew = w2 at *
    refine wpAnyH_take (i := 0) (oi := { dst := some 10, op := _, type := _, pos := _, after := _, guard := none }) (v := .slice (some ⟨b, o, none⟩) xs.length cap) rfl (by kernel_rfl) (by kernel_rfl) (by kernel_rfl) (fun _ _ _ h => h) (Or.inl ⟨by rfl, ?_⟩) hS ?_
    · intro wy hy
      clear hy
      go_simp
    simp only [Act.put, List.setIfInBounds_toArray, List.set_cons_zero, List.set_cons_succ]
    refine wpAnyH_take (i := 1) (oi := { dst := some 11, op := _, type := _, pos := _, after := _, guard := none }) (v := .int .i64 ((m : Int) + 1)) rfl (by kernel_rfl) (by kernel_rfl) (by kernel_rfl) (fun _ _ _ h => h) (Or.inl ⟨by rfl, ?_⟩) hS ?_
    · intro wy hy
      clear hy
      go_simp
    simp only [Act.put, List.setIfInBounds_toArray, List.set_cons_zero, List.set_cons_succ]
    refine wpAnyH_take (i := 2) (oi := { dst := some 12, op := _, type := _, pos := _, after := _, guard := none }) (v := .int .i64 (m : Int)) rfl (by kernel_rfl) (by kernel_rfl) (by kernel_rfl) (fun _ _ _ h => h) (Or.inl ⟨by rfl, ?_⟩) hS ?_
    · intro wy hy
      clear hy
      (go_simp; rw [IntKind.wrap_i64]; omega)
    simp only [Act.put, List.setIfInBounds_toArray, List.set_cons_zero, List.set_cons_succ]
    refine wpAnyH_take (i := 3) (oi := { dst := some 13, op := _, type := _, pos := _, after := _, guard := none }) (v := .pointer (some ⟨b, o + m * 7, none⟩)) rfl (by kernel_rfl) (by kernel_rfl) (by kernel_rfl) (fun _ _ _ h => h) (Or.inl ⟨by rfl, ?_⟩) hS ?_
    · intro wy hy
      clear hy
      go_simp
    simp only [Act.put, List.setIfInBounds_toArray, List.set_cons_zero, List.set_cons_succ]
    refine wpAnyH_take (i := 4) (oi := { dst := some 14, op := _, type := _, pos := _, after := _, guard := none }) (v := .agg #[.string x.service, .int .i64 x.number, .int .i64 x.version, .int .i64 x.image, .int .i64 x.state, .bool x.ending, .string x.berth]) rfl (by kernel_rfl) (by kernel_rfl) (by kernel_rfl) (fun _ _ _ h => h) (yieldsIf_load_mid (by rfl) _ _ rfl b (o + m * 7) rfl [.string x.service, .int .i64 x.number, .int .i64 x.version, .int .i64 x.image, .int .i64 x.state, .bool x.ending, .string x.berth] _ (fun _ h => h.1) Try.underlying65 rfl isz_Scp) hS ?_
    simp only [Act.put, List.setIfInBounds_toArray, List.set_cons_zero, List.set_cons_succ]
    refine wpAnyH_take (i := 5) (oi := { dst := some 15, op := _, type := _, pos := _, after := _, guard := none }) (v := .slice (some ⟨b, o, none⟩) xs.length cap) rfl (by kernel_rfl) (by kernel_rfl) (by kernel_rfl) (fun _ _ _ h => h) (Or.inl ⟨by rfl, ?_⟩) hS ?_
    · intro wy hy
      clear hy
      go_simp
    simp only [Act.put, List.setIfInBounds_toArray, List.set_cons_zero, List.set_cons_succ]
    refine wpAnyH_take (i := 6) (oi := { dst := some 16, op := _, type := _, pos := _, after := _, guard := none }) (v := .int .i64 ((m : Int) + 1)) rfl (by kernel_rfl) (by kernel_rfl) (by kernel_rfl) (fun _ _ _ h => h) (Or.inl ⟨by rfl, ?_⟩) hS ?_
    · intro wy hy
      clear hy
      go_simp
    simp only [Act.put, List.setIfInBounds_toArray, List.set_cons_zero, List.set_cons_succ]
    refine wpAnyH_take (i := 7) (oi := { dst := some 17, op := _, type := _, pos := _, after := _, guard := none }) (v := .pointer (some ⟨b, o + (m + 1) * 7, none⟩)) rfl (by kernel_rfl) (by kernel_rfl) (by kernel_rfl) (fun _ _ _ h => h) (Or.inl ⟨by rfl, ?_⟩) hS ?_
    · intro wy hy
      clear hy
      go_simp
    simp only [Act.put, List.setIfInBounds_toArray, List.set_cons_zero, List.set_cons_succ]
    refine wpAnyH_take (i := 8) (oi := { dst := some 18, op := _, type := _, pos := _, after := _, guard := none }) (v := .agg #[.string y.service, .int .i64 y.number, .int .i64 y.version, .int .i64 y.image, .int .i64 y.state, .bool y.ending, .string y.berth]) rfl (by kernel_rfl) (by kernel_rfl) (by kernel_rfl) (fun _ _ _ h => h) (yieldsIf_load_mid (by rfl) _ _ rfl b (o + (m + 1) * 7) rfl [.string y.service, .int .i64 y.number, .int .i64 y.version, .int .i64 y.image, .int .i64 y.state, .bool y.ending, .string y.berth] _ (fun _ h => h.2) Try.underlying65 rfl isz_Scp) hS ?_
    simp only [Act.put, List.setIfInBounds_toArray, List.set_cons_zero, List.set_cons_succ]
    refine wpAnyH_ready (rs := [9]) (by kernel_rfl) (by simp) (AllReadyH.cons (o := { dst := some 19, op := _, type := _, pos := _, after := _, guard := none }) rfl (fun K hK => ?_) AllReadyH.nil)
    go_simp
    refine (cmpCopies_any x y _).mono ?_
    rintro e w3 ⟨rfl, hb3⟩
    have hB3 : Below w.heap.size w w3 := hB2.trans (hb3.mono hB2.size)
    refine hK.out _ _ ⟨rngB hS.1 hb3 hbl, rngB hS.2 hb3 hbl⟩ (fun hS => ?_)
    clear hK K
    clear hb3 hB2
    have HCM := Hid.intro (cmC_ah x y)
    generalize cmC x y = cm at *
    refine wpAnyH_take (i := 10) (oi := { dst := some 20, op := _, type := _, pos := _, after := _, guard := none }) (v := .bool (decide (0 ≤ cm))) rfl (by kernel_rfl) (by kernel_rfl) (by kernel_rfl) (fun _ _ _ h => h) (Or.inl ⟨by rfl, ?_⟩) hS ?_
    · intro wy hy
      clear hy
      go_simp
    simp only [Act.put, List.setIfInBounds_toArray, List.set_cons_zero, List.set_cons_succ]
    refine wpAnyH_done (by kernel_rfl) ?_ _
    clear hS
    rw [HCM.out]
    clear HCM
    cases hah : ahB x y with
    | false =>
      have HE := Hid.intro (acTo_false (HA.out.trans hah) _ hlt)
      clear hah
      go_wp2_with fail
      go_ret
      exact ⟨ret_bool HE.out.symm, hB3⟩
    | true =>
      have HE : Hid (acTo xs (m + 1 + 1) = true) := by show _ = _; rw [acTo, ho.out, HA.out, hah]; rfl
      clear hah
      go_wp2_with fail
      go_roundw
      case rel => exact ⟨m + 1, .inr (by omega), by go_num, HE, hB3⟩
      case measure => simp [intOf]; omega

end Go.Proofs.Ytnkggfnblcadoaa
