/-
  Death, the table of steps, a tick of a run by the program. Made by mkml2.py.
-/
import Derived.Test.YtalnkbocfhhjkaaMl1
namespace Go.Proofs.Ytalnkbocfhhjkaa
open Go.RowKit

/-- what becomes of it when it may die -/
def dieR (x : Rn) : Rn := if x.left = 1 then dyR x else x

set_option maxHeartbeats 2000000 in
set_option maxRecDepth 100000 in
theorem mateDie_any (x : Rn) (c : Int) (g : Bool) (L : Nat) (w : World) (hX : Blk L (lifeA x c g) 43 w) :
    Calls Try.prog 42 #[.pointer (some ⟨L, 0, none⟩)] w fun e w' => e = .returned .nilFunc ∧ Blk L (lifeA (dieR x) c g) 43 w' ∧ Below L w w' := by
  have HX := Hid.intro hX
  have k8 : w.cell? ⟨L, 8, none⟩ = some (.int .i64 x.left) := hX.cell rfl
  have k9 : w.cell? ⟨L, 9, none⟩ = some (.int .i64 x.falls) := hX.cell rfl
  have f9 : w.frozen? ⟨L, 9, none⟩ = false := hX.frozen _
  clear hX
  by_cases h1 : x.left = 1
  case neg =>
    have HR : Hid (dieR x = x) := if_neg h1
    go_enter Try.func42, Try.ntmps42
    go_wp2_with fail
    go_ret
    rw [HR.out]
    exact ⟨rfl, HX.out, Below.refl _ _⟩
  have HR : Hid (dieR x = dyR x) := if_pos h1
  by_cases hf : x.falls < 1000
  · have HF : Hid (flF x.falls = wrap64 (x.falls + 1)) := if_pos hf
    have HX5 : Hid (Blk L (lifeA { x with falls := wrap64 (x.falls + 1) } c g) 43 (w.setCell ⟨L, 9, none⟩ (.int .i64 (wrap64 (x.falls + 1))))) := HX.out.set 9 _
    have hb5 : Below L w (w.setCell ⟨L, 9, none⟩ (.int .i64 (wrap64 (x.falls + 1)))) := below_set1 _ _ _ _
    have HY : Hid (dyR x = { x with state := 5, left := bkB (wrap64 (x.falls + 1)), falls := wrap64 (x.falls + 1) }) := by show _ = _; unfold dyR; rw [HF.out]
    clear HF
    go_enter Try.func42, Try.ntmps42
    go_upto_region 5 with fail
    generalize wrap64 (x.falls + 1) = F at *
    generalize w.setCell ⟨L, 9, none⟩ (.int .i64 F) = w5 at *
    clear k8 k9 f9 h1 hf
    refine wp_region_held_drew (S := fun wy => wy.cell? ⟨L, 9, none⟩ = some (.int .i64 F)) (by kernel_rfl) ((by simpa using HX5.out.cell (o := 9) (v := .int .i64 F) rfl)) (fun hS => ?_)
    refine wpAnyH_take (i := 0) (oi := { dst := some 24, op := _, type := _, pos := _, after := _, guard := none }) (v := .pointer (some ⟨L, 0, none⟩)) rfl (by kernel_rfl) (by kernel_rfl) (by kernel_rfl) (fun _ _ _ h => h) (Or.inl ⟨by rfl, ?_⟩) hS ?_
    · intro wy hy
      clear hy
      go_simp
    simp only [Act.put, List.setIfInBounds_toArray, List.set_cons_zero, List.set_cons_succ]
    refine wpAnyH_take (i := 1) (oi := { dst := some 25, op := _, type := _, pos := _, after := _, guard := none }) (v := .pointer (some ⟨L, 0, none⟩)) rfl (by kernel_rfl) (by kernel_rfl) (by kernel_rfl) (fun _ _ _ h => h) (Or.inl ⟨by rfl, ?_⟩) hS ?_
    · intro wy hy
      clear hy
      go_simp
    simp only [Act.put, List.setIfInBounds_toArray, List.set_cons_zero, List.set_cons_succ]
    refine wpAnyH_take (i := 2) (oi := { dst := some 26, op := _, type := _, pos := _, after := _, guard := none }) (v := .pointer (some ⟨L, 0, none⟩)) rfl (by kernel_rfl) (by kernel_rfl) (by kernel_rfl) (fun _ _ _ h => h) (Or.inl ⟨by rfl, ?_⟩) hS ?_
    · intro wy hy
      clear hy
      go_simp
    simp only [Act.put, List.setIfInBounds_toArray, List.set_cons_zero, List.set_cons_succ]
    refine wpAnyH_take (i := 3) (oi := { dst := some 27, op := _, type := _, pos := _, after := _, guard := none }) (v := .pointer (some ⟨L, 0, none⟩)) rfl (by kernel_rfl) (by kernel_rfl) (by kernel_rfl) (fun _ _ _ h => h) (Or.inl ⟨by rfl, ?_⟩) hS ?_
    · intro wy hy
      clear hy
      go_simp
    simp only [Act.put, List.setIfInBounds_toArray, List.set_cons_zero, List.set_cons_succ]
    refine wpAnyH_take (i := 4) (oi := { dst := some 28, op := _, type := _, pos := _, after := _, guard := none }) (v := .pointer (some ⟨L, 0, none⟩)) rfl (by kernel_rfl) (by kernel_rfl) (by kernel_rfl) (fun _ _ _ h => h) (Or.inl ⟨by rfl, ?_⟩) hS ?_
    · intro wy hy
      clear hy
      go_simp
    simp only [Act.put, List.setIfInBounds_toArray, List.set_cons_zero, List.set_cons_succ]
    refine wpAnyH_take (i := 5) (oi := { dst := some 29, op := _, type := _, pos := _, after := _, guard := none }) (v := .pointer (some ⟨L, 0, none⟩)) rfl (by kernel_rfl) (by kernel_rfl) (by kernel_rfl) (fun _ _ _ h => h) (Or.inl ⟨by rfl, ?_⟩) hS ?_
    · intro wy hy
      clear hy
      go_simp
    simp only [Act.put, List.setIfInBounds_toArray, List.set_cons_zero, List.set_cons_succ]
    refine wpAnyH_take (i := 6) (oi := { dst := some 30, op := _, type := _, pos := _, after := _, guard := none }) (v := .pointer (some ⟨L, 9, none⟩)) rfl (by kernel_rfl) (by kernel_rfl) (by kernel_rfl) (fun _ _ _ h => h) (Or.inl ⟨by rfl, ?_⟩) hS ?_
    · intro wy hy
      clear hy
      go_simp
    simp only [Act.put, List.setIfInBounds_toArray, List.set_cons_zero, List.set_cons_succ]
    refine wpAnyH_take (i := 7) (oi := { dst := some 31, op := _, type := _, pos := _, after := _, guard := none }) (v := .int .i64 F) rfl (by kernel_rfl) (by kernel_rfl) (by kernel_rfl) (fun _ _ _ h => h) (Or.inl ⟨by rfl, ?_⟩) hS ?_
    · intro wy hy
      have h0 := hy
      clear hy
      go_simp
    simp only [Act.put, List.setIfInBounds_toArray, List.set_cons_zero, List.set_cons_succ]
    refine wpAnyH_ready (rs := [8]) (by kernel_rfl) (by simp) (AllReadyH.cons (o := { dst := some 32, op := _, type := _, pos := _, after := _, guard := none }) rfl (fun K hK => ?_) AllReadyH.nil)
    go_simp
    refine (backoff_any F _).mono ?_
    rintro e w1 ⟨rfl, rfl⟩
    refine hK.out _ _ hS (fun hS => ?_)
    clear hK K
    refine wpAnyH_ready (rs := [9]) (by kernel_rfl) (by simp) (AllReadyH.cons (o := { dst := some 33, op := _, type := _, pos := _, after := _, guard := none }) rfl (fun K hK => ?_) AllReadyH.nil)
    go_simp
    refine (enter_any { x with falls := F } c g L 5 (bkB F) _ (HX5.out.drew)).mono ?_
    rintro e w2 ⟨rfl, hX2, hb2⟩
    have HX2 := Hid.intro hX2
    clear hX2
    refine hK.out _ _ (by first | exact HX2.out.cell rfl | (simpa using HX2.out.cell (o := 9) (v := .int .i64 F) rfl)) (fun hS => ?_)
    clear hK K
    refine wpAnyH_done (by kernel_rfl) ?_ _
    clear hS
    have hB2 : Below L w w2 := hb5.trans ((Below.refl L w5).drew.trans hb2)
    clear hb2 hb5
    go_wp2_with fail
    go_ret
    rw [HR.out, HY.out]
    exact ⟨rfl, HX2.out, hB2⟩
  · have HF : Hid (flF x.falls = x.falls) := if_neg hf
    have hf' : 1000 ≤ x.falls := by omega
    have HX5 := HX
    have HY : Hid (dyR x = { x with state := 5, left := bkB x.falls }) := by show _ = _; unfold dyR; rw [HF.out]
    clear HF hf
    go_enter Try.func42, Try.ntmps42
    go_upto_region 5 with fail
    clear k8 k9 f9 h1 hf'
    refine wp_region_held_drew (S := fun wy => wy.cell? ⟨L, 9, none⟩ = some (.int .i64 x.falls)) (by kernel_rfl) ((by simpa using HX5.out.cell (o := 9) (v := .int .i64 x.falls) rfl)) (fun hS => ?_)
    refine wpAnyH_take (i := 0) (oi := { dst := some 24, op := _, type := _, pos := _, after := _, guard := none }) (v := .pointer (some ⟨L, 0, none⟩)) rfl (by kernel_rfl) (by kernel_rfl) (by kernel_rfl) (fun _ _ _ h => h) (Or.inl ⟨by rfl, ?_⟩) hS ?_
    · intro wy hy
      clear hy
      go_simp
    simp only [Act.put, List.setIfInBounds_toArray, List.set_cons_zero, List.set_cons_succ]
    refine wpAnyH_take (i := 1) (oi := { dst := some 25, op := _, type := _, pos := _, after := _, guard := none }) (v := .pointer (some ⟨L, 0, none⟩)) rfl (by kernel_rfl) (by kernel_rfl) (by kernel_rfl) (fun _ _ _ h => h) (Or.inl ⟨by rfl, ?_⟩) hS ?_
    · intro wy hy
      clear hy
      go_simp
    simp only [Act.put, List.setIfInBounds_toArray, List.set_cons_zero, List.set_cons_succ]
    refine wpAnyH_take (i := 2) (oi := { dst := some 26, op := _, type := _, pos := _, after := _, guard := none }) (v := .pointer (some ⟨L, 0, none⟩)) rfl (by kernel_rfl) (by kernel_rfl) (by kernel_rfl) (fun _ _ _ h => h) (Or.inl ⟨by rfl, ?_⟩) hS ?_
    · intro wy hy
      clear hy
      go_simp
    simp only [Act.put, List.setIfInBounds_toArray, List.set_cons_zero, List.set_cons_succ]
    refine wpAnyH_take (i := 3) (oi := { dst := some 27, op := _, type := _, pos := _, after := _, guard := none }) (v := .pointer (some ⟨L, 0, none⟩)) rfl (by kernel_rfl) (by kernel_rfl) (by kernel_rfl) (fun _ _ _ h => h) (Or.inl ⟨by rfl, ?_⟩) hS ?_
    · intro wy hy
      clear hy
      go_simp
    simp only [Act.put, List.setIfInBounds_toArray, List.set_cons_zero, List.set_cons_succ]
    refine wpAnyH_take (i := 4) (oi := { dst := some 28, op := _, type := _, pos := _, after := _, guard := none }) (v := .pointer (some ⟨L, 0, none⟩)) rfl (by kernel_rfl) (by kernel_rfl) (by kernel_rfl) (fun _ _ _ h => h) (Or.inl ⟨by rfl, ?_⟩) hS ?_
    · intro wy hy
      clear hy
      go_simp
    simp only [Act.put, List.setIfInBounds_toArray, List.set_cons_zero, List.set_cons_succ]
    refine wpAnyH_take (i := 5) (oi := { dst := some 29, op := _, type := _, pos := _, after := _, guard := none }) (v := .pointer (some ⟨L, 0, none⟩)) rfl (by kernel_rfl) (by kernel_rfl) (by kernel_rfl) (fun _ _ _ h => h) (Or.inl ⟨by rfl, ?_⟩) hS ?_
    · intro wy hy
      clear hy
      go_simp
    simp only [Act.put, List.setIfInBounds_toArray, List.set_cons_zero, List.set_cons_succ]
    refine wpAnyH_take (i := 6) (oi := { dst := some 30, op := _, type := _, pos := _, after := _, guard := none }) (v := .pointer (some ⟨L, 9, none⟩)) rfl (by kernel_rfl) (by kernel_rfl) (by kernel_rfl) (fun _ _ _ h => h) (Or.inl ⟨by rfl, ?_⟩) hS ?_
    · intro wy hy
      clear hy
      go_simp
    simp only [Act.put, List.setIfInBounds_toArray, List.set_cons_zero, List.set_cons_succ]
    refine wpAnyH_take (i := 7) (oi := { dst := some 31, op := _, type := _, pos := _, after := _, guard := none }) (v := .int .i64 x.falls) rfl (by kernel_rfl) (by kernel_rfl) (by kernel_rfl) (fun _ _ _ h => h) (Or.inl ⟨by rfl, ?_⟩) hS ?_
    · intro wy hy
      have h0 := hy
      clear hy
      go_simp
    simp only [Act.put, List.setIfInBounds_toArray, List.set_cons_zero, List.set_cons_succ]
    refine wpAnyH_ready (rs := [8]) (by kernel_rfl) (by simp) (AllReadyH.cons (o := { dst := some 32, op := _, type := _, pos := _, after := _, guard := none }) rfl (fun K hK => ?_) AllReadyH.nil)
    go_simp
    refine (backoff_any x.falls _).mono ?_
    rintro e w1 ⟨rfl, rfl⟩
    refine hK.out _ _ hS (fun hS => ?_)
    clear hK K
    refine wpAnyH_ready (rs := [9]) (by kernel_rfl) (by simp) (AllReadyH.cons (o := { dst := some 33, op := _, type := _, pos := _, after := _, guard := none }) rfl (fun K hK => ?_) AllReadyH.nil)
    go_simp
    refine (enter_any x c g L 5 (bkB x.falls) _ (HX5.out.drew)).mono ?_
    rintro e w2 ⟨rfl, hX2, hb2⟩
    have HX2 := Hid.intro hX2
    clear hX2
    refine hK.out _ _ (by first | exact HX2.out.cell rfl | (simpa using HX2.out.cell (o := 9) (v := .int .i64 x.falls) rfl)) (fun hS => ?_)
    clear hK K
    refine wpAnyH_done (by kernel_rfl) ?_ _
    clear hS
    have hB2 : Below L w w2 := (Below.refl L w).drew.trans hb2
    clear hb2
    go_wp2_with fail
    go_ret
    rw [HR.out, HY.out]
    exact ⟨rfl, HX2.out, hB2⟩

/-- the steps, by their state -/
abbrev stV : Array Value := #[.func (.func 31) #[] #[], .func (.func 32) #[] #[], .func (.func 33) #[] #[], .func (.func 34) #[] #[], .func (.func 35) #[] #[], .func (.func 36) #[] #[], .func (.func 26) #[] #[]]
def stF (s : Int) : Nat := if s = 1 then 32 else if s = 2 then 33 else if s = 3 then 34 else if s = 4 then 35 else if s = 5 then 36 else if s = 6 then 26 else 31

theorem isz_St : (Try.prog.info? 62).map (·.size) = some 7 := by kernel_rfl

set_option maxHeartbeats 1000000 in
theorem steps_any (w : World) :
    Calls Try.prog 25 #[] w fun e w' => e = .returned (.agg stV) ∧ Below w.heap.size w w' := by
  go_enter Try.func25, Try.ntmps25
  have hza : Blk w.heap.size #[.nilFunc, .nilFunc, .nilFunc, .nilFunc, .nilFunc, .nilFunc, .nilFunc] 62 (w.alloc (Obj.cells #[.nilFunc, .nilFunc, .nilFunc, .nilFunc, .nilFunc, .nilFunc, .nilFunc] 62)) := Blk.alloc _ _ _
  have HTS : Hid ((w.alloc (Obj.cells #[.nilFunc, .nilFunc, .nilFunc, .nilFunc, .nilFunc, .nilFunc, .nilFunc] 62)).there w.heap.size 0 7) := hza.there
  obtain ⟨w4, HW4⟩ : ∃ w4, Hid (w4 = (w.alloc (Obj.cells #[.nilFunc, .nilFunc, .nilFunc, .nilFunc, .nilFunc, .nilFunc, .nilFunc] 62)).setCells w.heap.size 0 stV.toList) := ⟨_, rfl⟩
  have HK4 : Hid (Blk w.heap.size stV 62 w4) := by
    show Blk _ _ _ _
    rw [HW4.out]
    exact hza.setAll stV rfl
  have hbx : Below w.heap.size w w4 := by
    rw [HW4.out]
    exact below_setCells (Nat.le_refl _) _ _ _ ((Below.refl _ w).alloc (Nat.le_refl _) _)
  clear hza
  go_wp2_with (first | (refine wpList_store_to rfl 62 _ _ rfl w.heap.size 0 stV rfl rfl HTS.out isz_St (by simp [Value.oneCell']) w4 HW4.out ?_))
  exact bodyPost_ret (results_cell_mid rfl _ _ w.heap.size stV.toList _ rfl HK4.out.rangeA Try.underlying62 rfl isz_St) rfl ⟨rfl, hbx⟩

set_option maxHeartbeats 2000000 in
set_option maxRecDepth 100000 in
theorem stepOf_any (s : Int) (w : World) :
    Calls Try.prog 19 #[.int .i64 s] w fun e w' => e = .returned (.func (.func (stF s)) #[] #[]) ∧ Below w.heap.size w w' := by
  have hi0 : ∀ w, (Instr.index 62 (.agg stV) (.int .i64 0)).run Try.prog w = .ok (.func (.func 31) #[] #[]) w := fun w => by kernel_rfl
  have hi1 : ∀ w, (Instr.index 62 (.agg stV) (.int .i64 1)).run Try.prog w = .ok (.func (.func 32) #[] #[]) w := fun w => by kernel_rfl
  have hi2 : ∀ w, (Instr.index 62 (.agg stV) (.int .i64 2)).run Try.prog w = .ok (.func (.func 33) #[] #[]) w := fun w => by kernel_rfl
  have hi3 : ∀ w, (Instr.index 62 (.agg stV) (.int .i64 3)).run Try.prog w = .ok (.func (.func 34) #[] #[]) w := fun w => by kernel_rfl
  have hi4 : ∀ w, (Instr.index 62 (.agg stV) (.int .i64 4)).run Try.prog w = .ok (.func (.func 35) #[] #[]) w := fun w => by kernel_rfl
  have hi5 : ∀ w, (Instr.index 62 (.agg stV) (.int .i64 5)).run Try.prog w = .ok (.func (.func 36) #[] #[]) w := fun w => by kernel_rfl
  have hi6 : ∀ w, (Instr.index 62 (.agg stV) (.int .i64 6)).run Try.prog w = .ok (.func (.func 26) #[] #[]) w := fun w => by kernel_rfl
  by_cases hs : s = 1 ∨ s = 2 ∨ s = 3 ∨ s = 4 ∨ s = 5 ∨ s = 6
  · rcases hs with rfl | rfl | rfl | rfl | rfl | rfl
    all_goals
      go_enter Try.func19, Try.ntmps19
      go_wp2_with fail
      refine (known_any _ _).mono ?_
      rintro e w1 ⟨rfl, rfl⟩
      rw [inR_yes (by omega) (by omega)]
      go_wp2_with fail
      refine (steps_any _).mono ?_
      rintro e w2 ⟨rfl, hb2⟩
      go_wp2_with fail
      go_ret
      exact ⟨rfl, hb2⟩
  · have HC : Hid (stF s = 31) := by
      show _ = _
      unfold stF
      rw [if_neg (by omega), if_neg (by omega), if_neg (by omega), if_neg (by omega), if_neg (by omega), if_neg (by omega)]
    have HI : Hid (inR s 1 6 = false) := by
      by_cases h : s < 1
      · exact inR_lo h
      · exact inR_hi (by omega)
    clear hs
    go_enter Try.func19, Try.ntmps19
    go_wp2_with fail
    refine (known_any _ _).mono ?_
    rintro e w1 ⟨rfl, rfl⟩
    rw [HI.out]
    go_wp2_with fail
    refine (steps_any _).mono ?_
    rintro e w2 ⟨rfl, hb2⟩
    go_wp2_with fail
    go_ret
    rw [HC.out]
    exact ⟨rfl, hb2⟩

/-- a step: what comes next, the run, whether it is gone -/
def stp (f : Nat) (x : Rn) (c : Int) (g : Bool) : Option Nat × Rn × Bool :=
  if f = 31 then (nxt x none, ctR x, g)
  else if f = 32 then (nxt x (some 33), ctR x, g)
  else if f = 34 then (nxt x (some 41), ctR x, g)
  else if f = 35 then (nxt x (some 42), ctR x, g)
  else if f = 36 then (nxt x (some 33), ctR x, g)
  else if f = 26 then (nxt x (some 29), ctR x, g)
  else if f = 33 then (none, bgR x c, g)
  else if f = 41 then (none, { x with state := 4, left := x.want.dies }, g)
  else if f = 42 then (none, dieR x, g)
  else if f = 29 then (none, x, true)
  else (unN x, unR x, g)

/-- the steps that there are -/
def isStp (f : Nat) : Prop := f = 31 ∨ f = 32 ∨ f = 34 ∨ f = 35 ∨ f = 36 ∨ f = 26 ∨ f = 33 ∨ f = 41 ∨ f = 42 ∨ f = 29 ∨ f = 20

/-- how many steps may come yet -/
def rnk (f : Nat) : Nat := if f = 20 then 3 else if f = 33 ∨ f = 41 ∨ f = 42 ∨ f = 29 then 1 else 2
def rnkO : Option Nat → Nat
  | none => 0
  | some f => rnk f

theorem nxt_cases (x : Rn) (f : Option Nat) : nxt x f = none ∨ nxt x f = f := by
  unfold nxt
  split
  · exact .inl rfl
  · exact .inr rfl

theorem un_cases (x : Rn) : unN x = some 26 ∨ unN x = none ∨ unN x = some 29 := by
  unfold unN
  split
  · exact .inl rfl
  · split
    · exact .inr (.inl rfl)
    · exact .inr (.inr rfl)

theorem stp_rnk {f : Nat} (hf : isStp f) (x : Rn) (c : Int) (g : Bool) : rnkO (stp f x c g).1 < rnk f ∧ ∀ f', (stp f x c g).1 = some f' → isStp f' := by
  rcases hf with rfl | rfl | rfl | rfl | rfl | rfl | rfl | rfl | rfl | rfl | rfl
  · have e : (stp 31 x c g).1 = nxt x none := rfl
    rw [e]
    rcases nxt_cases x none with h | h <;> rw [h] <;> exact ⟨by decide, fun f' h => by cases h⟩
  · have e : (stp 32 x c g).1 = nxt x (some 33) := rfl
    rw [e]
    rcases nxt_cases x (some 33) with h | h <;> rw [h]
    · exact ⟨by decide, fun f' h => by cases h⟩
    · exact ⟨by decide, fun f' h => by cases h; unfold isStp; decide⟩
  · have e : (stp 34 x c g).1 = nxt x (some 41) := rfl
    rw [e]
    rcases nxt_cases x (some 41) with h | h <;> rw [h]
    · exact ⟨by decide, fun f' h => by cases h⟩
    · exact ⟨by decide, fun f' h => by cases h; unfold isStp; decide⟩
  · have e : (stp 35 x c g).1 = nxt x (some 42) := rfl
    rw [e]
    rcases nxt_cases x (some 42) with h | h <;> rw [h]
    · exact ⟨by decide, fun f' h => by cases h⟩
    · exact ⟨by decide, fun f' h => by cases h; unfold isStp; decide⟩
  · have e : (stp 36 x c g).1 = nxt x (some 33) := rfl
    rw [e]
    rcases nxt_cases x (some 33) with h | h <;> rw [h]
    · exact ⟨by decide, fun f' h => by cases h⟩
    · exact ⟨by decide, fun f' h => by cases h; unfold isStp; decide⟩
  · have e : (stp 26 x c g).1 = nxt x (some 29) := rfl
    rw [e]
    rcases nxt_cases x (some 29) with h | h <;> rw [h]
    · exact ⟨by decide, fun f' h => by cases h⟩
    · exact ⟨by decide, fun f' h => by cases h; unfold isStp; decide⟩
  · exact ⟨show 0 < _ by decide, fun f' h => by cases h⟩
  · exact ⟨show 0 < _ by decide, fun f' h => by cases h⟩
  · exact ⟨show 0 < _ by decide, fun f' h => by cases h⟩
  · exact ⟨show 0 < _ by decide, fun f' h => by cases h⟩
  · have e : (stp 20 x c g).1 = unN x := rfl
    rw [e]
    rcases un_cases x with h | h | h <;> rw [h]
    · exact ⟨by decide, fun f' h => by cases h; unfold isStp; decide⟩
    · exact ⟨by decide, fun f' h => by cases h⟩
    · exact ⟨by decide, fun f' h => by cases h; unfold isStp; decide⟩

theorem stp_any {f : Nat} (hf : isStp f) (x : Rn) (c : Int) (g : Bool) (L : Nat) (w : World) (hX : Blk L (lifeA x c g) 43 w) :
    Calls Try.prog f #[.pointer (some ⟨L, 0, none⟩)] w fun e w' => e = .returned (fv (stp f x c g).1) ∧ Blk L (lifeA (stp f x c g).2.1 c (stp f x c g).2.2) 43 w' ∧ Below L w w' := by
  rcases hf with rfl | rfl | rfl | rfl | rfl | rfl | rfl | rfl | rfl | rfl | rfl
  · exact mateOther_any x c g L w hX
  · exact matePull_any x c g L w hX
  · exact mateStart_any x c g L w hX
  · exact mateServe_any x c g L w hX
  · exact mateBackOff_any x c g L w hX
  · exact mateStop_any x c g L w hX
  · exact mateBegin_any x c g L w hX
  · exact mateGetReady_any x c g L w hX
  · exact mateDie_any x c g L w hX
  · exact mateGo_any x c g L w hX
  · exact mateUnwanted_any x c g L w hX

theorem stp_enters {f : Nat} (hf : isStp f) : ∀ args w, (callFunc f args).run Try.prog w = .ok (.enter f args) w := by
  rcases hf with rfl | rfl | rfl | rfl | rfl | rfl | rfl | rfl | rfl | rfl | rfl
  · exact enters_of Try.func31 (by kernel_rfl) rfl
  · exact enters_of Try.func32 (by kernel_rfl) rfl
  · exact enters_of Try.func34 (by kernel_rfl) rfl
  · exact enters_of Try.func35 (by kernel_rfl) rfl
  · exact enters_of Try.func36 (by kernel_rfl) rfl
  · exact enters_of Try.func26 (by kernel_rfl) rfl
  · exact enters_of Try.func33 (by kernel_rfl) rfl
  · exact enters_of Try.func41 (by kernel_rfl) rfl
  · exact enters_of Try.func42 (by kernel_rfl) rfl
  · exact enters_of Try.func29 (by kernel_rfl) rfl
  · exact enters_of Try.func20 (by kernel_rfl) rfl

theorem stF_is (s : Int) : isStp (stF s) := by
  unfold stF
  split
  · unfold isStp; decide
  · split
    · unfold isStp; decide
    · split
      · unfold isStp; decide
      · split
        · unfold isStp; decide
        · split
          · unfold isStp; decide
          · split
            · unfold isStp; decide
            · unfold isStp; decide

/-- all steps of a tick -/
def runS (c : Int) : Nat → Option Nat → Rn → Bool → Rn × Bool
  | _, none, x, g => (x, g)
  | 0, some _, x, g => (x, g)
  | n + 1, some f, x, g => runS c n (stp f x c g).1 (stp f x c g).2.1 (stp f x c g).2.2

theorem runS_more (c : Int) : ∀ (n m : Nat) (st : Option Nat) (x : Rn) (g : Bool), rnkO st ≤ n → n ≤ m → (∀ f, st = some f → isStp f) → runS c m st x g = runS c n st x g
  | n, m, none, x, g, _, _, _ => by cases n <;> cases m <;> rfl
  | 0, m, some f, x, g, h, _, hf => by
    have := (stp_rnk (hf f rfl) x c g).1
    have h : rnk f ≤ 0 := h
    omega
  | n + 1, 0, some f, x, g, _, h, _ => by omega
  | n + 1, m + 1, some f, x, g, h, hm, hf => by
    have hs := stp_rnk (hf f rfl) x c g
    have h : rnk f ≤ n + 1 := h
    show runS c m _ _ _ = runS c n _ _ _
    exact runS_more c n m _ _ _ (by omega) (by omega) hs.2

/-- the first step of a tick -/
def fst1 (x : Rn) (wanted : Bool) : Nat := if wanted = true then stF x.state else 20
def rnkV : Value → Nat
  | .func (.func f) _ _ => rnk f
  | _ => 0

theorem rnkV_fv (st : Option Nat) : rnkV (fv st) = rnkO st := by cases st <;> rfl

set_option maxHeartbeats 2000000 in
set_option maxRecDepth 100000 in
theorem tick_any (x : Rn) (c : Int) (g : Bool) (L : Nat) (wanted : Bool) (w : World) (hX : Blk L (lifeA x c g) 43 w) :
    Calls Try.prog 13 #[.pointer (some ⟨L, 0, none⟩), .bool wanted] w fun e w' => e = .returned (.tuple #[]) ∧ Blk L (lifeA (runS c 3 (some (fst1 x wanted)) x g).1 c (runS c 3 (some (fst1 x wanted)) x g).2) 43 w' ∧ Below L w w' := by
  have HX := Hid.intro hX
  have k7 : w.cell? ⟨L, 7, none⟩ = some (.int .i64 x.state) := hX.cell rfl
  clear hX
  have HF : Hid (isStp (fst1 x wanted)) := by
    show isStp _
    unfold fst1
    split
    · exact stF_is _
    · unfold isStp; decide
  have HV : Hid (fst1 x wanted = if wanted = true then stF x.state else 20) := rfl
  obtain ⟨FIN, hfin⟩ : ∃ r, r = runS c 3 (some (fst1 x wanted)) x g := ⟨_, rfl⟩
  have HFIN := Hid.intro hfin
  rw [← hfin]
  clear hfin
  have hq0 : ∀ w, (binOp .neq 56 .nilFunc .nilFunc).run Try.prog w = .ok (.bool false) w := fun w => by kernel_rfl
  have hq1 : ∀ (f : Nat) w, (binOp .neq 56 (.func (.func f) #[] #[]) .nilFunc).run Try.prog w = .ok (.bool true) w := fun f w => by kernel_rfl
  go_enter Try.func13, Try.ntmps13
  go_wp2_with fail
  refine (stepOf_any x.state _).mono ?_
  rintro e w1 ⟨rfl, hb1⟩
  have HX1 := Hid.intro (HX.out.below hb1 HX.out.lt)
  have hB1 : Below L w w1 := hb1.mono (Nat.le_of_lt HX.out.lt)
  clear hb1 k7 HX
  generalize fst1 x wanted = f0 at *
  cases wanted with
  | true =>
    rw [if_pos rfl] at HV
    rw [← HV.out]
    clear HV
    go_wp2_with fail
    go_loopw [4] (fun v wr => ∃ (n : Nat) (st : Option Nat) (y : Rn) (h : Bool), v = fv st ∧ Hid (Blk L (lifeA y c h) 43 wr) ∧ Below L w wr ∧ Hid (rnkO st ≤ n ∧ (∀ f, st = some f → isStp f) ∧ runS c n st y h = FIN)) (fun v _ => rnkV v)
    case atStart => exact ⟨3, some f0, x, g, rfl, HX1, hB1, by show rnk _ ≤ 3; unfold rnk; split <;> (try split) <;> decide, fun f hf => by cases hf; exact HF.out, HFIN.out.symm⟩
    case round =>
      clear HX1 hB1
      obtain ⟨n, st, y, h, rfl, HXr, hBr, HR⟩ := hrel
      cases st with
      | none =>
        have HE : Hid ((y, h) = FIN) := by have := HR.out.2.2; cases n <;> exact this
        simp only [fv]
        go_wp2_with fail
        have e1 : y = FIN.1 := by rw [← HE.out]
        have e2 : h = FIN.2 := by rw [← HE.out]
        rw [← e1, ← e2]
        exact bodyPost_end (results_none rfl _ _ _) rfl ⟨rfl, HXr.out, hBr⟩
      | some f =>
        have hf := HR.out.2.1 f rfl
        have HS := Hid.intro (stp_any hf y c h L wr HXr.out)
        have HK := Hid.intro (stp_rnk hf y c h)
        have heg := stp_enters hf
        have HR2 : Hid (runS c (n - 1) (stp f y c h).1 (stp f y c h).2.1 (stp f y c h).2.2 = FIN ∧ rnkO (stp f y c h).1 ≤ n - 1) := by
          have h0 : rnk f ≤ n := HR.out.1
          have h1 := HK.out.1
          obtain ⟨m, rfl⟩ : ∃ m, n = m + 1 := ⟨n - 1, by omega⟩
          exact ⟨HR.out.2.2, by simp; omega⟩
        clear hf HR
        generalize stp f y c h = r at *
        simp only [fv]
        go_wp2_with fail
        refine HS.out.mono ?_
        rintro e w3 ⟨rfl, hX3, hb3⟩
        have HX3 := Hid.intro hX3
        have hB3 := hBr.trans hb3
        clear hX3 hb3 HS heg
        generalize hv : fv r.1 = v
        have HVV := Hid.intro hv
        clear hv
        go_wp2_with fail
        go_roundw
        case rel => exact ⟨n - 1, r.1, r.2.1, r.2.2, HVV.out.symm, HX3, hB3, HR2.out.2, HK.out.2, HR2.out.1⟩
        case measure =>
          rw [← HVV.out, rnkV_fv]
          exact HK.out.1
  | false =>
    rw [if_neg (by simp)] at HV
    go_wp2_with fail
    rw [← HV.out]
    clear HV
    go_loopw [4] (fun v wr => ∃ (n : Nat) (st : Option Nat) (y : Rn) (h : Bool), v = fv st ∧ Hid (Blk L (lifeA y c h) 43 wr) ∧ Below L w wr ∧ Hid (rnkO st ≤ n ∧ (∀ f, st = some f → isStp f) ∧ runS c n st y h = FIN)) (fun v _ => rnkV v)
    case atStart => exact ⟨3, some f0, x, g, rfl, HX1, hB1, by show rnk _ ≤ 3; unfold rnk; split <;> (try split) <;> decide, fun f hf => by cases hf; exact HF.out, HFIN.out.symm⟩
    case round =>
      clear HX1 hB1
      obtain ⟨n, st, y, h, rfl, HXr, hBr, HR⟩ := hrel
      cases st with
      | none =>
        have HE : Hid ((y, h) = FIN) := by have := HR.out.2.2; cases n <;> exact this
        simp only [fv]
        go_wp2_with fail
        have e1 : y = FIN.1 := by rw [← HE.out]
        have e2 : h = FIN.2 := by rw [← HE.out]
        rw [← e1, ← e2]
        exact bodyPost_end (results_none rfl _ _ _) rfl ⟨rfl, HXr.out, hBr⟩
      | some f =>
        have hf := HR.out.2.1 f rfl
        have HS := Hid.intro (stp_any hf y c h L wr HXr.out)
        have HK := Hid.intro (stp_rnk hf y c h)
        have heg := stp_enters hf
        have HR2 : Hid (runS c (n - 1) (stp f y c h).1 (stp f y c h).2.1 (stp f y c h).2.2 = FIN ∧ rnkO (stp f y c h).1 ≤ n - 1) := by
          have h0 : rnk f ≤ n := HR.out.1
          have h1 := HK.out.1
          obtain ⟨m, rfl⟩ : ∃ m, n = m + 1 := ⟨n - 1, by omega⟩
          exact ⟨HR.out.2.2, by simp; omega⟩
        clear hf HR
        generalize stp f y c h = r at *
        simp only [fv]
        go_wp2_with fail
        refine HS.out.mono ?_
        rintro e w3 ⟨rfl, hX3, hb3⟩
        have HX3 := Hid.intro hX3
        have hB3 := hBr.trans hb3
        clear hX3 hb3 HS heg
        generalize hv : fv r.1 = v
        have HVV := Hid.intro hv
        clear hv
        go_wp2_with fail
        go_roundw
        case rel => exact ⟨n - 1, r.1, r.2.1, r.2.2, HVV.out.symm, HX3, hB3, HR2.out.2, HK.out.2, HR2.out.1⟩
        case measure =>
          rw [← HVV.out, rnkV_fv]
          exact HK.out.1

end Go.Proofs.Ytalnkbocfhhjkaa
