/-
  Steps of a run, by the program. Made by mkml1.py.
-/
import Derived.Test.YtalnkbocfhhjkaaMt4
import Derived.Test.YtalnkbocfhhjkaaBls
namespace Go.Proofs.Ytalnkbocfhhjkaa
open Go.RowKit

/-- a run in a tick, as cells -/
abbrev lifeA (x : Rn) (c : Int) (g : Bool) : Array Value := #[.string x.want.copy, .int .i64 x.want.version, .string x.want.hold, .int .i64 x.want.pull, .int .i64 x.want.start, .int .i64 x.want.dies, .int .i64 x.want.grace, .int .i64 x.state, .int .i64 x.left, .int .i64 x.falls, .int .i64 x.until_, .int .i64 c, .bool g]

theorem Blk.sub11 {L : Nat} {x : Rn} {c : Int} {g : Bool} {t : TypeId} {w : World} (h : Blk L (lifeA x c g) t w) : w.rangeAt L 0 [.string x.want.copy, .int .i64 x.want.version, .string x.want.hold, .int .i64 x.want.pull, .int .i64 x.want.start, .int .i64 x.want.dies, .int .i64 x.want.grace, .int .i64 x.state, .int .i64 x.left, .int .i64 x.falls, .int .i64 x.until_] := fun j v hj => by
  have hl : j < 11 := lt_of_some hj
  have := h.rangeA j v
  refine this ?_
  show ([.string x.want.copy, .int .i64 x.want.version, .string x.want.hold, .int .i64 x.want.pull, .int .i64 x.want.start, .int .i64 x.want.dies, .int .i64 x.want.grace, .int .i64 x.state, .int .i64 x.left, .int .i64 x.falls, .int .i64 x.until_] ++ [.int .i64 c, .bool g])[j]? = some v
  rw [List.getElem?_append_left (by simpa using hl)]
  exact hj

theorem below_set1 (L o : Nat) (w : World) (v : Value) : Below L w (w.setCell ⟨L, o, none⟩ v) := (Below.refl L w).setCell (p := ⟨L, o, none⟩) (Nat.le_refl L) v
theorem below_set2 (L o p : Nat) (w : World) (v u : Value) : Below L w ((w.setCell ⟨L, o, none⟩ v).setCell ⟨L, p, none⟩ u) := (below_set1 L o w v).setCell (p := ⟨L, p, none⟩) (Nat.le_refl L) u

set_option maxHeartbeats 1000000 in
theorem enter_any (x : Rn) (c : Int) (g : Bool) (L : Nat) (s l : Int) (w : World) (hX : Blk L (lifeA x c g) 43 w) :
    Calls Try.prog 28 #[.pointer (some ⟨L, 0, none⟩), .int .i64 s, .int .i64 l] w fun e w' => e = .returned (.tuple #[]) ∧ Blk L (lifeA { x with state := s, left := l } c g) 43 w' ∧ Below L w w' := by
  have HX := Hid.intro hX
  have k7 : w.cell? ⟨L, 7, none⟩ = some (.int .i64 x.state) := hX.cell rfl
  have k8 : w.cell? ⟨L, 8, none⟩ = some (.int .i64 x.left) := hX.cell rfl
  have f7 : w.frozen? ⟨L, 7, none⟩ = false := hX.frozen _
  have f8 : w.frozen? ⟨L, 8, none⟩ = false := hX.frozen _
  clear hX
  go_enter Try.func28, Try.ntmps28
  go_wp2_with fail
  exact bodyPost_end (results_none rfl _ _ _) rfl ⟨rfl, (HX.out.set 7 (.int .i64 s)).set 8 (.int .i64 l), below_set2 _ _ _ _ _ _⟩

/-- one tick less -/
def ctR (x : Rn) : Rn := if 1 < x.left then { x with left := wrap64 (x.left - 1) } else x
/-- what comes next when no tick is left -/
def nxt (x : Rn) (f : Option Nat) : Option Nat := if 1 < x.left then none else f
/-- a step as a value -/
def fv : Option Nat → Value
  | none => .nilFunc
  | some f => .func (.func f) #[] #[]

set_option maxHeartbeats 1000000 in
theorem count_any (x : Rn) (c : Int) (g : Bool) (L : Nat) (f : Option Nat) (w : World) (hX : Blk L (lifeA x c g) 43 w) :
    Calls Try.prog 37 #[.pointer (some ⟨L, 0, none⟩), fv f] w fun e w' => e = .returned (fv (nxt x f)) ∧ Blk L (lifeA (ctR x) c g) 43 w' ∧ Below L w w' := by
  have HX := Hid.intro hX
  have k8 : w.cell? ⟨L, 8, none⟩ = some (.int .i64 x.left) := hX.cell rfl
  have f8 : w.frozen? ⟨L, 8, none⟩ = false := hX.frozen _
  clear hX
  generalize hth : fv f = th
  have HTH := Hid.intro hth
  clear hth
  by_cases h : 1 < x.left
  · have HC : Hid (ctR x = { x with left := wrap64 (x.left - 1) }) := if_pos h
    have HN : Hid (nxt x f = none) := if_pos h
    go_enter Try.func37, Try.ntmps37
    go_wp2_with fail
    go_ret
    rw [HC.out, HN.out]
    exact ⟨rfl, HX.out.set 8 _, below_set1 _ _ _ _⟩
  · have h' : x.left ≤ 1 := by omega
    have HC : Hid (ctR x = x) := if_neg h
    have HN : Hid (nxt x f = f) := if_neg h
    clear h
    go_enter Try.func37, Try.ntmps37
    go_wp2_with fail
    go_ret
    rw [HC.out, HN.out, HTH.out]
    exact ⟨rfl, HX.out, Below.refl _ _⟩

set_option maxHeartbeats 1000000 in
theorem mateOther_any (x : Rn) (c : Int) (g : Bool) (L : Nat) (w : World) (hX : Blk L (lifeA x c g) 43 w) :
    Calls Try.prog 31 #[.pointer (some ⟨L, 0, none⟩)] w fun e w' => e = .returned (fv (nxt x (none))) ∧ Blk L (lifeA (ctR x) c g) 43 w' ∧ Below L w w' := by
  have HX := Hid.intro hX
  clear hX
  go_enter Try.func31, Try.ntmps31
  go_wp2_with fail
  refine (count_any x c g L (none) _ HX.out).mono ?_
  rintro e w1 ⟨rfl, hX1, hb1⟩
  have HX1 := Hid.intro hX1
  clear hX1
  generalize hv : fv (nxt x (none)) = v
  have HV := Hid.intro hv
  clear hv
  go_wp2_with fail
  go_ret
  rw [HV.out]
  exact ⟨rfl, HX1.out, hb1⟩

set_option maxHeartbeats 1000000 in
theorem matePull_any (x : Rn) (c : Int) (g : Bool) (L : Nat) (w : World) (hX : Blk L (lifeA x c g) 43 w) :
    Calls Try.prog 32 #[.pointer (some ⟨L, 0, none⟩)] w fun e w' => e = .returned (fv (nxt x (some 33))) ∧ Blk L (lifeA (ctR x) c g) 43 w' ∧ Below L w w' := by
  have HX := Hid.intro hX
  clear hX
  go_enter Try.func32, Try.ntmps32
  go_wp2_with fail
  refine (count_any x c g L (some 33) _ HX.out).mono ?_
  rintro e w1 ⟨rfl, hX1, hb1⟩
  have HX1 := Hid.intro hX1
  clear hX1
  generalize hv : fv (nxt x (some 33)) = v
  have HV := Hid.intro hv
  clear hv
  go_wp2_with fail
  go_ret
  rw [HV.out]
  exact ⟨rfl, HX1.out, hb1⟩

set_option maxHeartbeats 1000000 in
theorem mateStart_any (x : Rn) (c : Int) (g : Bool) (L : Nat) (w : World) (hX : Blk L (lifeA x c g) 43 w) :
    Calls Try.prog 34 #[.pointer (some ⟨L, 0, none⟩)] w fun e w' => e = .returned (fv (nxt x (some 41))) ∧ Blk L (lifeA (ctR x) c g) 43 w' ∧ Below L w w' := by
  have HX := Hid.intro hX
  clear hX
  go_enter Try.func34, Try.ntmps34
  go_wp2_with fail
  refine (count_any x c g L (some 41) _ HX.out).mono ?_
  rintro e w1 ⟨rfl, hX1, hb1⟩
  have HX1 := Hid.intro hX1
  clear hX1
  generalize hv : fv (nxt x (some 41)) = v
  have HV := Hid.intro hv
  clear hv
  go_wp2_with fail
  go_ret
  rw [HV.out]
  exact ⟨rfl, HX1.out, hb1⟩

set_option maxHeartbeats 1000000 in
theorem mateServe_any (x : Rn) (c : Int) (g : Bool) (L : Nat) (w : World) (hX : Blk L (lifeA x c g) 43 w) :
    Calls Try.prog 35 #[.pointer (some ⟨L, 0, none⟩)] w fun e w' => e = .returned (fv (nxt x (some 42))) ∧ Blk L (lifeA (ctR x) c g) 43 w' ∧ Below L w w' := by
  have HX := Hid.intro hX
  clear hX
  go_enter Try.func35, Try.ntmps35
  go_wp2_with fail
  refine (count_any x c g L (some 42) _ HX.out).mono ?_
  rintro e w1 ⟨rfl, hX1, hb1⟩
  have HX1 := Hid.intro hX1
  clear hX1
  generalize hv : fv (nxt x (some 42)) = v
  have HV := Hid.intro hv
  clear hv
  go_wp2_with fail
  go_ret
  rw [HV.out]
  exact ⟨rfl, HX1.out, hb1⟩

set_option maxHeartbeats 1000000 in
theorem mateBackOff_any (x : Rn) (c : Int) (g : Bool) (L : Nat) (w : World) (hX : Blk L (lifeA x c g) 43 w) :
    Calls Try.prog 36 #[.pointer (some ⟨L, 0, none⟩)] w fun e w' => e = .returned (fv (nxt x (some 33))) ∧ Blk L (lifeA (ctR x) c g) 43 w' ∧ Below L w w' := by
  have HX := Hid.intro hX
  clear hX
  go_enter Try.func36, Try.ntmps36
  go_wp2_with fail
  refine (count_any x c g L (some 33) _ HX.out).mono ?_
  rintro e w1 ⟨rfl, hX1, hb1⟩
  have HX1 := Hid.intro hX1
  clear hX1
  generalize hv : fv (nxt x (some 33)) = v
  have HV := Hid.intro hv
  clear hv
  go_wp2_with fail
  go_ret
  rw [HV.out]
  exact ⟨rfl, HX1.out, hb1⟩

set_option maxHeartbeats 1000000 in
theorem mateStop_any (x : Rn) (c : Int) (g : Bool) (L : Nat) (w : World) (hX : Blk L (lifeA x c g) 43 w) :
    Calls Try.prog 26 #[.pointer (some ⟨L, 0, none⟩)] w fun e w' => e = .returned (fv (nxt x (some 29))) ∧ Blk L (lifeA (ctR x) c g) 43 w' ∧ Below L w w' := by
  have HX := Hid.intro hX
  clear hX
  go_enter Try.func26, Try.ntmps26
  go_wp2_with fail
  refine (count_any x c g L (some 29) _ HX.out).mono ?_
  rintro e w1 ⟨rfl, hX1, hb1⟩
  have HX1 := Hid.intro hX1
  clear hX1
  generalize hv : fv (nxt x (some 29)) = v
  have HV := Hid.intro hv
  clear hv
  go_wp2_with fail
  go_ret
  rw [HV.out]
  exact ⟨rfl, HX1.out, hb1⟩

set_option maxHeartbeats 1000000 in
theorem mateGo_any (x : Rn) (c : Int) (g : Bool) (L : Nat) (w : World) (hX : Blk L (lifeA x c g) 43 w) :
    Calls Try.prog 29 #[.pointer (some ⟨L, 0, none⟩)] w fun e w' => e = .returned .nilFunc ∧ Blk L (lifeA x c true) 43 w' ∧ Below L w w' := by
  have HX := Hid.intro hX
  have k12 : w.cell? ⟨L, 12, none⟩ = some (.bool g) := hX.cell rfl
  have f12 : w.frozen? ⟨L, 12, none⟩ = false := hX.frozen _
  clear hX
  go_enter Try.func29, Try.ntmps29
  go_wp2_with fail
  go_ret
  exact ⟨rfl, HX.out.set 12 (.bool true), below_set1 _ _ _ _⟩

/-- how long what has died waits -/
def bkB (f : Int) : Int := if f ≤ 0 then 1 else if f = 1 then 2 else if f = 2 then 4 else if f = 3 then 8 else 16
def pw : Nat → Int
  | 0 => 1
  | 1 => 2
  | 2 => 4
  | 3 => 8
  | _ => 16

theorem bk_end {f : Int} {k : Nat} (hk : k ≤ 4) (h : k = 0 ∨ (k : Int) ≤ f) (he : ¬ (k : Int) < f ∨ k = 4) : bkB f = pw k := by
  have hc : k = 0 ∨ k = 1 ∨ k = 2 ∨ k = 3 ∨ k = 4 := by omega
  rcases hc with rfl | rfl | rfl | rfl | rfl
  · unfold bkB; rw [if_pos (by omega)]; rfl
  · unfold bkB; rw [if_neg (by omega), if_pos (by omega)]; rfl
  · unfold bkB; rw [if_neg (by omega), if_neg (by omega), if_pos (by omega)]; rfl
  · unfold bkB; rw [if_neg (by omega), if_neg (by omega), if_neg (by omega), if_pos (by omega)]; rfl
  · unfold bkB; rw [if_neg (by omega), if_neg (by omega), if_neg (by omega), if_neg (by omega)]; rfl

set_option maxHeartbeats 2000000 in
theorem backoff_any (f : Int) (w : World) :
    Calls Try.prog 43 #[.int .i64 f] w fun e w' => e = .returned (.int .i64 (bkB f)) ∧ w' = w := by
  go_enter Try.func43, Try.ntmps43
  go_wp2_with fail
  go_loop [3, 4] (fun l i => ∃ k : Nat, k ≤ 4 ∧ i = .int .i64 k ∧ l = .int .i64 (pw k) ∧ Hid (k = 0 ∨ (k : Int) ≤ f)) (fun _ i => 5 - (intOf i).toNat)
  case atStart => exact ⟨0, by omega, rfl, rfl, .inl rfl⟩
  case round =>
    obtain ⟨k, hk, rfl, rfl, hf⟩ := hrel
    by_cases h : (k : Int) < f
    · have hc : k = 0 ∨ k = 1 ∨ k = 2 ∨ k = 3 ∨ k = 4 := by omega
      rcases hc with rfl | rfl | rfl | rfl | rfl
      · simp only [pw]
        go_wp2_with fail
        go_round
        case rel => exact ⟨1, by omega, by go_num, by go_num, .inr (by simp at h ⊢; omega)⟩
        case measure => simp [intOf]
      · simp only [pw]
        go_wp2_with fail
        go_round
        case rel => exact ⟨2, by omega, by go_num, by go_num, .inr (by simp at h ⊢; omega)⟩
        case measure => simp [intOf]
      · simp only [pw]
        go_wp2_with fail
        go_round
        case rel => exact ⟨3, by omega, by go_num, by go_num, .inr (by simp at h ⊢; omega)⟩
        case measure => simp [intOf]
      · simp only [pw]
        go_wp2_with fail
        go_round
        case rel => exact ⟨4, by omega, by go_num, by go_num, .inr (by simp at h ⊢; omega)⟩
        case measure => simp [intOf]
      · have HE := Hid.intro (bk_end (f := f) (k := 4) (by omega) hf.out (.inr rfl))
        simp only [pw] at HE ⊢
        go_wp2_with fail
        go_ret
        exact ⟨ret_int HE.out.symm, rfl⟩
    · have HE := Hid.intro (bk_end hk hf.out (.inl h))
      have h' : f ≤ (k : Int) := by omega
      have hp : pw k ≤ 16 := by
        have hc : k = 0 ∨ k = 1 ∨ k = 2 ∨ k = 3 ∨ k = 4 := by omega
        rcases hc with rfl | rfl | rfl | rfl | rfl <;> decide
      clear h
      generalize pw k = P at *
      go_wp2_with fail
      go_ret
      exact ⟨ret_int (by rw [HE.out]), rfl⟩

/-- begun -/
def bgR (x : Rn) (c : Int) : Rn := if lsB x c = true then { x with state := 3, left := x.want.start } else { x with state := 2, left := 0 }
/-- deaths counted -/
def flF (f : Int) : Int := if f < 1000 then wrap64 (f + 1) else f
/-- died -/
def dyR (x : Rn) : Rn := { x with state := 5, left := bkB (flF x.falls), falls := flF x.falls }

set_option maxHeartbeats 2000000 in
set_option maxRecDepth 100000 in
theorem mateBegin_any (x : Rn) (c : Int) (g : Bool) (L : Nat) (w : World) (hX : Blk L (lifeA x c g) 43 w) :
    Calls Try.prog 33 #[.pointer (some ⟨L, 0, none⟩)] w fun e w' => e = .returned .nilFunc ∧ Blk L (lifeA (bgR x c) c g) 43 w' ∧ Below L w w' := by
  have HX := Hid.intro hX
  clear hX
  go_enter Try.func33, Try.ntmps33
  go_upto_region 1 with fail
  refine wp_region_held_drew (S := fun wy => Blk L (lifeA x c g) 43 wy) (by kernel_rfl) (HX.out.drew) (fun hS => ?_)
  refine wpAnyH_take (i := 0) (oi := { dst := some 3, op := _, type := _, pos := _, after := _, guard := none }) (v := .pointer (some ⟨L, 0, none⟩)) rfl (by kernel_rfl) (by kernel_rfl) (by kernel_rfl) (fun _ _ _ h => h) (Or.inl ⟨by rfl, ?_⟩) hS ?_
  · intro wy hy
    clear hy
    go_simp
  simp only [Act.put, List.setIfInBounds_toArray, List.set_cons_zero, List.set_cons_succ]
  refine wpAnyH_take (i := 1) (oi := { dst := some 4, op := _, type := _, pos := _, after := _, guard := none }) (v := .pointer (some ⟨L, 0, none⟩)) rfl (by kernel_rfl) (by kernel_rfl) (by kernel_rfl) (fun _ _ _ h => h) (Or.inl ⟨by rfl, ?_⟩) hS ?_
  · intro wy hy
    clear hy
    go_simp
  simp only [Act.put, List.setIfInBounds_toArray, List.set_cons_zero, List.set_cons_succ]
  refine wpAnyH_take (i := 2) (oi := { dst := some 5, op := _, type := _, pos := _, after := _, guard := none }) (v := .pointer (some ⟨L, 0, none⟩)) rfl (by kernel_rfl) (by kernel_rfl) (by kernel_rfl) (fun _ _ _ h => h) (Or.inl ⟨by rfl, ?_⟩) hS ?_
  · intro wy hy
    clear hy
    go_simp
  simp only [Act.put, List.setIfInBounds_toArray, List.set_cons_zero, List.set_cons_succ]
  refine wpAnyH_take (i := 3) (oi := { dst := some 6, op := _, type := _, pos := _, after := _, guard := none }) (v := .agg #[.string x.want.copy, .int .i64 x.want.version, .string x.want.hold, .int .i64 x.want.pull, .int .i64 x.want.start, .int .i64 x.want.dies, .int .i64 x.want.grace, .int .i64 x.state, .int .i64 x.left, .int .i64 x.falls, .int .i64 x.until_]) rfl (by kernel_rfl) (by kernel_rfl) (by kernel_rfl) (fun _ _ _ h => h) (yieldsIf_load_mid (by rfl) _ _ rfl L (0) rfl [.string x.want.copy, .int .i64 x.want.version, .string x.want.hold, .int .i64 x.want.pull, .int .i64 x.want.start, .int .i64 x.want.dies, .int .i64 x.want.grace, .int .i64 x.state, .int .i64 x.left, .int .i64 x.falls, .int .i64 x.until_] _ (fun _ h => Blk.sub11 h) Try.underlying40 rfl isz_mRun) hS ?_
  simp only [Act.put, List.setIfInBounds_toArray, List.set_cons_zero, List.set_cons_succ]
  refine wpAnyH_take (i := 4) (oi := { dst := some 7, op := _, type := _, pos := _, after := _, guard := none }) (v := .pointer (some ⟨L, 0, none⟩)) rfl (by kernel_rfl) (by kernel_rfl) (by kernel_rfl) (fun _ _ _ h => h) (Or.inl ⟨by rfl, ?_⟩) hS ?_
  · intro wy hy
    clear hy
    go_simp
  simp only [Act.put, List.setIfInBounds_toArray, List.set_cons_zero, List.set_cons_succ]
  refine wpAnyH_take (i := 5) (oi := { dst := some 8, op := _, type := _, pos := _, after := _, guard := none }) (v := .pointer (some ⟨L, 0, none⟩)) rfl (by kernel_rfl) (by kernel_rfl) (by kernel_rfl) (fun _ _ _ h => h) (Or.inl ⟨by rfl, ?_⟩) hS ?_
  · intro wy hy
    clear hy
    go_simp
  simp only [Act.put, List.setIfInBounds_toArray, List.set_cons_zero, List.set_cons_succ]
  refine wpAnyH_take (i := 6) (oi := { dst := some 9, op := _, type := _, pos := _, after := _, guard := none }) (v := .pointer (some ⟨L, 11, none⟩)) rfl (by kernel_rfl) (by kernel_rfl) (by kernel_rfl) (fun _ _ _ h => h) (Or.inl ⟨by rfl, ?_⟩) hS ?_
  · intro wy hy
    clear hy
    go_simp
  simp only [Act.put, List.setIfInBounds_toArray, List.set_cons_zero, List.set_cons_succ]
  refine wpAnyH_take (i := 7) (oi := { dst := some 10, op := _, type := _, pos := _, after := _, guard := none }) (v := .int .i64 c) rfl (by kernel_rfl) (by kernel_rfl) (by kernel_rfl) (fun _ _ _ h => h) (Or.inl ⟨by rfl, ?_⟩) hS ?_
  · intro wy hy
    have h0 := hy.cell (o := 11) (v := .int .i64 c) rfl
    clear hy
    go_simp
  simp only [Act.put, List.setIfInBounds_toArray, List.set_cons_zero, List.set_cons_succ]
  refine wpAnyH_ready (rs := [8]) (by kernel_rfl) (by simp) (AllReadyH.cons (o := { dst := some 11, op := _, type := _, pos := _, after := _, guard := none }) rfl (fun K hK => ?_) AllReadyH.nil)
  go_simp
  refine (rleased_any x c _).mono ?_
  rintro e w1 ⟨rfl, hb1⟩
  have HX1 := Hid.intro (hS.below hb1 hS.lt)
  have hB1 : Below L w w1 := ((Below.refl L w).drew.trans (hb1.mono (Nat.le_of_lt hS.lt)))
  clear hb1
  refine hK.out _ _ HX1.out (fun hS => ?_)
  clear hK K
  refine wpAnyH_done (by kernel_rfl) ?_ _
  clear hS
  cases hl : lsB x c with
  | true =>
    have HG : Hid (bgR x c = { x with state := 3, left := x.want.start }) := if_pos hl
    clear hl
    go_upto_region 2 with fail
    refine wp_region_held_drew (S := fun wy => wy.cell? ⟨L, 4, none⟩ = some (.int .i64 x.want.start)) (by kernel_rfl) ((by simpa using HX1.out.cell (o := 4) (v := .int .i64 x.want.start) rfl)) (fun hS => ?_)
    refine wpAnyH_take (i := 0) (oi := { dst := some 12, op := _, type := _, pos := _, after := _, guard := none }) (v := .pointer (some ⟨L, 0, none⟩)) rfl (by kernel_rfl) (by kernel_rfl) (by kernel_rfl) (fun _ _ _ h => h) (Or.inl ⟨by rfl, ?_⟩) hS ?_
    · intro wy hy
      clear hy
      go_simp
    simp only [Act.put, List.setIfInBounds_toArray, List.set_cons_zero, List.set_cons_succ]
    refine wpAnyH_take (i := 1) (oi := { dst := some 13, op := _, type := _, pos := _, after := _, guard := none }) (v := .pointer (some ⟨L, 0, none⟩)) rfl (by kernel_rfl) (by kernel_rfl) (by kernel_rfl) (fun _ _ _ h => h) (Or.inl ⟨by rfl, ?_⟩) hS ?_
    · intro wy hy
      clear hy
      go_simp
    simp only [Act.put, List.setIfInBounds_toArray, List.set_cons_zero, List.set_cons_succ]
    refine wpAnyH_take (i := 2) (oi := { dst := some 14, op := _, type := _, pos := _, after := _, guard := none }) (v := .pointer (some ⟨L, 0, none⟩)) rfl (by kernel_rfl) (by kernel_rfl) (by kernel_rfl) (fun _ _ _ h => h) (Or.inl ⟨by rfl, ?_⟩) hS ?_
    · intro wy hy
      clear hy
      go_simp
    simp only [Act.put, List.setIfInBounds_toArray, List.set_cons_zero, List.set_cons_succ]
    refine wpAnyH_take (i := 3) (oi := { dst := some 15, op := _, type := _, pos := _, after := _, guard := none }) (v := .pointer (some ⟨L, 0, none⟩)) rfl (by kernel_rfl) (by kernel_rfl) (by kernel_rfl) (fun _ _ _ h => h) (Or.inl ⟨by rfl, ?_⟩) hS ?_
    · intro wy hy
      clear hy
      go_simp
    simp only [Act.put, List.setIfInBounds_toArray, List.set_cons_zero, List.set_cons_succ]
    refine wpAnyH_take (i := 4) (oi := { dst := some 16, op := _, type := _, pos := _, after := _, guard := none }) (v := .pointer (some ⟨L, 0, none⟩)) rfl (by kernel_rfl) (by kernel_rfl) (by kernel_rfl) (fun _ _ _ h => h) (Or.inl ⟨by rfl, ?_⟩) hS ?_
    · intro wy hy
      clear hy
      go_simp
    simp only [Act.put, List.setIfInBounds_toArray, List.set_cons_zero, List.set_cons_succ]
    refine wpAnyH_take (i := 5) (oi := { dst := some 17, op := _, type := _, pos := _, after := _, guard := none }) (v := .pointer (some ⟨L, 0, none⟩)) rfl (by kernel_rfl) (by kernel_rfl) (by kernel_rfl) (fun _ _ _ h => h) (Or.inl ⟨by rfl, ?_⟩) hS ?_
    · intro wy hy
      clear hy
      go_simp
    simp only [Act.put, List.setIfInBounds_toArray, List.set_cons_zero, List.set_cons_succ]
    refine wpAnyH_take (i := 6) (oi := { dst := some 18, op := _, type := _, pos := _, after := _, guard := none }) (v := .pointer (some ⟨L, 0, none⟩)) rfl (by kernel_rfl) (by kernel_rfl) (by kernel_rfl) (fun _ _ _ h => h) (Or.inl ⟨by rfl, ?_⟩) hS ?_
    · intro wy hy
      clear hy
      go_simp
    simp only [Act.put, List.setIfInBounds_toArray, List.set_cons_zero, List.set_cons_succ]
    refine wpAnyH_take (i := 7) (oi := { dst := some 19, op := _, type := _, pos := _, after := _, guard := none }) (v := .pointer (some ⟨L, 4, none⟩)) rfl (by kernel_rfl) (by kernel_rfl) (by kernel_rfl) (fun _ _ _ h => h) (Or.inl ⟨by rfl, ?_⟩) hS ?_
    · intro wy hy
      clear hy
      go_simp
    simp only [Act.put, List.setIfInBounds_toArray, List.set_cons_zero, List.set_cons_succ]
    refine wpAnyH_take (i := 8) (oi := { dst := some 20, op := _, type := _, pos := _, after := _, guard := none }) (v := .int .i64 x.want.start) rfl (by kernel_rfl) (by kernel_rfl) (by kernel_rfl) (fun _ _ _ h => h) (Or.inl ⟨by rfl, ?_⟩) hS ?_
    · intro wy hy
      have h0 := hy
      clear hy
      go_simp
    simp only [Act.put, List.setIfInBounds_toArray, List.set_cons_zero, List.set_cons_succ]
    refine wpAnyH_ready (rs := [9]) (by kernel_rfl) (by simp) (AllReadyH.cons (o := { dst := some 21, op := _, type := _, pos := _, after := _, guard := none }) rfl (fun K hK => ?_) AllReadyH.nil)
    go_simp
    refine (enter_any x c g L 3 x.want.start _ (HX1.out.drew)).mono ?_
    rintro e w2 ⟨rfl, hX2, hb2⟩
    have HX2 := Hid.intro hX2
    clear hX2
    refine hK.out _ _ (by first | exact HX2.out.cell rfl | (simpa using HX2.out.cell (o := 4) (v := .int .i64 x.want.start) rfl)) (fun hS => ?_)
    clear hK K
    refine wpAnyH_done (by kernel_rfl) ?_ _
    clear hS
    have hB2 : Below L w w2 := hB1.trans ((Below.refl L w1).drew.trans hb2)
    clear hb2 hB1
    go_wp2_with fail
    go_ret
    rw [HG.out]
    exact ⟨rfl, HX2.out, hB2⟩
  | false =>
    have HG : Hid (bgR x c = { x with state := 2, left := 0 }) := if_neg (by rw [hl]; simp)
    clear hl
    go_wp2_with fail
    refine (enter_any x c g L 2 0 _ HX1.out).mono ?_
    rintro e w2 ⟨rfl, hX2, hb2⟩
    have HX2 := Hid.intro hX2
    have hB2 := hB1.trans hb2
    clear hX2 hb2 hB1
    go_wp2_with fail
    go_ret
    rw [HG.out]
    exact ⟨rfl, HX2.out, hB2⟩

set_option maxHeartbeats 2000000 in
set_option maxRecDepth 100000 in
theorem mateGetReady_any (x : Rn) (c : Int) (g : Bool) (L : Nat) (w : World) (hX : Blk L (lifeA x c g) 43 w) :
    Calls Try.prog 41 #[.pointer (some ⟨L, 0, none⟩)] w fun e w' => e = .returned .nilFunc ∧ Blk L (lifeA { x with state := 4, left := x.want.dies } c g) 43 w' ∧ Below L w w' := by
  have HX := Hid.intro hX
  clear hX
  go_enter Try.func41, Try.ntmps41
  go_upto_region 1 with fail
  refine wp_region_held_drew (S := fun wy => wy.cell? ⟨L, 5, none⟩ = some (.int .i64 x.want.dies)) (by kernel_rfl) ((by simpa using HX.out.cell (o := 5) (v := .int .i64 x.want.dies) rfl)) (fun hS => ?_)
  refine wpAnyH_take (i := 0) (oi := { dst := some 3, op := _, type := _, pos := _, after := _, guard := none }) (v := .pointer (some ⟨L, 0, none⟩)) rfl (by kernel_rfl) (by kernel_rfl) (by kernel_rfl) (fun _ _ _ h => h) (Or.inl ⟨by rfl, ?_⟩) hS ?_
  · intro wy hy
    clear hy
    go_simp
  simp only [Act.put, List.setIfInBounds_toArray, List.set_cons_zero, List.set_cons_succ]
  refine wpAnyH_take (i := 1) (oi := { dst := some 4, op := _, type := _, pos := _, after := _, guard := none }) (v := .pointer (some ⟨L, 0, none⟩)) rfl (by kernel_rfl) (by kernel_rfl) (by kernel_rfl) (fun _ _ _ h => h) (Or.inl ⟨by rfl, ?_⟩) hS ?_
  · intro wy hy
    clear hy
    go_simp
  simp only [Act.put, List.setIfInBounds_toArray, List.set_cons_zero, List.set_cons_succ]
  refine wpAnyH_take (i := 2) (oi := { dst := some 5, op := _, type := _, pos := _, after := _, guard := none }) (v := .pointer (some ⟨L, 0, none⟩)) rfl (by kernel_rfl) (by kernel_rfl) (by kernel_rfl) (fun _ _ _ h => h) (Or.inl ⟨by rfl, ?_⟩) hS ?_
  · intro wy hy
    clear hy
    go_simp
  simp only [Act.put, List.setIfInBounds_toArray, List.set_cons_zero, List.set_cons_succ]
  refine wpAnyH_take (i := 3) (oi := { dst := some 6, op := _, type := _, pos := _, after := _, guard := none }) (v := .pointer (some ⟨L, 0, none⟩)) rfl (by kernel_rfl) (by kernel_rfl) (by kernel_rfl) (fun _ _ _ h => h) (Or.inl ⟨by rfl, ?_⟩) hS ?_
  · intro wy hy
    clear hy
    go_simp
  simp only [Act.put, List.setIfInBounds_toArray, List.set_cons_zero, List.set_cons_succ]
  refine wpAnyH_take (i := 4) (oi := { dst := some 7, op := _, type := _, pos := _, after := _, guard := none }) (v := .pointer (some ⟨L, 0, none⟩)) rfl (by kernel_rfl) (by kernel_rfl) (by kernel_rfl) (fun _ _ _ h => h) (Or.inl ⟨by rfl, ?_⟩) hS ?_
  · intro wy hy
    clear hy
    go_simp
  simp only [Act.put, List.setIfInBounds_toArray, List.set_cons_zero, List.set_cons_succ]
  refine wpAnyH_take (i := 5) (oi := { dst := some 8, op := _, type := _, pos := _, after := _, guard := none }) (v := .pointer (some ⟨L, 0, none⟩)) rfl (by kernel_rfl) (by kernel_rfl) (by kernel_rfl) (fun _ _ _ h => h) (Or.inl ⟨by rfl, ?_⟩) hS ?_
  · intro wy hy
    clear hy
    go_simp
  simp only [Act.put, List.setIfInBounds_toArray, List.set_cons_zero, List.set_cons_succ]
  refine wpAnyH_take (i := 6) (oi := { dst := some 9, op := _, type := _, pos := _, after := _, guard := none }) (v := .pointer (some ⟨L, 0, none⟩)) rfl (by kernel_rfl) (by kernel_rfl) (by kernel_rfl) (fun _ _ _ h => h) (Or.inl ⟨by rfl, ?_⟩) hS ?_
  · intro wy hy
    clear hy
    go_simp
  simp only [Act.put, List.setIfInBounds_toArray, List.set_cons_zero, List.set_cons_succ]
  refine wpAnyH_take (i := 7) (oi := { dst := some 10, op := _, type := _, pos := _, after := _, guard := none }) (v := .pointer (some ⟨L, 5, none⟩)) rfl (by kernel_rfl) (by kernel_rfl) (by kernel_rfl) (fun _ _ _ h => h) (Or.inl ⟨by rfl, ?_⟩) hS ?_
  · intro wy hy
    clear hy
    go_simp
  simp only [Act.put, List.setIfInBounds_toArray, List.set_cons_zero, List.set_cons_succ]
  refine wpAnyH_take (i := 8) (oi := { dst := some 11, op := _, type := _, pos := _, after := _, guard := none }) (v := .int .i64 x.want.dies) rfl (by kernel_rfl) (by kernel_rfl) (by kernel_rfl) (fun _ _ _ h => h) (Or.inl ⟨by rfl, ?_⟩) hS ?_
  · intro wy hy
    have h0 := hy
    clear hy
    go_simp
  simp only [Act.put, List.setIfInBounds_toArray, List.set_cons_zero, List.set_cons_succ]
  refine wpAnyH_ready (rs := [9]) (by kernel_rfl) (by simp) (AllReadyH.cons (o := { dst := some 12, op := _, type := _, pos := _, after := _, guard := none }) rfl (fun K hK => ?_) AllReadyH.nil)
  go_simp
  refine (enter_any x c g L 4 x.want.dies _ (HX.out.drew)).mono ?_
  rintro e w2 ⟨rfl, hX2, hb2⟩
  have HX2 := Hid.intro hX2
  clear hX2
  refine hK.out _ _ (by first | exact HX2.out.cell rfl | (simpa using HX2.out.cell (o := 5) (v := .int .i64 x.want.dies) rfl)) (fun hS => ?_)
  clear hK K
  refine wpAnyH_done (by kernel_rfl) ?_ _
  clear hS
  have hB2 : Below L w w2 := (Below.refl L w).drew.trans hb2
  clear hb2
  go_wp2_with fail
  go_ret
  exact ⟨rfl, HX2.out, hB2⟩

/-- unwanted: what comes next, and what becomes of it -/
def unN (x : Rn) : Option Nat := if x.state = 6 then some 26 else if alB x.state = true then none else some 29
def unR (x : Rn) : Rn := if x.state = 6 then x else if alB x.state = true then { x with state := 6, left := x.want.grace } else x

set_option maxHeartbeats 2000000 in
set_option maxRecDepth 100000 in
theorem mateUnwanted_any (x : Rn) (c : Int) (g : Bool) (L : Nat) (w : World) (hX : Blk L (lifeA x c g) 43 w) :
    Calls Try.prog 20 #[.pointer (some ⟨L, 0, none⟩)] w fun e w' => e = .returned (fv (unN x)) ∧ Blk L (lifeA (unR x) c g) 43 w' ∧ Below L w w' := by
  have HX := Hid.intro hX
  have k7 : w.cell? ⟨L, 7, none⟩ = some (.int .i64 x.state) := hX.cell rfl
  clear hX
  by_cases h6 : x.state = 6
  · have HN : Hid (unN x = some 26) := if_pos h6
    have HR : Hid (unR x = x) := if_pos h6
    go_enter Try.func20, Try.ntmps20
    go_wp2_with fail
    go_ret
    rw [HN.out, HR.out]
    exact ⟨rfl, HX.out, Below.refl _ _⟩
  have HN6 : Hid (unN x = if alB x.state = true then none else some 29) := if_neg h6
  have HR6 : Hid (unR x = if alB x.state = true then { x with state := 6, left := x.want.grace } else x) := if_neg h6
  go_enter Try.func20, Try.ntmps20
  go_wp2_with (first | (refine wpList_load_mid rfl 40 _ rfl L 0 rfl [.string x.want.copy, .int .i64 x.want.version, .string x.want.hold, .int .i64 x.want.pull, .int .i64 x.want.start, .int .i64 x.want.dies, .int .i64 x.want.grace, .int .i64 x.state, .int .i64 x.left, .int .i64 x.falls, .int .i64 x.until_] _ HX.out.sub11 Try.underlying40 rfl isz_mRun ?_))
  refine (ralive_any x _).mono ?_
  rintro e w1 ⟨rfl, hb1⟩
  have HX1 := Hid.intro (HX.out.below hb1 HX.out.lt)
  have hB1 : Below L w w1 := hb1.mono (Nat.le_of_lt HX.out.lt)
  clear hb1 k7 HX h6
  cases ha : alB x.state with
  | true =>
    rw [ha, if_pos rfl] at HN6 HR6
    clear ha
    go_upto_region 4 with fail
    refine wp_region_held_drew (S := fun wy => wy.cell? ⟨L, 6, none⟩ = some (.int .i64 x.want.grace)) (by kernel_rfl) ((by simpa using HX1.out.cell (o := 6) (v := .int .i64 x.want.grace) rfl)) (fun hS => ?_)
    refine wpAnyH_take (i := 0) (oi := { dst := some 16, op := _, type := _, pos := _, after := _, guard := none }) (v := .pointer (some ⟨L, 0, none⟩)) rfl (by kernel_rfl) (by kernel_rfl) (by kernel_rfl) (fun _ _ _ h => h) (Or.inl ⟨by rfl, ?_⟩) hS ?_
    · intro wy hy
      clear hy
      go_simp
    simp only [Act.put, List.setIfInBounds_toArray, List.set_cons_zero, List.set_cons_succ]
    refine wpAnyH_take (i := 1) (oi := { dst := some 17, op := _, type := _, pos := _, after := _, guard := none }) (v := .pointer (some ⟨L, 0, none⟩)) rfl (by kernel_rfl) (by kernel_rfl) (by kernel_rfl) (fun _ _ _ h => h) (Or.inl ⟨by rfl, ?_⟩) hS ?_
    · intro wy hy
      clear hy
      go_simp
    simp only [Act.put, List.setIfInBounds_toArray, List.set_cons_zero, List.set_cons_succ]
    refine wpAnyH_take (i := 2) (oi := { dst := some 18, op := _, type := _, pos := _, after := _, guard := none }) (v := .pointer (some ⟨L, 0, none⟩)) rfl (by kernel_rfl) (by kernel_rfl) (by kernel_rfl) (fun _ _ _ h => h) (Or.inl ⟨by rfl, ?_⟩) hS ?_
    · intro wy hy
      clear hy
      go_simp
    simp only [Act.put, List.setIfInBounds_toArray, List.set_cons_zero, List.set_cons_succ]
    refine wpAnyH_take (i := 3) (oi := { dst := some 19, op := _, type := _, pos := _, after := _, guard := none }) (v := .pointer (some ⟨L, 0, none⟩)) rfl (by kernel_rfl) (by kernel_rfl) (by kernel_rfl) (fun _ _ _ h => h) (Or.inl ⟨by rfl, ?_⟩) hS ?_
    · intro wy hy
      clear hy
      go_simp
    simp only [Act.put, List.setIfInBounds_toArray, List.set_cons_zero, List.set_cons_succ]
    refine wpAnyH_take (i := 4) (oi := { dst := some 20, op := _, type := _, pos := _, after := _, guard := none }) (v := .pointer (some ⟨L, 0, none⟩)) rfl (by kernel_rfl) (by kernel_rfl) (by kernel_rfl) (fun _ _ _ h => h) (Or.inl ⟨by rfl, ?_⟩) hS ?_
    · intro wy hy
      clear hy
      go_simp
    simp only [Act.put, List.setIfInBounds_toArray, List.set_cons_zero, List.set_cons_succ]
    refine wpAnyH_take (i := 5) (oi := { dst := some 21, op := _, type := _, pos := _, after := _, guard := none }) (v := .pointer (some ⟨L, 0, none⟩)) rfl (by kernel_rfl) (by kernel_rfl) (by kernel_rfl) (fun _ _ _ h => h) (Or.inl ⟨by rfl, ?_⟩) hS ?_
    · intro wy hy
      clear hy
      go_simp
    simp only [Act.put, List.setIfInBounds_toArray, List.set_cons_zero, List.set_cons_succ]
    refine wpAnyH_take (i := 6) (oi := { dst := some 22, op := _, type := _, pos := _, after := _, guard := none }) (v := .pointer (some ⟨L, 0, none⟩)) rfl (by kernel_rfl) (by kernel_rfl) (by kernel_rfl) (fun _ _ _ h => h) (Or.inl ⟨by rfl, ?_⟩) hS ?_
    · intro wy hy
      clear hy
      go_simp
    simp only [Act.put, List.setIfInBounds_toArray, List.set_cons_zero, List.set_cons_succ]
    refine wpAnyH_take (i := 7) (oi := { dst := some 23, op := _, type := _, pos := _, after := _, guard := none }) (v := .pointer (some ⟨L, 6, none⟩)) rfl (by kernel_rfl) (by kernel_rfl) (by kernel_rfl) (fun _ _ _ h => h) (Or.inl ⟨by rfl, ?_⟩) hS ?_
    · intro wy hy
      clear hy
      go_simp
    simp only [Act.put, List.setIfInBounds_toArray, List.set_cons_zero, List.set_cons_succ]
    refine wpAnyH_take (i := 8) (oi := { dst := some 24, op := _, type := _, pos := _, after := _, guard := none }) (v := .int .i64 x.want.grace) rfl (by kernel_rfl) (by kernel_rfl) (by kernel_rfl) (fun _ _ _ h => h) (Or.inl ⟨by rfl, ?_⟩) hS ?_
    · intro wy hy
      have h0 := hy
      clear hy
      go_simp
    simp only [Act.put, List.setIfInBounds_toArray, List.set_cons_zero, List.set_cons_succ]
    refine wpAnyH_ready (rs := [9]) (by kernel_rfl) (by simp) (AllReadyH.cons (o := { dst := some 25, op := _, type := _, pos := _, after := _, guard := none }) rfl (fun K hK => ?_) AllReadyH.nil)
    go_simp
    refine (enter_any x c g L 6 x.want.grace _ (HX1.out.drew)).mono ?_
    rintro e w2 ⟨rfl, hX2, hb2⟩
    have HX2 := Hid.intro hX2
    clear hX2
    refine hK.out _ _ (by first | exact HX2.out.cell rfl | (simpa using HX2.out.cell (o := 6) (v := .int .i64 x.want.grace) rfl)) (fun hS => ?_)
    clear hK K
    refine wpAnyH_done (by kernel_rfl) ?_ _
    clear hS
    have hB2 : Below L w w2 := hB1.trans ((Below.refl L w1).drew.trans hb2)
    clear hb2 hB1
    go_wp2_with fail
    go_ret
    rw [HN6.out, HR6.out]
    exact ⟨rfl, HX2.out, hB2⟩
  | false =>
    rw [ha, if_neg (by simp)] at HN6 HR6
    clear ha
    go_wp2_with fail
    go_ret
    rw [HN6.out, HR6.out]
    exact ⟨rfl, HX1.out, hB1⟩

end Go.Proofs.Ytalnkbocfhhjkaa
