/-
  The heap of the queue in memory: the lesser of two kids, one put in, the least taken out. Made by mkhpr.py.
-/
import Derived.Test.YtggbhggnemlpnaaGreatHpq
import Derived.Deep.AppendLies
namespace Go.Proofs.YtggbhggnemlpnaaGreat
open Go.RowKit

/-- before: by the comparison -/
def ltF (cf : Nat → Nat → Int) (a b : Nat) : Bool := decide (cf a b < 0)

/-- the lesser of the kids of p; behind the end where there is none -/
def KdRes (cf : Nat → Nat → Int) (l : List Nat) (p : Nat) (w : World) (e : Ending) (w' : World) : Prop := ∃ k : Nat, e = .returned (.int .i64 ((k : Nat) : Int)) ∧ (k = 2 * p + 1 ∨ (k = 2 * p + 2 ∧ 2 * p + 2 < l.length)) ∧ (∀ i, 0 < i → i < l.length → (i - 1) / 2 = p → ltF cf (hAt l i) (hAt l k) = false) ∧ Below w.heap.size w w'

theorem kid_one {cf : Nat → Nat → Int} (o : LtO (ltF cf)) {l : List Nat} {p : Nat} (h : 2 * p + 2 < l.length → ¬ cf (hAt l (2 * p + 2)) (hAt l (2 * p + 1)) < 0) : ∀ i, 0 < i → i < l.length → (i - 1) / 2 = p → ltF cf (hAt l i) (hAt l (2 * p + 1)) = false := by
  intro i h0 hi hp
  have e : i = 2 * p + 1 ∨ i = 2 * p + 2 := by omega
  rcases e with rfl | rfl
  · exact o.irr _
  · exact decide_eq_false (h hi)
theorem kid_two {cf : Nat → Nat → Int} (o : LtO (ltF cf)) {l : List Nat} {p : Nat} (h : cf (hAt l (2 * p + 2)) (hAt l (2 * p + 1)) < 0) : ∀ i, 0 < i → i < l.length → (i - 1) / 2 = p → ltF cf (hAt l i) (hAt l (2 * p + 2)) = false := by
  intro i h0 hi hp
  have e : i = 2 * p + 1 ∨ i = 2 * p + 2 := by omega
  rcases e with rfl | rfl
  · exact o.asym (decide_eq_true h)
  · exact o.irr _

set_option maxHeartbeats 8000000 in
set_option maxRecDepth 100000 in
theorem kid_any (x : Flt) (a3 : Option Addr) (c3 : Nat) (Wb : World) (Bc hb : Nat) (S : List Nat) (cf : Nat → Nat → Int) (og : LtO (ltF cf)) (g n cap : Nat) (l : List Nat) (p : Nat) (w : World) (hc : CmpQ x a3 c3 Wb Bc S cf) (h : HpW x a3 c3 Wb Bc hb (.slice (some ⟨g, 0, none⟩) n cap) l w) (hn : n = l.length) (hS : ∀ a ∈ l, a ∈ S) (hp : p ≤ n) (hs : n ≤ 1048576) :
    Calls Tryz.prog 94 #[.pointer (some ⟨hb, 0, none⟩), .int .i64 ((p : Nat) : Int)] w fun e w' => KdRes cf l p w e w' := by
  have HC := Hid.intro hc
  have HH := Hid.intro h
  have HSS := Hid.intro hS
  have HNL := Hid.intro hn
  have HOG := Hid.intro og
  clear hc h hS hn og
  have hw1 : IntKind.i64.wrap (2 * (p : Int)) = 2 * (p : Int) := by rw [IntKind.wrap_i64]; omega
  have hw2 : IntKind.i64.wrap (2 * (p : Int) + 1) = 2 * (p : Int) + 1 := by rw [IntKind.wrap_i64]; omega
  have hw3 : IntKind.i64.wrap (2 * (p : Int) + 2) = 2 * (p : Int) + 2 := by rw [IntKind.wrap_i64]; omega
  go_enter Tryz.func94, Tryz.ntmps94
  go_upto_region 2 with fail
  clear hw1 hw2 hw3
  obtain ⟨k1, hk1⟩ : ∃ k1 : Nat, k1 = 2 * p + 1 := ⟨_, rfl⟩
  obtain ⟨k2, hk2⟩ : ∃ k2 : Nat, k2 = 2 * p + 2 := ⟨_, rfl⟩
  rw [show (2 * (p : Int) + 1) = ((k1 : Nat) : Int) by rw [hk1]; push_cast; rfl, show (2 * (p : Int) + 2) = ((k2 : Nat) : Int) by rw [hk2]; push_cast; rfl]
  have HK1 := Hid.intro hk1
  have HK2 := Hid.intro hk2
  clear hk1 hk2
  refine wp_region_held_drew (S := fun wy => HpW x a3 c3 Wb Bc hb (.slice (some ⟨g, 0, none⟩) n cap) l wy) (by kernel_rfl) HH.out.drew (fun hS => ?_)
  have hg2 : Below w.heap.size w w.drew := (Below.refl _ _).drew
  clear HH
  obtain ⟨w2, HW2⟩ : ∃ w2, Hid (w2 = w.drew) := ⟨_, rfl⟩
  rw [← HW2.out] at hS hg2 ⊢
  clear HW2
  refine wpAnyH_take (i := 0) (oi := { dst := some 13, op := _, type := _, pos := _, after := _, guard := none }) (v := .int .i64 ((k2 : Nat) : Int)) rfl (by kernel_rfl) (by kernel_rfl) (by kernel_rfl) (fun _ _ _ h => h) (Or.inl ⟨by rfl, ?_⟩) hS ?_
  · intro wy hy
    clear hy
    go_simp
  simp only [Act.put, List.setIfInBounds_toArray, List.set_cons_zero, List.set_cons_succ]
  refine wpAnyH_take (i := 1) (oi := { dst := some 14, op := _, type := _, pos := _, after := _, guard := none }) (v := .pointer (some ⟨hb, 0, none⟩)) rfl (by kernel_rfl) (by kernel_rfl) (by kernel_rfl) (fun _ _ _ h => h) (Or.inl ⟨by rfl, ?_⟩) hS ?_
  · intro wy hy
    clear hy
    go_simp
  simp only [Act.put, List.setIfInBounds_toArray, List.set_cons_zero, List.set_cons_succ]
  refine wpAnyH_take (i := 2) (oi := { dst := some 15, op := _, type := _, pos := _, after := _, guard := none }) (v := .pointer (some ⟨hb, 0, none⟩)) rfl (by kernel_rfl) (by kernel_rfl) (by kernel_rfl) (fun _ _ _ h => h) (Or.inl ⟨by rfl, ?_⟩) hS ?_
  · intro wy hy
    clear hy
    go_simp
  simp only [Act.put, List.setIfInBounds_toArray, List.set_cons_zero, List.set_cons_succ]
  refine wpAnyH_take (i := 3) (oi := { dst := some 16, op := _, type := _, pos := _, after := _, guard := none }) (v := .pointer (some ⟨hb, 0, none⟩)) rfl (by kernel_rfl) (by kernel_rfl) (by kernel_rfl) (fun _ _ _ h => h) (Or.inl ⟨by rfl, ?_⟩) hS ?_
  · intro wy hy
    clear hy
    go_simp
  simp only [Act.put, List.setIfInBounds_toArray, List.set_cons_zero, List.set_cons_succ]
  refine wpAnyH_take (i := 4) (oi := { dst := some 17, op := _, type := _, pos := _, after := _, guard := none }) (v := .slice (some ⟨g, 0, none⟩) n cap) rfl (by kernel_rfl) (by kernel_rfl) (by kernel_rfl) (fun _ _ _ h => h) (Or.inl ⟨by rfl, ?_⟩) hS ?_
  · intro wy hy
    have h0 : wy.cell? ⟨hb, 0, none⟩ = some (.slice (some ⟨g, 0, none⟩) n cap) := hy.blk.cell rfl
    clear hy
    go_simp
  simp only [Act.put, List.setIfInBounds_toArray, List.set_cons_zero, List.set_cons_succ]
  refine wpAnyH_take (i := 5) (oi := { dst := some 18, op := _, type := _, pos := _, after := _, guard := none }) (v := .int .i64 ((n : Nat) : Int)) rfl (by kernel_rfl) (by kernel_rfl) (by kernel_rfl) (fun _ _ _ h => h) (Or.inl ⟨by rfl, ?_⟩) hS ?_
  · intro wy hy
    clear hy
    go_simp
  simp only [Act.put, List.setIfInBounds_toArray, List.set_cons_zero, List.set_cons_succ]
  by_cases hlt : k2 < n
  case neg =>
    have HKO : Hid (∀ i, 0 < i → i < l.length → (i - 1) / 2 = p → ltF cf (hAt l i) (hAt l k1) = false) := by
      rw [HK1.out]
      exact kid_one HOG.out (fun h => by have h9 := HNL.out; have h8 := HK2.out; omega)
    have hnl : (n : Int) ≤ (k2 : Int) := by omega
    refine wpAnyH_take (i := 6) (oi := { dst := some 19, op := _, type := _, pos := _, after := _, guard := none }) (v := .bool false) rfl (by kernel_rfl) (by kernel_rfl) (by kernel_rfl) (fun _ _ _ h => h) (Or.inl ⟨by rfl, ?_⟩) hS ?_
    · intro wy hy
      clear hy
      go_simp
    simp only [Act.put, List.setIfInBounds_toArray, List.set_cons_zero, List.set_cons_succ]
    refine wpAnyH_take (i := 7) (oi := { dst := some 20, op := _, type := _, pos := _, after := _, guard := none }) (v := .bool false) rfl (by kernel_rfl) (by kernel_rfl) (by kernel_rfl) (fun _ _ _ h => h) (Or.inl ⟨by rfl, ?_⟩) hS ?_
    · intro wy hy
      clear hy
      go_simp
    simp only [Act.put, List.setIfInBounds_toArray, List.set_cons_zero, List.set_cons_succ]
    refine wpAnyH_take (i := 8) (oi := { dst := some 21, op := _, type := _, pos := _, after := _, guard := some (7, true) }) (v := undef) rfl (by kernel_rfl) (by kernel_rfl) (by kernel_rfl) (fun _ _ _ h => h) (Or.inr ⟨by rfl, rfl⟩) hS ?_
    simp only [Act.put, List.setIfInBounds_toArray, List.set_cons_zero, List.set_cons_succ]
    refine wpAnyH_take (i := 9) (oi := { dst := some 22, op := _, type := _, pos := _, after := _, guard := some (7, true) }) (v := undef) rfl (by kernel_rfl) (by kernel_rfl) (by kernel_rfl) (fun _ _ _ h => h) (Or.inr ⟨by rfl, rfl⟩) hS ?_
    simp only [Act.put, List.setIfInBounds_toArray, List.set_cons_zero, List.set_cons_succ]
    refine wpAnyH_take (i := 10) (oi := { dst := some 23, op := _, type := _, pos := _, after := _, guard := some (7, true) }) (v := undef) rfl (by kernel_rfl) (by kernel_rfl) (by kernel_rfl) (fun _ _ _ h => h) (Or.inr ⟨by rfl, rfl⟩) hS ?_
    simp only [Act.put, List.setIfInBounds_toArray, List.set_cons_zero, List.set_cons_succ]
    refine wpAnyH_take (i := 11) (oi := { dst := some 24, op := _, type := _, pos := _, after := _, guard := some (7, true) }) (v := undef) rfl (by kernel_rfl) (by kernel_rfl) (by kernel_rfl) (fun _ _ _ h => h) (Or.inr ⟨by rfl, rfl⟩) hS ?_
    simp only [Act.put, List.setIfInBounds_toArray, List.set_cons_zero, List.set_cons_succ]
    refine wpAnyH_take (i := 12) (oi := { dst := some 25, op := _, type := _, pos := _, after := _, guard := some (7, true) }) (v := undef) rfl (by kernel_rfl) (by kernel_rfl) (by kernel_rfl) (fun _ _ _ h => h) (Or.inr ⟨by rfl, rfl⟩) hS ?_
    simp only [Act.put, List.setIfInBounds_toArray, List.set_cons_zero, List.set_cons_succ]
    refine wpAnyH_take (i := 13) (oi := { dst := some 26, op := _, type := _, pos := _, after := _, guard := some (7, true) }) (v := undef) rfl (by kernel_rfl) (by kernel_rfl) (by kernel_rfl) (fun _ _ _ h => h) (Or.inr ⟨by rfl, rfl⟩) hS ?_
    simp only [Act.put, List.setIfInBounds_toArray, List.set_cons_zero, List.set_cons_succ]
    refine wpAnyH_take (i := 14) (oi := { dst := some 27, op := _, type := _, pos := _, after := _, guard := some (7, true) }) (v := undef) rfl (by kernel_rfl) (by kernel_rfl) (by kernel_rfl) (fun _ _ _ h => h) (Or.inr ⟨by rfl, rfl⟩) hS ?_
    simp only [Act.put, List.setIfInBounds_toArray, List.set_cons_zero, List.set_cons_succ]
    refine wpAnyH_take (i := 15) (oi := { dst := some 28, op := _, type := _, pos := _, after := _, guard := some (7, true) }) (v := undef) rfl (by kernel_rfl) (by kernel_rfl) (by kernel_rfl) (fun _ _ _ h => h) (Or.inr ⟨by rfl, rfl⟩) hS ?_
    simp only [Act.put, List.setIfInBounds_toArray, List.set_cons_zero, List.set_cons_succ]
    refine wpAnyH_take (i := 16) (oi := { dst := some 29, op := _, type := _, pos := _, after := _, guard := some (7, true) }) (v := undef) rfl (by kernel_rfl) (by kernel_rfl) (by kernel_rfl) (fun _ _ _ h => h) (Or.inr ⟨by rfl, rfl⟩) hS ?_
    simp only [Act.put, List.setIfInBounds_toArray, List.set_cons_zero, List.set_cons_succ]
    refine wpAnyH_take (i := 17) (oi := { dst := some 30, op := _, type := _, pos := _, after := _, guard := some (7, true) }) (v := undef) rfl (by kernel_rfl) (by kernel_rfl) (by kernel_rfl) (fun _ _ _ h => h) (Or.inr ⟨by rfl, rfl⟩) hS ?_
    simp only [Act.put, List.setIfInBounds_toArray, List.set_cons_zero, List.set_cons_succ]
    refine wpAnyH_take (i := 18) (oi := { dst := some 31, op := _, type := _, pos := _, after := _, guard := some (7, true) }) (v := undef) rfl (by kernel_rfl) (by kernel_rfl) (by kernel_rfl) (fun _ _ _ h => h) (Or.inr ⟨by rfl, rfl⟩) hS ?_
    simp only [Act.put, List.setIfInBounds_toArray, List.set_cons_zero, List.set_cons_succ]
    refine wpAnyH_take (i := 19) (oi := { dst := some 32, op := _, type := _, pos := _, after := _, guard := some (7, true) }) (v := undef) rfl (by kernel_rfl) (by kernel_rfl) (by kernel_rfl) (fun _ _ _ h => h) (Or.inr ⟨by rfl, rfl⟩) hS ?_
    simp only [Act.put, List.setIfInBounds_toArray, List.set_cons_zero, List.set_cons_succ]
    refine wpAnyH_take (i := 20) (oi := { dst := some 33, op := _, type := _, pos := _, after := _, guard := some (7, true) }) (v := undef) rfl (by kernel_rfl) (by kernel_rfl) (by kernel_rfl) (fun _ _ _ h => h) (Or.inr ⟨by rfl, rfl⟩) hS ?_
    simp only [Act.put, List.setIfInBounds_toArray, List.set_cons_zero, List.set_cons_succ]
    refine wpAnyH_take (i := 21) (oi := { dst := some 34, op := _, type := _, pos := _, after := _, guard := some (7, true) }) (v := undef) rfl (by kernel_rfl) (by kernel_rfl) (by kernel_rfl) (fun _ _ _ h => h) (Or.inr ⟨by rfl, rfl⟩) hS ?_
    simp only [Act.put, List.setIfInBounds_toArray, List.set_cons_zero, List.set_cons_succ]
    refine wpAnyH_take (i := 22) (oi := { dst := some 35, op := _, type := _, pos := _, after := _, guard := some (7, true) }) (v := undef) rfl (by kernel_rfl) (by kernel_rfl) (by kernel_rfl) (fun _ _ _ h => h) (Or.inr ⟨by rfl, rfl⟩) hS ?_
    simp only [Act.put, List.setIfInBounds_toArray, List.set_cons_zero, List.set_cons_succ]
    refine wpAnyH_take (i := 23) (oi := { dst := some 36, op := _, type := _, pos := _, after := _, guard := some (7, true) }) (v := undef) rfl (by kernel_rfl) (by kernel_rfl) (by kernel_rfl) (fun _ _ _ h => h) (Or.inr ⟨by rfl, rfl⟩) hS ?_
    simp only [Act.put, List.setIfInBounds_toArray, List.set_cons_zero, List.set_cons_succ]
    refine wpAnyH_take (i := 24) (oi := { dst := some 37, op := _, type := _, pos := _, after := _, guard := some (7, true) }) (v := undef) rfl (by kernel_rfl) (by kernel_rfl) (by kernel_rfl) (fun _ _ _ h => h) (Or.inr ⟨by rfl, rfl⟩) hS ?_
    simp only [Act.put, List.setIfInBounds_toArray, List.set_cons_zero, List.set_cons_succ]
    refine wpAnyH_take (i := 25) (oi := { dst := some 38, op := _, type := _, pos := _, after := _, guard := some (7, true) }) (v := undef) rfl (by kernel_rfl) (by kernel_rfl) (by kernel_rfl) (fun _ _ _ h => h) (Or.inr ⟨by rfl, rfl⟩) hS ?_
    simp only [Act.put, List.setIfInBounds_toArray, List.set_cons_zero, List.set_cons_succ]
    refine wpAnyH_take (i := 26) (oi := { dst := some 39, op := _, type := _, pos := _, after := _, guard := some (7, true) }) (v := undef) rfl (by kernel_rfl) (by kernel_rfl) (by kernel_rfl) (fun _ _ _ h => h) (Or.inr ⟨by rfl, rfl⟩) hS ?_
    simp only [Act.put, List.setIfInBounds_toArray, List.set_cons_zero, List.set_cons_succ]
    refine wpAnyH_take (i := 27) (oi := { dst := some 40, op := _, type := _, pos := _, after := _, guard := some (7, true) }) (v := undef) rfl (by kernel_rfl) (by kernel_rfl) (by kernel_rfl) (fun _ _ _ h => h) (Or.inr ⟨by rfl, rfl⟩) hS ?_
    simp only [Act.put, List.setIfInBounds_toArray, List.set_cons_zero, List.set_cons_succ]
    refine wpAnyH_take (i := 28) (oi := { dst := some 41, op := _, type := _, pos := _, after := _, guard := none }) (v := .bool false) rfl (by kernel_rfl) (by kernel_rfl) (by kernel_rfl) (fun _ _ _ h => h) (Or.inl ⟨by rfl, ?_⟩) hS ?_
    · intro wy hy
      clear hy
      go_simp
    simp only [Act.put, List.setIfInBounds_toArray, List.set_cons_zero, List.set_cons_succ]
    refine wpAnyH_done (by kernel_rfl) ?_ _
    clear hS
    go_wp2_with fail
    go_ret
    exact ⟨k1, rfl, .inl HK1.out, HKO.out, hg2⟩
  have hik : (k2 : Int) < (n : Int) := by omega
  have hkk : k1 < n := by have h9 := HK1.out; have h8 := HK2.out; omega
  refine wpAnyH_take (i := 6) (oi := { dst := some 19, op := _, type := _, pos := _, after := _, guard := none }) (v := .bool true) rfl (by kernel_rfl) (by kernel_rfl) (by kernel_rfl) (fun _ _ _ h => h) (Or.inl ⟨by rfl, ?_⟩) hS ?_
  · intro wy hy
    clear hy
    go_simp
  simp only [Act.put, List.setIfInBounds_toArray, List.set_cons_zero, List.set_cons_succ]
  refine wpAnyH_take (i := 7) (oi := { dst := some 20, op := _, type := _, pos := _, after := _, guard := none }) (v := .bool true) rfl (by kernel_rfl) (by kernel_rfl) (by kernel_rfl) (fun _ _ _ h => h) (Or.inl ⟨by rfl, ?_⟩) hS ?_
  · intro wy hy
    clear hy
    go_simp
  simp only [Act.put, List.setIfInBounds_toArray, List.set_cons_zero, List.set_cons_succ]
  refine wpAnyH_take (i := 8) (oi := { dst := some 21, op := _, type := _, pos := _, after := _, guard := some (7, true) }) (v := .pointer (some ⟨hb, 0, none⟩)) rfl (by kernel_rfl) (by kernel_rfl) (by kernel_rfl) (fun _ _ _ h => h) (Or.inl ⟨by rfl, ?_⟩) hS ?_
  · intro wy hy
    clear hy
    go_simp
  simp only [Act.put, List.setIfInBounds_toArray, List.set_cons_zero, List.set_cons_succ]
  refine wpAnyH_take (i := 9) (oi := { dst := some 22, op := _, type := _, pos := _, after := _, guard := some (7, true) }) (v := .pointer (some ⟨hb, 0, none⟩)) rfl (by kernel_rfl) (by kernel_rfl) (by kernel_rfl) (fun _ _ _ h => h) (Or.inl ⟨by rfl, ?_⟩) hS ?_
  · intro wy hy
    clear hy
    go_simp
  simp only [Act.put, List.setIfInBounds_toArray, List.set_cons_zero, List.set_cons_succ]
  refine wpAnyH_take (i := 10) (oi := { dst := some 23, op := _, type := _, pos := _, after := _, guard := some (7, true) }) (v := .pointer (some ⟨hb, 1, none⟩)) rfl (by kernel_rfl) (by kernel_rfl) (by kernel_rfl) (fun _ _ _ h => h) (Or.inl ⟨by rfl, ?_⟩) hS ?_
  · intro wy hy
    clear hy
    go_simp
  simp only [Act.put, List.setIfInBounds_toArray, List.set_cons_zero, List.set_cons_succ]
  refine wpAnyH_take (i := 11) (oi := { dst := some 24, op := _, type := _, pos := _, after := _, guard := some (7, true) }) (v := .func (.func 61) #[] #[.pointer (some ⟨Bc, 0, none⟩)]) rfl (by kernel_rfl) (by kernel_rfl) (by kernel_rfl) (fun _ _ _ h => h) (Or.inl ⟨by rfl, ?_⟩) hS ?_
  · intro wy hy
    have h0 : wy.cell? ⟨hb, 1, none⟩ = some (.func (.func 61) #[] #[.pointer (some ⟨Bc, 0, none⟩)]) := hy.blk.cell rfl
    clear hy
    go_simp
  simp only [Act.put, List.setIfInBounds_toArray, List.set_cons_zero, List.set_cons_succ]
  refine wpAnyH_take (i := 12) (oi := { dst := some 25, op := _, type := _, pos := _, after := _, guard := some (7, true) }) (v := .pointer (some ⟨hb, 0, none⟩)) rfl (by kernel_rfl) (by kernel_rfl) (by kernel_rfl) (fun _ _ _ h => h) (Or.inl ⟨by rfl, ?_⟩) hS ?_
  · intro wy hy
    clear hy
    go_simp
  simp only [Act.put, List.setIfInBounds_toArray, List.set_cons_zero, List.set_cons_succ]
  refine wpAnyH_take (i := 13) (oi := { dst := some 26, op := _, type := _, pos := _, after := _, guard := some (7, true) }) (v := .pointer (some ⟨hb, 0, none⟩)) rfl (by kernel_rfl) (by kernel_rfl) (by kernel_rfl) (fun _ _ _ h => h) (Or.inl ⟨by rfl, ?_⟩) hS ?_
  · intro wy hy
    clear hy
    go_simp
  simp only [Act.put, List.setIfInBounds_toArray, List.set_cons_zero, List.set_cons_succ]
  refine wpAnyH_take (i := 14) (oi := { dst := some 27, op := _, type := _, pos := _, after := _, guard := some (7, true) }) (v := .pointer (some ⟨hb, 0, none⟩)) rfl (by kernel_rfl) (by kernel_rfl) (by kernel_rfl) (fun _ _ _ h => h) (Or.inl ⟨by rfl, ?_⟩) hS ?_
  · intro wy hy
    clear hy
    go_simp
  simp only [Act.put, List.setIfInBounds_toArray, List.set_cons_zero, List.set_cons_succ]
  refine wpAnyH_take (i := 15) (oi := { dst := some 28, op := _, type := _, pos := _, after := _, guard := some (7, true) }) (v := .slice (some ⟨g, 0, none⟩) n cap) rfl (by kernel_rfl) (by kernel_rfl) (by kernel_rfl) (fun _ _ _ h => h) (Or.inl ⟨by rfl, ?_⟩) hS ?_
  · intro wy hy
    have h0 : wy.cell? ⟨hb, 0, none⟩ = some (.slice (some ⟨g, 0, none⟩) n cap) := hy.blk.cell rfl
    clear hy
    go_simp
  simp only [Act.put, List.setIfInBounds_toArray, List.set_cons_zero, List.set_cons_succ]
  refine wpAnyH_take (i := 16) (oi := { dst := some 29, op := _, type := _, pos := _, after := _, guard := some (7, true) }) (v := .int .i64 ((k2 : Nat) : Int)) rfl (by kernel_rfl) (by kernel_rfl) (by kernel_rfl) (fun _ _ _ h => h) (Or.inl ⟨by rfl, ?_⟩) hS ?_
  · intro wy hy
    clear hy
    go_simp
  simp only [Act.put, List.setIfInBounds_toArray, List.set_cons_zero, List.set_cons_succ]
  refine wpAnyH_take (i := 17) (oi := { dst := some 30, op := _, type := _, pos := _, after := _, guard := some (7, true) }) (v := .pointer (some ⟨g, k2, none⟩)) rfl (by kernel_rfl) (by kernel_rfl) (by kernel_rfl) (fun _ _ _ h => h) (Or.inl ⟨by rfl, ?_⟩) hS ?_
  · intro wy hy
    clear hy
    (go_simp; try omega)
  simp only [Act.put, List.setIfInBounds_toArray, List.set_cons_zero, List.set_cons_succ]
  refine wpAnyH_take (i := 18) (oi := { dst := some 31, op := _, type := _, pos := _, after := _, guard := some (7, true) }) (v := .int .i64 ((hAt l k2 : Nat) : Int)) rfl (by kernel_rfl) (by kernel_rfl) (by kernel_rfl) (fun _ _ _ h => h) (Or.inl ⟨by rfl, ?_⟩) hS ?_
  · intro wy hy
    have h0 : wy.cell? ⟨g, k2, none⟩ = some (.int .i64 ((hAt l k2 : Nat) : Int)) := rowN_cell HNL.out (by have := hy.row; rw [← HNL.out] at this; exact this) (by have := HNL.out; omega)
    clear hy
    go_simp
  simp only [Act.put, List.setIfInBounds_toArray, List.set_cons_zero, List.set_cons_succ]
  refine wpAnyH_take (i := 19) (oi := { dst := some 32, op := _, type := _, pos := _, after := _, guard := some (7, true) }) (v := .pointer (some ⟨hb, 0, none⟩)) rfl (by kernel_rfl) (by kernel_rfl) (by kernel_rfl) (fun _ _ _ h => h) (Or.inl ⟨by rfl, ?_⟩) hS ?_
  · intro wy hy
    clear hy
    go_simp
  simp only [Act.put, List.setIfInBounds_toArray, List.set_cons_zero, List.set_cons_succ]
  refine wpAnyH_take (i := 20) (oi := { dst := some 33, op := _, type := _, pos := _, after := _, guard := some (7, true) }) (v := .pointer (some ⟨hb, 0, none⟩)) rfl (by kernel_rfl) (by kernel_rfl) (by kernel_rfl) (fun _ _ _ h => h) (Or.inl ⟨by rfl, ?_⟩) hS ?_
  · intro wy hy
    clear hy
    go_simp
  simp only [Act.put, List.setIfInBounds_toArray, List.set_cons_zero, List.set_cons_succ]
  refine wpAnyH_take (i := 21) (oi := { dst := some 34, op := _, type := _, pos := _, after := _, guard := some (7, true) }) (v := .pointer (some ⟨hb, 0, none⟩)) rfl (by kernel_rfl) (by kernel_rfl) (by kernel_rfl) (fun _ _ _ h => h) (Or.inl ⟨by rfl, ?_⟩) hS ?_
  · intro wy hy
    clear hy
    go_simp
  simp only [Act.put, List.setIfInBounds_toArray, List.set_cons_zero, List.set_cons_succ]
  refine wpAnyH_take (i := 22) (oi := { dst := some 35, op := _, type := _, pos := _, after := _, guard := some (7, true) }) (v := .slice (some ⟨g, 0, none⟩) n cap) rfl (by kernel_rfl) (by kernel_rfl) (by kernel_rfl) (fun _ _ _ h => h) (Or.inl ⟨by rfl, ?_⟩) hS ?_
  · intro wy hy
    have h0 : wy.cell? ⟨hb, 0, none⟩ = some (.slice (some ⟨g, 0, none⟩) n cap) := hy.blk.cell rfl
    clear hy
    go_simp
  simp only [Act.put, List.setIfInBounds_toArray, List.set_cons_zero, List.set_cons_succ]
  refine wpAnyH_take (i := 23) (oi := { dst := some 36, op := _, type := _, pos := _, after := _, guard := some (7, true) }) (v := .int .i64 ((k1 : Nat) : Int)) rfl (by kernel_rfl) (by kernel_rfl) (by kernel_rfl) (fun _ _ _ h => h) (Or.inl ⟨by rfl, ?_⟩) hS ?_
  · intro wy hy
    clear hy
    go_simp
  simp only [Act.put, List.setIfInBounds_toArray, List.set_cons_zero, List.set_cons_succ]
  refine wpAnyH_take (i := 24) (oi := { dst := some 37, op := _, type := _, pos := _, after := _, guard := some (7, true) }) (v := .pointer (some ⟨g, k1, none⟩)) rfl (by kernel_rfl) (by kernel_rfl) (by kernel_rfl) (fun _ _ _ h => h) (Or.inl ⟨by rfl, ?_⟩) hS ?_
  · intro wy hy
    clear hy
    (go_simp; try omega)
  simp only [Act.put, List.setIfInBounds_toArray, List.set_cons_zero, List.set_cons_succ]
  refine wpAnyH_take (i := 25) (oi := { dst := some 38, op := _, type := _, pos := _, after := _, guard := some (7, true) }) (v := .int .i64 ((hAt l k1 : Nat) : Int)) rfl (by kernel_rfl) (by kernel_rfl) (by kernel_rfl) (fun _ _ _ h => h) (Or.inl ⟨by rfl, ?_⟩) hS ?_
  · intro wy hy
    have h0 : wy.cell? ⟨g, k1, none⟩ = some (.int .i64 ((hAt l k1 : Nat) : Int)) := rowN_cell HNL.out (by have := hy.row; rw [← HNL.out] at this; exact this) (by have := HNL.out; omega)
    clear hy
    go_simp
  simp only [Act.put, List.setIfInBounds_toArray, List.set_cons_zero, List.set_cons_succ]
  refine wpAnyH_ready (rs := [26]) (by kernel_rfl) (by simp) (AllReadyH.cons (o := { dst := some 39, op := _, type := _, pos := _, after := _, guard := some (7, true) }) rfl (fun K hK => ?_) AllReadyH.nil)
  have heg : ∀ args w, (callFunc 61 args).run Tryz.prog w = .ok (.enter 61 args) w := enters_of Tryz.func61 (by kernel_rfl) rfl
  go_simp
  refine (HC.out _ hS.qk (hAt l k2) (HSS.out _ (hAt_mem (by have := HNL.out; omega))) (hAt l k1) (HSS.out _ (hAt_mem (by have := HNL.out; omega)))).mono ?_
  rintro e w3 ⟨rfl, hb3⟩
  clear heg
  have hB3 := hg2.trans (hb3.mono hg2.size)
  clear hg2
  refine hK.out _ _ (hS.below hb3) (fun hS => ?_)
  clear hK K hb3
  generalize hcv : cf (hAt l k2) (hAt l k1) = cv at *
  have HCV := Hid.intro hcv
  clear hcv
  by_cases hcl : cv < 0
  · have HKO : Hid (∀ i, 0 < i → i < l.length → (i - 1) / 2 = p → ltF cf (hAt l i) (hAt l k2) = false) := by
      rw [HK2.out]
      exact kid_two HOG.out (by rw [← HK2.out, ← HK1.out, HCV.out]; exact hcl)
    refine wpAnyH_take (i := 27) (oi := { dst := some 40, op := _, type := _, pos := _, after := _, guard := some (7, true) }) (v := .bool true) rfl (by kernel_rfl) (by kernel_rfl) (by kernel_rfl) (fun _ _ _ h => h) (Or.inl ⟨by rfl, ?_⟩) hS ?_
    · intro wy hy
      clear hy
      go_simp
    simp only [Act.put, List.setIfInBounds_toArray, List.set_cons_zero, List.set_cons_succ]
    refine wpAnyH_take (i := 28) (oi := { dst := some 41, op := _, type := _, pos := _, after := _, guard := none }) (v := .bool true) rfl (by kernel_rfl) (by kernel_rfl) (by kernel_rfl) (fun _ _ _ h => h) (Or.inl ⟨by rfl, ?_⟩) hS ?_
    · intro wy hy
      clear hy
      go_simp
    simp only [Act.put, List.setIfInBounds_toArray, List.set_cons_zero, List.set_cons_succ]
    refine wpAnyH_done (by kernel_rfl) ?_ _
    clear hS
    go_wp2_with fail
    go_ret
    exact ⟨k2, rfl, .inr ⟨HK2.out, by have h9 := HNL.out; have h8 := HK2.out; omega⟩, HKO.out, hB3⟩
  · have HKO : Hid (∀ i, 0 < i → i < l.length → (i - 1) / 2 = p → ltF cf (hAt l i) (hAt l k1) = false) := by
      rw [HK1.out]
      exact kid_one HOG.out (fun _ => by rw [← HK2.out, ← HK1.out, HCV.out]; exact hcl)
    have hcl' : 0 ≤ cv := by omega
    refine wpAnyH_take (i := 27) (oi := { dst := some 40, op := _, type := _, pos := _, after := _, guard := some (7, true) }) (v := .bool false) rfl (by kernel_rfl) (by kernel_rfl) (by kernel_rfl) (fun _ _ _ h => h) (Or.inl ⟨by rfl, ?_⟩) hS ?_
    · intro wy hy
      clear hy
      go_simp
    simp only [Act.put, List.setIfInBounds_toArray, List.set_cons_zero, List.set_cons_succ]
    refine wpAnyH_take (i := 28) (oi := { dst := some 41, op := _, type := _, pos := _, after := _, guard := none }) (v := .bool false) rfl (by kernel_rfl) (by kernel_rfl) (by kernel_rfl) (fun _ _ _ h => h) (Or.inl ⟨by rfl, ?_⟩) hS ?_
    · intro wy hy
      clear hy
      go_simp
    simp only [Act.put, List.setIfInBounds_toArray, List.set_cons_zero, List.set_cons_succ]
    refine wpAnyH_done (by kernel_rfl) ?_ _
    clear hS
    go_wp2_with fail
    go_ret
    exact ⟨k1, rfl, .inl HK1.out, HKO.out, hB3⟩

/-- one put in -/
def PtRes (x : Flt) (a3 : Option Addr) (c3 : Nat) (Wb : World) (Bc hb : Nat) (cf : Nat → Nat → Int) (l : List Nat) (a : Nat) (e : Ending) (w' : World) : Prop := ∃ (lv : Value) (l' : List Nat), e = .returned (.tuple #[]) ∧ HpW x a3 c3 Wb Bc hb lv l' w' ∧ Heap (ltF cf) l' ∧ l'.Perm (l ++ [a])

theorem par_cast {p : Nat} (h : 0 < p) : ((p : Int) - 1).tdiv 2 = (((p - 1) / 2 : Nat) : Int) := by
  rw [Int.tdiv_eq_ediv_of_nonneg (by omega)]
  omega

set_option maxHeartbeats 8000000 in
set_option maxRecDepth 100000 in
theorem put_any (x : Flt) (a3 : Option Addr) (c3 : Nat) (Wb : World) (Bc hb : Nat) (S : List Nat) (cf : Nat → Nat → Int) (og : LtO (ltF cf)) (lv : Value) (l : List Nat) (a : Nat) (w : World) (hc : CmpQ x a3 c3 Wb Bc S cf) (h : HpW x a3 c3 Wb Bc hb lv l w) (hS : ∀ b ∈ l ++ [a], b ∈ S) (hh : Heap (ltF cf) l) (hs : l.length ≤ 1000000) :
    Calls Tryz.prog 63 #[.pointer (some ⟨hb, 0, none⟩), .int .i64 ((a : Nat) : Int)] w fun e w' => PtRes x a3 c3 Wb Bc hb cf l a e w' := by
  obtain ⟨i0, hi, hz0, hz1, hz2⟩ := info_parts info_int
  have HI0 := Hid.intro hi
  have HC := Hid.intro hc
  have HH := Hid.intro h
  have HSS := Hid.intro hS
  have HOG := Hid.intro og
  have HHP := Hid.intro hh
  have k0 : w.cell? ⟨hb, 0, none⟩ = some lv := h.blk.cell rfl
  have hbl : hb < w.heap.size := h.blk.lt
  have hcl : Bc < w.heap.size := h.box.lt
  have hwl : Wb.heap.size ≤ w.heap.size := h.bel.size
  clear hc h hS hh hi og
  go_enter Tryz.func63, Tryz.ntmps63
  go_upto_region 1 with (at_builtin; refine wpList_append_lies _ rfl (.tmp 9) (.tmp 11) 41 rfl Wb.heap.size 3 i0 _ 1 8 Tryz.underlying41 HI0.out hz0 hz1 hz2 rfl (by decide) lv l.length _ rfl (ownsRow_below HH.out.row ((Below.refl _ _).alloc (Nat.le_refl _) _)) ⟨w.heap.size, 0, none⟩ 1 1 [.int .i64 ((a : Nat) : Int)] rfl rfl (oneI (by simp)) (by intro u hu; rw [List.mem_singleton.1 hu]; rfl) (by omega) (by unfold maxLen; omega) (by omega) (by simp; omega) _ rfl ?_; intro g cap w2 hown hgrow hto hgl; have hbk : Blk hb #[lv, .func (.func 61) #[] #[.pointer (some ⟨Bc, 0, none⟩)]] 110 w2 := (HH.out.blk.below ((Below.refl _ w).alloc (Nat.le_refl _) (Obj.cells #[.int .i64 ((a : Nat) : Int)] 3)) hbl).grown hgrow (fun e => (HH.out.n1 hb e.symm).1 rfl); have q9 : w2.cell? ⟨hb, 0, none⟩ = some lv := hbk.cell rfl; have f9 : w2.frozen? ⟨hb, 0, none⟩ = false := hbk.frozen 0)
  have hg9 : g ≠ hb ∧ g ≠ Bc := by
    rcases hto with h9 | h9
    · exact HH.out.n1 g h9
    · rw [h9]
      constructor <;> (simp; omega)
  have hbx : Blk Bc #[.slice a3 x.copies.length c3] 32 w2 := (HH.out.box.below ((Below.refl _ w).alloc (Nat.le_refl _) (Obj.cells #[.int .i64 ((a : Nat) : Int)] 3)) hcl).grown hgrow (fun e => (HH.out.n1 Bc e.symm).2 rfl)
  have HW3 : Hid (HpW x a3 c3 Wb Bc hb (.slice (some ⟨g, 0, none⟩) (l.length + 1) cap) (l ++ [a]) (w2.setCell ⟨hb, 0, none⟩ (.slice (some ⟨g, 0, none⟩) (l.length + 1) cap))) := by
    refine ⟨((HH.out.bel.alloc hwl _).grown hgrow (by simp; omega) (fun k e => (HH.out.row.lt k e).1)).setCell (p := ⟨hb, 0, none⟩) HH.out.b1 _, hbx.other (Ne.symm HH.out.n3) _, hbk.set 0 _, ?_, ?_, HH.out.n3, HH.out.b1, HH.out.b2⟩
    · have h9 := hown.kept (w' := w2.setCell ⟨hb, 0, none⟩ (.slice (some ⟨g, 0, none⟩) (l.length + 1) cap)) (row := some hb) ⟨rfl, rfl, rfl, by simp, fun k _ hne => Below.heap_setCell _ _ _ _ (fun e => hne (by rw [e]))⟩ (Or.inr (fun e => hg9.1 (Option.some.inj e)))
      rw [List.length_append]
      show World.ownsRow _ _ _ _ _ (l.length + 1) _
      rw [show plV (l ++ [a]) = plV l ++ [.int .i64 ((a : Nat) : Int)] from List.map_append]
      exact h9
    · intro g' e
      cases e
      exact hg9
  have HUP : Hid (HUp (ltF cf) (l ++ [a]) l.length) := HUp.of_snoc HHP.out a
  obtain ⟨m, hm⟩ : ∃ m, m = l.length := ⟨_, rfl⟩
  rw [← hm] at HW3 HUP ⊢
  have HM := Hid.intro hm
  have hmm : m ≤ 1000000 := by omega
  clear hm hown hgrow hto hgl hbk q9 f9 hbx hg9 HH HHP k0 hbl hcl hwl hs
  generalize w2.setCell ⟨hb, 0, none⟩ (.slice (some ⟨g, 0, none⟩) (m + 1) cap) = w3 at *
  have k0 : w3.cell? ⟨hb, 0, none⟩ = some (.slice (some ⟨g, 0, none⟩) (m + 1) cap) := HW3.out.blk.cell rfl
  go_upto_region 2 with fail
  clear k0
  go_loopw [4] (fun i wr => ∃ (p : Nat) (L : List Nat), i = .int .i64 ((p : Nat) : Int) ∧ p < m + 1 ∧ Hid (m + 1 = L.length) ∧ Hid (HUp (ltF cf) L p) ∧ Hid (L.Perm (l ++ [a])) ∧ Hid (HpW x a3 c3 Wb Bc hb (.slice (some ⟨g, 0, none⟩) (m + 1) cap) L wr)) (fun i _ => (intOf i).toNat)
  case atStart => exact ⟨m, l ++ [a], rfl, Nat.lt_succ_self _, by show _ = _; rw [List.length_append, HM.out]; rfl, HUP, List.Perm.refl _, HW3⟩
  case round =>
    clear HUP HW3
    obtain ⟨p, L, rfl, hp, HLL, HU, HP, HW⟩ := hrel
    by_cases hp0 : 0 < p
    case neg =>
      have HE : Hid (p = 0) := by show _ = _; omega
      have HHE : Hid (Heap (ltF cf) L) := by
        have h9 := HU.out
        rw [HE.out] at h9
        exact h9.stop0
      have hpi : (p : Int) ≤ 0 := by omega
      clear hp0
      go_wp2_with fail
      go_end0
      exact ⟨_, L, rfl, HW.out, HHE.out, HP.out⟩
    obtain ⟨r, hr⟩ : ∃ r, r = (p - 1) / 2 := ⟨_, rfl⟩
    have hq1 : IntKind.i64.wrap ((p : Int) - 1) = (p : Int) - 1 := by rw [IntKind.wrap_i64]; omega
    have hq2 : ((p : Int) - 1).tdiv 2 = ((r : Nat) : Int) := by rw [hr]; exact par_cast hp0
    have hq3 : IntKind.i64.wrap ((r : Nat) : Int) = ((r : Nat) : Int) := by rw [IntKind.wrap_i64]; omega
    have hrp : r < p := by omega
    have HR := Hid.intro hr
    clear hr
    go_wp2_with fail
    refine (swap_any x a3 c3 Wb Bc hb S cf g (m + 1) cap L p r _ HC.out HW.out HLL.out (fun b hb9 => HSS.out b (HP.out.subset hb9)) hp (by omega) (by omega)).mono ?_
    rintro e w5 ⟨t, rfl, ht, hH5, _⟩
    cases t with
    | false =>
      have HHE : Hid (Heap (ltF cf) L) := by
        have h9 := HU.out
        refine h9.stop ?_
        rw [← HR.out]
        refine decide_eq_false (fun h8 => ?_)
        have := ht.2 h8
        cases this
      have HW5 : Hid (HpW x a3 c3 Wb Bc hb (.slice (some ⟨g, 0, none⟩) (m + 1) cap) L w5) := hH5
      clear ht hH5
      go_wp2_with fail
      go_end0
      exact ⟨_, L, rfl, HW5.out, HHE.out, HP.out⟩
    | true =>
      have hll := HLL.out
      have HU2 : Hid (HUp (ltF cf) (hSw L p r) r) := by
        have h9 := HUp.step HOG.out HU.out (by omega) hp0 (by rw [← HR.out]; exact decide_eq_true (ht.1 rfl))
        rw [← HR.out] at h9
        exact h9
      have HP2 : Hid ((hSw L p r).Perm (l ++ [a])) := (hSw_perm (by omega) (by omega)).trans HP.out
      have HL2 : Hid (m + 1 = (hSw L p r).length) := by show _ = _; rw [hSw_len]; exact hll
      have HW5 : Hid (HpW x a3 c3 Wb Bc hb (.slice (some ⟨g, 0, none⟩) (m + 1) cap) (hSw L p r) w5) := hH5
      clear ht hH5 hll
      go_wp2_with fail
      go_roundw
      case rel => exact ⟨r, hSw L p r, rfl, by omega, HL2, HU2, HP2, HW5⟩
      case measure => simp [intOf]; omega

end Go.Proofs.YtggbhggnemlpnaaGreat
