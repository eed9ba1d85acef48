/-
  The heap of the queue in memory: the least taken out. Made by mkhps.py.
-/
import Derived.Test.YtggbhggnemlpnaaGreatHpr
namespace Go.Proofs.YtggbhggnemlpnaaGreat
open Go.RowKit

/-- all blocks but two are as they were -/
structure B2 (g hb : Nat) (w w' : World) : Prop where
  os : w'.os = w.os
  tape : w'.tape = w.tape
  output : w'.output = w.output
  size : w.heap.size ≤ w'.heap.size
  block : ∀ k, k < w.heap.size → k ≠ g → k ≠ hb → w'.heap[k]? = w.heap[k]?
theorem B2.of_below {g hb : Nat} {w w' : World} (h : Below w.heap.size w w') : B2 g hb w w' := ⟨h.os, h.tape, h.output, h.size, fun k hk _ _ => h.block k hk⟩
theorem B2.trans {g hb : Nat} {a b c : World} (h : B2 g hb a b) (k : B2 g hb b c) : B2 g hb a c := ⟨k.os.trans h.os, k.tape.trans h.tape, k.output.trans h.output, Nat.le_trans h.size k.size, fun i hi h1 h2 => (k.block i (Nat.lt_of_lt_of_le hi h.size) h1 h2).trans (h.block i hi h1 h2)⟩
theorem B2.grown {g hb : Nat} {a w w' : World} (h : B2 g hb a w) (hg : w.grownBy w' (some g)) : B2 g hb a w' := h.trans ⟨hg.os, hg.tape, hg.output, hg.size, fun k hk h1 _ => hg.block k hk (fun e => h1 (Option.some.inj e))⟩
theorem B2.set {g hb : Nat} {a w : World} (h : B2 g hb a w) {p : Nat} (hp : p = g ∨ p = hb) (o : Nat) (v : Value) : B2 g hb a (w.setCell ⟨p, o, none⟩ v) := h.trans ⟨rfl, rfl, rfl, by simp, fun k _ h1 h2 => Below.heap_setCell _ _ _ _ (fun e => by rcases hp with h | h <;> (rw [h] at e; first | exact h1 e | exact h2 e))⟩
theorem B2.drew {g hb : Nat} {a w : World} (h : B2 g hb a w) : B2 g hb a w.drew := ⟨h.os, h.tape, h.output, h.size, h.block⟩

/-- the list cut -/
theorem HpW.cut {x : Flt} {a3 : Option Addr} {c3 : Nat} {Wb : World} {Bc hb g cap n k : Nat} {l : List Nat} {W : World} (hn : n = l.length) (h : HpW x a3 c3 Wb Bc hb (.slice (some ⟨g, 0, none⟩) n cap) l W) (hk : k ≤ l.length) : HpW x a3 c3 Wb Bc hb (.slice (some ⟨g, 0, none⟩) k cap) (l.take k) (W.setCell ⟨hb, 0, none⟩ (.slice (some ⟨g, 0, none⟩) k cap)) := by
  subst hn
  obtain ⟨n1, n2⟩ := h.n1 g rfl
  refine ⟨h.bel.setCell (p := ⟨hb, 0, none⟩) h.b1 _, h.box.other (Ne.symm h.n3) _, h.blk.set 0 _, ?_, ?_, h.n3, h.b1, h.b2⟩
  · have h0 := h.row.kept (w' := W.setCell ⟨hb, 0, none⟩ (.slice (some ⟨g, 0, none⟩) k cap)) (row := some hb) ⟨rfl, rfl, rfl, by simp, fun k _ hne => Below.heap_setCell _ _ _ _ (fun e => hne (by rw [e]))⟩ (Or.inr (fun e => n1 (Option.some.inj e)))
    rcases h0.2 with ⟨h1, _⟩ | ⟨g', cap', cur, h1, h2, h3, h4, h5, h6, h7⟩
    · cases h1
    · cases h1
      have hlk : (l.take k).length = k := by rw [List.length_take]; omega
      refine ⟨by simp, .inr ⟨g, cap, cur, by rw [hlk], h2, h3, by rw [hlk]; omega, h5, h6, ?_⟩⟩
      rw [hlk]
      rw [Nat.mul_one] at h7 ⊢
      have h8 := congrArg (List.take k) h7
      rw [List.take_take, Nat.min_eq_left hk] at h8
      rw [h8]
      exact (List.map_take).symm
  · intro g' e
    cases e
    exact ⟨n1, n2⟩

/-- the least taken out -/
def TkRes (x : Flt) (a3 : Option Addr) (c3 : Nat) (Wb : World) (Bc hb : Nat) (cf : Nat → Nat → Int) (g cap : Nat) (l : List Nat) (w : World) (e : Ending) (w' : World) : Prop := ∃ l' : List Nat, e = .returned (.int .i64 ((hAt l 0 : Nat) : Int)) ∧ HpW x a3 c3 Wb Bc hb (.slice (some ⟨g, 0, none⟩) (l.length - 1) cap) l' w' ∧ l'.length = l.length - 1 ∧ Heap (ltF cf) l' ∧ l'.Perm (hCut l) ∧ B2 g hb w w'

set_option maxHeartbeats 8000000 in
set_option maxRecDepth 100000 in
theorem take_anyQ (x : Flt) (a3 : Option Addr) (c3 : Nat) (Wb : World) (Bc hb : Nat) (S : List Nat) (cf : Nat → Nat → Int) (og : LtO (ltF cf)) (g n cap : Nat) (l : List Nat) (w : World) (hc : CmpQ x a3 c3 Wb Bc S cf) (h : HpW x a3 c3 Wb Bc hb (.slice (some ⟨g, 0, none⟩) n cap) l w) (hn : n = l.length) (hS : ∀ b ∈ l, b ∈ S) (hh : Heap (ltF cf) l) (h0 : 0 < n) (hs : n ≤ 1000000) :
    Calls Tryz.prog 65 #[.pointer (some ⟨hb, 0, none⟩)] w fun e w' => TkRes x a3 c3 Wb Bc hb cf g cap l w e w' := by
  have HC := Hid.intro hc
  have HH := Hid.intro h
  have HSS := Hid.intro hS
  have HNL := Hid.intro hn
  have HOG := Hid.intro og
  have HHP := Hid.intro hh
  have hcap : n ≤ cap := by
    have h9 := h.row
    rw [← hn] at h9
    rcases h9.2 with ⟨h1, _⟩ | ⟨g', cap', cur, h1, _, _, h4, _⟩
    · cases h1
    · cases h1
      exact h4
  clear hc h hS hn og hh
  obtain ⟨m, hm⟩ : ∃ m, n = m + 1 := ⟨n - 1, by omega⟩
  subst hm
  go_enter Tryz.func65, Tryz.ntmps65
  go_upto_region 1 with fail
  refine wp_region_held_drew (S := fun wy => HpW x a3 c3 Wb Bc hb (.slice (some ⟨g, 0, none⟩) (m + 1) cap) l wy) (by kernel_rfl) HH.out.drew (fun hS => ?_)
  have HB : Hid (B2 g hb w w.drew) := (B2.of_below (Below.refl _ _)).drew
  clear HH
  obtain ⟨w2, HW2⟩ : ∃ w2, Hid (w2 = w.drew) := ⟨_, rfl⟩
  rw [← HW2.out] at hS HB ⊢
  clear HW2
  refine wpAnyH_take (i := 0) (oi := { dst := some 7, op := _, type := _, pos := _, after := _, guard := none }) (v := .pointer (some ⟨hb, 0, none⟩)) rfl (by kernel_rfl) (by kernel_rfl) (by kernel_rfl) (fun _ _ _ h => h) (Or.inl ⟨by rfl, ?_⟩) hS ?_
  · intro wy hy
    clear hy
    go_simp
  simp only [Act.put, List.setIfInBounds_toArray, List.set_cons_zero, List.set_cons_succ]
  refine wpAnyH_take (i := 1) (oi := { dst := some 8, op := _, type := _, pos := _, after := _, guard := none }) (v := .pointer (some ⟨hb, 0, none⟩)) rfl (by kernel_rfl) (by kernel_rfl) (by kernel_rfl) (fun _ _ _ h => h) (Or.inl ⟨by rfl, ?_⟩) hS ?_
  · intro wy hy
    clear hy
    go_simp
  simp only [Act.put, List.setIfInBounds_toArray, List.set_cons_zero, List.set_cons_succ]
  refine wpAnyH_take (i := 2) (oi := { dst := some 9, op := _, type := _, pos := _, after := _, guard := none }) (v := .pointer (some ⟨hb, 0, none⟩)) rfl (by kernel_rfl) (by kernel_rfl) (by kernel_rfl) (fun _ _ _ h => h) (Or.inl ⟨by rfl, ?_⟩) hS ?_
  · intro wy hy
    clear hy
    go_simp
  simp only [Act.put, List.setIfInBounds_toArray, List.set_cons_zero, List.set_cons_succ]
  refine wpAnyH_take (i := 3) (oi := { dst := some 10, op := _, type := _, pos := _, after := _, guard := none }) (v := .slice (some ⟨g, 0, none⟩) (m + 1) cap) rfl (by kernel_rfl) (by kernel_rfl) (by kernel_rfl) (fun _ _ _ h => h) (Or.inl ⟨by rfl, ?_⟩) hS ?_
  · intro wy hy
    have h0 : wy.cell? ⟨hb, 0, none⟩ = some (.slice (some ⟨g, 0, none⟩) (m + 1) cap) := hy.blk.cell rfl
    clear hy
    go_simp
  simp only [Act.put, List.setIfInBounds_toArray, List.set_cons_zero, List.set_cons_succ]
  refine wpAnyH_take (i := 4) (oi := { dst := some 11, op := _, type := _, pos := _, after := _, guard := none }) (v := .pointer (some ⟨g, 0, none⟩)) rfl (by kernel_rfl) (by kernel_rfl) (by kernel_rfl) (fun _ _ _ h => h) (Or.inl ⟨by rfl, ?_⟩) hS ?_
  · intro wy hy
    clear hy
    (go_simp; try omega)
  simp only [Act.put, List.setIfInBounds_toArray, List.set_cons_zero, List.set_cons_succ]
  refine wpAnyH_take (i := 5) (oi := { dst := some 12, op := _, type := _, pos := _, after := _, guard := none }) (v := .int .i64 ((hAt l 0 : Nat) : Int)) rfl (by kernel_rfl) (by kernel_rfl) (by kernel_rfl) (fun _ _ _ h => h) (Or.inl ⟨by rfl, ?_⟩) hS ?_
  · intro wy hy
    have h0 : wy.cell? ⟨g, 0, none⟩ = some (.int .i64 ((hAt l 0 : Nat) : Int)) := rowN_cell HNL.out (by have := hy.row; rw [← HNL.out] at this; exact this) (by have := HNL.out; omega)
    clear hy
    go_simp
  simp only [Act.put, List.setIfInBounds_toArray, List.set_cons_zero, List.set_cons_succ]
  refine wpAnyH_take (i := 6) (oi := { dst := some 13, op := _, type := _, pos := _, after := _, guard := none }) (v := .pointer (some ⟨hb, 0, none⟩)) rfl (by kernel_rfl) (by kernel_rfl) (by kernel_rfl) (fun _ _ _ h => h) (Or.inl ⟨by rfl, ?_⟩) hS ?_
  · intro wy hy
    clear hy
    go_simp
  simp only [Act.put, List.setIfInBounds_toArray, List.set_cons_zero, List.set_cons_succ]
  refine wpAnyH_take (i := 7) (oi := { dst := some 14, op := _, type := _, pos := _, after := _, guard := none }) (v := .pointer (some ⟨hb, 0, none⟩)) rfl (by kernel_rfl) (by kernel_rfl) (by kernel_rfl) (fun _ _ _ h => h) (Or.inl ⟨by rfl, ?_⟩) hS ?_
  · intro wy hy
    clear hy
    go_simp
  simp only [Act.put, List.setIfInBounds_toArray, List.set_cons_zero, List.set_cons_succ]
  refine wpAnyH_take (i := 8) (oi := { dst := some 15, op := _, type := _, pos := _, after := _, guard := none }) (v := .pointer (some ⟨hb, 0, none⟩)) rfl (by kernel_rfl) (by kernel_rfl) (by kernel_rfl) (fun _ _ _ h => h) (Or.inl ⟨by rfl, ?_⟩) hS ?_
  · intro wy hy
    clear hy
    go_simp
  simp only [Act.put, List.setIfInBounds_toArray, List.set_cons_zero, List.set_cons_succ]
  refine wpAnyH_take (i := 9) (oi := { dst := some 16, op := _, type := _, pos := _, after := _, guard := none }) (v := .slice (some ⟨g, 0, none⟩) (m + 1) cap) rfl (by kernel_rfl) (by kernel_rfl) (by kernel_rfl) (fun _ _ _ h => h) (Or.inl ⟨by rfl, ?_⟩) hS ?_
  · intro wy hy
    have h0 : wy.cell? ⟨hb, 0, none⟩ = some (.slice (some ⟨g, 0, none⟩) (m + 1) cap) := hy.blk.cell rfl
    clear hy
    go_simp
  simp only [Act.put, List.setIfInBounds_toArray, List.set_cons_zero, List.set_cons_succ]
  refine wpAnyH_take (i := 10) (oi := { dst := some 17, op := _, type := _, pos := _, after := _, guard := none }) (v := .int .i64 ((m + 1 : Nat) : Int)) rfl (by kernel_rfl) (by kernel_rfl) (by kernel_rfl) (fun _ _ _ h => h) (Or.inl ⟨by rfl, ?_⟩) hS ?_
  · intro wy hy
    clear hy
    go_simp
  simp only [Act.put, List.setIfInBounds_toArray, List.set_cons_zero, List.set_cons_succ]
  refine wpAnyH_take (i := 11) (oi := { dst := some 18, op := _, type := _, pos := _, after := _, guard := none }) (v := .int .i64 ((m : Nat) : Int)) rfl (by kernel_rfl) (by kernel_rfl) (by kernel_rfl) (fun _ _ _ h => h) (Or.inl ⟨by rfl, ?_⟩) hS ?_
  · intro wy hy
    clear hy
    (go_simp; try (rw [IntKind.wrap_i64]); try omega)
  simp only [Act.put, List.setIfInBounds_toArray, List.set_cons_zero, List.set_cons_succ]
  refine wpAnyH_take (i := 12) (oi := { dst := some 3, op := _, type := _, pos := _, after := _, guard := none }) (v := .int .i64 ((hAt l 0 : Nat) : Int)) rfl (by kernel_rfl) (by kernel_rfl) (by kernel_rfl) (fun _ _ _ h => h) (Or.inl ⟨by rfl, ?_⟩) hS ?_
  · intro wy hy
    clear hy
    go_simp
  simp only [Act.put, List.setIfInBounds_toArray, List.set_cons_zero, List.set_cons_succ]
  refine wpAnyH_take (i := 13) (oi := { dst := some 4, op := _, type := _, pos := _, after := _, guard := none }) (v := .int .i64 ((m : Nat) : Int)) rfl (by kernel_rfl) (by kernel_rfl) (by kernel_rfl) (fun _ _ _ h => h) (Or.inl ⟨by rfl, ?_⟩) hS ?_
  · intro wy hy
    clear hy
    go_simp
  simp only [Act.put, List.setIfInBounds_toArray, List.set_cons_zero, List.set_cons_succ]
  have HH := Hid.intro hS
  refine wpAnyH_done (by kernel_rfl) ?_ _
  clear hS
  go_upto_region 2 with fail
  refine wp_region_held_drew (S := fun wy => Blk hb #[.slice (some ⟨g, 0, none⟩) (m + 1) cap, .func (.func 61) #[] #[.pointer (some ⟨Bc, 0, none⟩)]] 110 wy) (by kernel_rfl) HH.out.blk.drew (fun hS => ?_)
  replace HH := Hid.intro HH.out.drew
  replace HB := Hid.intro HB.out.drew
  generalize w2.drew = wn at *
  refine wpAnyH_take (i := 0) (oi := { dst := some 19, op := _, type := _, pos := _, after := _, guard := none }) (v := .pointer (some ⟨hb, 0, none⟩)) rfl (by kernel_rfl) (by kernel_rfl) (by kernel_rfl) (fun _ _ _ h => h) (Or.inl ⟨by rfl, ?_⟩) hS ?_
  · intro wy hy
    clear hy
    go_simp
  simp only [Act.put, List.setIfInBounds_toArray, List.set_cons_zero, List.set_cons_succ]
  refine wpAnyH_take (i := 1) (oi := { dst := some 20, op := _, type := _, pos := _, after := _, guard := none }) (v := .pointer (some ⟨hb, 0, none⟩)) rfl (by kernel_rfl) (by kernel_rfl) (by kernel_rfl) (fun _ _ _ h => h) (Or.inl ⟨by rfl, ?_⟩) hS ?_
  · intro wy hy
    clear hy
    go_simp
  simp only [Act.put, List.setIfInBounds_toArray, List.set_cons_zero, List.set_cons_succ]
  refine wpAnyH_take (i := 2) (oi := { dst := some 21, op := _, type := _, pos := _, after := _, guard := none }) (v := .pointer (some ⟨hb, 0, none⟩)) rfl (by kernel_rfl) (by kernel_rfl) (by kernel_rfl) (fun _ _ _ h => h) (Or.inl ⟨by rfl, ?_⟩) hS ?_
  · intro wy hy
    clear hy
    go_simp
  simp only [Act.put, List.setIfInBounds_toArray, List.set_cons_zero, List.set_cons_succ]
  refine wpAnyH_take (i := 3) (oi := { dst := some 22, op := _, type := _, pos := _, after := _, guard := none }) (v := .slice (some ⟨g, 0, none⟩) (m + 1) cap) rfl (by kernel_rfl) (by kernel_rfl) (by kernel_rfl) (fun _ _ _ h => h) (Or.inl ⟨by rfl, ?_⟩) hS ?_
  · intro wy hy
    have h0 : wy.cell? ⟨hb, 0, none⟩ = some (.slice (some ⟨g, 0, none⟩) (m + 1) cap) := hy.cell rfl
    clear hy
    go_simp
  simp only [Act.put, List.setIfInBounds_toArray, List.set_cons_zero, List.set_cons_succ]
  refine wpAnyH_take (i := 4) (oi := { dst := some 23, op := _, type := _, pos := _, after := _, guard := none }) (v := .pointer (some ⟨hb, 0, none⟩)) rfl (by kernel_rfl) (by kernel_rfl) (by kernel_rfl) (fun _ _ _ h => h) (Or.inl ⟨by rfl, ?_⟩) hS ?_
  · intro wy hy
    clear hy
    go_simp
  simp only [Act.put, List.setIfInBounds_toArray, List.set_cons_zero, List.set_cons_succ]
  refine wpAnyH_take (i := 5) (oi := { dst := some 24, op := _, type := _, pos := _, after := _, guard := none }) (v := .pointer (some ⟨hb, 0, none⟩)) rfl (by kernel_rfl) (by kernel_rfl) (by kernel_rfl) (fun _ _ _ h => h) (Or.inl ⟨by rfl, ?_⟩) hS ?_
  · intro wy hy
    clear hy
    go_simp
  simp only [Act.put, List.setIfInBounds_toArray, List.set_cons_zero, List.set_cons_succ]
  refine wpAnyH_take (i := 6) (oi := { dst := some 25, op := _, type := _, pos := _, after := _, guard := none }) (v := .pointer (some ⟨hb, 0, none⟩)) rfl (by kernel_rfl) (by kernel_rfl) (by kernel_rfl) (fun _ _ _ h => h) (Or.inl ⟨by rfl, ?_⟩) hS ?_
  · intro wy hy
    clear hy
    go_simp
  simp only [Act.put, List.setIfInBounds_toArray, List.set_cons_zero, List.set_cons_succ]
  refine wpAnyH_take (i := 7) (oi := { dst := some 26, op := _, type := _, pos := _, after := _, guard := none }) (v := .slice (some ⟨g, 0, none⟩) (m + 1) cap) rfl (by kernel_rfl) (by kernel_rfl) (by kernel_rfl) (fun _ _ _ h => h) (Or.inl ⟨by rfl, ?_⟩) hS ?_
  · intro wy hy
    have h0 : wy.cell? ⟨hb, 0, none⟩ = some (.slice (some ⟨g, 0, none⟩) (m + 1) cap) := hy.cell rfl
    clear hy
    go_simp
  simp only [Act.put, List.setIfInBounds_toArray, List.set_cons_zero, List.set_cons_succ]
  refine wpAnyH_take (i := 8) (oi := { dst := some 27, op := _, type := _, pos := _, after := _, guard := none }) (v := .int .i64 ((m : Nat) : Int)) rfl (by kernel_rfl) (by kernel_rfl) (by kernel_rfl) (fun _ _ _ h => h) (Or.inl ⟨by rfl, ?_⟩) hS ?_
  · intro wy hy
    clear hy
    go_simp
  simp only [Act.put, List.setIfInBounds_toArray, List.set_cons_zero, List.set_cons_succ]
  refine wpAnyH_take (i := 9) (oi := { dst := some 28, op := _, type := _, pos := _, after := _, guard := none }) (v := .pointer (some ⟨g, m, none⟩)) rfl (by kernel_rfl) (by kernel_rfl) (by kernel_rfl) (fun _ _ _ h => h) (Or.inl ⟨by rfl, ?_⟩) hS ?_
  · intro wy hy
    clear hy
    (go_simp; try omega)
  simp only [Act.put, List.setIfInBounds_toArray, List.set_cons_zero, List.set_cons_succ]
  refine wpAnyH_ready (rs := [10]) (by kernel_rfl) (by simp) (AllReadyH.cons (o := { dst := some 29, op := _, type := _, pos := _, after := _, guard := none }) rfl (fun KK hKK => ?_) AllReadyH.nil)
  have k9 : wn.cell? ⟨g, m, none⟩ = some (.int .i64 ((hAt l m : Nat) : Int)) := rowN_cell HNL.out (by have := HH.out.row; rw [← HNL.out] at this; exact this) (by have := HNL.out; omega)
  go_simp
  refine hKK.out _ _ hS (fun hS => ?_)
  clear hKK KK k9
  refine wpAnyH_take (i := 11) (oi := { dst := some 30, op := _, type := _, pos := _, after := _, guard := none }) (v := .pointer (some ⟨g, 0, none⟩)) rfl (by kernel_rfl) (by kernel_rfl) (by kernel_rfl) (fun _ _ _ h => h) (Or.inl ⟨by rfl, ?_⟩) hS ?_
  · intro wy hy
    clear hy
    (go_simp; try omega)
  simp only [Act.put, List.setIfInBounds_toArray, List.set_cons_zero, List.set_cons_succ]
  refine wpAnyH_ready (rs := [12]) (by kernel_rfl) (by simp) (AllReadyH.cons (o := { dst := none, op := _, type := _, pos := _, after := _, guard := none }) rfl (fun KK hKK => ?_) AllReadyH.nil)
  have k9 : wn.cell? ⟨g, 0, none⟩ = some (.int .i64 ((hAt l 0 : Nat) : Int)) := rowN_cell HNL.out (by have := HH.out.row; rw [← HNL.out] at this; exact this) (by have := HNL.out; omega)
  have f9 : wn.frozen? ⟨g, 0, none⟩ = false := rowN_frz HNL.out HH.out.row 0
  have HH1 := Hid.intro (HH.out.set HNL.out (j := 0) (by have := HNL.out; omega) (hAt l m))
  have HB1 : Hid (B2 g hb w (wn.setCell ⟨g, 0, none⟩ (.int .i64 ((hAt l m : Nat) : Int)))) := HB.out.set (.inl rfl) 0 _
  go_simp
  refine hKK.out _ _ HH1.out.blk (fun hS => ?_)
  clear hKK KK k9 f9 HH HB
  generalize wn.setCell ⟨g, 0, none⟩ (.int .i64 ((hAt l m : Nat) : Int)) = wm at *
  refine wpAnyH_done (by kernel_rfl) ?_ _
  clear hS
  have HL1 : Hid (m + 1 = (l.set 0 (hAt l m)).length) := by show _ = _; rw [List.length_set]; exact HNL.out
  have k0 : wm.cell? ⟨hb, 0, none⟩ = some (.slice (some ⟨g, 0, none⟩) (m + 1) cap) := HH1.out.blk.cell rfl
  have f0 : wm.frozen? ⟨hb, 0, none⟩ = false := HH1.out.blk.frozen 0
  have HCE : Hid ((l.set 0 (hAt l m)).take m = hCut l) := by
    show _ = _
    unfold hCut
    rw [← HNL.out]
    rfl
  have HH2 : Hid (HpW x a3 c3 Wb Bc hb (.slice (some ⟨g, 0, none⟩) m cap) (hCut l) (wm.setCell ⟨hb, 0, none⟩ (.slice (some ⟨g, 0, none⟩) m cap))) := by
    have h9 := HH1.out.cut HL1.out (k := m) (by have := HL1.out; omega)
    rw [HCE.out] at h9
    exact h9
  have HB2 : Hid (B2 g hb w (wm.setCell ⟨hb, 0, none⟩ (.slice (some ⟨g, 0, none⟩) m cap))) := HB1.out.set (.inr rfl) 0 _
  have hmc : (m : Int) ≤ (cap : Int) := by omega
  clear HH1 HB1
  go_upto_region 4 with fail
  clear k0 f0 hmc
  generalize wm.setCell ⟨hb, 0, none⟩ (.slice (some ⟨g, 0, none⟩) m cap) = w4 at *
  have HD : Hid (HDn (ltF cf) (hCut l) 0) := HDn.of_cut HHP.out
  have HCL : Hid (m = (hCut l).length) := by show _ = _; rw [hCut_len, ← HNL.out]; rfl
  have HCS : Hid (∀ b ∈ hCut l, b ∈ S) := fun b hb9 => HSS.out b ((hCut_perm (by have := HNL.out; omega)).subset (List.mem_cons_of_mem _ hb9))
  go_wp2_with fail
  go_loopw [5] (fun i wr => ∃ (p : Nat) (L : List Nat), i = .int .i64 ((p : Nat) : Int) ∧ p ≤ m ∧ Hid (m = L.length) ∧ Hid (HDn (ltF cf) L p) ∧ Hid (L.Perm (hCut l)) ∧ Hid (HpW x a3 c3 Wb Bc hb (.slice (some ⟨g, 0, none⟩) m cap) L wr) ∧ Hid (B2 g hb w wr)) (fun i _ => m - (intOf i).toNat)
  case atStart => exact ⟨0, hCut l, rfl, Nat.zero_le _, HCL, HD, List.Perm.refl _, HH2, HB2⟩
  case round =>
    clear HD HH2 HB2
    obtain ⟨p, L, rfl, hp, HLL, HD, HP, HW, HB⟩ := hrel
    have HLS : Hid (∀ b ∈ L, b ∈ S) := fun b hb9 => HCS.out b (HP.out.subset hb9)
    go_wp2_with fail
    refine (kid_any x a3 c3 Wb Bc hb S cf HOG.out g m cap L p _ HC.out HW.out HLL.out HLS.out hp (by omega)).mono ?_
    rintro e w5 ⟨k, rfl, hk, hle, hb5⟩
    have HW5 := Hid.intro (HW.out.below hb5)
    have HB5 : Hid (B2 g hb w w5) := HB.out.trans (B2.of_below hb5)
    have HLE := Hid.intro hle
    have HKK := Hid.intro hk
    have hkp : p < k := by omega
    have HKP : Hid ((k - 1) / 2 = p) := by show _ = _; omega
    clear hb5 HW HB hle hk
    by_cases hge : m ≤ k
    · have HHE : Hid (Heap (ltF cf) L) := HD.out.stop (fun i h1 h2 h3 => by have h9 := HLL.out; have h8 := HKK.out; omega)
      have hgi : (m : Int) ≤ (k : Int) := by omega
      have HLN : Hid (L.length = l.length - 1) := by show _ = _; rw [← HLL.out, ← HNL.out]; rfl
      have HWE : Hid (HpW x a3 c3 Wb Bc hb (.slice (some ⟨g, 0, none⟩) (l.length - 1) cap) L w5) := by rw [← HNL.out]; exact HW5.out
      clear HKK hge hkp
      go_wp2_with fail
      go_ret
      exact ⟨L, rfl, HWE.out, HLN.out, HHE.out, HP.out, HB5.out⟩
    · have hlk : (k : Int) < (m : Int) := by omega
      have hkm : k < m := by omega
      clear HKK hge
      go_wp2_with fail
      refine (swap_any x a3 c3 Wb Bc hb S cf g m cap L k p _ HC.out HW5.out HLL.out HLS.out hkm (by omega) (by omega)).mono ?_
      rintro e w6 ⟨t, rfl, ht, hH6, hg6⟩
      have HB6 : Hid (B2 g hb w w6) := HB5.out.grown hg6
      clear hg6 HB5 HW5
      cases t with
      | false =>
        have HHE : Hid (Heap (ltF cf) L) := by
          refine HD.out.stop (fun i h1 h2 h3 => HOG.out.ntr (HLE.out i h1 h2 h3) (decide_eq_false (fun h8 => ?_)))
          have := ht.2 h8
          cases this
        have HLN : Hid (L.length = l.length - 1) := by show _ = _; rw [← HLL.out, ← HNL.out]; rfl
        have HWE : Hid (HpW x a3 c3 Wb Bc hb (.slice (some ⟨g, 0, none⟩) (l.length - 1) cap) L w6) := by rw [← HNL.out]; exact hH6
        clear ht hH6
        go_wp2_with fail
        go_ret
        exact ⟨L, rfl, HWE.out, HLN.out, HHE.out, HP.out, HB6.out⟩
      | true =>
        have hll := HLL.out
        have HD2 : Hid (HDn (ltF cf) (hSw L k p) k) := HDn.step HOG.out HD.out (by omega) (by omega) HKP.out HLE.out (decide_eq_true (ht.1 rfl))
        have HP2 : Hid ((hSw L k p).Perm (hCut l)) := (hSw_perm (by omega) (by omega)).trans HP.out
        have HL2 : Hid (m = (hSw L k p).length) := by show _ = _; rw [hSw_len]; exact hll
        have HW6 : Hid (HpW x a3 c3 Wb Bc hb (.slice (some ⟨g, 0, none⟩) m cap) (hSw L k p) w6) := hH6
        clear ht hH6 hll
        go_wp2_with fail
        go_roundw
        case rel => exact ⟨k, hSw L k p, rfl, by omega, HL2, HD2, HP2, HW6, HB6⟩
        case measure => simp [intOf]; omega

end Go.Proofs.YtggbhggnemlpnaaGreat
