/-
  A number drawn out of a code (made by mkdr1.py).
-/
import Derived.Test.YthjicahpfhjfdaaGreatDoorJ0
import Derived.Laws.Bits64
import Derived.Deep.RegionHeld3
namespace Go.Proofs.YthjicahpfhjfdaaGreatDoor
open Go.RowKit

theorem i64_xor_nat (a b : Nat) (ha : a < 4611686018427387904) (hb : b < 4611686018427387904) : bits .xor .i64 (a : Int) (b : Int) = ((a ^^^ b : Nat) : Int) := by
  have hx : a ^^^ b < 2 ^ 62 := Nat.xor_lt_two_pow (by omega) (by omega)
  have h1 : (BitVec.ofInt 64 (a : Int)).toNat = a := by
    rw [BitVec.ofInt_natCast, BitVec.toNat_ofNat]; exact Nat.mod_eq_of_lt (by omega)
  have h2 : (BitVec.ofInt 64 (b : Int)).toNat = b := by
    rw [BitVec.ofInt_natCast, BitVec.toNat_ofNat]; exact Nat.mod_eq_of_lt (by omega)
  show IntKind.i64.wrap ((BitVec.ofInt 64 (a : Int) ^^^ BitVec.ofInt 64 (b : Int)).toNat : Int) = _
  rw [BitVec.toNat_xor, h1, h2, IntKind.wrap_i64]
  omega

theorem tmod_nat (a b : Nat) : (a : Int).tmod (b : Int) = ((a % b : Nat) : Int) := by
  rw [Int.tmod_eq_emod_of_nonneg (by omega)]
  omega
theorem tdiv_nat (a b : Nat) : (a : Int).tdiv (b : Int) = ((a / b : Nat) : Int) := by
  rw [Int.tdiv_eq_ediv_of_nonneg (by omega)]
  rfl

/-- the bytes of a code lie ahead of the block p -/
def ByS (p : Nat) (a : Option Addr) (xs : List Nat) (w : World) : Prop := ∀ (k x : Nat), xs[k]? = some x → ∃ b o, a = some ⟨b, o, none⟩ ∧ w.cell? ⟨b, o + k, none⟩ = some (.int .u8 (x : Int)) ∧ x < 256 ∧ b < p

/-- all blocks below B but p are as they were -/
structure Bt (p B : Nat) (w w' : World) : Prop where
  os : w'.os = w.os
  tape : w'.tape = w.tape
  output : w'.output = w.output
  size : w.heap.size ≤ w'.heap.size
  block : ∀ k, k < B → k ≠ p → w'.heap[k]? = w.heap[k]?

theorem Bt.refl (p B : Nat) (w : World) : Bt p B w w := ⟨rfl, rfl, rfl, Nat.le_refl _, fun _ _ _ => rfl⟩
theorem Bt.trans {p B : Nat} {a b c : World} (h : Bt p B a b) (k : Bt p B b c) : Bt p B a c :=
  ⟨k.os.trans h.os, k.tape.trans h.tape, k.output.trans h.output, Nat.le_trans h.size k.size, fun x h1 h2 => (k.block x h1 h2).trans (h.block x h1 h2)⟩
theorem Bt.mono {p B B' : Nat} {w w' : World} (h : Bt p B w w') (hB : B' ≤ B) : Bt p B' w w' := ⟨h.os, h.tape, h.output, h.size, fun k hk => h.block k (Nat.lt_of_lt_of_le hk hB)⟩
theorem Bt.of_below {p B : Nat} {w w' : World} (h : Below B w w') : Bt p B w w' := ⟨h.os, h.tape, h.output, h.size, fun k hk _ => h.block k hk⟩
theorem Bt.below {p B B' : Nat} {w w' : World} (h : Bt p B w w') (hB : B' ≤ B) (hp : B' ≤ p) : Below B' w w' := ⟨h.os, h.tape, h.output, h.size, fun k hk => h.block k (by omega) (by omega)⟩
theorem Bt.drew {p B : Nat} {a w : World} (h : Bt p B a w) : Bt p B a w.drew := ⟨h.os, h.tape, h.output, h.size, h.block⟩
theorem Bt.cell {p B : Nat} {w w' : World} (h : Bt p B w w') {a : Addr} (h1 : a.block < B) (h2 : a.block ≠ p) : w'.cell? a = w.cell? a := World.cell?_of_block (w := w) (h.block a.block h1 h2)
theorem Bt.set {p B : Nat} {a w : World} (h : Bt p B a w) (o : Nat) (v : Value) : Bt p B a (w.setCell ⟨p, o, none⟩ v) :=
  ⟨h.os, h.tape, h.output, by simpa [World.setCell] using h.size, fun k h1 h2 => (Below.heap_setCell w ⟨p, o, none⟩ v k (fun e => h2 e)).trans (h.block k h1 h2)⟩
theorem Bt.drewN {p B : Nat} {a w : World} (h : Bt p B a w) (d : Nat) : Bt p B a (w.drewN d) := ⟨h.os, h.tape, h.output, h.size, h.block⟩
theorem Blk.bt {p B g : Nat} {cs : Array Value} {t : TypeId} {w w' : World} (h : Blk g cs t w) (hb : Bt p B w w') (h1 : g < B) (h2 : g ≠ p) : Blk g cs t w' := (hb.block g h1 h2).trans h
theorem ByS.bt {p B : Nat} {a : Option Addr} {xs : List Nat} {w w' : World} (h : ByS p a xs w) (hb : Bt p B w w') (hB : p ≤ B) : ByS p a xs w' := fun k x hk => by
  obtain ⟨b, o, e, c, l, q⟩ := h k x hk
  exact ⟨b, o, e, (hb.cell (show b < B by omega) (show b ≠ p by omega)).trans c, l, q⟩

theorem isz_Rd : (Tryz.prog.info? 84).map (·.size) = some 2 := by kernel_rfl

set_option maxHeartbeats 4000000 in
set_option maxRecDepth 100000 in
theorem pick_any (xs : List Nat) (a : Option Addr) (cap p K : Nat) (n : Nat) (w : World) (hin : ByS p a xs w) (hX : Blk p #[.slice a xs.length cap, .int .i64 (K : Int)] 84 w) (hl : xs.length ≤ 2000) (hK : K ≤ 1000000) (h1 : 1 ≤ n) (h2 : n ≤ 1000000) :
    Calls Tryz.prog 16 #[.pointer (some ⟨p, 0, none⟩), .int .i64 (n : Int)] w fun e w' => ∃ v d : Nat, e = .returned (.int .i64 (v : Int)) ∧ v < n ∧ w' = (w.setCell ⟨p, 1, none⟩ (.int .i64 ((K : Int) + 1))).drewN d := by
  have HI := Hid.intro hin
  have HX := Hid.intro hX
  have k0 : w.cell? ⟨p, 0, none⟩ = some (.slice a xs.length cap) := hX.cell rfl
  have k1 : w.cell? ⟨p, 1, none⟩ = some (.int .i64 (K : Int)) := hX.cell rfl
  have f1 : w.frozen? ⟨p, 1, none⟩ = false := hX.frozen _
  have n1 : (1 : Int) ≤ (n : Int) := by omega
  have n0 : ¬ (n : Int) = 0 := by omega
  clear hin hX
  by_cases h0 : xs.length = 0
  · have e0 : (xs.length : Int) = 0 := by omega
    go_enter Tryz.func16, Tryz.ntmps16
    go_wp2_with fail
    go_ret
    exact ⟨0, 0, rfl, by omega, by simp [World.drewN_zero]⟩
  have l0 : ¬ (xs.length : Int) = 0 := by omega
  have l1 : ((xs.length : Int) == 0) = false := by simpa using l0
  have hm1 : K % xs.length < xs.length := Nat.mod_lt _ (by omega)
  have hm2 : (K * 7 + 3) % xs.length < xs.length := Nat.mod_lt _ (by omega)
  by_cases hlt : K < xs.length
  · obtain ⟨v, hv⟩ : ∃ v, xs[K]? = some v := ⟨xs[K], List.getElem?_eq_getElem hlt⟩
    obtain ⟨b, o, rfl, q0, hv256, hb0⟩ := HI.out _ _ hv
    have hbp : b ≠ p := by omega
    have i0 : (0 : Int) ≤ (K : Int) := by omega
    have i1 : (K : Int) < (xs.length : Int) := by omega
    have q1 : (w.setCell ⟨p, 1, none⟩ (.int .i64 ((K : Int) + 1))).cell? ⟨b, o + K, none⟩ = some (.int .u8 (v : Int)) := (World.cell?_setCell_other _ _ _ _ (fun h => by injection h with h _ _; exact hbp h.symm)).trans q0
    have HV : Hid (((v : Int).tmod (n : Int)) = ((v % n : Nat) : Int)) := tmod_nat v n
    have hvn : v % n < n := Nat.mod_lt _ (by omega)
    clear hv
    go_enter Tryz.func16, Tryz.ntmps16
    go_wp2_with fail
    go_ret
    exact ⟨v % n, 0, by rw [Int.natCast_emod]; rfl, hvn, by simp [World.drewN_zero]⟩
  · obtain ⟨i1, hi1⟩ : ∃ i, i = K % xs.length := ⟨_, rfl⟩
    obtain ⟨i2, hi2⟩ : ∃ i, i = (K * 7 + 3) % xs.length := ⟨_, rfl⟩
    obtain ⟨q, hq⟩ : ∃ i, i = K / xs.length := ⟨_, rfl⟩
    obtain ⟨v1, hv1⟩ : ∃ v, xs[i1]? = some v := ⟨xs[i1]'(by omega), List.getElem?_eq_getElem (by omega)⟩
    obtain ⟨v2, hv2⟩ : ∃ v, xs[i2]? = some v := ⟨xs[i2]'(by omega), List.getElem?_eq_getElem (by omega)⟩
    obtain ⟨b, o, rfl, q0, hv1l, hb0⟩ := HI.out _ _ hv1
    obtain ⟨b', o', e', q2, hv2l, _⟩ := HI.out _ _ hv2
    cases e'
    have hbp : b ≠ p := by omega
    have hoth : ∀ j, (w.setCell ⟨p, 1, none⟩ (.int .i64 ((K : Int) + 1))).cell? ⟨b, j, none⟩ = w.cell? ⟨b, j, none⟩ := fun j => World.cell?_setCell_other _ _ _ _ (fun h => by injection h with h _ _; exact hbp h.symm)
    have C1 : Hid ((w.setCell ⟨p, 1, none⟩ (.int .i64 ((K : Int) + 1))).cell? ⟨b, o + i1, none⟩ = some (.int .u8 (v1 : Int))) := (hoth _).trans q0
    have C2 : Hid ((w.setCell ⟨p, 1, none⟩ (.int .i64 ((K : Int) + 1))).cell? ⟨b, o + i2, none⟩ = some (.int .u8 (v2 : Int))) := (hoth _).trans q2
    have C0 : Hid ((w.setCell ⟨p, 1, none⟩ (.int .i64 ((K : Int) + 1))).cell? ⟨p, 0, none⟩ = some (.slice (some ⟨b, o, none⟩) xs.length cap)) := (World.cell?_setCell_other _ _ _ _ (fun h => by injection h with _ h _; omega)).trans k0
    have hq7 : q ≤ 1000000 := by rw [hq]; exact Nat.le_trans (Nat.div_le_self _ _) hK
    have HR1 : Hid ((K : Int).tmod (xs.length : Int) = (i1 : Int)) := by show _ = _; rw [hi1, tmod_nat]
    have HR2 : Hid (((K : Int) * 7 + 3).tmod (xs.length : Int) = (i2 : Int)) := by show _ = _; rw [hi2, ← tmod_nat]; rfl
    have HR3 : Hid ((K : Int) / (xs.length : Int) = (q : Int)) := by show _ = _; rw [hq, Int.natCast_ediv]
    have hi1l : i1 < xs.length := by omega
    have hi2l : i2 < xs.length := by omega
    have kl : (xs.length : Int) ≤ (K : Int) := by omega
    clear hv1 hv2 hi1 hi2 hq q0 q2 hoth hm1 hm2 hlt
    go_enter Tryz.func16, Tryz.ntmps16
    go_upto_region 7 with fail
    generalize hw1 : (w.setCell ⟨p, 1, none⟩ (.int .i64 ((K : Int) + 1))) = w1 at *
    refine wp_region_held_drew (S := fun wy => wy.cell? ⟨p, 0, none⟩ = some (.slice (some ⟨b, o, none⟩) xs.length cap) ∧ wy.cell? ⟨b, o + i1, none⟩ = some (.int .u8 v1) ∧ wy.cell? ⟨b, o + i2, none⟩ = some (.int .u8 v2)) (by kernel_rfl) ⟨by simpa using C0.out, by simpa using C1.out, by simpa using C2.out⟩ (fun hS => ?_)
    refine wpAnyH_take (i := 0) (oi := { dst := some 47, op := _, type := _, pos := _, after := _, guard := none }) (v := .pointer (some ⟨p, 0, none⟩)) rfl (by kernel_rfl) (by kernel_rfl) (by kernel_rfl) (fun _ _ _ h => h) (Or.inl ⟨by rfl, ?_⟩) hS ?_
    · intro wy hy
      clear hy
      go_simp
    simp only [Act.put, List.setIfInBounds_toArray, List.set_cons_zero, List.set_cons_succ]
    refine wpAnyH_take (i := 1) (oi := { dst := some 48, op := _, type := _, pos := _, after := _, guard := none }) (v := .pointer (some ⟨p, 0, none⟩)) rfl (by kernel_rfl) (by kernel_rfl) (by kernel_rfl) (fun _ _ _ h => h) (Or.inl ⟨by rfl, ?_⟩) hS ?_
    · intro wy hy
      clear hy
      go_simp
    simp only [Act.put, List.setIfInBounds_toArray, List.set_cons_zero, List.set_cons_succ]
    refine wpAnyH_take (i := 2) (oi := { dst := some 49, op := _, type := _, pos := _, after := _, guard := none }) (v := .pointer (some ⟨p, 0, none⟩)) rfl (by kernel_rfl) (by kernel_rfl) (by kernel_rfl) (fun _ _ _ h => h) (Or.inl ⟨by rfl, ?_⟩) hS ?_
    · intro wy hy
      clear hy
      go_simp
    simp only [Act.put, List.setIfInBounds_toArray, List.set_cons_zero, List.set_cons_succ]
    refine wpAnyH_take (i := 3) (oi := { dst := some 50, op := _, type := _, pos := _, after := _, guard := none }) (v := .slice (some ⟨b, o, none⟩) xs.length cap) rfl (by kernel_rfl) (by kernel_rfl) (by kernel_rfl) (fun _ _ _ h => h) (Or.inl ⟨by rfl, ?_⟩) hS ?_
    · intro wy hy
      have h0 := hy.1
      clear hy
      go_simp
    simp only [Act.put, List.setIfInBounds_toArray, List.set_cons_zero, List.set_cons_succ]
    refine wpAnyH_take (i := 4) (oi := { dst := some 51, op := _, type := _, pos := _, after := _, guard := none }) (v := .int .i64 ((K : Nat) : Int)) rfl (by kernel_rfl) (by kernel_rfl) (by kernel_rfl) (fun _ _ _ h => h) (Or.inl ⟨by rfl, ?_⟩) hS ?_
    · intro wy hy
      clear hy
      go_simp
    simp only [Act.put, List.setIfInBounds_toArray, List.set_cons_zero, List.set_cons_succ]
    refine wpAnyH_take (i := 5) (oi := { dst := some 52, op := _, type := _, pos := _, after := _, guard := none }) (v := .pointer (some ⟨p, 0, none⟩)) rfl (by kernel_rfl) (by kernel_rfl) (by kernel_rfl) (fun _ _ _ h => h) (Or.inl ⟨by rfl, ?_⟩) hS ?_
    · intro wy hy
      clear hy
      go_simp
    simp only [Act.put, List.setIfInBounds_toArray, List.set_cons_zero, List.set_cons_succ]
    refine wpAnyH_take (i := 6) (oi := { dst := some 53, op := _, type := _, pos := _, after := _, guard := none }) (v := .pointer (some ⟨p, 0, none⟩)) rfl (by kernel_rfl) (by kernel_rfl) (by kernel_rfl) (fun _ _ _ h => h) (Or.inl ⟨by rfl, ?_⟩) hS ?_
    · intro wy hy
      clear hy
      go_simp
    simp only [Act.put, List.setIfInBounds_toArray, List.set_cons_zero, List.set_cons_succ]
    refine wpAnyH_take (i := 7) (oi := { dst := some 54, op := _, type := _, pos := _, after := _, guard := none }) (v := .pointer (some ⟨p, 0, none⟩)) rfl (by kernel_rfl) (by kernel_rfl) (by kernel_rfl) (fun _ _ _ h => h) (Or.inl ⟨by rfl, ?_⟩) hS ?_
    · intro wy hy
      clear hy
      go_simp
    simp only [Act.put, List.setIfInBounds_toArray, List.set_cons_zero, List.set_cons_succ]
    refine wpAnyH_take (i := 8) (oi := { dst := some 55, op := _, type := _, pos := _, after := _, guard := none }) (v := .slice (some ⟨b, o, none⟩) xs.length cap) rfl (by kernel_rfl) (by kernel_rfl) (by kernel_rfl) (fun _ _ _ h => h) (Or.inl ⟨by rfl, ?_⟩) hS ?_
    · intro wy hy
      have h0 := hy.1
      clear hy
      go_simp
    simp only [Act.put, List.setIfInBounds_toArray, List.set_cons_zero, List.set_cons_succ]
    refine wpAnyH_take (i := 9) (oi := { dst := some 56, op := _, type := _, pos := _, after := _, guard := none }) (v := .int .i64 ((xs.length : Nat) : Int)) rfl (by kernel_rfl) (by kernel_rfl) (by kernel_rfl) (fun _ _ _ h => h) (Or.inl ⟨by rfl, ?_⟩) hS ?_
    · intro wy hy
      clear hy
      go_simp
    simp only [Act.put, List.setIfInBounds_toArray, List.set_cons_zero, List.set_cons_succ]
    refine wpAnyH_take (i := 10) (oi := { dst := some 57, op := _, type := _, pos := _, after := _, guard := none }) (v := .int .i64 ((i1 : Nat) : Int)) rfl (by kernel_rfl) (by kernel_rfl) (by kernel_rfl) (fun _ _ _ h => h) (Or.inl ⟨by rfl, ?_⟩) hS ?_
    · intro wy hy
      clear hy
      first | (go_simp; done) | (go_simp; rw [HR1.out]; done) | (go_simp; rw [HR1.out, IntKind.wrap_i64]; omega)
    simp only [Act.put, List.setIfInBounds_toArray, List.set_cons_zero, List.set_cons_succ]
    refine wpAnyH_take (i := 11) (oi := { dst := some 58, op := _, type := _, pos := _, after := _, guard := none }) (v := .pointer (some ⟨b, o + i1, none⟩)) rfl (by kernel_rfl) (by kernel_rfl) (by kernel_rfl) (fun _ _ _ h => h) (Or.inl ⟨by rfl, ?_⟩) hS ?_
    · intro wy hy
      clear hy
      first | (go_simp; done) | (go_simp; intro hh; omega)
    simp only [Act.put, List.setIfInBounds_toArray, List.set_cons_zero, List.set_cons_succ]
    refine wpAnyH_take (i := 12) (oi := { dst := some 59, op := _, type := _, pos := _, after := _, guard := none }) (v := .int .u8 v1) rfl (by kernel_rfl) (by kernel_rfl) (by kernel_rfl) (fun _ _ _ h => h) (Or.inl ⟨by rfl, ?_⟩) hS ?_
    · intro wy hy
      have h0 := hy.2.1
      clear hy
      go_simp
    simp only [Act.put, List.setIfInBounds_toArray, List.set_cons_zero, List.set_cons_succ]
    refine wpAnyH_take (i := 13) (oi := { dst := some 60, op := _, type := _, pos := _, after := _, guard := none }) (v := .int .i64 ((v1 : Nat) : Int)) rfl (by kernel_rfl) (by kernel_rfl) (by kernel_rfl) (fun _ _ _ h => h) (Or.inl ⟨by rfl, ?_⟩) hS ?_
    · intro wy hy
      clear hy
      first | (go_simp; done) | (go_simp; rw [IntKind.wrap_i64]; omega)
    simp only [Act.put, List.setIfInBounds_toArray, List.set_cons_zero, List.set_cons_succ]
    refine wpAnyH_take (i := 14) (oi := { dst := some 61, op := _, type := _, pos := _, after := _, guard := none }) (v := .int .i64 ((v1 * 131 : Nat) : Int)) rfl (by kernel_rfl) (by kernel_rfl) (by kernel_rfl) (fun _ _ _ h => h) (Or.inl ⟨by rfl, ?_⟩) hS ?_
    · intro wy hy
      clear hy
      first | (go_simp; done) | (go_simp; rw [IntKind.wrap_i64]; omega)
    simp only [Act.put, List.setIfInBounds_toArray, List.set_cons_zero, List.set_cons_succ]
    refine wpAnyH_take (i := 15) (oi := { dst := some 62, op := _, type := _, pos := _, after := _, guard := none }) (v := .pointer (some ⟨p, 0, none⟩)) rfl (by kernel_rfl) (by kernel_rfl) (by kernel_rfl) (fun _ _ _ h => h) (Or.inl ⟨by rfl, ?_⟩) hS ?_
    · intro wy hy
      clear hy
      go_simp
    simp only [Act.put, List.setIfInBounds_toArray, List.set_cons_zero, List.set_cons_succ]
    refine wpAnyH_take (i := 16) (oi := { dst := some 63, op := _, type := _, pos := _, after := _, guard := none }) (v := .pointer (some ⟨p, 0, none⟩)) rfl (by kernel_rfl) (by kernel_rfl) (by kernel_rfl) (fun _ _ _ h => h) (Or.inl ⟨by rfl, ?_⟩) hS ?_
    · intro wy hy
      clear hy
      go_simp
    simp only [Act.put, List.setIfInBounds_toArray, List.set_cons_zero, List.set_cons_succ]
    refine wpAnyH_take (i := 17) (oi := { dst := some 64, op := _, type := _, pos := _, after := _, guard := none }) (v := .pointer (some ⟨p, 0, none⟩)) rfl (by kernel_rfl) (by kernel_rfl) (by kernel_rfl) (fun _ _ _ h => h) (Or.inl ⟨by rfl, ?_⟩) hS ?_
    · intro wy hy
      clear hy
      go_simp
    simp only [Act.put, List.setIfInBounds_toArray, List.set_cons_zero, List.set_cons_succ]
    refine wpAnyH_take (i := 18) (oi := { dst := some 65, op := _, type := _, pos := _, after := _, guard := none }) (v := .slice (some ⟨b, o, none⟩) xs.length cap) rfl (by kernel_rfl) (by kernel_rfl) (by kernel_rfl) (fun _ _ _ h => h) (Or.inl ⟨by rfl, ?_⟩) hS ?_
    · intro wy hy
      have h0 := hy.1
      clear hy
      go_simp
    simp only [Act.put, List.setIfInBounds_toArray, List.set_cons_zero, List.set_cons_succ]
    refine wpAnyH_take (i := 19) (oi := { dst := some 66, op := _, type := _, pos := _, after := _, guard := none }) (v := .int .i64 ((K : Nat) : Int)) rfl (by kernel_rfl) (by kernel_rfl) (by kernel_rfl) (fun _ _ _ h => h) (Or.inl ⟨by rfl, ?_⟩) hS ?_
    · intro wy hy
      clear hy
      go_simp
    simp only [Act.put, List.setIfInBounds_toArray, List.set_cons_zero, List.set_cons_succ]
    refine wpAnyH_take (i := 20) (oi := { dst := some 67, op := _, type := _, pos := _, after := _, guard := none }) (v := .int .i64 ((K * 7 : Nat) : Int)) rfl (by kernel_rfl) (by kernel_rfl) (by kernel_rfl) (fun _ _ _ h => h) (Or.inl ⟨by rfl, ?_⟩) hS ?_
    · intro wy hy
      clear hy
      first | (go_simp; done) | (go_simp; rw [IntKind.wrap_i64]; omega)
    simp only [Act.put, List.setIfInBounds_toArray, List.set_cons_zero, List.set_cons_succ]
    refine wpAnyH_take (i := 21) (oi := { dst := some 68, op := _, type := _, pos := _, after := _, guard := none }) (v := .int .i64 ((K * 7 + 3 : Nat) : Int)) rfl (by kernel_rfl) (by kernel_rfl) (by kernel_rfl) (fun _ _ _ h => h) (Or.inl ⟨by rfl, ?_⟩) hS ?_
    · intro wy hy
      clear hy
      first | (go_simp; done) | (go_simp; rw [IntKind.wrap_i64]; omega)
    simp only [Act.put, List.setIfInBounds_toArray, List.set_cons_zero, List.set_cons_succ]
    refine wpAnyH_take (i := 22) (oi := { dst := some 69, op := _, type := _, pos := _, after := _, guard := none }) (v := .pointer (some ⟨p, 0, none⟩)) rfl (by kernel_rfl) (by kernel_rfl) (by kernel_rfl) (fun _ _ _ h => h) (Or.inl ⟨by rfl, ?_⟩) hS ?_
    · intro wy hy
      clear hy
      go_simp
    simp only [Act.put, List.setIfInBounds_toArray, List.set_cons_zero, List.set_cons_succ]
    refine wpAnyH_take (i := 23) (oi := { dst := some 70, op := _, type := _, pos := _, after := _, guard := none }) (v := .pointer (some ⟨p, 0, none⟩)) rfl (by kernel_rfl) (by kernel_rfl) (by kernel_rfl) (fun _ _ _ h => h) (Or.inl ⟨by rfl, ?_⟩) hS ?_
    · intro wy hy
      clear hy
      go_simp
    simp only [Act.put, List.setIfInBounds_toArray, List.set_cons_zero, List.set_cons_succ]
    refine wpAnyH_take (i := 24) (oi := { dst := some 71, op := _, type := _, pos := _, after := _, guard := none }) (v := .pointer (some ⟨p, 0, none⟩)) rfl (by kernel_rfl) (by kernel_rfl) (by kernel_rfl) (fun _ _ _ h => h) (Or.inl ⟨by rfl, ?_⟩) hS ?_
    · intro wy hy
      clear hy
      go_simp
    simp only [Act.put, List.setIfInBounds_toArray, List.set_cons_zero, List.set_cons_succ]
    refine wpAnyH_take (i := 25) (oi := { dst := some 72, op := _, type := _, pos := _, after := _, guard := none }) (v := .slice (some ⟨b, o, none⟩) xs.length cap) rfl (by kernel_rfl) (by kernel_rfl) (by kernel_rfl) (fun _ _ _ h => h) (Or.inl ⟨by rfl, ?_⟩) hS ?_
    · intro wy hy
      have h0 := hy.1
      clear hy
      go_simp
    simp only [Act.put, List.setIfInBounds_toArray, List.set_cons_zero, List.set_cons_succ]
    refine wpAnyH_take (i := 26) (oi := { dst := some 73, op := _, type := _, pos := _, after := _, guard := none }) (v := .int .i64 ((xs.length : Nat) : Int)) rfl (by kernel_rfl) (by kernel_rfl) (by kernel_rfl) (fun _ _ _ h => h) (Or.inl ⟨by rfl, ?_⟩) hS ?_
    · intro wy hy
      clear hy
      go_simp
    simp only [Act.put, List.setIfInBounds_toArray, List.set_cons_zero, List.set_cons_succ]
    refine wpAnyH_take (i := 27) (oi := { dst := some 74, op := _, type := _, pos := _, after := _, guard := none }) (v := .int .i64 ((i2 : Nat) : Int)) rfl (by kernel_rfl) (by kernel_rfl) (by kernel_rfl) (fun _ _ _ h => h) (Or.inl ⟨by rfl, ?_⟩) hS ?_
    · intro wy hy
      clear hy
      first | (go_simp; done) | (go_simp; rw [HR2.out]; done) | (go_simp; rw [HR2.out, IntKind.wrap_i64]; omega)
    simp only [Act.put, List.setIfInBounds_toArray, List.set_cons_zero, List.set_cons_succ]
    refine wpAnyH_take (i := 28) (oi := { dst := some 75, op := _, type := _, pos := _, after := _, guard := none }) (v := .pointer (some ⟨b, o + i2, none⟩)) rfl (by kernel_rfl) (by kernel_rfl) (by kernel_rfl) (fun _ _ _ h => h) (Or.inl ⟨by rfl, ?_⟩) hS ?_
    · intro wy hy
      clear hy
      first | (go_simp; done) | (go_simp; intro hh; omega)
    simp only [Act.put, List.setIfInBounds_toArray, List.set_cons_zero, List.set_cons_succ]
    refine wpAnyH_take (i := 29) (oi := { dst := some 76, op := _, type := _, pos := _, after := _, guard := none }) (v := .int .u8 v2) rfl (by kernel_rfl) (by kernel_rfl) (by kernel_rfl) (fun _ _ _ h => h) (Or.inl ⟨by rfl, ?_⟩) hS ?_
    · intro wy hy
      have h0 := hy.2.2
      clear hy
      go_simp
    simp only [Act.put, List.setIfInBounds_toArray, List.set_cons_zero, List.set_cons_succ]
    refine wpAnyH_take (i := 30) (oi := { dst := some 77, op := _, type := _, pos := _, after := _, guard := none }) (v := .int .i64 ((v2 : Nat) : Int)) rfl (by kernel_rfl) (by kernel_rfl) (by kernel_rfl) (fun _ _ _ h => h) (Or.inl ⟨by rfl, ?_⟩) hS ?_
    · intro wy hy
      clear hy
      first | (go_simp; done) | (go_simp; rw [IntKind.wrap_i64]; omega)
    simp only [Act.put, List.setIfInBounds_toArray, List.set_cons_zero, List.set_cons_succ]
    refine wpAnyH_take (i := 31) (oi := { dst := some 78, op := _, type := _, pos := _, after := _, guard := none }) (v := .int .i64 ((v2 * 1117 : Nat) : Int)) rfl (by kernel_rfl) (by kernel_rfl) (by kernel_rfl) (fun _ _ _ h => h) (Or.inl ⟨by rfl, ?_⟩) hS ?_
    · intro wy hy
      clear hy
      first | (go_simp; done) | (go_simp; rw [IntKind.wrap_i64]; omega)
    simp only [Act.put, List.setIfInBounds_toArray, List.set_cons_zero, List.set_cons_succ]
    refine wpAnyH_take (i := 32) (oi := { dst := some 79, op := _, type := _, pos := _, after := _, guard := none }) (v := .int .i64 ((v1 * 131 + v2 * 1117 : Nat) : Int)) rfl (by kernel_rfl) (by kernel_rfl) (by kernel_rfl) (fun _ _ _ h => h) (Or.inl ⟨by rfl, ?_⟩) hS ?_
    · intro wy hy
      clear hy
      first | (go_simp; done) | (go_simp; rw [IntKind.wrap_i64]; omega)
    simp only [Act.put, List.setIfInBounds_toArray, List.set_cons_zero, List.set_cons_succ]
    refine wpAnyH_take (i := 33) (oi := { dst := some 80, op := _, type := _, pos := _, after := _, guard := none }) (v := .int .i64 ((K : Nat) : Int)) rfl (by kernel_rfl) (by kernel_rfl) (by kernel_rfl) (fun _ _ _ h => h) (Or.inl ⟨by rfl, ?_⟩) hS ?_
    · intro wy hy
      clear hy
      go_simp
    simp only [Act.put, List.setIfInBounds_toArray, List.set_cons_zero, List.set_cons_succ]
    refine wpAnyH_take (i := 34) (oi := { dst := some 81, op := _, type := _, pos := _, after := _, guard := none }) (v := .int .i64 ((K * 29 : Nat) : Int)) rfl (by kernel_rfl) (by kernel_rfl) (by kernel_rfl) (fun _ _ _ h => h) (Or.inl ⟨by rfl, ?_⟩) hS ?_
    · intro wy hy
      clear hy
      first | (go_simp; done) | (go_simp; rw [IntKind.wrap_i64]; omega)
    simp only [Act.put, List.setIfInBounds_toArray, List.set_cons_zero, List.set_cons_succ]
    refine wpAnyH_take (i := 35) (oi := { dst := some 82, op := _, type := _, pos := _, after := _, guard := none }) (v := .int .i64 ((v1 * 131 + v2 * 1117 + K * 29 : Nat) : Int)) rfl (by kernel_rfl) (by kernel_rfl) (by kernel_rfl) (fun _ _ _ h => h) (Or.inl ⟨by rfl, ?_⟩) hS ?_
    · intro wy hy
      clear hy
      first | (go_simp; done) | (go_simp; rw [IntKind.wrap_i64]; omega)
    simp only [Act.put, List.setIfInBounds_toArray, List.set_cons_zero, List.set_cons_succ]
    refine wpAnyH_take (i := 36) (oi := { dst := some 83, op := _, type := _, pos := _, after := _, guard := none }) (v := .int .i64 ((K : Nat) : Int)) rfl (by kernel_rfl) (by kernel_rfl) (by kernel_rfl) (fun _ _ _ h => h) (Or.inl ⟨by rfl, ?_⟩) hS ?_
    · intro wy hy
      clear hy
      go_simp
    simp only [Act.put, List.setIfInBounds_toArray, List.set_cons_zero, List.set_cons_succ]
    refine wpAnyH_take (i := 37) (oi := { dst := some 84, op := _, type := _, pos := _, after := _, guard := none }) (v := .pointer (some ⟨p, 0, none⟩)) rfl (by kernel_rfl) (by kernel_rfl) (by kernel_rfl) (fun _ _ _ h => h) (Or.inl ⟨by rfl, ?_⟩) hS ?_
    · intro wy hy
      clear hy
      go_simp
    simp only [Act.put, List.setIfInBounds_toArray, List.set_cons_zero, List.set_cons_succ]
    refine wpAnyH_take (i := 38) (oi := { dst := some 85, op := _, type := _, pos := _, after := _, guard := none }) (v := .pointer (some ⟨p, 0, none⟩)) rfl (by kernel_rfl) (by kernel_rfl) (by kernel_rfl) (fun _ _ _ h => h) (Or.inl ⟨by rfl, ?_⟩) hS ?_
    · intro wy hy
      clear hy
      go_simp
    simp only [Act.put, List.setIfInBounds_toArray, List.set_cons_zero, List.set_cons_succ]
    refine wpAnyH_take (i := 39) (oi := { dst := some 86, op := _, type := _, pos := _, after := _, guard := none }) (v := .pointer (some ⟨p, 0, none⟩)) rfl (by kernel_rfl) (by kernel_rfl) (by kernel_rfl) (fun _ _ _ h => h) (Or.inl ⟨by rfl, ?_⟩) hS ?_
    · intro wy hy
      clear hy
      go_simp
    simp only [Act.put, List.setIfInBounds_toArray, List.set_cons_zero, List.set_cons_succ]
    refine wpAnyH_take (i := 40) (oi := { dst := some 87, op := _, type := _, pos := _, after := _, guard := none }) (v := .slice (some ⟨b, o, none⟩) xs.length cap) rfl (by kernel_rfl) (by kernel_rfl) (by kernel_rfl) (fun _ _ _ h => h) (Or.inl ⟨by rfl, ?_⟩) hS ?_
    · intro wy hy
      have h0 := hy.1
      clear hy
      go_simp
    simp only [Act.put, List.setIfInBounds_toArray, List.set_cons_zero, List.set_cons_succ]
    refine wpAnyH_take (i := 41) (oi := { dst := some 88, op := _, type := _, pos := _, after := _, guard := none }) (v := .int .i64 ((xs.length : Nat) : Int)) rfl (by kernel_rfl) (by kernel_rfl) (by kernel_rfl) (fun _ _ _ h => h) (Or.inl ⟨by rfl, ?_⟩) hS ?_
    · intro wy hy
      clear hy
      go_simp
    simp only [Act.put, List.setIfInBounds_toArray, List.set_cons_zero, List.set_cons_succ]
    refine wpAnyH_take (i := 42) (oi := { dst := some 89, op := _, type := _, pos := _, after := _, guard := none }) (v := .int .i64 ((q : Nat) : Int)) rfl (by kernel_rfl) (by kernel_rfl) (by kernel_rfl) (fun _ _ _ h => h) (Or.inl ⟨by rfl, ?_⟩) hS ?_
    · intro wy hy
      clear hy
      first | (go_simp; done) | (go_simp; rw [HR3.out]; done) | (go_simp; rw [HR3.out, IntKind.wrap_i64]; omega)
    simp only [Act.put, List.setIfInBounds_toArray, List.set_cons_zero, List.set_cons_succ]
    refine wpAnyH_take (i := 43) (oi := { dst := some 90, op := _, type := _, pos := _, after := _, guard := none }) (v := .int .i64 ((q * 53 : Nat) : Int)) rfl (by kernel_rfl) (by kernel_rfl) (by kernel_rfl) (fun _ _ _ h => h) (Or.inl ⟨by rfl, ?_⟩) hS ?_
    · intro wy hy
      clear hy
      first | (go_simp; done) | (go_simp; rw [IntKind.wrap_i64]; omega)
    simp only [Act.put, List.setIfInBounds_toArray, List.set_cons_zero, List.set_cons_succ]
    refine wpAnyH_take (i := 44) (oi := { dst := some 91, op := _, type := _, pos := _, after := _, guard := none }) (v := .int .i64 ((v1 * 131 + v2 * 1117 + K * 29 + q * 53 : Nat) : Int)) rfl (by kernel_rfl) (by kernel_rfl) (by kernel_rfl) (fun _ _ _ h => h) (Or.inl ⟨by rfl, ?_⟩) hS ?_
    · intro wy hy
      clear hy
      first | (go_simp; done) | (go_simp; rw [IntKind.wrap_i64]; omega)
    simp only [Act.put, List.setIfInBounds_toArray, List.set_cons_zero, List.set_cons_succ]
    refine wpAnyH_take (i := 45) (oi := { dst := some 6, op := _, type := _, pos := _, after := _, guard := none }) (v := .int .i64 ((v1 * 131 + v2 * 1117 + K * 29 + q * 53 : Nat) : Int)) rfl (by kernel_rfl) (by kernel_rfl) (by kernel_rfl) (fun _ _ _ h => h) (Or.inl ⟨by rfl, ?_⟩) hS ?_
    · intro wy hy
      clear hy
      go_simp
    simp only [Act.put, List.setIfInBounds_toArray, List.set_cons_zero, List.set_cons_succ]
    refine wpAnyH_done (by kernel_rfl) ?_ _
    clear hS
    have hX0 : v1 * 131 + v2 * 1117 + K * 29 + q * 53 < 1000000000 := by omega
    generalize v1 * 131 + v2 * 1117 + K * 29 + q * 53 = X at hX0
    obtain ⟨Y, hY⟩ : ∃ Y, Y = X ^^^ (X / 64) := ⟨_, rfl⟩
    have hYn : Y % n < n := Nat.mod_lt _ (by omega)
    have hXY : bits .xor .i64 (X : Int) ((X : Int) / 64) = (Y : Int) := by
      rw [hY, ← i64_xor_nat X (X / 64) (by omega) (by omega)]; rfl
    have hX1 : (X : Int) < 1000000000 := by omega
    clear hY
    go_wp2_with fail
    go_ret
    exact ⟨Y % n, 1, by rw [Int.natCast_emod]; rfl, hYn, by rw [hw1]; rfl⟩

/-- a code that is read: its reader lies in block p, it has read K times -/
def RdS (p K : Nat) (w : World) : Prop := ∃ (xs : List Nat) (a : Option Addr) (cap : Nat), ByS p a xs w ∧ Blk p #[.slice a xs.length cap, .int .i64 (K : Int)] 84 w ∧ xs.length ≤ 2000

theorem RdS.lt {p K : Nat} {w : World} (h : RdS p K w) : p < w.heap.size := by
  obtain ⟨_, _, _, _, h, _⟩ := h
  exact h.lt
theorem RdS.below {p K B : Nat} {w w' : World} (h : RdS p K w) (hb : Below B w w') (hB : p < B) : RdS p K w' := by
  obtain ⟨xs, a, cap, h1, h2, h3⟩ := h
  exact ⟨xs, a, cap, h1.bt (Bt.of_below (p := p) hb) (by omega), h2.below hb hB, h3⟩
theorem RdS.drew {p K : Nat} {w : World} (h : RdS p K w) : RdS p K w.drew := h

theorem pick_rd (p K : Nat) (m : Int) (w : World) (hR : RdS p K w) (hK : K ≤ 1000000) (h1 : 1 ≤ m) (h2 : m ≤ 1000000) :
    Calls Tryz.prog 16 #[.pointer (some ⟨p, 0, none⟩), .int .i64 m] w fun e w' => ∃ v : Nat, e = .returned (.int .i64 (v : Int)) ∧ (v : Int) < m ∧ RdS p (K + 1) w' ∧ Bt p w.heap.size w w' ∧ w'.heap.size = w.heap.size := by
  obtain ⟨xs, a, cap, c1, c2, c3⟩ := hR
  obtain ⟨n, rfl⟩ : ∃ n : Nat, m = (n : Int) := ⟨m.toNat, by omega⟩
  refine (pick_any xs a cap p K n w c1 c2 c3 hK (by omega) (by omega)).mono ?_
  rintro e w' ⟨v, d, rfl, hv, rfl⟩
  have hb : Bt p w.heap.size w ((w.setCell ⟨p, 1, none⟩ (.int .i64 ((K : Int) + 1))).drewN d) := ((Bt.refl p _ w).set 1 _).drewN d
  exact ⟨v, rfl, by omega, ⟨xs, a, cap, c1.bt hb (Nat.le_of_lt c2.lt), c2.set 1 _, c3⟩, hb, by simp [World.setCell]⟩

end Go.Proofs.YthjicahpfhjfdaaGreatDoor
