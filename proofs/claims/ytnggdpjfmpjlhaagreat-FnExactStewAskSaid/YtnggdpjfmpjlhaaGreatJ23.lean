import Derived.Test.YtnggdpjfmpjlhaaGreatShp
import Derived.Laws.IdiomStrings
import Derived.Test.YtnggdpjfmpjlhaaGreatJ13
namespace Go.Proofs.YtnggdpjfmpjlhaaGreat
open Go.RowKit

def dgOf (j : Nat) : UInt8 := UInt8.ofNat (48 + j % 10)
def mtGo : Nat → Nat → ByteArray → ByteArray
 | 0, _, s => s
 | f + 1, j, s => if j = 0 then s else mtGo f (j / 10) (⟨#[dgOf j]⟩ ++ s)
def mtOf (k : Nat) : ByteArray := ⟨#[109]⟩ ++ mtGo 3000 k ⟨#[]⟩

theorem mtGo_end (f : Nat) (s : ByteArray) : mtGo f 0 s = s := by
 cases f with
 | zero => rfl
 | succ f => simp [mtGo]

theorem dg_nat (j : Nat) : ((dgOf j).toNat : Int) = 48 + (j : Int) % 10 := by
 have h : (dgOf j).toNat = 48 + j % 10 := by
  unfold dgOf
  rw [UInt8.toNat_ofNat']
  omega
 rw [h]
 omega

set_option maxHeartbeats 1000000 in
set_option maxRecDepth 100000 in
theorem markText_any (k : Nat) (w : World) (h0 : 0 < k) (h1 : k ≤ 1073741824) :
  Calls Tryz.prog 32 #[.int .i64 k] w fun e w' => e = .returned (.string (mtOf k)) ∧ Below w.heap.size w w' := by
 have HR : Hid (mtOf k = ⟨#[109]⟩ ++ mtGo 3000 k ⟨#[]⟩) := rfl
 generalize mtOf k = M at *
 go_enter Tryz.func32, Tryz.ntmps32
 go_wp2_with fail
 go_loopw [0, 3] (fun v o wr => ∃ (j f : Nat) (s : ByteArray), v = .int .i64 j ∧ o = .string s ∧ j ≤ 1073741824 ∧ Hid ((∃ e, j < 10 ^ e ∧ e ≤ f) ∧ s.size + f = 3000 ∧ mtGo f j s = mtGo 3000 k ⟨#[]⟩) ∧ Below w.heap.size w wr) (fun v _ _ => (intOf v).toNat)
 case atStart => exact ⟨k, 3000, _, rfl, rfl, by omega, ⟨⟨10, by omega, by omega⟩, rfl, rfl⟩, Below.refl _ _⟩
 case round =>
  obtain ⟨j, f, s, rfl, rfl, hj, HF, hbel⟩ := hrel
  by_cases hp : 0 < j
  ·have hcv : (convert 123 9 (.slice (some ⟨wr.heap.size, 0, none⟩) 1 1)).run Tryz.prog (wr.alloc (Obj.cells #[.int .u8 (48 + (j : Int) % 10)] 5)) = .ok (.string ⟨#[dgOf j]⟩) (wr.alloc (Obj.cells #[.int .u8 (48 + (j : Int) % 10)] 5)) :=
    run_convert_bytes_back _ _ _ 5 ⟨wr.heap.size, 0, none⟩ 1 [dgOf j] Tryz.underlying123 Tryz.underlying5 Tryz.underlying9 (fun i hi => by
     have : i = 0 := by simpa using hi
     subst this
     rw [← dg_nat, Addr.add_mid, World.cell?_alloc_at _ _ _ _ (by rfl)]
     rfl)
   obtain ⟨g, rfl⟩ : ∃ g, f = g + 1 := by
    obtain ⟨e, he, hf⟩ := HF.out.1
    cases e with
    | zero => simp at he; omega
    | succ e => exact ⟨f - 1, by omega⟩
   have HN : Hid ((∃ e, j / 10 < 10 ^ e ∧ e ≤ g) ∧ ((⟨#[dgOf j]⟩ : ByteArray) ++ s).size + g = 3000 ∧ mtGo g (j / 10) (⟨#[dgOf j]⟩ ++ s) = mtGo 3000 k ⟨#[]⟩) := by
    obtain ⟨a, b, c⟩ := HF.out
    refine ⟨?_, ?_, ?_⟩
    ·obtain ⟨e, he, hf⟩ := a
     cases e with
     | zero => simp at he; omega
     | succ e => exact ⟨e, by rw [Nat.pow_succ] at he; omega, by omega⟩
    ·rw [ByteArray.size_append]
     show 1 + _ + _ = _
     omega
    ·rw [← c]
     simp only [mtGo]
     rw [if_neg (by omega)]
   have hss : s.size ≤ 3000 := by have := HF.out.2.1; omega
   clear HF
   go_wp2_with fail
   go_roundw
   case rel => exact ⟨j / 10, g, _, by congr 1, rfl, by omega, HN, hbel.alloc hbel.size _⟩
   case measure => simp [intOf]; omega
  ·have hj0 : j = 0 := by omega
   subst hj0
   have HS : Hid (M = ⟨#[109]⟩ ++ s) := by
    show _ = _
    rw [HR.out, ← HF.out.2.2, mtGo_end]
   have hss : s.size ≤ 3000 := by have := HF.out.2.1; omega
   clear HF
   go_wp2_with fail
   go_ret
   exact ⟨by rw [HS.out]; rfl, hbel⟩

end Go.Proofs.YtnggdpjfmpjlhaaGreat

namespace Go.Proofs.YtnggdpjfmpjlhaaGreat
open Go.RowKit

def isSl : Value → Bool
 | .slice _ _ _ => true
 | _ => false

structure Mkd (lo : Nat) (wx ws w : World) : Prop where
 bel : Below lo ws w
 up : ∀ b o, wx.heap.size ≤ b → b < ws.heap.size → w.cell? ⟨b, o, none⟩ = ws.cell? ⟨b, o, none⟩ ∧ w.frozen? ⟨b, o, none⟩ = ws.frozen? ⟨b, o, none⟩
 sl : ∀ b o v, wx.cell? ⟨b, o, none⟩ = some v → isSl v = true → w.cell? ⟨b, o, none⟩ = some v
 so : ∀ b o v, wx.cell? ⟨b, o, none⟩ = some v → ∃ u, w.cell? ⟨b, o, none⟩ = some u
 fz : ∀ b o, b < wx.heap.size → w.frozen? ⟨b, o, none⟩ = wx.frozen? ⟨b, o, none⟩
 sz : wx.heap.size ≤ w.heap.size
 lo_ : lo ≤ wx.heap.size

theorem Mkd.start {lo : Nat} {wx ws : World} (h : Below wx.heap.size wx ws) (hl : lo ≤ wx.heap.size) : Mkd lo wx ws ws where
 bel := Below.refl _ _
 up := fun _ _ _ _ => ⟨rfl, rfl⟩
 sl := fun b o _ hv _ => (h.cell (p := ⟨b, o, none⟩) (block_lt_of_cell hv)).trans hv
 so := fun b o v hv => ⟨v, (h.cell (p := ⟨b, o, none⟩) (block_lt_of_cell hv)).trans hv⟩
 fz := fun b o hb => h.frozen (p := ⟨b, o, none⟩) hb
 sz := h.size
 lo_ := hl

theorem Mkd.below {lo : Nat} {wx ws w w' : World} (m : Mkd lo wx ws w) (h : Below w.heap.size w w') : Mkd lo wx ws w' where
 bel := m.bel.trans (h.mono (Nat.le_trans m.lo_ m.sz))
 up := fun b o h1 h2 => by
  have hb : b < w.heap.size := Nat.lt_of_lt_of_le h2 m.bel.size
  exact ⟨(h.cell (p := ⟨b, o, none⟩) hb).trans (m.up b o h1 h2).1, (h.frozen (p := ⟨b, o, none⟩) hb).trans (m.up b o h1 h2).2⟩
 sl := fun b o v hv hs => (h.cell (p := ⟨b, o, none⟩) (block_lt_of_cell (m.sl b o v hv hs))).trans (m.sl b o v hv hs)
 so := fun b o v hv => by
  obtain ⟨u, hu⟩ := m.so b o v hv
  exact ⟨u, (h.cell (p := ⟨b, o, none⟩) (block_lt_of_cell hu)).trans hu⟩
 fz := fun b o hb => (h.frozen (p := ⟨b, o, none⟩) (Nat.lt_of_lt_of_le hb m.sz)).trans (m.fz b o hb)
 sz := Nat.le_trans m.sz h.size
 lo_ := m.lo_

theorem Mkd.set {lo : Nat} {wx ws w : World} (m : Mkd lo wx ws w) {b o : Nat} {v0 : Value} (hl : lo ≤ b) (hx : wx.cell? ⟨b, o, none⟩ = some v0) (hs : isSl v0 = false) (v : Value) : Mkd lo wx ws (w.setCell ⟨b, o, none⟩ v) where
 bel := m.bel.setCell hl v
 up := fun b' o' h1 h2 => by
  have hb := block_lt_of_cell hx
  have hne : b' ≠ b := by
   have : b < wx.heap.size := hb
   omega
  refine ⟨(World.cell?_of_block (w := w) (a := ⟨b', o', none⟩) (Below.heap_setCell w ⟨b, o, none⟩ v b' hne)).trans (m.up b' o' h1 h2).1, ?_⟩
  rw [World.frozen?_setCell]
  exact (m.up b' o' h1 h2).2
 sl := fun b' o' u hu hu2 => by
  by_cases e : (⟨b, o, none⟩ : Addr) = ⟨b', o', none⟩
  ·cases e
   rw [hx] at hu
   cases hu
   rw [hs] at hu2
   cases hu2
  ·exact (World.cell?_setCell_other _ _ _ _ e).trans (m.sl b' o' u hu hu2)
 so := fun b' o' u hu => by
  obtain ⟨u', hu'⟩ := m.so b' o' u hu
  by_cases e : (⟨b, o, none⟩ : Addr) = ⟨b', o', none⟩
  ·cases e
   exact ⟨v, World.cell?_setCell_same _ _ _ hu'⟩
  ·exact ⟨u', (World.cell?_setCell_other _ _ _ _ e).trans hu'⟩
 fz := fun b' o' hb => by
  rw [World.frozen?_setCell]
  exact m.fz b' o' hb
 sz := Nat.le_trans m.sz (by simp [World.setCell])
 lo_ := m.lo_

theorem Mkd.rebase {lo : Nat} {wx ws w : World} (m : Mkd lo wx ws w) : Mkd lo wx w w where
 bel := Below.refl _ _
 up := fun _ _ _ _ => ⟨rfl, rfl⟩
 sl := m.sl
 so := m.so
 fz := m.fz
 sz := m.sz
 lo_ := m.lo_

theorem Mkd.trans {lo : Nat} {wx ws w w' : World} (m : Mkd lo wx ws w) (k : Mkd lo wx w w') : Mkd lo wx ws w' where
 bel := m.bel.trans k.bel
 up := fun b o h1 h2 => by
  have hb : b < w.heap.size := Nat.lt_of_lt_of_le h2 m.bel.size
  exact ⟨(k.up b o h1 hb).1.trans (m.up b o h1 h2).1, (k.up b o h1 hb).2.trans (m.up b o h1 h2).2⟩
 sl := k.sl
 so := k.so
 fz := k.fz
 sz := k.sz
 lo_ := k.lo_

theorem markTextZ (z : Int) (w : World) (h0 : 0 < z) (h1 : z ≤ 1073741824) :
  Calls Tryz.prog 32 #[.int .i64 z] w fun e w' => ∃ s, e = .returned (.string s) ∧ Below w.heap.size w w' := by
 obtain ⟨k, rfl⟩ : ∃ k : Nat, z = k := ⟨z.toNat, by omega⟩
 exact (markText_any k w (by omega) (by omega)).mono fun _ _ h => ⟨_, h⟩

end Go.Proofs.YtnggdpjfmpjlhaaGreat

namespace Go.Proofs.YtnggdpjfmpjlhaaGreat
open Go.RowKit

structure Bo (b : Nat) (w w' : World) : Prop where
 os : w'.os = w.os
 tape : w'.tape = w.tape
 output : w'.output = w.output
 size : w.heap.size ≤ w'.heap.size
 block : ∀ k, k < w.heap.size → k ≠ b → w'.heap[k]? = w.heap[k]?

theorem Bo.refl (b : Nat) (w : World) : Bo b w w := ⟨rfl, rfl, rfl, Nat.le_refl _, fun _ _ _ => rfl⟩
theorem Bo.set {b : Nat} {a w : World} (h : Bo b a w) (o : Nat) (u : Value) : Bo b a (w.setCell ⟨b, o, none⟩ u) :=
 ⟨h.os, h.tape, h.output, by simpa using h.size, fun x hx hn => (Below.heap_setCell w ⟨b, o, none⟩ u x hn).trans (h.block x hx hn)⟩
theorem Bo.belowB {b B : Nat} {w w' : World} (h : Bo b w w') (hb : B ≤ b) (hB : B ≤ w.heap.size) : Below B w w' :=
 ⟨h.os, h.tape, h.output, h.size, fun k hk => h.block k (by omega) (by omega)⟩
theorem Bo.cell {b c o : Nat} {w w' : World} (h : Bo b w w') (hc : c < w.heap.size) (hn : c ≠ b) : w'.cell? ⟨c, o, none⟩ = w.cell? ⟨c, o, none⟩ := World.cell?_of_block (a := ⟨c, o, none⟩) (h.block c hc hn)
theorem Bo.frozen {b c o : Nat} {w w' : World} (h : Bo b w w') (hc : c < w.heap.size) (hn : c ≠ b) : w'.frozen? ⟨c, o, none⟩ = w.frozen? ⟨c, o, none⟩ := World.frozen?_of_block (a := ⟨c, o, none⟩) (h.block c hc hn)

def EnK (w : World) (b o n : Nat) : Prop := (∀ t, t < n → ∃ u, w.cell? ⟨b, o + t, none⟩ = some u) ∧ ∀ p, w.frozen? ⟨b, p, none⟩ = false
theorem EnK.set {w : World} {b o n p : Nat} (h : EnK w b o n) (v : Value) : EnK (w.setCell ⟨b, p, none⟩ v) b o n := by
 refine ⟨fun t ht => ?_, fun q => by simpa using h.2 q⟩
 obtain ⟨u, hu⟩ := h.1 t ht
 by_cases e : o + t = p
 ·rw [e] at hu ⊢
  exact ⟨v, World.cell?_setCell_same _ _ _ hu⟩
 ·exact ⟨u, by rw [World.cell?_setCell_other _ _ _ _ (fun h => by injection h with _ h _; omega)]; exact hu⟩

def EnM (w : World) (b o m k : Nat) : Prop := ∀ t, t < m → w.cell? ⟨b, o + t, none⟩ = some (.int .i64 ((k + t : Nat) : Int))
theorem EnM.set {w : World} {b o m k p : Nat} {u : Value} {v : Int} (h : EnM w b o m k) (hp : p = o + m) (c : w.cell? ⟨b, p, none⟩ = some u) (hv : v = ((k + m : Nat) : Int)) : EnM (w.setCell ⟨b, p, none⟩ (.int .i64 v)) b o (m + 1) k := by
 subst hp hv
 intro t ht
 by_cases e : t = m
 ·subst e
  exact World.cell?_setCell_same _ _ _ c
 ·rw [World.cell?_setCell_other _ _ _ _ (fun h => by injection h with _ h _; omega)]
  exact h t (by omega)
theorem EnM.below {w w' : World} {b o m k : Nat} (h : EnM w b o m k) (hb : Below w.heap.size w w') : EnM w' b o m k :=
 fun t ht => (hb.cell (p := ⟨b, o + t, none⟩) (block_lt_of_cell (h t ht))).trans (h t ht)

set_option maxHeartbeats 4000000 in
set_option maxRecDepth 100000 in
theorem markEnds_any (b o n cap k : Nat) (w : World) (hK : EnK w b o (n * 2)) (h0 : 0 < k) (h1 : k + n * 2 ≤ 1073741824) :
  Calls Tryz.prog 33 #[.slice (some ⟨b, o, none⟩) n cap, .int .i64 k] w fun e w' => e = .returned (.int .i64 ((k + n * 2 : Nat) : Int)) ∧ EnM w' b o (n * 2) k ∧ EnK w' b o (n * 2) ∧ Bo b w w' := by
 have HK := Hid.intro hK
 clear hK
 go_enter Tryz.func33, Tryz.ntmps33
 go_wp2_with fail
 go_loopw [1, 5] (fun v i wr => ∃ j : Nat, j ≤ n ∧ i = .int .i64 j ∧ v = .int .i64 ((k + j * 2 : Nat) : Int) ∧ Hid (EnM wr b o (j * 2) k) ∧ Hid (EnK wr b o (n * 2)) ∧ Hid (Bo b w wr)) (fun _ i _ => n - (intOf i).toNat)
 case atStart => exact ⟨0, Nat.zero_le _, rfl, by simp, fun t ht => absurd ht (by omega), HK, Bo.refl _ _⟩
 case round =>
  clear HK
  obtain ⟨j, hj, rfl, rfl, hV, hK, hB⟩ := hrel
  by_cases hlt : j < n
  ·have i0 : (0 : Int) ≤ (j : Int) := by omega
   have i1 : (j : Int) < (n : Int) := by omega
   obtain ⟨y, hy⟩ : ∃ y : Int, y = ((k + j * 2 : Nat) : Int) := ⟨_, rfl⟩
   rw [← hy]
   have HY := Hid.intro hy
   have hyb : 0 ≤ y ∧ y + 2 ≤ 1073741824 := by omega
   clear hy
   obtain ⟨u0, d0⟩ := hK.out.1 (j * 2) (by omega)
   have g0 := hK.out.2 (o + j * 2)
   have V1 := Hid.intro (hV.out.set (v := y) rfl d0 HY.out)
   have K1 := Hid.intro (hK.out.set (p := o + j * 2) (.int .i64 y))
   have B1 := Hid.intro (hB.out.set (o + j * 2) (.int .i64 y))
   go_upto_region 5 with fail
   clear hV hK hB d0 g0
   generalize wr.setCell ⟨b, o + j * 2, none⟩ (.int .i64 y) = w1 at *
   go_upto_region 6 with fail
   obtain ⟨u1, d1⟩ := K1.out.1 (j * 2 + 1) (by omega)
   rw [show o + (j * 2 + 1) = o + j * 2 + 1 by omega] at d1
   have g1 := K1.out.2 (o + j * 2 + 1)
   have V2 := Hid.intro (V1.out.set (v := y + 1) (p := o + j * 2 + 1) (by omega) d1 (by have := HY.out; omega))
   have K2 := Hid.intro (K1.out.set (p := o + j * 2 + 1) (.int .i64 (y + 1)))
   have B2 := Hid.intro (B1.out.set (o + j * 2 + 1) (.int .i64 (y + 1)))
   go_upto_region 7 with fail
   clear V1 K1 B1 d1 g1
   generalize w1.setCell ⟨b, o + j * 2 + 1, none⟩ (.int .i64 (y + 1)) = w2 at *
   have HE : Hid (y + 1 + 1 = ((k + (j + 1) * 2 : Nat) : Int)) := by show _ = _; have := HY.out; omega
   go_wp2_with fail
   go_roundw
   case rel => exact ⟨j + 1, by omega, by go_num, by rw [← HE.out], by show EnM _ _ _ _ _; rw [show (j + 1) * 2 = j * 2 + 1 + 1 by omega]; exact V2.out, K2, B2⟩
   case measure => simp [intOf]; omega
  ·have hje : j = n := by omega
   subst hje
   go_wp2_with fail
   go_ret
   exact ⟨rfl, hV.out, hK.out, hB.out⟩

set_option maxHeartbeats 2000000 in
theorem markEnds0_any (a : Option Addr) (cap : Nat) (k : Int) (w : World) :
  Calls Tryz.prog 33 #[.slice a 0 cap, .int .i64 k] w fun e w' => e = .returned (.int .i64 k) ∧ w' = w := by
 go_enter Tryz.func33, Tryz.ntmps33
 go_wp2_with fail
 go_loopw [1, 5] (fun v i wr => v = .int .i64 k ∧ i = .int .i64 0 ∧ wr = w) (fun _ _ _ => 0)
 case atStart => exact ⟨rfl, rfl, rfl⟩
 case round =>
  obtain ⟨rfl, rfl, rfl⟩ := hrel
  go_wp2_with fail
  go_ret
  exact ⟨rfl, rfl⟩

set_option maxHeartbeats 4000000 in
set_option maxRecDepth 100000 in
theorem heldEnds_any (b o n cap k : Nat) (w : World) (hM : EnM w b o (n * 2) k) (h0 : 0 < k) (h1 : k + n * 2 ≤ 1073741824) :
  Calls Tryz.prog 34 #[.slice (some ⟨b, o, none⟩) n cap, .int .i64 k] w fun e w' => e = .returned (.int .i64 ((k + n * 2 : Nat) : Int)) ∧ w' = w := by
 have HM := Hid.intro hM
 clear hM
 go_enter Tryz.func34, Tryz.ntmps34
 go_wp2_with fail
 go_loopw [1, 5] (fun v i wr => ∃ j : Nat, j ≤ n ∧ i = .int .i64 j ∧ v = .int .i64 ((k + j * 2 : Nat) : Int) ∧ wr = w) (fun _ i _ => n - (intOf i).toNat)
 case atStart => exact ⟨0, Nat.zero_le _, rfl, by simp, rfl⟩
 case round =>
  obtain ⟨j, hj, rfl, rfl, rfl⟩ := hrel
  by_cases hlt : j < n
  ·have i0 : (0 : Int) ≤ (j : Int) := by omega
   have i1 : (j : Int) < (n : Int) := by omega
   obtain ⟨y, hy⟩ : ∃ y : Int, y = ((k + j * 2 : Nat) : Int) := ⟨_, rfl⟩
   have d0 : wr.cell? ⟨b, o + j * 2, none⟩ = some (.int .i64 y) := by rw [hy]; exact HM.out (j * 2) (by omega)
   have d1 : wr.cell? ⟨b, o + j * 2 + 1, none⟩ = some (.int .i64 (y + 1)) := by
    have h := HM.out (j * 2 + 1) (by omega)
    rw [show o + (j * 2 + 1) = o + j * 2 + 1 by omega] at h
    rw [h, hy]
    congr 2
   rw [← hy]
   have HE : Hid (y + 1 + 1 = ((k + (j + 1) * 2 : Nat) : Int)) := by show _ = _; omega
   have hyb : 0 ≤ y ∧ y + 2 ≤ 1073741824 := by omega
   clear hy
   go_wp2_with fail
   go_roundw
   case rel => exact ⟨j + 1, by omega, by go_num, by rw [← HE.out], by first | rfl | trivial⟩
   case measure => simp [intOf]; omega
  ·have hje : j = n := by omega
   subst hje
   go_wp2_with fail
   go_ret
   exact ⟨rfl, rfl⟩

set_option maxHeartbeats 2000000 in
theorem heldEnds0_any (a : Option Addr) (cap : Nat) (k : Int) (w : World) :
  Calls Tryz.prog 34 #[.slice a 0 cap, .int .i64 k] w fun e w' => e = .returned (.int .i64 k) ∧ w' = w := by
 go_enter Tryz.func34, Tryz.ntmps34
 go_wp2_with fail
 go_loopw [1, 5] (fun v i wr => v = .int .i64 k ∧ i = .int .i64 0 ∧ wr = w) (fun _ _ _ => 0)
 case atStart => exact ⟨rfl, rfl, rfl⟩
 case round =>
  obtain ⟨rfl, rfl, rfl⟩ := hrel
  go_wp2_with fail
  go_ret
  exact ⟨rfl, rfl⟩

end Go.Proofs.YtnggdpjfmpjlhaaGreat
