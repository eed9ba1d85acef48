import Derived.Test.YtlangcodelcncaaGreatShp
import Derived.Laws.IdiomStrings
namespace Go.Proofs.YtlangcodelcncaaGreat
open Go.RowKit

def dgOf (j : Nat) : UInt8 := UInt8.ofNat (48 + j % 10)
def mtGo : Nat → Nat → ByteArray → ByteArray
  | 0, _, s => s
  | f + 1, j, s => if j = 0 then s else mtGo f (j / 10) (⟨#[dgOf j]⟩ ++ s)
def mtOf (k : Nat) : ByteArray := ⟨#[109]⟩ ++ mtGo 3000 k ⟨#[]⟩

theorem mtGo_end (f : Nat) (s : ByteArray) : mtGo f 0 s = s := by
  cases f with
  | zero => rfl
  | succ f => simp [mtGo]

theorem dg_nat (j : Nat) : ((dgOf j).toNat : Int) = 48 + (j : Int) % 10 := by
  have h : (dgOf j).toNat = 48 + j % 10 := by
    unfold dgOf
    rw [UInt8.toNat_ofNat']
    omega
  rw [h]
  omega

set_option maxHeartbeats 1000000 in
set_option maxRecDepth 100000 in
theorem markText_any (k : Nat) (w : World) (h0 : 0 < k) (h1 : k ≤ 1073741824) :
    Calls Tryz.prog 57 #[.int .i64 k] w fun e w' => e = .returned (.string (mtOf k)) ∧ Below w.heap.size w w' := by
  have HR : Hid (mtOf k = ⟨#[109]⟩ ++ mtGo 3000 k ⟨#[]⟩) := rfl
  generalize mtOf k = M at *
  go_enter Tryz.func57, Tryz.ntmps57
  go_wp2_with fail
  go_loopw [0, 3] (fun v o wr => ∃ (j f : Nat) (s : ByteArray), v = .int .i64 j ∧ o = .string s ∧ j ≤ 1073741824 ∧ Hid ((∃ e, j < 10 ^ e ∧ e ≤ f) ∧ s.size + f = 3000 ∧ mtGo f j s = mtGo 3000 k ⟨#[]⟩) ∧ Below w.heap.size w wr) (fun v _ _ => (intOf v).toNat)
  case atStart => exact ⟨k, 3000, _, rfl, rfl, by omega, ⟨⟨10, by omega, by omega⟩, rfl, rfl⟩, Below.refl _ _⟩
  case round =>
    obtain ⟨j, f, s, rfl, rfl, hj, HF, hbel⟩ := hrel
    by_cases hp : 0 < j
    · have hcv : (convert 139 9 (.slice (some ⟨wr.heap.size, 0, none⟩) 1 1)).run Tryz.prog (wr.alloc (Obj.cells #[.int .u8 (48 + (j : Int) % 10)] 5)) = .ok (.string ⟨#[dgOf j]⟩) (wr.alloc (Obj.cells #[.int .u8 (48 + (j : Int) % 10)] 5)) :=
        run_convert_bytes_back _ _ _ 5 ⟨wr.heap.size, 0, none⟩ 1 [dgOf j] Tryz.underlying139 Tryz.underlying5 Tryz.underlying9 (fun i hi => by
          have : i = 0 := by simpa using hi
          subst this
          rw [← dg_nat, Addr.add_mid, World.cell?_alloc_at _ _ _ _ (by rfl)]
          rfl)
      obtain ⟨g, rfl⟩ : ∃ g, f = g + 1 := by
        obtain ⟨e, he, hf⟩ := HF.out.1
        cases e with
        | zero => simp at he; omega
        | succ e => exact ⟨f - 1, by omega⟩
      have HN : Hid ((∃ e, j / 10 < 10 ^ e ∧ e ≤ g) ∧ ((⟨#[dgOf j]⟩ : ByteArray) ++ s).size + g = 3000 ∧ mtGo g (j / 10) (⟨#[dgOf j]⟩ ++ s) = mtGo 3000 k ⟨#[]⟩) := by
        obtain ⟨a, b, c⟩ := HF.out
        refine ⟨?_, ?_, ?_⟩
        · obtain ⟨e, he, hf⟩ := a
          cases e with
          | zero => simp at he; omega
          | succ e => exact ⟨e, by rw [Nat.pow_succ] at he; omega, by omega⟩
        · rw [ByteArray.size_append]
          show 1 + _ + _ = _
          omega
        · rw [← c]
          simp only [mtGo]
          rw [if_neg (by omega)]
      have hss : s.size ≤ 3000 := by have := HF.out.2.1; omega
      clear HF
      go_wp2_with fail
      go_roundw
      case rel => exact ⟨j / 10, g, _, by congr 1, rfl, by omega, HN, hbel.alloc hbel.size _⟩
      case measure => simp [intOf]; omega
    · have hj0 : j = 0 := by omega
      subst hj0
      have HS : Hid (M = ⟨#[109]⟩ ++ s) := by
        show _ = _
        rw [HR.out, ← HF.out.2.2, mtGo_end]
      have hss : s.size ≤ 3000 := by have := HF.out.2.1; omega
      clear HF
      go_wp2_with fail
      go_ret
      exact ⟨by rw [HS.out]; rfl, hbel⟩

end Go.Proofs.YtlangcodelcncaaGreat

namespace Go.Proofs.YtlangcodelcncaaGreat
open Go.RowKit

def isSl : Value → Bool
  | .slice _ _ _ => true
  | _ => false

structure Mkd (lo : Nat) (wx ws w : World) : Prop where
  bel : Below lo ws w
  up : ∀ b o, wx.heap.size ≤ b → b < ws.heap.size → w.cell? ⟨b, o, none⟩ = ws.cell? ⟨b, o, none⟩ ∧ w.frozen? ⟨b, o, none⟩ = ws.frozen? ⟨b, o, none⟩
  sl : ∀ b o v, wx.cell? ⟨b, o, none⟩ = some v → isSl v = true → w.cell? ⟨b, o, none⟩ = some v
  so : ∀ b o v, wx.cell? ⟨b, o, none⟩ = some v → ∃ u, w.cell? ⟨b, o, none⟩ = some u
  fz : ∀ b o, b < wx.heap.size → w.frozen? ⟨b, o, none⟩ = wx.frozen? ⟨b, o, none⟩
  sz : wx.heap.size ≤ w.heap.size
  lo_ : lo ≤ wx.heap.size

theorem Mkd.start {lo : Nat} {wx ws : World} (h : Below wx.heap.size wx ws) (hl : lo ≤ wx.heap.size) : Mkd lo wx ws ws where
  bel := Below.refl _ _
  up := fun _ _ _ _ => ⟨rfl, rfl⟩
  sl := fun b o _ hv _ => (h.cell (p := ⟨b, o, none⟩) (block_lt_of_cell hv)).trans hv
  so := fun b o v hv => ⟨v, (h.cell (p := ⟨b, o, none⟩) (block_lt_of_cell hv)).trans hv⟩
  fz := fun b o hb => h.frozen (p := ⟨b, o, none⟩) hb
  sz := h.size
  lo_ := hl

theorem Mkd.below {lo : Nat} {wx ws w w' : World} (m : Mkd lo wx ws w) (h : Below w.heap.size w w') : Mkd lo wx ws w' where
  bel := m.bel.trans (h.mono (Nat.le_trans m.lo_ m.sz))
  up := fun b o h1 h2 => by
    have hb : b < w.heap.size := Nat.lt_of_lt_of_le h2 m.bel.size
    exact ⟨(h.cell (p := ⟨b, o, none⟩) hb).trans (m.up b o h1 h2).1, (h.frozen (p := ⟨b, o, none⟩) hb).trans (m.up b o h1 h2).2⟩
  sl := fun b o v hv hs => (h.cell (p := ⟨b, o, none⟩) (block_lt_of_cell (m.sl b o v hv hs))).trans (m.sl b o v hv hs)
  so := fun b o v hv => by
    obtain ⟨u, hu⟩ := m.so b o v hv
    exact ⟨u, (h.cell (p := ⟨b, o, none⟩) (block_lt_of_cell hu)).trans hu⟩
  fz := fun b o hb => (h.frozen (p := ⟨b, o, none⟩) (Nat.lt_of_lt_of_le hb m.sz)).trans (m.fz b o hb)
  sz := Nat.le_trans m.sz h.size
  lo_ := m.lo_

theorem Mkd.set {lo : Nat} {wx ws w : World} (m : Mkd lo wx ws w) {b o : Nat} {v0 : Value} (hl : lo ≤ b) (hx : wx.cell? ⟨b, o, none⟩ = some v0) (hs : isSl v0 = false) (v : Value) : Mkd lo wx ws (w.setCell ⟨b, o, none⟩ v) where
  bel := m.bel.setCell hl v
  up := fun b' o' h1 h2 => by
    have hb := block_lt_of_cell hx
    have hne : b' ≠ b := by
      have : b < wx.heap.size := hb
      omega
    refine ⟨(World.cell?_of_block (w := w) (a := ⟨b', o', none⟩) (Below.heap_setCell w ⟨b, o, none⟩ v b' hne)).trans (m.up b' o' h1 h2).1, ?_⟩
    rw [World.frozen?_setCell]
    exact (m.up b' o' h1 h2).2
  sl := fun b' o' u hu hu2 => by
    by_cases e : (⟨b, o, none⟩ : Addr) = ⟨b', o', none⟩
    · cases e
      rw [hx] at hu
      cases hu
      rw [hs] at hu2
      cases hu2
    · exact (World.cell?_setCell_other _ _ _ _ e).trans (m.sl b' o' u hu hu2)
  so := fun b' o' u hu => by
    obtain ⟨u', hu'⟩ := m.so b' o' u hu
    by_cases e : (⟨b, o, none⟩ : Addr) = ⟨b', o', none⟩
    · cases e
      exact ⟨v, World.cell?_setCell_same _ _ _ hu'⟩
    · exact ⟨u', (World.cell?_setCell_other _ _ _ _ e).trans hu'⟩
  fz := fun b' o' hb => by
    rw [World.frozen?_setCell]
    exact m.fz b' o' hb
  sz := Nat.le_trans m.sz (by simp [World.setCell])
  lo_ := m.lo_

theorem Mkd.rebase {lo : Nat} {wx ws w : World} (m : Mkd lo wx ws w) : Mkd lo wx w w where
  bel := Below.refl _ _
  up := fun _ _ _ _ => ⟨rfl, rfl⟩
  sl := m.sl
  so := m.so
  fz := m.fz
  sz := m.sz
  lo_ := m.lo_

theorem Mkd.trans {lo : Nat} {wx ws w w' : World} (m : Mkd lo wx ws w) (k : Mkd lo wx w w') : Mkd lo wx ws w' where
  bel := m.bel.trans k.bel
  up := fun b o h1 h2 => by
    have hb : b < w.heap.size := Nat.lt_of_lt_of_le h2 m.bel.size
    exact ⟨(k.up b o h1 hb).1.trans (m.up b o h1 h2).1, (k.up b o h1 hb).2.trans (m.up b o h1 h2).2⟩
  sl := k.sl
  so := k.so
  fz := k.fz
  sz := k.sz
  lo_ := k.lo_

theorem markTextZ (z : Int) (w : World) (h0 : 0 < z) (h1 : z ≤ 1073741824) :
    Calls Tryz.prog 57 #[.int .i64 z] w fun e w' => ∃ s, e = .returned (.string s) ∧ Below w.heap.size w w' := by
  obtain ⟨k, rfl⟩ : ∃ k : Nat, z = k := ⟨z.toNat, by omega⟩
  exact (markText_any k w (by omega) (by omega)).mono fun _ _ h => ⟨_, h⟩

end Go.Proofs.YtlangcodelcncaaGreat
