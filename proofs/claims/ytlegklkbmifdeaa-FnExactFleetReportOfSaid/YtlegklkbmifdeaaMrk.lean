/-
  Marks written into a copy: what else is as it was.
-/
import Derived.Test.YtlegklkbmifdeaaMkt
namespace Go.Proofs.Ytlegklkbmifdeaa
open Go.RowKit

def isSl : Value → Bool
  | .slice _ _ _ => true
  | _ => false

/-- wx: the world in which the copy was just made (its memory lies from block lo on); ws: the world in which marking began; w: now. Only what lies in the copy is written, and no slice in it. -/
structure Mkd (lo : Nat) (wx ws w : World) : Prop where
  bel : Below lo ws w
  up : ∀ b o, wx.heap.size ≤ b → b < ws.heap.size → w.cell? ⟨b, o, none⟩ = ws.cell? ⟨b, o, none⟩ ∧ w.frozen? ⟨b, o, none⟩ = ws.frozen? ⟨b, o, none⟩
  sl : ∀ b o v, wx.cell? ⟨b, o, none⟩ = some v → isSl v = true → w.cell? ⟨b, o, none⟩ = some v
  so : ∀ b o v, wx.cell? ⟨b, o, none⟩ = some v → ∃ u, w.cell? ⟨b, o, none⟩ = some u
  fz : ∀ b o, b < wx.heap.size → w.frozen? ⟨b, o, none⟩ = wx.frozen? ⟨b, o, none⟩
  sz : wx.heap.size ≤ w.heap.size
  lo_ : lo ≤ wx.heap.size

theorem Mkd.start {lo : Nat} {wx ws : World} (h : Below wx.heap.size wx ws) (hl : lo ≤ wx.heap.size) : Mkd lo wx ws ws where
  bel := Below.refl _ _
  up := fun _ _ _ _ => ⟨rfl, rfl⟩
  sl := fun b o _ hv _ => (h.cell (p := ⟨b, o, none⟩) (block_lt_of_cell hv)).trans hv
  so := fun b o v hv => ⟨v, (h.cell (p := ⟨b, o, none⟩) (block_lt_of_cell hv)).trans hv⟩
  fz := fun b o hb => h.frozen (p := ⟨b, o, none⟩) hb
  sz := h.size
  lo_ := hl

theorem Mkd.below {lo : Nat} {wx ws w w' : World} (m : Mkd lo wx ws w) (h : Below w.heap.size w w') : Mkd lo wx ws w' where
  bel := m.bel.trans (h.mono (Nat.le_trans m.lo_ m.sz))
  up := fun b o h1 h2 => by
    have hb : b < w.heap.size := Nat.lt_of_lt_of_le h2 m.bel.size
    exact ⟨(h.cell (p := ⟨b, o, none⟩) hb).trans (m.up b o h1 h2).1, (h.frozen (p := ⟨b, o, none⟩) hb).trans (m.up b o h1 h2).2⟩
  sl := fun b o v hv hs => (h.cell (p := ⟨b, o, none⟩) (block_lt_of_cell (m.sl b o v hv hs))).trans (m.sl b o v hv hs)
  so := fun b o v hv => by
    obtain ⟨u, hu⟩ := m.so b o v hv
    exact ⟨u, (h.cell (p := ⟨b, o, none⟩) (block_lt_of_cell hu)).trans hu⟩
  fz := fun b o hb => (h.frozen (p := ⟨b, o, none⟩) (Nat.lt_of_lt_of_le hb m.sz)).trans (m.fz b o hb)
  sz := Nat.le_trans m.sz h.size
  lo_ := m.lo_

theorem Mkd.set {lo : Nat} {wx ws w : World} (m : Mkd lo wx ws w) {b o : Nat} {v0 : Value} (hl : lo ≤ b) (hx : wx.cell? ⟨b, o, none⟩ = some v0) (hs : isSl v0 = false) (v : Value) : Mkd lo wx ws (w.setCell ⟨b, o, none⟩ v) where
  bel := m.bel.setCell hl v
  up := fun b' o' h1 h2 => by
    have hb := block_lt_of_cell hx
    have hne : b' ≠ b := by
      have : b < wx.heap.size := hb
      omega
    refine ⟨(World.cell?_of_block (w := w) (a := ⟨b', o', none⟩) (Below.heap_setCell w ⟨b, o, none⟩ v b' hne)).trans (m.up b' o' h1 h2).1, ?_⟩
    rw [World.frozen?_setCell]
    exact (m.up b' o' h1 h2).2
  sl := fun b' o' u hu hu2 => by
    by_cases e : (⟨b, o, none⟩ : Addr) = ⟨b', o', none⟩
    · cases e
      rw [hx] at hu
      cases hu
      rw [hs] at hu2
      cases hu2
    · exact (World.cell?_setCell_other _ _ _ _ e).trans (m.sl b' o' u hu hu2)
  so := fun b' o' u hu => by
    obtain ⟨u', hu'⟩ := m.so b' o' u hu
    by_cases e : (⟨b, o, none⟩ : Addr) = ⟨b', o', none⟩
    · cases e
      exact ⟨v, World.cell?_setCell_same _ _ _ hu'⟩
    · exact ⟨u', (World.cell?_setCell_other _ _ _ _ e).trans hu'⟩
  fz := fun b' o' hb => by
    rw [World.frozen?_setCell]
    exact m.fz b' o' hb
  sz := Nat.le_trans m.sz (by simp [World.setCell])
  lo_ := m.lo_

theorem Mkd.rebase {lo : Nat} {wx ws w : World} (m : Mkd lo wx ws w) : Mkd lo wx w w where
  bel := Below.refl _ _
  up := fun _ _ _ _ => ⟨rfl, rfl⟩
  sl := m.sl
  so := m.so
  fz := m.fz
  sz := m.sz
  lo_ := m.lo_

theorem Mkd.trans {lo : Nat} {wx ws w w' : World} (m : Mkd lo wx ws w) (k : Mkd lo wx w w') : Mkd lo wx ws w' where
  bel := m.bel.trans k.bel
  up := fun b o h1 h2 => by
    have hb : b < w.heap.size := Nat.lt_of_lt_of_le h2 m.bel.size
    exact ⟨(k.up b o h1 hb).1.trans (m.up b o h1 h2).1, (k.up b o h1 hb).2.trans (m.up b o h1 h2).2⟩
  sl := k.sl
  so := k.so
  fz := k.fz
  sz := k.sz
  lo_ := k.lo_

theorem markTextZ (z : Int) (w : World) (h0 : 0 < z) (h1 : z ≤ 1073741824) :
    Calls Try.prog 53 #[.int .i64 z] w fun e w' => ∃ s, e = .returned (.string s) ∧ Below w.heap.size w w' := by
  obtain ⟨k, rfl⟩ : ∃ k : Nat, z = k := ⟨z.toNat, by omega⟩
  exact (markText_any k w (by omega) (by omega)).mono fun _ _ h => ⟨_, h⟩

end Go.Proofs.Ytlegklkbmifdeaa
