/-
  Several texts in one: Ins, Blk, Bls.
-/
import Derived.Test.YtggbhggnemlpnaaGreatShp
import Derived.RangeFuncRecord
namespace Go.Proofs.YtggbhggnemlpnaaGreat
open Go.RowKit

/-- a number -/
def IntC : Make Int := fun _ _ f x => f 0 = some (.int .i64 x)

theorem IntC.holds : Holds IntC 1 := fun _ _ _ _ f g x h _ _ c => (h 0 (by omega)).trans c

theorem info_int : (Tryz.prog.info? 3).map (fun i => (i.zero, i.size, i.bytes)) = some (some (.int .i64 0), 1, 8) := by kernel_rfl

set_option maxHeartbeats 1000000 in
theorem eqIntS_any (xs : List Int) (a a' : Option Addr) (cap cap' lo lo' : Nat) (w : World) (hg : SliceC IntC 1 lo w a xs) (hh : SliceC IntC 1 lo' w a' xs) (hsm : xs.length ≤ 1048576) :
    Calls Tryz.prog 18 #[.slice a xs.length cap, .slice a' xs.length cap'] w fun e w' => e = .returned (.bool true) ∧ Below w.heap.size w w' := by
  have HG : Hid (SliceC IntC 1 lo w a xs) := hg
  have HH : Hid (SliceC IntC 1 lo' w a' xs) := hh
  clear hg hh
  go_enter Tryz.func18, Tryz.ntmps18
  go_wp2_with fail
  go_loopw [5] (fun i wr => ∃ (k : Nat), k ≤ xs.length ∧ i = .int .i64 k ∧ Below w.heap.size w wr) (fun i _ => xs.length - (intOf i).toNat)
  case atStart => exact ⟨0, Nat.zero_le _, rfl, Below.refl _ _⟩
  case round =>
    obtain ⟨k, hk, rfl, hbel⟩ := hrel
    by_cases hlt : k < xs.length
    · obtain ⟨x, hx⟩ : ∃ x, xs[k]? = some x := ⟨xs[k], List.getElem?_eq_getElem hlt⟩
      obtain ⟨b, o, rfl, _, _, hc⟩ := (HG.out.below IntC.holds hbel (Nat.le_refl _)).at hx
      obtain ⟨b', o', rfl, _, _, hc'⟩ := (HH.out.below IntC.holds hbel (Nat.le_refl _)).at hx
      have r0 : _ = _ := hc
      have t0 : _ = _ := hc'
      simp only [Nat.mul_one, Nat.add_zero] at r0 t0
      have i0 : (0 : Int) ≤ (k : Int) := by omega
      have i1 : (k : Int) < (xs.length : Int) := by omega
      clear hx
      go_wp2_with fail
      go_region
      go_wp2_with fail
      go_roundw
      case rel => exact ⟨k + 1, by omega, by go_num, by go_grown⟩
      case measure => simp [intOf]; omega
    · go_wp2_with fail
      go_ret
      exact ⟨rfl, hbel⟩

end Go.Proofs.YtggbhggnemlpnaaGreat

namespace Go.Proofs.YtggbhggnemlpnaaGreat
open Go.RowKit

/-- a block of cells -/
def Blk (g : Nat) (cs : Array Value) (t : TypeId) (w : World) : Prop := w.heap[g]? = some (.cells cs t (0, 0))

theorem Blk.lt {g : Nat} {cs : Array Value} {t : TypeId} {w : World} (h : Blk g cs t w) : g < w.heap.size := (Array.getElem?_eq_some_iff.1 h).1
theorem Blk.below {g : Nat} {cs : Array Value} {t : TypeId} {w w' : World} {B : Nat} (h : Blk g cs t w) (hb : Below B w w') (hB : g < B) : Blk g cs t w' := (hb.block g hB).trans h
theorem Blk.drew {g : Nat} {cs : Array Value} {t : TypeId} {w : World} (h : Blk g cs t w) : Blk g cs t w.drew := h
theorem Blk.cell {g : Nat} {cs : Array Value} {t : TypeId} {w : World} (h : Blk g cs t w) {o : Nat} {v : Value} (hv : cs[o]? = some v) : w.cell? ⟨g, o, none⟩ = some v := by simp [World.cell?, show w.heap[g]? = _ from h, hv]
theorem Blk.frozen {g : Nat} {cs : Array Value} {t : TypeId} {w : World} (h : Blk g cs t w) (o : Nat) : w.frozen? ⟨g, o, none⟩ = false := by simp [World.frozen?, show w.heap[g]? = _ from h]
theorem Blk.range {g : Nat} {cs : List Value} {t : TypeId} {w : World} (h : Blk g cs.toArray t w) : w.rangeAt g 0 cs := fun j v hj => by rw [Nat.zero_add]; exact h.cell (by simpa using hj)
theorem Blk.alloc (w : World) (cs : Array Value) (t : TypeId) : Blk w.heap.size cs t (w.alloc (.cells cs t)) := World.alloc_heap_new w _
theorem Blk.other {g : Nat} {cs : Array Value} {t : TypeId} {w : World} (h : Blk g cs t w) {a : Addr} (hne : g ≠ a.block) (v : Value) : Blk g cs t (w.setCell a v) := (Below.heap_setCell w a v g hne).trans h
theorem Blk.set {g : Nat} {cs : Array Value} {t : TypeId} {w : World} (h : Blk g cs t w) (o : Nat) (v : Value) : Blk g (cs.setIfInBounds o v) t (w.setCell ⟨g, o, none⟩ v) := by
  obtain ⟨hlt, hk⟩ := Array.getElem?_eq_some_iff.1 h
  show (w.heap.modify g _)[g]? = _
  rw [Array.getElem?_eq_getElem (by rw [Array.size_modify]; exact hlt), Array.getElem_modify_self, hk]
  rfl

theorem Blk.there {g : Nat} {cs : Array Value} {t : TypeId} {w : World} (h : Blk g cs t w) : w.there g 0 cs.size := fun j hj => by
  refine ⟨?_, h.frozen _⟩
  rw [h.cell (o := 0 + j) (v := cs[j]) (by simp [hj])]
  rfl

theorem Blk.rangeA {g : Nat} {cs : Array Value} {t : TypeId} {w : World} (h : Blk g cs t w) : w.rangeAt g 0 cs.toList := fun j v hj => by
  rw [Nat.zero_add]
  exact h.cell (by simpa using hj)

end Go.Proofs.YtggbhggnemlpnaaGreat

namespace Go.Proofs.YtggbhggnemlpnaaGreat
open Go.RowKit

def setRow (cs : Array Value) : Nat → List Value → Array Value
  | _, [] => cs
  | o, v :: r => setRow (cs.setIfInBounds o v) (o + 1) r

theorem take_set_succ (v : Value) : ∀ (l : List Value) (o : Nat), o < l.length → (l.set o v).take (o + 1) = l.take o ++ [v]
  | [], _, h => by simp at h
  | a :: l, 0, _ => by simp
  | a :: l, o + 1, h => by
    have ih := take_set_succ v l o (by simpa using h)
    simp [ih]

theorem setRow_list : ∀ (vs : List Value) (cs : Array Value) (o : Nat), o + vs.length = cs.size → (setRow cs o vs).toList = cs.toList.take o ++ vs
  | [], cs, o, h => by
    have : cs.toList.length ≤ o := by simp at h; simp; omega
    simp [setRow, List.take_of_length_le this]
  | v :: r, cs, o, h => by
    have h' : o + (r.length + 1) = cs.size := by simpa using h
    have ih := setRow_list r (cs.setIfInBounds o v) (o + 1) (by simp; omega)
    simp only [setRow]
    rw [ih, Array.toList_setIfInBounds, take_set_succ v _ _ (by simp; omega)]
    simp

theorem setRow_all (vs : List Value) (cs : Array Value) (h : vs.length = cs.size) : setRow cs 0 vs = vs.toArray := by
  have := setRow_list vs cs 0 (by omega)
  apply Array.toList_inj.1
  rw [this]
  simp

theorem Blk.setRow {g : Nat} {t : TypeId} : ∀ (vs : List Value) (o : Nat) (cs : Array Value) (w : World), Blk g cs t w → Blk g (setRow cs o vs) t (w.setCells g o vs)
  | [], _, _, _, h => h
  | v :: r, o, _, _, h => Blk.setRow r (o + 1) _ _ (h.set o v)

theorem Blk.setAll {g : Nat} {cs : Array Value} {t : TypeId} {w : World} (h : Blk g cs t w) (vs : Array Value) (hl : vs.size = cs.size) : Blk g vs t (w.setCells g 0 vs.toList) := by
  have := h.setRow vs.toList 0
  rw [setRow_all vs.toList cs (by simpa using hl)] at this
  simpa using this

theorem Blk.grown {g : Nat} {cs : Array Value} {t : TypeId} {w w' : World} {row : Option Nat} (h : Blk g cs t w) (hg : w.grownBy w' row) (hr : some g ≠ row) : Blk g cs t w' := (hg.block g h.lt hr).trans h

theorem blk_setCells_other {g b : Nat} {cs : Array Value} {t : TypeId} (hne : g ≠ b) : ∀ (vs : List Value) (o : Nat) (w : World), Blk g cs t w → Blk g cs t (w.setCells b o vs)
  | [], _, _, h => h
  | v :: r, o, _, h => blk_setCells_other hne r (o + 1) _ (h.other (a := ⟨b, o, none⟩) hne v)

end Go.Proofs.YtggbhggnemlpnaaGreat
