import Derived.Test.YtmclbfkcbadnpaaGreatJ28
import Derived.Test.YtmclbfkcbadnpaaGreatJ36
import Derived.Test.YtmclbfkcbadnpaaGreatSpt
import Derived.Test.YtmclbfkcbadnpaaGreatFv2
import Derived.Maps.OwnOps
import Derived.Test.YtmclbfkcbadnpaaGreatJ34
namespace Go.Proofs.YtmclbfkcbadnpaaGreat
open Go.RowKit Go.WideMaps Go.Maps

theorem isz_Spot : (Tryz.prog.info? 63).map (·.size) = some 24 := by kernel_rfl

theorem heap_setCells_other {g k : Nat} (h : k ≠ g) : ∀ (vs : List Value) (o : Nat) (w : World), (w.setCells g o vs).heap[k]? = w.heap[k]?
 | [], _, _ => rfl
 | v :: r, o, w => (heap_setCells_other h r (o + 1) _).trans (Below.heap_setCell w ⟨g, o, none⟩ v k h)

theorem ownsMap_cells {H : Type} {P : Program} {k : TypeId} {R : Value → Option (DataW H × List MemPlace)} {m n : Nat} {D : DataW H} {w : World} (h : w.ownsMap P k R m n D) {g : Nat} {cs : Array Value} {t : TypeId} (hz : Blk g cs t w) (o : Nat) (vs : List Value) : (w.setCells g o vs).ownsMap P k R m n D := by
 obtain ⟨es, clock, h1, h2, h3, h4⟩ := h
 have hne : m ≠ g := by
  rintro rfl
  have := h1.symm.trans (show w.heap[m]? = _ from hz)
  cases this
 exact ⟨es, clock, (heap_setCells_other hne vs o w).trans h1, h2, h3, h4⟩

theorem Found.cells {p m1 m2 m3 m4 : Nat} {x : Flt} {a1 : Option Addr} {c1 : Nat} {a2 : Option Addr} {c2 : Nat} {a3 : Option Addr} {c3 : Nat} {w : World} (h : Found p m1 m2 m3 m4 x a1 c1 a2 c2 a3 c3 w) {g : Nat} {cs : Array Value} {t : TypeId} (hz : Blk g cs t w) (hp : p ≠ g) (o : Nat) (vs : List Value) : Found p m1 m2 m3 m4 x a1 c1 a2 c2 a3 c3 (w.setCells g o vs) := by
 refine ⟨fun j v hj => ?_, by rw [size_setCells]; exact h.2.1, ownsMap_cells h.2.2.1 hz o vs, ownsMap_cells h.2.2.2.1 hz o vs, ownsMap_cells h.2.2.2.2.1 hz o vs, ?_⟩
 ·rw [World.cell?_of_block (w := w) (a := ⟨p, 0 + j, none⟩) (heap_setCells_other hp vs o w)]
  exact h.1 j v hj
 ·rw [heap_setCells_other ?_ vs o w]
  ·exact h.2.2.2.2.2
  ·rintro rfl
   have := h.2.2.2.2.2.symm.trans (show w.heap[m4]? = _ from hz)
   cases this

theorem results_cell_tmp {P : Program} {fn : Func} {p q : Tmp} {ty : TypeId} (h : fn.results = #[.cell p ty, .tmp q]) (tmps : Array Value) (w : World) (g : Nat) (cs : List Value) (d : TypeDesc)
  (hp : tmps.getD p undef = .pointer (some ⟨g, 0, none⟩)) (hc : w.rangeAt g 0 cs) (hu : P.underlying ty = some d) (hd : d.isRow = true) (hi : (P.info? ty).map (·.size) = some cs.length) :
  (results fn tmps).run P w = .ok (.tuple #[.agg cs.toArray, tmps.getD q undef]) w := by
 have hp' : tmps[p]?.getD undef = .pointer (some ⟨g, 0, none⟩) := by simpa using hp
 simp [results, h, hp', asAddr, run_loadVar_mid w g 0 ty cs d hc hu hd hi]

end Go.Proofs.YtmclbfkcbadnpaaGreat

namespace Go.Proofs.YtmclbfkcbadnpaaGreat
open Go.RowKit Go.WideMaps Go.Maps

def SpotK (W : World) (lo p m4 ci bi : Nat) (x : Flt) (a1 a3 : Option Addr) (y : Cpy) (a7 : Option Addr) (b : Brt) (am : Option Addr) : Prop :=
 W.heap.size ≤ p ∧ W.heap.size ≤ m4 ∧ SliceC BrtC 6 lo W a1 x.berths ∧ SliceC CpyC 12 lo W a3 x.copies ∧ SliceC LikC 2 lo W a7 y.likes ∧ SliceC StrC 1 lo W am b.marks ∧ validI x = true ∧ x.copies[ci]? = some y ∧ x.berths[bi]? = some b

def Says (f : Nat) (t : Bool) (W : World) (p m1 m2 m3 m4 ci bi : Nat) (x : Flt) (a1 : Option Addr) (c1 : Nat) (a2 : Option Addr) (c2 : Nat) (a3 : Option Addr) (c3 : Nat) (y : Cpy) (a7 : Option Addr) (c7 : Nat) (b : Brt) (am : Option Addr) (cm : Nat) (u1 u2 u3 : Int) : Prop :=
 ∀ (n : Nat) (w : World), n ≤ 900 → Below W.heap.size W w → FoundM p m1 m2 m3 m4 n x a1 c1 a2 c2 a3 c3 w → Calls Tryz.prog f #[.agg (spotA p ci bi y a7 c7 b am cm u1 u2 u3)] w fun e w' => e = .returned (.bool t) ∧ MemoAt m4 (n + 1) x.berths w' ∧ But m4 w.heap.size w w'

set_option maxHeartbeats 1000000 in
set_option maxRecDepth 100000 in
theorem closed_any (p ci bi : Nat) (y : Cpy) (a7 : Option Addr) (c7 : Nat) (b : Brt) (am : Option Addr) (cm : Nat) (u1 u2 u3 : Int) (w : World) :
  Calls Tryz.prog 62 #[.agg (spotA p ci bi y a7 c7 b am cm u1 u2 u3)] w fun e w' => e = .returned (.bool b.closed) ∧ Below w.heap.size w w' := by
 go_enter Tryz.func62, Tryz.ntmps62
 go_wp2_with fail
 go_ret
 exact ⟨rfl, by go_grown⟩

theorem isEmpty_of {s : ByteArray} (h : s = ⟨#[]⟩) : s.toList.isEmpty = true := by rw [empty_toList h]; rfl
theorem isEmpty_not {s : ByteArray} (h : ¬ s = ⟨#[]⟩) : s.toList.isEmpty = false := by
 cases e : s.toList with
 | nil => exact absurd e (nonempty_toList h)
 | cons a l => rfl

set_option maxHeartbeats 1000000 in
set_option maxRecDepth 100000 in
theorem elsewhere_any (p ci bi : Nat) (y : Cpy) (a7 : Option Addr) (c7 : Nat) (b : Brt) (am : Option Addr) (cm : Nat) (u1 u2 u3 : Int) (w : World) :
  Calls Tryz.prog 68 #[.agg (spotA p ci bi y a7 c7 b am cm u1 u2 u3)] w fun e w' => e = .returned (.bool (elsI y b)) ∧ Below w.heap.size w w' := by
 by_cases h1 : y.fixed = ⟨#[]⟩
 ·have HE : Hid (elsI y b = false) := by show _ = _; unfold elsI; rw [decide_eq_false (fun h => h h1)]; rfl
  have t1 := empty_toList h1
  have t2 := isEmpty_of h1
  clear h1
  go_enter Tryz.func68, Tryz.ntmps68
  go_wp2_with fail
  go_ret
  exact ⟨ret_bool HE.out.symm, by go_grown⟩
 ·have t1 := nonempty_toList h1
  have t2 := isEmpty_not h1
  by_cases h2 : y.fixed = b.name
  ·have HE : Hid (elsI y b = false) := by show _ = _; unfold elsI; rw [decide_eq_false (p := ¬ y.fixed = b.name) (fun h => h h2), Bool.and_false]
   have t3 := bts_eq h2
   clear h1 h2
   go_enter Tryz.func68, Tryz.ntmps68
   go_wp2_with fail
   go_ret
   exact ⟨ret_bool HE.out.symm, by go_grown⟩
  ·have HE : Hid (elsI y b = true) := by show _ = _; unfold elsI; rw [decide_eq_true h1, decide_eq_true h2]; rfl
   have t3 := bts_ne h2
   clear h1 h2
   go_enter Tryz.func68, Tryz.ntmps68
   go_wp2_with fail
   go_ret
   exact ⟨ret_bool HE.out.symm, by go_grown⟩

set_option maxHeartbeats 1000000 in
set_option maxRecDepth 100000 in
theorem full_any (p ci bi : Nat) (y : Cpy) (a7 : Option Addr) (c7 : Nat) (b : Brt) (am : Option Addr) (cm : Nat) (u1 u2 u3 : Int) (w : World) :
  Calls Tryz.prog 72 #[.agg (spotA p ci bi y a7 c7 b am cm u1 u2 u3)] w fun e w' => e = .returned (.bool (decide (10 ≤ u1))) ∧ Below w.heap.size w w' := by
 by_cases h : 10 ≤ u1
 ·rw [decide_eq_true h]
  go_enter Tryz.func72, Tryz.ntmps72
  go_wp2_with fail
  go_ret
  exact ⟨rfl, by go_grown⟩
 ·rw [decide_eq_false h]
  go_enter Tryz.func72, Tryz.ntmps72
  go_wp2_with fail
  go_ret
  exact ⟨rfl, by go_grown⟩

set_option maxHeartbeats 1000000 in
set_option maxRecDepth 100000 in
theorem roomless_any (p ci bi : Nat) (y : Cpy) (a7 : Option Addr) (c7 : Nat) (b : Brt) (am : Option Addr) (cm : Nat) (u1 u2 u3 : Int) (w : World) (h0 : 0 ≤ u2) (h1 : u2 ≤ 60000) (h2 : 0 ≤ y.room) (h3 : y.room ≤ 1000) :
  Calls Tryz.prog 73 #[.agg (spotA p ci bi y a7 c7 b am cm u1 u2 u3)] w fun e w' => e = .returned (.bool (decide (b.room < u2 + y.room))) ∧ Below w.heap.size w w' := by
 by_cases h : b.room < u2 + y.room
 ·rw [decide_eq_true h]
  go_enter Tryz.func73, Tryz.ntmps73
  go_wp2_with fail
  go_ret
  exact ⟨rfl, by go_grown⟩
 ·rw [decide_eq_false h]
  go_enter Tryz.func73, Tryz.ntmps73
  go_wp2_with fail
  go_ret
  exact ⟨rfl, by go_grown⟩

set_option maxHeartbeats 1000000 in
set_option maxRecDepth 100000 in
theorem holdless_any (p ci bi : Nat) (y : Cpy) (a7 : Option Addr) (c7 : Nat) (b : Brt) (am : Option Addr) (cm : Nat) (u1 u2 u3 : Int) (w : World) (h0 : 0 ≤ u3) (h1 : u3 ≤ 60000) (h2 : 0 ≤ y.hold) (h3 : y.hold ≤ 1000) :
  Calls Tryz.prog 74 #[.agg (spotA p ci bi y a7 c7 b am cm u1 u2 u3)] w fun e w' => e = .returned (.bool (decide (b.hold < u3 + y.hold))) ∧ Below w.heap.size w w' := by
 by_cases h : b.hold < u3 + y.hold
 ·rw [decide_eq_true h]
  go_enter Tryz.func74, Tryz.ntmps74
  go_wp2_with fail
  go_ret
  exact ⟨rfl, by go_grown⟩
 ·rw [decide_eq_false h]
  go_enter Tryz.func74, Tryz.ntmps74
  go_wp2_with fail
  go_ret
  exact ⟨rfl, by go_grown⟩

set_option maxHeartbeats 1000000 in
set_option maxRecDepth 100000 in
theorem marked_any (W : World) (lo p m1 m2 m3 m4 ci bi : Nat) (x : Flt) (a1 : Option Addr) (c1 : Nat) (a2 : Option Addr) (c2 : Nat) (a3 : Option Addr) (c3 : Nat) (y : Cpy) (a7 : Option Addr) (c7 : Nat) (b : Brt) (am : Option Addr) (cm : Nat) (u1 u2 u3 : Int) (hK : SpotK W lo p m4 ci bi x a1 a3 y a7 b am) (hsel : y.select.size ≤ maxLen) :
  Says 69 (!asksI y.select b.marks b.zone) W p m1 m2 m3 m4 ci bi x a1 c1 a2 c2 a3 c3 y a7 c7 b am cm u1 u2 u3 := by
 intro n w hn hW hF
 obtain ⟨_, _, _, _, _, nm, hv, _, hb⟩ := hK
 obtain ⟨l1, _, hbr, _⟩ := valid_more hv
 obtain ⟨_, hbz, _, hmk⟩ := hbr bi b hb
 have hbi : bi ≤ 1048576 := by have := lt_of_some hb; omega
 have hml := marks_few hmk
 have hz := name_short hbz
 have NM := Hid.intro nm
 have HB := Hid.intro hb
 have HW := Hid.intro hW
 have HF := Hid.intro hF
 have HS := Hid.intro hsel
 clear hv hbr hbz hmk nm hb hW hF hsel
 go_enter Tryz.func69, Tryz.ntmps69
 go_upto_region 1 with fail
 have hb0 : Below w.heap.size w (w.alloc (Obj.cells (spotA p ci bi y a7 c7 b am cm u1 u2 u3) 63)) := (Below.refl _ w).alloc (Nat.le_refl _) _
 have HX : Hid (Blk w.heap.size (spotA p ci bi y a7 c7 b am cm u1 u2 u3) 63 (w.alloc (Obj.cells (spotA p ci bi y a7 c7 b am cm u1 u2 u3) 63))) := Blk.alloc _ _ _
 have HF0 := Hid.intro (HF.out.below hb0)
 have HW0 := Hid.intro (HW.out.trans (hb0.mono HW.out.size))
 have HB0 := Hid.intro hb0
 have s8 : (w.alloc (Obj.cells (spotA p ci bi y a7 c7 b am cm u1 u2 u3) 63)).cell? ⟨w.heap.size, 8, none⟩ = some (.string y.select) := HX.out.cell rfl
 generalize w.alloc (Obj.cells (spotA p ci bi y a7 c7 b am cm u1 u2 u3) 63) = w0 at *
 clear hb0
 go_wp2_with (first | (refine wpList_load_mid rfl 63 _ rfl w.heap.size 0 (by first | rfl | (simp [go_sem]; done)) (spotA p ci bi y a7 c7 b am cm u1 u2 u3).toList _ HX.out.rangeA Tryz.underlying63 rfl isz_Spot ?_))
 obtain ⟨n', D, hn', o4, hm⟩ := HF0.out.memo
 refine (asf_any p m4 ci bi n' y a7 c7 b am cm u1 u2 u3 x.berths D y.select lo _ (HF0.out.1 7 _ rfl) o4 hm HB.out hbi (by omega) (NM.out.below StrC.holds HW0.out (Nat.le_refl _)) hml hz HS.out).mono ?_
 rintro e w5 ⟨rfl, D5, ho5, hm5, hb5⟩
 have HM5 : Hid (MemoAt m4 (n + 1) x.berths w5) := ⟨n' + 1, D5, by omega, ho5, hm5⟩
 have HB5 : Hid (But m4 w.heap.size w w5) := (But.of_below HB0.out).trans (hb5.mono HB0.out.size)
 clear o4 hm ho5 hm5 hb5
 obtain ⟨q, hq⟩ : ∃ q, asksI y.select b.marks b.zone = q := ⟨_, rfl⟩
 have HQ := Hid.intro hq
 rw [hq]
 clear hq
 cases q
 all_goals
  go_wp2_with fail
  go_ret
  exact ⟨ret_bool (by rw [HQ.out]; rfl), HM5.out, HB5.out⟩

end Go.Proofs.YtmclbfkcbadnpaaGreat
