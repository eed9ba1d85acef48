import Derived.Test.YtebfdgfhadpieaaGreatJ41
import Derived.RangeFuncNested
import Derived.RangeFuncBound
import Derived.RangeFuncCalls
import Derived.RangeFuncLeaves
import Derived.Shelf.Abstract
import Derived.Shelf.RegionOpen
import Derived.OwnWalkIn
import Derived.TacticsInMore
import Derived.LoopNIn
import Derived.LoopIn
namespace Go.Proofs.YtebfdgfhadpieaaGreat
set_option maxRecDepth 100000
open Go.RowKit Go.WideMaps Go.Maps
theorem lit_inj {a b : Int} (h : (DataW.lit (Lit.int .i64 a) : DataW Unit) = .lit (.int .i64 b)) : a = b := by
 injection h with h
 injection h
theorem isz_Spot : (Tryz.prog.info? 131).map (·.size) = some 24 := by kernel_rfl
abbrev zeroSpot : Array Value := #[.pointer none, .int .i64 0, .string ⟨#[]⟩, .string ⟨#[]⟩, .int .i64 0, .int .i64 0, .int .i64 0, .int .i64 0, .string ⟨#[]⟩, .slice none 0 0, .int .i64 0, .string ⟨#[]⟩, .string ⟨#[]⟩, .string ⟨#[]⟩, .int .i64 0, .string ⟨#[]⟩, .string ⟨#[]⟩, .slice none 0 0, .int .i64 0, .int .i64 0, .bool false, .int .i64 0, .int .i64 0, .int .i64 0]
theorem heap_setCells_other {g k : Nat} (h : k ≠ g) : ∀ (vs : List Value) (o : Nat) (w : World), (w.setCells g o vs).heap[k]? = w.heap[k]?
 | [], _, _ => rfl
 | v :: r, o, w => (heap_setCells_other h r (o + 1) _).trans (Below.heap_setCell w ⟨g, o, none⟩ v k h)
theorem ownsMap_cells {H : Type} {P : Program} {k : TypeId} {R : Value → Option (DataW H × List MemPlace)} {m n : Nat} {D : DataW H} {w : World} (h : w.ownsMap P k R m n D) {g : Nat} {cs : Array Value} {t : TypeId} (hz : Blk g cs t w) (o : Nat) (vs : List Value) : (w.setCells g o vs).ownsMap P k R m n D := by
 obtain ⟨es, clock, h1, h2, h3, h4⟩ := h
 have hne : m ≠ g := by
  rintro rfl
  have := h1.symm.trans (show w.heap[m]? = _ from hz)
  cases this
 exact ⟨es, clock, (heap_setCells_other hne vs o w).trans h1, h2, h3, h4⟩
theorem Found.cells {p m1 m2 m3 m4 : Nat} {x : Flt} {a1 : Option Addr} {c1 : Nat} {a2 : Option Addr} {c2 : Nat} {a3 : Option Addr} {c3 : Nat} {w : World} (h : Found p m1 m2 m3 m4 x a1 c1 a2 c2 a3 c3 w) {g : Nat} {cs : Array Value} {t : TypeId} (hz : Blk g cs t w) (hp : p ≠ g) (o : Nat) (vs : List Value) : Found p m1 m2 m3 m4 x a1 c1 a2 c2 a3 c3 (w.setCells g o vs) := by
 refine ⟨fun j v hj => ?_, by rw [size_setCells]; exact h.2.1, ownsMap_cells h.2.2.1 hz o vs, ownsMap_cells h.2.2.2.1 hz o vs, ownsMap_cells h.2.2.2.2.1 hz o vs, ?_⟩
 ·rw [World.cell?_of_block (w := w) (a := ⟨p, 0 + j, none⟩) (heap_setCells_other hp vs o w)]
  exact h.1 j v hj
 ·rw [heap_setCells_other ?_ vs o w]
  ·exact h.2.2.2.2.2
  ·rintro rfl
   have := h.2.2.2.2.2.symm.trans (show w.heap[m4]? = _ from hz)
   cases this
theorem results_cell_tmp {P : Program} {fn : Func} {p q : Tmp} {ty : TypeId} (h : fn.results = #[.cell p ty, .tmp q]) (tmps : Array Value) (w : World) (g : Nat) (cs : List Value) (d : TypeDesc)
  (hp : tmps.getD p undef = .pointer (some ⟨g, 0, none⟩)) (hc : w.rangeAt g 0 cs) (hu : P.underlying ty = some d) (hd : d.isRow = true) (hi : (P.info? ty).map (·.size) = some cs.length) :
  (results fn tmps).run P w = .ok (.tuple #[.agg cs.toArray, tmps.getD q undef]) w := by
 have hp' : tmps[p]?.getD undef = .pointer (some ⟨g, 0, none⟩) := by simpa using hp
 simp [results, h, hp', asAddr, run_loadVar_mid w g 0 ty cs d hc hu hd hi]
def SpotK (W : World) (lo p m4 ci bi : Nat) (x : Flt) (a1 a3 : Option Addr) (y : Cpy) (a7 : Option Addr) (b : Brt) (am : Option Addr) : Prop :=
 W.heap.size ≤ p ∧ W.heap.size ≤ m4 ∧ SliceC BrtC 6 lo W a1 x.berths ∧ SliceC CpyC 12 lo W a3 x.copies ∧ SliceC LikC 2 lo W a7 y.likes ∧ SliceC StrC 1 lo W am b.marks ∧ validI x = true ∧ x.copies[ci]? = some y ∧ x.berths[bi]? = some b
def Says (f : Nat) (t : Bool) (W : World) (p m1 m2 m3 m4 ci bi : Nat) (x : Flt) (a1 : Option Addr) (c1 : Nat) (a2 : Option Addr) (c2 : Nat) (a3 : Option Addr) (c3 : Nat) (y : Cpy) (a7 : Option Addr) (c7 : Nat) (b : Brt) (am : Option Addr) (cm : Nat) (u1 u2 u3 : Int) : Prop :=
 ∀ (n : Nat) (w : World), n ≤ 900 → Below W.heap.size W w → FoundM p m1 m2 m3 m4 n x a1 c1 a2 c2 a3 c3 w → Calls Tryz.prog f #[.agg (spotA p ci bi y a7 c7 b am cm u1 u2 u3)] w fun e w' => e = .returned (.bool t) ∧ MemoAt m4 (n + 1) x.berths w' ∧ But m4 w.heap.size w w'
set_option maxHeartbeats 1000000 in
theorem closed_any (p ci bi : Nat) (y : Cpy) (a7 : Option Addr) (c7 : Nat) (b : Brt) (am : Option Addr) (cm : Nat) (u1 u2 u3 : Int) (w : World) :
  Calls Tryz.prog 101 #[.agg (spotA p ci bi y a7 c7 b am cm u1 u2 u3)] w fun e w' => e = .returned (.bool b.closed) ∧ Below w.heap.size w w' := by
 go_enter Tryz.func101, Tryz.ntmps101
 go_wp2_with fail
 go_ret
 exact ⟨rfl, by go_grown⟩
theorem isEmpty_of {s : ByteArray} (h : s = ⟨#[]⟩) : s.toList.isEmpty = true := by rw [empty_toList h]; rfl
theorem isEmpty_not {s : ByteArray} (h : ¬ s = ⟨#[]⟩) : s.toList.isEmpty = false := by
 cases e : s.toList with
 | nil => exact absurd e (nonempty_toList h)
 | cons a l => rfl
set_option maxHeartbeats 1000000 in
theorem elsewhere_any (p ci bi : Nat) (y : Cpy) (a7 : Option Addr) (c7 : Nat) (b : Brt) (am : Option Addr) (cm : Nat) (u1 u2 u3 : Int) (w : World) :
  Calls Tryz.prog 120 #[.agg (spotA p ci bi y a7 c7 b am cm u1 u2 u3)] w fun e w' => e = .returned (.bool (elsI y b)) ∧ Below w.heap.size w w' := by
 by_cases h1 : y.fixed = ⟨#[]⟩
 ·have HE : Hid (elsI y b = false) := by show _ = _; unfold elsI; rw [decide_eq_false (fun h => h h1)]; rfl
  have t1 := empty_toList h1
  have t2 := isEmpty_of h1
  clear h1
  go_enter Tryz.func120, Tryz.ntmps120
  go_wp2_with fail
  go_ret
  exact ⟨ret_bool HE.out.symm, by go_grown⟩
 ·have t1 := nonempty_toList h1
  have t2 := isEmpty_not h1
  by_cases h2 : y.fixed = b.name
  ·have HE : Hid (elsI y b = false) := by show _ = _; unfold elsI; rw [decide_eq_false (p := ¬ y.fixed = b.name) (fun h => h h2), Bool.and_false]
   have t3 := bts_eq h2
   clear h1 h2
   go_enter Tryz.func120, Tryz.ntmps120
   go_wp2_with fail
   go_ret
   exact ⟨ret_bool HE.out.symm, by go_grown⟩
  ·have HE : Hid (elsI y b = true) := by show _ = _; unfold elsI; rw [decide_eq_true h1, decide_eq_true h2]; rfl
   have t3 := bts_ne h2
   clear h1 h2
   go_enter Tryz.func120, Tryz.ntmps120
   go_wp2_with fail
   go_ret
   exact ⟨ret_bool HE.out.symm, by go_grown⟩
set_option maxHeartbeats 1000000 in
theorem full_any (p ci bi : Nat) (y : Cpy) (a7 : Option Addr) (c7 : Nat) (b : Brt) (am : Option Addr) (cm : Nat) (u1 u2 u3 : Int) (w : World) :
  Calls Tryz.prog 124 #[.agg (spotA p ci bi y a7 c7 b am cm u1 u2 u3)] w fun e w' => e = .returned (.bool (decide (10 ≤ u1))) ∧ Below w.heap.size w w' := by
 by_cases h : 10 ≤ u1
 ·rw [decide_eq_true h]
  go_enter Tryz.func124, Tryz.ntmps124
  go_wp2_with fail
  go_ret
  exact ⟨rfl, by go_grown⟩
 ·rw [decide_eq_false h]
  go_enter Tryz.func124, Tryz.ntmps124
  go_wp2_with fail
  go_ret
  exact ⟨rfl, by go_grown⟩
set_option maxHeartbeats 1000000 in
theorem roomless_any (p ci bi : Nat) (y : Cpy) (a7 : Option Addr) (c7 : Nat) (b : Brt) (am : Option Addr) (cm : Nat) (u1 u2 u3 : Int) (w : World) (h0 : 0 ≤ u2) (h1 : u2 ≤ 60000) (h2 : 0 ≤ y.room) (h3 : y.room ≤ 1000) :
  Calls Tryz.prog 125 #[.agg (spotA p ci bi y a7 c7 b am cm u1 u2 u3)] w fun e w' => e = .returned (.bool (decide (b.room < u2 + y.room))) ∧ Below w.heap.size w w' := by
 by_cases h : b.room < u2 + y.room
 ·rw [decide_eq_true h]
  go_enter Tryz.func125, Tryz.ntmps125
  go_wp2_with fail
  go_ret
  exact ⟨rfl, by go_grown⟩
 ·rw [decide_eq_false h]
  go_enter Tryz.func125, Tryz.ntmps125
  go_wp2_with fail
  go_ret
  exact ⟨rfl, by go_grown⟩
set_option maxHeartbeats 1000000 in
theorem holdless_any (p ci bi : Nat) (y : Cpy) (a7 : Option Addr) (c7 : Nat) (b : Brt) (am : Option Addr) (cm : Nat) (u1 u2 u3 : Int) (w : World) (h0 : 0 ≤ u3) (h1 : u3 ≤ 60000) (h2 : 0 ≤ y.hold) (h3 : y.hold ≤ 1000) :
  Calls Tryz.prog 126 #[.agg (spotA p ci bi y a7 c7 b am cm u1 u2 u3)] w fun e w' => e = .returned (.bool (decide (b.hold < u3 + y.hold))) ∧ Below w.heap.size w w' := by
 by_cases h : b.hold < u3 + y.hold
 ·rw [decide_eq_true h]
  go_enter Tryz.func126, Tryz.ntmps126
  go_wp2_with fail
  go_ret
  exact ⟨rfl, by go_grown⟩
 ·rw [decide_eq_false h]
  go_enter Tryz.func126, Tryz.ntmps126
  go_wp2_with fail
  go_ret
  exact ⟨rfl, by go_grown⟩
set_option maxHeartbeats 1000000 in
theorem marked_any (W : World) (lo p m1 m2 m3 m4 ci bi : Nat) (x : Flt) (a1 : Option Addr) (c1 : Nat) (a2 : Option Addr) (c2 : Nat) (a3 : Option Addr) (c3 : Nat) (y : Cpy) (a7 : Option Addr) (c7 : Nat) (b : Brt) (am : Option Addr) (cm : Nat) (u1 u2 u3 : Int) (hK : SpotK W lo p m4 ci bi x a1 a3 y a7 b am) (hsel : y.select.size ≤ maxLen) :
  Says 121 (!asksI y.select b.marks b.zone) W p m1 m2 m3 m4 ci bi x a1 c1 a2 c2 a3 c3 y a7 c7 b am cm u1 u2 u3 := by
 intro n w hn hW hF
 obtain ⟨_, _, _, _, _, nm, hv, _, hb⟩ := hK
 obtain ⟨l1, _, hbr, _⟩ := valid_more hv
 obtain ⟨_, hbz, _, hmk⟩ := hbr bi b hb
 have hbi : bi ≤ 1048576 := by have := lt_of_some hb; omega
 have hml := marks_few hmk
 have hz := name_short hbz
 have NM := iH nm
 have HB := iH hb
 have HW := iH hW
 have HF := iH hF
 have HS := iH hsel
 clear hv hbr hbz hmk nm hb hW hF hsel
 go_enter Tryz.func121, Tryz.ntmps121
 go_upto_region 1 with fail
 have hb0 : Below w.heap.size w (w.alloc (Obj.cells (spotA p ci bi y a7 c7 b am cm u1 u2 u3) 131)) := (Below.refl _ w).alloc nL _
 have HX : Hid (Blk w.heap.size (spotA p ci bi y a7 c7 b am cm u1 u2 u3) 131 (w.alloc (Obj.cells (spotA p ci bi y a7 c7 b am cm u1 u2 u3) 131))) := Blk.alloc _ _ _
 have HF0 := iH (HF.out.below hb0)
 have HW0 := iH (HW.out.trans (hb0.mono HW.out.size))
 have HB0 := iH hb0
 have s8 : (w.alloc (Obj.cells (spotA p ci bi y a7 c7 b am cm u1 u2 u3) 131)).cell? ⟨w.heap.size, 8, none⟩ = some (.string y.select) := HX.out.cell rfl
 generalize w.alloc (Obj.cells (spotA p ci bi y a7 c7 b am cm u1 u2 u3) 131) = w0 at *
 clear hb0
 go_wp2_with (first | (refine wpList_load_mid rfl 131 _ rfl w.heap.size 0 (by first | rfl | (simp [go_sem]; done)) (spotA p ci bi y a7 c7 b am cm u1 u2 u3).toList _ HX.out.rangeA Tryz.underlying131 rfl isz_Spot ?_))
 obtain ⟨n', D, hn', o4, hm⟩ := HF0.out.memo
 refine (asf_any p m4 ci bi n' y a7 c7 b am cm u1 u2 u3 x.berths D y.select lo _ (HF0.out.1 7 _ rfl) o4 hm HB.out hbi (by omega) (NM.out.below StrC.holds HW0.out nL) hml hz HS.out).mono ?_
 rintro e w5 ⟨rfl, D5, ho5, hm5, hb5⟩
 have HM5 : Hid (MemoAt m4 (n + 1) x.berths w5) := ⟨n' + 1, D5, by omega, ho5, hm5⟩
 have HB5 : Hid (But m4 w.heap.size w w5) := (But.of_below HB0.out).trans (hb5.mono HB0.out.size)
 clear o4 hm ho5 hm5 hb5
 obtain ⟨q, hq⟩ : ∃ q, asksI y.select b.marks b.zone = q := ⟨_, rfl⟩
 have HQ := iH hq
 rw [hq]
 clear hq
 cases q
 all_goals
  go_wp2_with fail
  go_ret
  exact ⟨ret_bool (by rw [HQ.out]; rfl), HM5.out, HB5.out⟩
structure StX where
 c : Cpy
 a8 : Option Addr
 c8 : Nat
 b : Brt
 am : Option Addr
 cm : Nat
abbrev stEnc (s : StX) : Array Value := #[.agg #[.string s.c.name, .string s.c.service, .int .i64 s.c.rank, .int .i64 s.c.born, .int .i64 s.c.room, .int .i64 s.c.hold, .string s.c.select, .slice s.a8 s.c.likes.length s.c8, .int .i64 s.c.apart, .string s.c.near, .string s.c.fixed, .string s.c.at_], .agg #[.string s.b.name, .string s.b.zone, .slice s.am s.b.marks.length s.cm, .int .i64 s.b.room, .int .i64 s.b.hold, .bool s.b.closed]]
def Came (x : Flt) (ci : Nat) (sv : ByteArray) : Nat → List StX → Prop
 | 0, xs => xs = []
 | k + 1, xs => match x.copies[k]? with
  | some c => if k ≠ ci ∧ c.service = sv then (match lastOf (brN x) c.at_ x.berths.length with
   | some j => ∃ pre s, xs = pre ++ [s] ∧ s.c = c ∧ x.berths[j]? = some s.b ∧ Came x ci sv k pre
   | none => Came x ci sv k xs) else Came x ci sv k xs
  | none => Came x ci sv k xs
theorem came_skip {x : Flt} {ci k : Nat} {sv : ByteArray} {c : Cpy} {xs : List StX} (hk : x.copies[k]? = some c) (h : ¬ (k ≠ ci ∧ c.service = sv)) (hc : Came x ci sv k xs) : Came x ci sv (k + 1) xs := by
 simp only [Came, hk]
 rw [if_neg h]
 exact hc
theorem came_none {x : Flt} {ci k : Nat} {sv : ByteArray} {c : Cpy} {xs : List StX} (hk : x.copies[k]? = some c) (hj : lastOf (brN x) c.at_ x.berths.length = none) (hc : Came x ci sv k xs) : Came x ci sv (k + 1) xs := by
 simp only [Came, hk, hj]
 split <;> exact hc
theorem came_some {x : Flt} {ci k j : Nat} {sv : ByteArray} {s : StX} {xs : List StX} (hk : x.copies[k]? = some s.c) (h : k ≠ ci ∧ s.c.service = sv) (hj : lastOf (brN x) s.c.at_ x.berths.length = some j) (hb : x.berths[j]? = some s.b) (hc : Came x ci sv k xs) : Came x ci sv (k + 1) (xs ++ [s]) := by
 simp only [Came, hk, hj]
 rw [if_pos h]
 exact ⟨xs, s, rfl, rfl, hb, hc⟩
def ItIn (p m1 Bs Bv ci : Nat) (x : Flt) (a1 : Option Addr) (c1 : Nat) (a3 : Option Addr) (c3 : Nat) (sv : ByteArray) (w : World) : Prop :=
 w.cell? ⟨Bs, 0, none⟩ = some (.pointer (some ⟨p, 0, none⟩)) ∧ w.cell? ⟨Bs, 1, none⟩ = some (.int .i64 ci) ∧ w.cell? ⟨Bv, 0, none⟩ = some (.string sv) ∧ w.cell? ⟨p, 1, none⟩ = some (.slice a1 x.berths.length c1) ∧ w.cell? ⟨p, 3, none⟩ = some (.slice a3 x.copies.length c3) ∧ w.cell? ⟨p, 4, none⟩ = some (.map (some m1)) ∧ w.ownsMap Tryz.prog 9 (plainElem Tryz.prog 3) m1 x.berths.length (placesTo (brN x) x.berths.length)
theorem ItIn.below {p m1 Bs Bv ci : Nat} {x : Flt} {a1 : Option Addr} {c1 : Nat} {a3 : Option Addr} {c3 : Nat} {sv : ByteArray} {w w' : World} (h : ItIn p m1 Bs Bv ci x a1 c1 a3 c3 sv w) (hb : Below w.heap.size w w') : ItIn p m1 Bs Bv ci x a1 c1 a3 c3 sv w' := by
 obtain ⟨h0, h1, h2, h3, h4, h5, h6⟩ := h
 exact ⟨(hb.cell (p := ⟨Bs, 0, none⟩) (block_lt_of_cell h0)).trans h0, (hb.cell (p := ⟨Bs, 1, none⟩) (block_lt_of_cell h1)).trans h1, (hb.cell (p := ⟨Bv, 0, none⟩) (block_lt_of_cell h2)).trans h2, (hb.cell (p := ⟨p, 1, none⟩) (block_lt_of_cell h3)).trans h3, (hb.cell (p := ⟨p, 3, none⟩) (block_lt_of_cell h4)).trans h4, (hb.cell (p := ⟨p, 4, none⟩) (block_lt_of_cell h5)).trans h5, ownsMap_below h6 hb h6.lt⟩
theorem ItIn.but {p m1 Bs Bv ci : Nat} {x : Flt} {a1 : Option Addr} {c1 : Nat} {a3 : Option Addr} {c3 : Nat} {sv : ByteArray} {w w' : World} {g n₀ : Nat} (h : ItIn p m1 Bs Bv ci x a1 c1 a3 c3 sv w) (hb : But g n₀ w w') (k1 : Bs < n₀ ∧ Bs ≠ g) (k2 : Bv < n₀ ∧ Bv ≠ g) (k3 : p < n₀ ∧ p ≠ g) (k4 : m1 < n₀ ∧ m1 ≠ g) : ItIn p m1 Bs Bv ci x a1 c1 a3 c3 sv w' := by
 obtain ⟨h0, h1, h2, h3, h4, h5, es, clock, e1, e2, e3, e4⟩ := h
 exact ⟨(hb.cell (a := ⟨Bs, 0, none⟩) k1.1 k1.2).trans h0, (hb.cell (a := ⟨Bs, 1, none⟩) k1.1 k1.2).trans h1, (hb.cell (a := ⟨Bv, 0, none⟩) k2.1 k2.2).trans h2, (hb.cell (a := ⟨p, 1, none⟩) k3.1 k3.2).trans h3, (hb.cell (a := ⟨p, 3, none⟩) k3.1 k3.2).trans h4, (hb.cell (a := ⟨p, 4, none⟩) k3.1 k3.2).trans h5, es, clock, (hb.block m1 k4.1 k4.2).trans e1, e2, e3, e4⟩
theorem grown_drew (w : World) : w.grownBy w.drew none := ⟨rfl, rfl, rfl, Nat.le_refl _, fun _ _ _ => rfl⟩
set_option maxHeartbeats 4000000 in
theorem standing_stops (p m1 Bs Bv ci g n₀ : Nat) (x : Flt) (a1 : Option Addr) (c1 : Nat) (a3 : Option Addr) (c3 : Nat) (sv : ByteArray) (lo : Nat) (W0 w : World) (hW : Below W0.heap.size W0 w) (n1 : SliceC BrtC 6 lo W0 a1 x.berths) (n3 : SliceC CpyC 12 lo W0 a3 x.copies) (hI : ItIn p m1 Bs Bv ci x a1 c1 a3 c3 sv w) (l3 : x.copies.length ≤ 60) (hn0 : W0.heap.size ≤ n₀) (hg : W0.heap.size ≤ g) (hn : n₀ ≤ w.heap.size) (k1 : Bs < n₀ ∧ Bs ≠ g) (k2 : Bv < n₀ ∧ Bv ≠ g) (k3 : p < n₀ ∧ p ≠ g) (k4 : m1 < n₀ ∧ m1 ≠ g) :
  SeqStopsK Fence.wide 5 Tryz.prog 128 #[.pointer (some ⟨Bs, 0, none⟩), .pointer (some ⟨Bv, 0, none⟩)] stEnc (But g n₀) (Came x ci sv x.copies.length) (fun pre => ∃ k, k ≤ x.copies.length ∧ Came x ci sv k pre) 60 w := by
 intro l J Jx W hbW hJ _ hY h0
 refine callsIn_wide.2 ?_
 have N1 := iH n1
 have N3 := iH n3
 have HW : Hid (Below W0.heap.size W0 W) := hW.trans (hbW.mono hW.size)
 have HI := iH (hI.below hbW)
 have HY := iH hY
 have HJ := iH hJ
 have H0 := iH h0
 have hWs : n₀ ≤ W.heap.size := Nat.le_trans hn hbW.size
 obtain ⟨i0, i1, i2, i3, i4, i5, i6⟩ := HI.out
 clear n1 n3 hW i6 hI hbW hJ hY h0
 show Calls Tryz.prog 128 #[.func (.yield l) #[] #[], .pointer (some ⟨Bs, 0, none⟩), .pointer (some ⟨Bv, 0, none⟩)] W _
 go_enter Tryz.func128, Tryz.ntmps128
 go_wp2_with fail
 go_loopw [15] (fun i wr => ∃ (k : Nat) (pre : List StX), k ≤ x.copies.length ∧ i = .int .i64 k ∧ pre.length ≤ k ∧ Hid (Came x ci sv k pre) ∧ Hid (J pre wr) ∧ Hid (ItIn p m1 Bs Bv ci x a1 c1 a3 c3 sv wr) ∧ Hid (Below W0.heap.size W0 wr) ∧ W.heap.size ≤ wr.heap.size) (fun i _ => x.copies.length - (intOf i).toNat)
 case atStart => exact ⟨0, [], Nat.zero_le _, rfl, Nat.le_refl _, rfl, H0, HI, HW, Nat.le_refl _⟩
 case round =>
  clear HI HW i0 i1 i2 i3 i4 i5 H0
  obtain ⟨k, pre, hk, rfl, hpl, hC, hJ, hI, hB, hws⟩ := hrel
  by_cases hlt : k < x.copies.length
  ·obtain ⟨c, hck⟩ : ∃ c, x.copies[k]? = some c := ⟨x.copies[k], List.getElem?_eq_getElem hlt⟩
   obtain ⟨cb, co, rfl, _, _, hc⟩ := (N3.out.below CpyC.holds hB.out nL).at hck
   obtain ⟨a8, c8, q0, q1, q2, q3, q4, q5, q6, q7, q8, q9, q10, q11, z0, z1, z6, z9, z10, z11, z7⟩ := hc
   simp only [Nat.add_zero] at q0 q1 q2 q3 q4 q5 q6 q7 q8 q9 q10 q11
   have HRA : Hid (wr.rangeAt cb (co + k * 12) [.string c.name, .string c.service, .int .i64 c.rank, .int .i64 c.born, .int .i64 c.room, .int .i64 c.hold, .string c.select, .slice a8 c.likes.length c8, .int .i64 c.apart, .string c.near, .string c.fixed, .string c.at_]) := range_cons q0 (range_cons q1 (range_cons q2 (range_cons q3 (range_cons q4 (range_cons q5 (range_cons q6 (range_cons q7 (range_cons q8 (range_cons q9 (range_cons q10 (range_cons q11 (range_nil _ _ _))))))))))))
   have HX := iH hck
   have Z11 := iH z11
   clear hck q0 q1 q2 q3 q4 q5 q6 q7 q8 q9 q10 q11 z0 z1 z6 z7 z9 z10 z11
   go_upto_region 3 with (first | (refine wpList_load_mid rfl 45 _ rfl cb (co + k * 12) (by first | rfl | (simp [go_sem]; done)) [.string c.name, .string c.service, .int .i64 c.rank, .int .i64 c.born, .int .i64 c.room, .int .i64 c.hold, .string c.select, .slice a8 c.likes.length c8, .int .i64 c.apart, .string c.near, .string c.fixed, .string c.at_] _ HRA.out Tryz.underlying45 rfl isz_Cpy ?_))
   have hbx : Below wr.heap.size wr (wr.alloc (Obj.cells #[.string c.name, .string c.service, .int .i64 c.rank, .int .i64 c.born, .int .i64 c.room, .int .i64 c.hold, .string c.select, .slice a8 c.likes.length c8, .int .i64 c.apart, .string c.near, .string c.fixed, .string c.at_] 45)) := (Below.refl _ wr).alloc nL _
   have HX4 : Hid (Blk wr.heap.size #[.string c.name, .string c.service, .int .i64 c.rank, .int .i64 c.born, .int .i64 c.room, .int .i64 c.hold, .string c.select, .slice a8 c.likes.length c8, .int .i64 c.apart, .string c.near, .string c.fixed, .string c.at_] 45 (wr.alloc (Obj.cells #[.string c.name, .string c.service, .int .i64 c.rank, .int .i64 c.born, .int .i64 c.room, .int .i64 c.hold, .string c.select, .slice a8 c.likes.length c8, .int .i64 c.apart, .string c.near, .string c.fixed, .string c.at_] 45))) := Blk.alloc _ _ _
   have HI4 := iH (hI.out.below hbx)
   have HB4 : Hid (Below W0.heap.size W0 (wr.alloc (Obj.cells #[.string c.name, .string c.service, .int .i64 c.rank, .int .i64 c.born, .int .i64 c.room, .int .i64 c.hold, .string c.select, .slice a8 c.likes.length c8, .int .i64 c.apart, .string c.near, .string c.fixed, .string c.at_] 45))) := hB.out.trans (hbx.mono hB.out.size)
   have HJ4 : Hid (J pre (wr.alloc (Obj.cells #[.string c.name, .string c.service, .int .i64 c.rank, .int .i64 c.born, .int .i64 c.room, .int .i64 c.hold, .string c.select, .slice a8 c.likes.length c8, .int .i64 c.apart, .string c.near, .string c.fixed, .string c.at_] 45))) := HJ.out pre wr _ none hJ.out (World.grownBy_alloc wr _ none) (fun r e => by cases e)
   have hws4 : W.heap.size ≤ (wr.alloc (Obj.cells #[.string c.name, .string c.service, .int .i64 c.rank, .int .i64 c.born, .int .i64 c.room, .int .i64 c.hold, .string c.select, .slice a8 c.likes.length c8, .int .i64 c.apart, .string c.near, .string c.fixed, .string c.at_] 45)).heap.size := Nat.le_trans hws hbx.size
   clear HRA hbx hI hB hJ hws
   generalize (wr.alloc (Obj.cells #[.string c.name, .string c.service, .int .i64 c.rank, .int .i64 c.born, .int .i64 c.room, .int .i64 c.hold, .string c.select, .slice a8 c.likes.length c8, .int .i64 c.apart, .string c.near, .string c.fixed, .string c.at_] 45)) = w4 at *
   obtain ⟨i0, i1, i2, i3, i4, i5, i6⟩ := HI4.out
   have g1 : w4.cell? ⟨wr.heap.size, 1, none⟩ = some (.string c.service) := HX4.out.cell rfl
   have g11 : w4.cell? ⟨wr.heap.size, 11, none⟩ = some (.string c.at_) := HX4.out.cell rfl
   by_cases hkc : k = ci
   ·have hkc' : ((k : Nat) : Int) = (ci : Int) := by omega
    have HCS := iH (came_skip (sv := sv) HX.out (fun h => h.1 hkc) hC.out)
    clear hkc i6
    go_wp2_with fail
    go_roundw
    case rel => exact ⟨k + 1, pre, by omega, by go_num, by omega, HCS, HJ4, HI4, HB4, hws4⟩
    case measure => simp [intOf]; omega
   have hkc' : ¬ ((k : Nat) : Int) = (ci : Int) := by omega
   by_cases hsv : c.service = sv
   ·have hts := bts_eq hsv
    have HSV := iH hsv
    clear hsv
    have yl := look_places (s := c.at_) i6.drew Z11.out
    clear i6
    cases hj : lastOf (brN x) c.at_ x.berths.length with
    | none =>
     rw [hj] at yl
     simp only [Option.isSome_none, Option.getD_none] at yl
     have HCS := iH (came_none (ci := ci) (sv := sv) HX.out hj hC.out)
     have HJ5 : Hid (J pre w4.drew.drew) := HJ.out pre _ _ none (HJ.out pre _ _ none HJ4.out (grown_drew _) (fun r e => by cases e)) (grown_drew _) (fun r e => by cases e)
     clear hj
     go_wp2_with fail
     go_region
     go_wp2_with fail
     go_region
     go_wp2_with fail
     go_roundw
     case rel => exact ⟨k + 1, pre, by omega, by go_num, by omega, HCS, HJ5, HI4.out.below ((Below.refl _ _).drew.drew), HB4.out.drew.drew, hws4⟩
     case measure => simp [intOf]; omega
    | some j =>
     obtain ⟨hjl, _⟩ := lastOf_get hj
     obtain ⟨b, hb⟩ : ∃ b, x.berths[j]? = some b := ⟨x.berths[j], List.getElem?_eq_getElem hjl⟩
     obtain ⟨bb, bo, rfl, _, _, hbc⟩ := (N1.out.below BrtC.holds HB4.out nL).at hb
     obtain ⟨am, cm, t0, t1, t2, t3, t4, t5, _, _, nM⟩ := hbc
     simp only [Nat.add_zero] at t0
     have HCS := iH (came_some (s := ⟨c, a8, c8, b, am, cm⟩) HX.out ⟨hkc, HSV.out⟩ hj hb hC.out)
     rw [hj] at yl
     simp only [Option.isSome_some, Option.getD_some] at yl
     clear hb hj nM
     go_wp2_with fail
     go_region
     clear yl
     go_upto_region 5 with fail
     have h0 : w4.cell? ⟨wr.heap.size, 0, none⟩ = some (.string c.name) := HX4.out.cell rfl
     have h2 : w4.cell? ⟨wr.heap.size, 2, none⟩ = some (.int .i64 c.rank) := HX4.out.cell rfl
     have h3 : w4.cell? ⟨wr.heap.size, 3, none⟩ = some (.int .i64 c.born) := HX4.out.cell rfl
     have h4 : w4.cell? ⟨wr.heap.size, 4, none⟩ = some (.int .i64 c.room) := HX4.out.cell rfl
     have h5 : w4.cell? ⟨wr.heap.size, 5, none⟩ = some (.int .i64 c.hold) := HX4.out.cell rfl
     have h6 : w4.cell? ⟨wr.heap.size, 6, none⟩ = some (.string c.select) := HX4.out.cell rfl
     have h7 : w4.cell? ⟨wr.heap.size, 7, none⟩ = some (.slice a8 c.likes.length c8) := HX4.out.cell rfl
     have h8 : w4.cell? ⟨wr.heap.size, 8, none⟩ = some (.int .i64 c.apart) := HX4.out.cell rfl
     have h9 : w4.cell? ⟨wr.heap.size, 9, none⟩ = some (.string c.near) := HX4.out.cell rfl
     have h10 : w4.cell? ⟨wr.heap.size, 10, none⟩ = some (.string c.fixed) := HX4.out.cell rfl
     obtain ⟨fn, tmps, assign, body, hy, hR⟩ := HY.out pre ⟨c, a8, c8, b, am, cm⟩ w4.drew.drew (HJ.out pre _ _ none (HJ.out pre _ _ none HJ4.out (grown_drew _) (fun r e => by cases e)) (grown_drew _) (fun r e => by cases e)) (by omega)
     dsimp only [stEnc] at hy
     have hR' := hR.mono (R' := fun e W' => ∃ q, e = .returned (.bool q) ∧ Hid ((q = true ∧ J (pre ++ [⟨c, a8, c8, b, am, cm⟩]) W' ∧ But g n₀ w4.drew.drew W') ∨ (q = false ∧ Jx (pre ++ [⟨c, a8, c8, b, am, cm⟩]) W'))) (by
      rintro e W' (⟨h1, h2, h3⟩ | ⟨h1, h2⟩)
      ·exact ⟨true, h1, Or.inl ⟨rfl, h2, h3⟩⟩
      ·exact ⟨false, h1, Or.inr ⟨rfl, h2⟩⟩)
     clear hR
     refine (wpIn_wide (n := 5)).1 ?_
     gi_region_with (refine hR'.mono ?_; rintro e W' ⟨q, rfl, hq⟩)
     all_goals
      clear hR' hy
      cases q with
      | true =>
       have HQ : Hid (J (pre ++ [⟨c, a8, c8, b, am, cm⟩]) W' ∧ But g n₀ w4.drew.drew W') := by
        rcases hq.out with h | h
        ·exact h.2
        ·cases h.1
       clear hq
       go_wp2_with fail
       go_roundw
       case rel =>
        have hbt := HQ.out.2
        refine ⟨k + 1, _, by omega, by go_num, by simp; omega, HCS, HQ.out.1, ((HI4.out.below ((Below.refl _ _).drew.drew)).but hbt k1 k2 k3 k4), HB4.out.drew.drew.trans (hbt.below hn0 hg), Nat.le_trans hws4 hbt.size⟩
       case measure => simp [intOf]; omega
      | false =>
       have HQ : Hid (Jx (pre ++ [⟨c, a8, c8, b, am, cm⟩]) W') := by
        rcases hq.out with h | h
        ·cases h.1
        ·exact h.2
       clear hq
       go_wp2_with fail
       refine bodyPost_ret (results_none rfl _ _ _) rfl ?_
       exact ⟨⟨_, rfl⟩, Or.inr ⟨_, ⟨k + 1, by omega, HCS.out⟩, HQ.out⟩⟩
   ·have hts := bts_ne hsv
    have HCS := iH (came_skip (ci := ci) HX.out (fun h => hsv h.2) hC.out)
    clear hsv i6
    go_wp2_with fail
    go_roundw
    case rel => exact ⟨k + 1, pre, by omega, by go_num, by omega, HCS, HJ4, HI4, HB4, hws4⟩
    case measure => simp [intOf]; omega
  ·have hke : k = x.copies.length := by omega
   subst hke
   go_wp2_with fail
   go_end0
   exact ⟨⟨_, rfl⟩, Or.inl ⟨pre, hC.out, hJ.out⟩⟩
set_option maxHeartbeats 1000000 in
theorem standing_any (sp : Array Value) (sv : ByteArray) (w : World) :
  Calls Tryz.prog 104 #[.agg sp, .string sv] w fun e w' => e = .returned (.func (.func 128) #[] #[.pointer (some ⟨w.heap.size, 0, none⟩), .pointer (some ⟨w.heap.size + 1, 0, none⟩)]) ∧ w' = (w.alloc (Obj.cells sp 131)).alloc (Obj.cells #[.string sv] 9) := by
 go_enter Tryz.func104, Tryz.ntmps104
 go_wp2_with fail
 go_ret
 exact ⟨rfl, rfl⟩
def cntZ (z : ByteArray) (xs : List StX) : Nat := xs.countP fun s => decide (s.b.zone = z)
def cntN (nm : ByteArray) (xs : List StX) : Nat := xs.countP fun s => decide (s.b.name = nm)
theorem cntZ_snoc (z : ByteArray) (xs : List StX) (s : StX) : cntZ z (xs ++ [s]) = cntZ z xs + (if s.b.zone = z then 1 else 0) := by
 unfold cntZ
 rw [List.countP_append]
 by_cases h : s.b.zone = z <;> simp [h]
theorem cntN_snoc (z : ByteArray) (xs : List StX) (s : StX) : cntN z (xs ++ [s]) = cntN z xs + (if s.b.name = z then 1 else 0) := by
 unfold cntN
 rw [List.countP_append]
 by_cases h : s.b.name = z <;> simp [h]
theorem came_counts {x : Flt} (hv : validI x = true) (ci : Nat) (sv z nm : ByteArray) (hnm : ¬ nm = ⟨#[]⟩) : ∀ n xs, Came x ci sv n xs → cntZ z xs = cntTo (znF x ci sv z) n ∧ cntN nm xs = cntTo (bthF x ci sv nm) n
 | 0, xs, h => by
  have : xs = [] := h
  subst this
  exact ⟨rfl, rfl⟩
 | n + 1, xs, h => by
  obtain ⟨_, hbN, hbr, hcp⟩ := valid_more hv
  cases hc : x.copies[n]? with
  | none =>
   simp only [Came, hc] at h
   have ih := came_counts hv ci sv z nm hnm n xs h
   rw [cntTo_no (f := znF x ci sv z) (by unfold znF; rw [hc]), cntTo_no (f := bthF x ci sv nm) (by unfold bthF; rw [hc])]
   exact ih
  | some c =>
   simp only [Came, hc] at h
   by_cases hcd : n ≠ ci ∧ c.service = sv
   ·rw [if_pos hcd] at h
    cases hj : lastOf (brN x) c.at_ x.berths.length with
    | none =>
     rw [hj] at h
     have ih := came_counts hv ci sv z nm hnm n xs h
     have hat : c.at_ = ⟨#[]⟩ := by
      rcases (hcp n c hc).2.2 with e | ⟨s, e⟩
      ·exact e
      ·rw [hj] at e; cases e
     rw [cntTo_no (zn_no hc (fun k => k.2.2.1 hat)), cntTo_no (bth_no hc (fun k => hnm (k.2.2.symm.trans hat)))]
     exact ih
    | some j =>
     rw [hj] at h
     obtain ⟨pre, s, rfl, hsc, hsb, hpre⟩ := h
     have ih := came_counts hv ci sv z nm hnm n pre hpre
     obtain ⟨b, hb, hbn, hbz⟩ := zone_at hbN hj
     rw [hsb] at hb
     cases hb
     have hat : ¬ c.at_ = ⟨#[]⟩ := by
      intro e
      rw [e, nowhere hbr] at hj
      cases hj
     rw [cntZ_snoc, cntN_snoc, ih.1, ih.2]
     constructor
     ·by_cases hz : s.b.zone = z
      ·rw [if_pos hz, cntTo_yes (zn_yes hc hcd.1 hcd.2 hat (hbz.trans hz))]
      ·rw [if_neg hz, Nat.add_zero, cntTo_no (zn_no hc (fun k => hz (hbz.symm.trans k.2.2.2)))]
     ·by_cases hz : s.b.name = nm
      ·rw [if_pos hz, cntTo_yes (bth_yes hc hcd.1 hcd.2 (hbn.symm.trans hz))]
      ·rw [if_neg hz, Nat.add_zero, cntTo_no (bth_no hc (fun k => hz (hbn.trans k.2.2)))]
   ·rw [if_neg hcd] at h
    have ih := came_counts hv ci sv z nm hnm n xs h
    rw [cntTo_no (zn_no hc (fun k => hcd ⟨k.1, k.2.1⟩)), cntTo_no (bth_no hc (fun k => hcd ⟨k.1, k.2.1⟩))]
    exact ih
end Go.Proofs.YtebfdgfhadpieaaGreat
