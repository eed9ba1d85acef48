import Derived.RangeFuncNested
import Derived.RangeFuncBound
import Derived.RangeFuncCalls
import Derived.RangeFuncLeaves
import Derived.Shelf.Abstract
import Derived.Shelf.RegionOpen
import Derived.OwnWalkIn
import Derived.TacticsInMore
import Derived.LoopNIn
import Derived.LoopIn
import Derived.Test.YtmclbfkcbadnpaaGreatJ38
import Derived.Test.YtmclbfkcbadnpaaGreatJ36
import Derived.RangeFuncRecord
namespace Go.Proofs.YtmclbfkcbadnpaaGreat
open Go.RowKit Go.WideMaps Go.Maps

structure StX where
 c : Cpy
 a8 : Option Addr
 c8 : Nat
 b : Brt
 am : Option Addr
 cm : Nat

abbrev stEnc (s : StX) : Array Value := #[.agg #[.string s.c.name, .string s.c.service, .int .i64 s.c.rank, .int .i64 s.c.born, .int .i64 s.c.room, .int .i64 s.c.hold, .string s.c.select, .slice s.a8 s.c.likes.length s.c8, .int .i64 s.c.apart, .string s.c.near, .string s.c.fixed, .string s.c.at_], .agg #[.string s.b.name, .string s.b.zone, .slice s.am s.b.marks.length s.cm, .int .i64 s.b.room, .int .i64 s.b.hold, .bool s.b.closed]]

def Came (x : Flt) (ci : Nat) (sv : ByteArray) : Nat → List StX → Prop
 | 0, xs => xs = []
 | k + 1, xs => match x.copies[k]? with
  | some c => if k ≠ ci ∧ c.service = sv then (match lastOf (brN x) c.at_ x.berths.length with
   | some j => ∃ pre s, xs = pre ++ [s] ∧ s.c = c ∧ x.berths[j]? = some s.b ∧ Came x ci sv k pre
   | none => Came x ci sv k xs) else Came x ci sv k xs
  | none => Came x ci sv k xs

theorem came_skip {x : Flt} {ci k : Nat} {sv : ByteArray} {c : Cpy} {xs : List StX} (hk : x.copies[k]? = some c) (h : ¬ (k ≠ ci ∧ c.service = sv)) (hc : Came x ci sv k xs) : Came x ci sv (k + 1) xs := by
 simp only [Came, hk]
 rw [if_neg h]
 exact hc

theorem came_none {x : Flt} {ci k : Nat} {sv : ByteArray} {c : Cpy} {xs : List StX} (hk : x.copies[k]? = some c) (hj : lastOf (brN x) c.at_ x.berths.length = none) (hc : Came x ci sv k xs) : Came x ci sv (k + 1) xs := by
 simp only [Came, hk, hj]
 split <;> exact hc

theorem came_some {x : Flt} {ci k j : Nat} {sv : ByteArray} {s : StX} {xs : List StX} (hk : x.copies[k]? = some s.c) (h : k ≠ ci ∧ s.c.service = sv) (hj : lastOf (brN x) s.c.at_ x.berths.length = some j) (hb : x.berths[j]? = some s.b) (hc : Came x ci sv k xs) : Came x ci sv (k + 1) (xs ++ [s]) := by
 simp only [Came, hk, hj]
 rw [if_pos h]
 exact ⟨xs, s, rfl, rfl, hb, hc⟩

def ItIn (p m1 Bs Bv ci : Nat) (x : Flt) (a1 : Option Addr) (c1 : Nat) (a3 : Option Addr) (c3 : Nat) (sv : ByteArray) (w : World) : Prop :=
 w.cell? ⟨Bs, 0, none⟩ = some (.pointer (some ⟨p, 0, none⟩)) ∧ w.cell? ⟨Bs, 1, none⟩ = some (.int .i64 ci) ∧ w.cell? ⟨Bv, 0, none⟩ = some (.string sv) ∧ w.cell? ⟨p, 1, none⟩ = some (.slice a1 x.berths.length c1) ∧ w.cell? ⟨p, 3, none⟩ = some (.slice a3 x.copies.length c3) ∧ w.cell? ⟨p, 4, none⟩ = some (.map (some m1)) ∧ w.ownsMap Tryz.prog 9 (plainElem Tryz.prog 3) m1 x.berths.length (placesTo (brN x) x.berths.length)

theorem ItIn.below {p m1 Bs Bv ci : Nat} {x : Flt} {a1 : Option Addr} {c1 : Nat} {a3 : Option Addr} {c3 : Nat} {sv : ByteArray} {w w' : World} (h : ItIn p m1 Bs Bv ci x a1 c1 a3 c3 sv w) (hb : Below w.heap.size w w') : ItIn p m1 Bs Bv ci x a1 c1 a3 c3 sv w' := by
 obtain ⟨h0, h1, h2, h3, h4, h5, h6⟩ := h
 exact ⟨(hb.cell (p := ⟨Bs, 0, none⟩) (block_lt_of_cell h0)).trans h0, (hb.cell (p := ⟨Bs, 1, none⟩) (block_lt_of_cell h1)).trans h1, (hb.cell (p := ⟨Bv, 0, none⟩) (block_lt_of_cell h2)).trans h2, (hb.cell (p := ⟨p, 1, none⟩) (block_lt_of_cell h3)).trans h3, (hb.cell (p := ⟨p, 3, none⟩) (block_lt_of_cell h4)).trans h4, (hb.cell (p := ⟨p, 4, none⟩) (block_lt_of_cell h5)).trans h5, ownsMap_below h6 hb h6.lt⟩

theorem ItIn.but {p m1 Bs Bv ci : Nat} {x : Flt} {a1 : Option Addr} {c1 : Nat} {a3 : Option Addr} {c3 : Nat} {sv : ByteArray} {w w' : World} {g n₀ : Nat} (h : ItIn p m1 Bs Bv ci x a1 c1 a3 c3 sv w) (hb : But g n₀ w w') (k1 : Bs < n₀ ∧ Bs ≠ g) (k2 : Bv < n₀ ∧ Bv ≠ g) (k3 : p < n₀ ∧ p ≠ g) (k4 : m1 < n₀ ∧ m1 ≠ g) : ItIn p m1 Bs Bv ci x a1 c1 a3 c3 sv w' := by
 obtain ⟨h0, h1, h2, h3, h4, h5, es, clock, e1, e2, e3, e4⟩ := h
 exact ⟨(hb.cell (a := ⟨Bs, 0, none⟩) k1.1 k1.2).trans h0, (hb.cell (a := ⟨Bs, 1, none⟩) k1.1 k1.2).trans h1, (hb.cell (a := ⟨Bv, 0, none⟩) k2.1 k2.2).trans h2, (hb.cell (a := ⟨p, 1, none⟩) k3.1 k3.2).trans h3, (hb.cell (a := ⟨p, 3, none⟩) k3.1 k3.2).trans h4, (hb.cell (a := ⟨p, 4, none⟩) k3.1 k3.2).trans h5, es, clock, (hb.block m1 k4.1 k4.2).trans e1, e2, e3, e4⟩

theorem grown_drew (w : World) : w.grownBy w.drew none := ⟨rfl, rfl, rfl, Nat.le_refl _, fun _ _ _ => rfl⟩

set_option maxHeartbeats 4000000 in
set_option maxRecDepth 100000 in
theorem standing_stops (p m1 Bs Bv ci g n₀ : Nat) (x : Flt) (a1 : Option Addr) (c1 : Nat) (a3 : Option Addr) (c3 : Nat) (sv : ByteArray) (lo : Nat) (W0 w : World) (hW : Below W0.heap.size W0 w) (n1 : SliceC BrtC 6 lo W0 a1 x.berths) (n3 : SliceC CpyC 12 lo W0 a3 x.copies) (hI : ItIn p m1 Bs Bv ci x a1 c1 a3 c3 sv w) (l3 : x.copies.length ≤ 60) (hn0 : W0.heap.size ≤ n₀) (hg : W0.heap.size ≤ g) (hn : n₀ ≤ w.heap.size) (k1 : Bs < n₀ ∧ Bs ≠ g) (k2 : Bv < n₀ ∧ Bv ≠ g) (k3 : p < n₀ ∧ p ≠ g) (k4 : m1 < n₀ ∧ m1 ≠ g) :
  SeqStopsK Fence.wide 5 Tryz.prog 135 #[.pointer (some ⟨Bs, 0, none⟩), .pointer (some ⟨Bv, 0, none⟩)] stEnc (But g n₀) (Came x ci sv x.copies.length) (fun pre => ∃ k, k ≤ x.copies.length ∧ Came x ci sv k pre) 60 w := by
 intro l J Jx W hbW hJ _ hY h0
 refine callsIn_wide.2 ?_
 have N1 := Hid.intro n1
 have N3 := Hid.intro n3
 have HW : Hid (Below W0.heap.size W0 W) := hW.trans (hbW.mono hW.size)
 have HI := Hid.intro (hI.below hbW)
 have HY := Hid.intro hY
 have HJ := Hid.intro hJ
 have H0 := Hid.intro h0
 have hWs : n₀ ≤ W.heap.size := Nat.le_trans hn hbW.size
 obtain ⟨i0, i1, i2, i3, i4, i5, i6⟩ := HI.out
 clear n1 n3 hW i6 hI hbW hJ hY h0
 show Calls Tryz.prog 135 #[.func (.yield l) #[] #[], .pointer (some ⟨Bs, 0, none⟩), .pointer (some ⟨Bv, 0, none⟩)] W _
 go_enter Tryz.func135, Tryz.ntmps135
 go_wp2_with fail
 go_loopw [15] (fun i wr => ∃ (k : Nat) (pre : List StX), k ≤ x.copies.length ∧ i = .int .i64 k ∧ pre.length ≤ k ∧ Hid (Came x ci sv k pre) ∧ Hid (J pre wr) ∧ Hid (ItIn p m1 Bs Bv ci x a1 c1 a3 c3 sv wr) ∧ Hid (Below W0.heap.size W0 wr) ∧ W.heap.size ≤ wr.heap.size) (fun i _ => x.copies.length - (intOf i).toNat)
 case atStart => exact ⟨0, [], Nat.zero_le _, rfl, Nat.le_refl _, rfl, H0, HI, HW, Nat.le_refl _⟩
 case round =>
  clear HI HW i0 i1 i2 i3 i4 i5 H0
  obtain ⟨k, pre, hk, rfl, hpl, hC, hJ, hI, hB, hws⟩ := hrel
  by_cases hlt : k < x.copies.length
  ·obtain ⟨c, hck⟩ : ∃ c, x.copies[k]? = some c := ⟨x.copies[k], List.getElem?_eq_getElem hlt⟩
   obtain ⟨cb, co, rfl, _, _, hc⟩ := (N3.out.below CpyC.holds hB.out (Nat.le_refl _)).at hck
   obtain ⟨a8, c8, q0, q1, q2, q3, q4, q5, q6, q7, q8, q9, q10, q11, z0, z1, z6, z9, z10, z11, z7⟩ := hc
   simp only [Nat.add_zero] at q0 q1 q2 q3 q4 q5 q6 q7 q8 q9 q10 q11
   have HRA : Hid (wr.rangeAt cb (co + k * 12) [.string c.name, .string c.service, .int .i64 c.rank, .int .i64 c.born, .int .i64 c.room, .int .i64 c.hold, .string c.select, .slice a8 c.likes.length c8, .int .i64 c.apart, .string c.near, .string c.fixed, .string c.at_]) := range_cons q0 (range_cons q1 (range_cons q2 (range_cons q3 (range_cons q4 (range_cons q5 (range_cons q6 (range_cons q7 (range_cons q8 (range_cons q9 (range_cons q10 (range_cons q11 (range_nil _ _ _))))))))))))
   have HX := Hid.intro hck
   have Z11 := Hid.intro z11
   clear hck q0 q1 q2 q3 q4 q5 q6 q7 q8 q9 q10 q11 z0 z1 z6 z7 z9 z10 z11
   go_upto_region 3 with (first | (refine wpList_load_mid rfl 53 _ rfl cb (co + k * 12) (by first | rfl | (simp [go_sem]; done)) [.string c.name, .string c.service, .int .i64 c.rank, .int .i64 c.born, .int .i64 c.room, .int .i64 c.hold, .string c.select, .slice a8 c.likes.length c8, .int .i64 c.apart, .string c.near, .string c.fixed, .string c.at_] _ HRA.out Tryz.underlying53 rfl isz_Cpy ?_))
   have hbx : Below wr.heap.size wr (wr.alloc (Obj.cells #[.string c.name, .string c.service, .int .i64 c.rank, .int .i64 c.born, .int .i64 c.room, .int .i64 c.hold, .string c.select, .slice a8 c.likes.length c8, .int .i64 c.apart, .string c.near, .string c.fixed, .string c.at_] 53)) := (Below.refl _ wr).alloc (Nat.le_refl _) _
   have HX4 : Hid (Blk wr.heap.size #[.string c.name, .string c.service, .int .i64 c.rank, .int .i64 c.born, .int .i64 c.room, .int .i64 c.hold, .string c.select, .slice a8 c.likes.length c8, .int .i64 c.apart, .string c.near, .string c.fixed, .string c.at_] 53 (wr.alloc (Obj.cells #[.string c.name, .string c.service, .int .i64 c.rank, .int .i64 c.born, .int .i64 c.room, .int .i64 c.hold, .string c.select, .slice a8 c.likes.length c8, .int .i64 c.apart, .string c.near, .string c.fixed, .string c.at_] 53))) := Blk.alloc _ _ _
   have HI4 := Hid.intro (hI.out.below hbx)
   have HB4 : Hid (Below W0.heap.size W0 (wr.alloc (Obj.cells #[.string c.name, .string c.service, .int .i64 c.rank, .int .i64 c.born, .int .i64 c.room, .int .i64 c.hold, .string c.select, .slice a8 c.likes.length c8, .int .i64 c.apart, .string c.near, .string c.fixed, .string c.at_] 53))) := hB.out.trans (hbx.mono hB.out.size)
   have HJ4 : Hid (J pre (wr.alloc (Obj.cells #[.string c.name, .string c.service, .int .i64 c.rank, .int .i64 c.born, .int .i64 c.room, .int .i64 c.hold, .string c.select, .slice a8 c.likes.length c8, .int .i64 c.apart, .string c.near, .string c.fixed, .string c.at_] 53))) := HJ.out pre wr _ none hJ.out (World.grownBy_alloc wr _ none) (fun r e => by cases e)
   have hws4 : W.heap.size ≤ (wr.alloc (Obj.cells #[.string c.name, .string c.service, .int .i64 c.rank, .int .i64 c.born, .int .i64 c.room, .int .i64 c.hold, .string c.select, .slice a8 c.likes.length c8, .int .i64 c.apart, .string c.near, .string c.fixed, .string c.at_] 53)).heap.size := Nat.le_trans hws hbx.size
   clear HRA hbx hI hB hJ hws
   generalize (wr.alloc (Obj.cells #[.string c.name, .string c.service, .int .i64 c.rank, .int .i64 c.born, .int .i64 c.room, .int .i64 c.hold, .string c.select, .slice a8 c.likes.length c8, .int .i64 c.apart, .string c.near, .string c.fixed, .string c.at_] 53)) = w4 at *
   obtain ⟨i0, i1, i2, i3, i4, i5, i6⟩ := HI4.out
   have g1 : w4.cell? ⟨wr.heap.size, 1, none⟩ = some (.string c.service) := HX4.out.cell rfl
   have g11 : w4.cell? ⟨wr.heap.size, 11, none⟩ = some (.string c.at_) := HX4.out.cell rfl
   by_cases hkc : k = ci
   ·have hkc' : ((k : Nat) : Int) = (ci : Int) := by omega
    have HCS := Hid.intro (came_skip (sv := sv) HX.out (fun h => h.1 hkc) hC.out)
    clear hkc i6
    go_wp2_with fail
    go_roundw
    case rel => exact ⟨k + 1, pre, by omega, by go_num, by omega, HCS, HJ4, HI4, HB4, hws4⟩
    case measure => simp [intOf]; omega
   have hkc' : ¬ ((k : Nat) : Int) = (ci : Int) := by omega
   by_cases hsv : c.service = sv
   ·have hts := bts_eq hsv
    have HSV := Hid.intro hsv
    clear hsv
    have yl := look_places (s := c.at_) i6.drew Z11.out
    clear i6
    cases hj : lastOf (brN x) c.at_ x.berths.length with
    | none =>
     rw [hj] at yl
     simp only [Option.isSome_none, Option.getD_none] at yl
     have HCS := Hid.intro (came_none (ci := ci) (sv := sv) HX.out hj hC.out)
     have HJ5 : Hid (J pre w4.drew.drew) := HJ.out pre _ _ none (HJ.out pre _ _ none HJ4.out (grown_drew _) (fun r e => by cases e)) (grown_drew _) (fun r e => by cases e)
     clear hj
     go_wp2_with fail
     go_region
     go_wp2_with fail
     go_region
     go_wp2_with fail
     go_roundw
     case rel => exact ⟨k + 1, pre, by omega, by go_num, by omega, HCS, HJ5, HI4.out.below ((Below.refl _ _).drew.drew), HB4.out.drew.drew, hws4⟩
     case measure => simp [intOf]; omega
    | some j =>
     obtain ⟨hjl, _⟩ := lastOf_get hj
     obtain ⟨b, hb⟩ : ∃ b, x.berths[j]? = some b := ⟨x.berths[j], List.getElem?_eq_getElem hjl⟩
     obtain ⟨bb, bo, rfl, _, _, hbc⟩ := (N1.out.below BrtC.holds HB4.out (Nat.le_refl _)).at hb
     obtain ⟨am, cm, t0, t1, t2, t3, t4, t5, _, _, nM⟩ := hbc
     simp only [Nat.add_zero] at t0
     have HCS := Hid.intro (came_some (s := ⟨c, a8, c8, b, am, cm⟩) HX.out ⟨hkc, HSV.out⟩ hj hb hC.out)
     rw [hj] at yl
     simp only [Option.isSome_some, Option.getD_some] at yl
     clear hb hj nM
     go_wp2_with fail
     go_region
     clear yl
     go_upto_region 5 with fail
     have h0 : w4.cell? ⟨wr.heap.size, 0, none⟩ = some (.string c.name) := HX4.out.cell rfl
     have h2 : w4.cell? ⟨wr.heap.size, 2, none⟩ = some (.int .i64 c.rank) := HX4.out.cell rfl
     have h3 : w4.cell? ⟨wr.heap.size, 3, none⟩ = some (.int .i64 c.born) := HX4.out.cell rfl
     have h4 : w4.cell? ⟨wr.heap.size, 4, none⟩ = some (.int .i64 c.room) := HX4.out.cell rfl
     have h5 : w4.cell? ⟨wr.heap.size, 5, none⟩ = some (.int .i64 c.hold) := HX4.out.cell rfl
     have h6 : w4.cell? ⟨wr.heap.size, 6, none⟩ = some (.string c.select) := HX4.out.cell rfl
     have h7 : w4.cell? ⟨wr.heap.size, 7, none⟩ = some (.slice a8 c.likes.length c8) := HX4.out.cell rfl
     have h8 : w4.cell? ⟨wr.heap.size, 8, none⟩ = some (.int .i64 c.apart) := HX4.out.cell rfl
     have h9 : w4.cell? ⟨wr.heap.size, 9, none⟩ = some (.string c.near) := HX4.out.cell rfl
     have h10 : w4.cell? ⟨wr.heap.size, 10, none⟩ = some (.string c.fixed) := HX4.out.cell rfl
     obtain ⟨fn, tmps, assign, body, hy, hR⟩ := HY.out pre ⟨c, a8, c8, b, am, cm⟩ w4.drew.drew (HJ.out pre _ _ none (HJ.out pre _ _ none HJ4.out (grown_drew _) (fun r e => by cases e)) (grown_drew _) (fun r e => by cases e)) (by omega)
     dsimp only [stEnc] at hy
     have hR' := hR.mono (R' := fun e W' => ∃ q, e = .returned (.bool q) ∧ Hid ((q = true ∧ J (pre ++ [⟨c, a8, c8, b, am, cm⟩]) W' ∧ But g n₀ w4.drew.drew W') ∨ (q = false ∧ Jx (pre ++ [⟨c, a8, c8, b, am, cm⟩]) W'))) (by
      rintro e W' (⟨h1, h2, h3⟩ | ⟨h1, h2⟩)
      ·exact ⟨true, h1, Or.inl ⟨rfl, h2, h3⟩⟩
      ·exact ⟨false, h1, Or.inr ⟨rfl, h2⟩⟩)
     clear hR
     refine (wpIn_wide (n := 5)).1 ?_
     gi_region_with (refine hR'.mono ?_; rintro e W' ⟨q, rfl, hq⟩)
     all_goals
      clear hR' hy
      cases q with
      | true =>
       have HQ : Hid (J (pre ++ [⟨c, a8, c8, b, am, cm⟩]) W' ∧ But g n₀ w4.drew.drew W') := by
        rcases hq.out with h | h
        ·exact h.2
        ·cases h.1
       clear hq
       go_wp2_with fail
       go_roundw
       case rel =>
        have hbt := HQ.out.2
        refine ⟨k + 1, _, by omega, by go_num, by simp; omega, HCS, HQ.out.1, ((HI4.out.below ((Below.refl _ _).drew.drew)).but hbt k1 k2 k3 k4), HB4.out.drew.drew.trans (hbt.below hn0 hg), Nat.le_trans hws4 hbt.size⟩
       case measure => simp [intOf]; omega
      | false =>
       have HQ : Hid (Jx (pre ++ [⟨c, a8, c8, b, am, cm⟩]) W') := by
        rcases hq.out with h | h
        ·cases h.1
        ·exact h.2
       clear hq
       go_wp2_with fail
       refine bodyPost_ret (results_none rfl _ _ _) rfl ?_
       exact ⟨⟨_, rfl⟩, Or.inr ⟨_, ⟨k + 1, by omega, HCS.out⟩, HQ.out⟩⟩
   ·have hts := bts_ne hsv
    have HCS := Hid.intro (came_skip (ci := ci) HX.out (fun h => hsv h.2) hC.out)
    clear hsv i6
    go_wp2_with fail
    go_roundw
    case rel => exact ⟨k + 1, pre, by omega, by go_num, by omega, HCS, HJ4, HI4, HB4, hws4⟩
    case measure => simp [intOf]; omega
  ·have hke : k = x.copies.length := by omega
   subst hke
   go_wp2_with fail
   go_end0
   exact ⟨⟨_, rfl⟩, Or.inl ⟨pre, hC.out, hJ.out⟩⟩

end Go.Proofs.YtmclbfkcbadnpaaGreat

namespace Go.Proofs.YtmclbfkcbadnpaaGreat
open Go.RowKit Go.WideMaps Go.Maps

set_option maxHeartbeats 1000000 in
set_option maxRecDepth 100000 in
theorem standing_any (sp : Array Value) (sv : ByteArray) (w : World) :
  Calls Tryz.prog 111 #[.agg sp, .string sv] w fun e w' => e = .returned (.func (.func 135) #[] #[.pointer (some ⟨w.heap.size, 0, none⟩), .pointer (some ⟨w.heap.size + 1, 0, none⟩)]) ∧ w' = (w.alloc (Obj.cells sp 63)).alloc (Obj.cells #[.string sv] 9) := by
 go_enter Tryz.func111, Tryz.ntmps111
 go_wp2_with fail
 go_ret
 exact ⟨rfl, rfl⟩

end Go.Proofs.YtmclbfkcbadnpaaGreat

namespace Go.Proofs.YtmclbfkcbadnpaaGreat
open Go.RowKit

def setRow (cs : Array Value) : Nat → List Value → Array Value
 | _, [] => cs
 | o, v :: r => setRow (cs.setIfInBounds o v) (o + 1) r

theorem take_set_succ (v : Value) : ∀ (l : List Value) (o : Nat), o < l.length → (l.set o v).take (o + 1) = l.take o ++ [v]
 | [], _, h => by simp at h
 | a :: l, 0, _ => by simp
 | a :: l, o + 1, h => by
  have ih := take_set_succ v l o (by simpa using h)
  simp [ih]

theorem setRow_list : ∀ (vs : List Value) (cs : Array Value) (o : Nat), o + vs.length = cs.size → (setRow cs o vs).toList = cs.toList.take o ++ vs
 | [], cs, o, h => by
  have : cs.toList.length ≤ o := by simp at h; simp; omega
  simp [setRow, List.take_of_length_le this]
 | v :: r, cs, o, h => by
  have h' : o + (r.length + 1) = cs.size := by simpa using h
  have ih := setRow_list r (cs.setIfInBounds o v) (o + 1) (by simp; omega)
  simp only [setRow]
  rw [ih, Array.toList_setIfInBounds, take_set_succ v _ _ (by simp; omega)]
  simp

theorem setRow_all (vs : List Value) (cs : Array Value) (h : vs.length = cs.size) : setRow cs 0 vs = vs.toArray := by
 have := setRow_list vs cs 0 (by omega)
 apply Array.toList_inj.1
 rw [this]
 simp

theorem Blk.setRow {g : Nat} {t : TypeId} : ∀ (vs : List Value) (o : Nat) (cs : Array Value) (w : World), Blk g cs t w → Blk g (setRow cs o vs) t (w.setCells g o vs)
 | [], _, _, _, h => h
 | v :: r, o, _, _, h => Blk.setRow r (o + 1) _ _ (h.set o v)

theorem Blk.setAll {g : Nat} {cs : Array Value} {t : TypeId} {w : World} (h : Blk g cs t w) (vs : Array Value) (hl : vs.size = cs.size) : Blk g vs t (w.setCells g 0 vs.toList) := by
 have := h.setRow vs.toList 0
 rw [setRow_all vs.toList cs (by simpa using hl)] at this
 simpa using this

theorem Blk.grown {g : Nat} {cs : Array Value} {t : TypeId} {w w' : World} {row : Option Nat} (h : Blk g cs t w) (hg : w.grownBy w' row) (hr : some g ≠ row) : Blk g cs t w' := (hg.block g h.lt hr).trans h

end Go.Proofs.YtmclbfkcbadnpaaGreat
