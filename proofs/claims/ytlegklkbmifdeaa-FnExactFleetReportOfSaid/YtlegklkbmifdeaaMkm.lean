/-
  A mate's lists marked, and the marks looked up. Made by mkmkm.py.
-/
import Derived.Test.YtlegklkbmifdeaaMxWnt
import Derived.Test.YtlegklkbmifdeaaMxAks
import Derived.Test.YtlegklkbmifdeaaMw4
import Derived.Test.YtlegklkbmifdeaaRis
namespace Go.Proofs.Ytlegklkbmifdeaa
open Go.RowKit

/-- the first h blocks alone -/
def trunc (w : World) (h : Nat) : World := { w with heap := w.heap.take h }

theorem trunc_size {w : World} {h : Nat} (hl : h ≤ w.heap.size) : (trunc w h).heap.size = h := by
  show (w.heap.take h).size = h
  simp
  omega

theorem trunc_at {w : World} {h k : Nat} (hk : k < h) : (trunc w h).heap[k]? = w.heap[k]? := by
  show (w.heap.extract 0 h)[k]? = w.heap[k]?
  rw [Array.getElem?_extract]
  split
  · simp
  · rename_i hn
    rw [Array.getElem?_eq_none (by omega)]

theorem trunc_below {w : World} {h : Nat} (hl : h ≤ w.heap.size) : Below (trunc w h).heap.size (trunc w h) w where
  os := rfl
  tape := rfl
  output := rfl
  size := by rw [trunc_size hl]; exact hl
  block := fun k hk => by rw [trunc_size hl] at hk; exact (trunc_at hk).symm

theorem Mkd.keeps {lo h : Nat} {w w' : World} (m : Mkd lo (trunc w h) w w') (hl : h ≤ w.heap.size) : Keeps h w w' :=
  ⟨m.bel.size, fun b o h1 h2 => m.up b o (by rw [trunc_size hl]; exact h1) h2⟩

theorem Mkd.cut {lo h : Nat} {w : World} (hl : h ≤ w.heap.size) (h0 : lo ≤ h) : Mkd lo (trunc w h) w w := Mkd.start (trunc_below hl) (by rw [trunc_size hl]; exact h0)

theorem truncWnt {lo h : Nat} {w : World} {a : Option Addr} {xs : List Wnt} (hs : SliceC WntC 7 lo w a xs) (u : Und a h) (hl : h ≤ w.heap.size) : SliceC WntC 7 lo (trunc w h) a xs := by
  refine ⟨hs.1, ?_⟩
  rcases hs.2 with h0 | ⟨b, o, e, ⟨l1, f1⟩, hb, hc⟩
  · exact .inl h0
  · have hbh : b < h := u b o none e
    have hb2 : b < (trunc w h).heap.size := by rw [trunc_size hl]; exact hbh
    exact .inr ⟨b, o, e, ⟨l1, fun hp p => ((trunc_below hl).frozen (p := ⟨b, p, none⟩) hb2).symm.trans (f1 hp p)⟩, hb2, fun k x hk => by
      obtain ⟨q0, q1, q2, q3, q4, q5, q6, z0, z2⟩ := hc k x hk
      exact ⟨((trunc_below hl).cell (p := ⟨b, o + k * 7 + 0, none⟩) hb2).symm.trans q0, ((trunc_below hl).cell (p := ⟨b, o + k * 7 + 1, none⟩) hb2).symm.trans q1, ((trunc_below hl).cell (p := ⟨b, o + k * 7 + 2, none⟩) hb2).symm.trans q2, ((trunc_below hl).cell (p := ⟨b, o + k * 7 + 3, none⟩) hb2).symm.trans q3, ((trunc_below hl).cell (p := ⟨b, o + k * 7 + 4, none⟩) hb2).symm.trans q4, ((trunc_below hl).cell (p := ⟨b, o + k * 7 + 5, none⟩) hb2).symm.trans q5, ((trunc_below hl).cell (p := ⟨b, o + k * 7 + 6, none⟩) hb2).symm.trans q6, z0, z2⟩⟩

theorem MkdRWnt.under {w w' : World} {a : Option Addr} {n k h : Nat} (m : MkdRWnt w a n k) (u : Und a h) (hb : Below h w w') : MkdRWnt w' a n k := by
  rcases m with m | ⟨b, o, e, m⟩
  · exact .inl m
  · exact .inr ⟨b, o, e, fun t ht => (hb.cell (p := ⟨b, o + t, none⟩) (u b o none e)).trans (m t ht)⟩

theorem truncRn {lo h : Nat} {w : World} {a : Option Addr} {xs : List Rn} (hs : SliceC RnC 11 lo w a xs) (u : Und a h) (hl : h ≤ w.heap.size) : SliceC RnC 11 lo (trunc w h) a xs := by
  refine ⟨hs.1, ?_⟩
  rcases hs.2 with h0 | ⟨b, o, e, ⟨l1, f1⟩, hb, hc⟩
  · exact .inl h0
  · have hbh : b < h := u b o none e
    have hb2 : b < (trunc w h).heap.size := by rw [trunc_size hl]; exact hbh
    exact .inr ⟨b, o, e, ⟨l1, fun hp p => ((trunc_below hl).frozen (p := ⟨b, p, none⟩) hb2).symm.trans (f1 hp p)⟩, hb2, fun k x hk => by
      obtain ⟨q0, q1, q2, q3, q4, q5, q6, q7, q8, q9, q10, z0, z2⟩ := hc k x hk
      exact ⟨((trunc_below hl).cell (p := ⟨b, o + k * 11 + 0, none⟩) hb2).symm.trans q0, ((trunc_below hl).cell (p := ⟨b, o + k * 11 + 1, none⟩) hb2).symm.trans q1, ((trunc_below hl).cell (p := ⟨b, o + k * 11 + 2, none⟩) hb2).symm.trans q2, ((trunc_below hl).cell (p := ⟨b, o + k * 11 + 3, none⟩) hb2).symm.trans q3, ((trunc_below hl).cell (p := ⟨b, o + k * 11 + 4, none⟩) hb2).symm.trans q4, ((trunc_below hl).cell (p := ⟨b, o + k * 11 + 5, none⟩) hb2).symm.trans q5, ((trunc_below hl).cell (p := ⟨b, o + k * 11 + 6, none⟩) hb2).symm.trans q6, ((trunc_below hl).cell (p := ⟨b, o + k * 11 + 7, none⟩) hb2).symm.trans q7, ((trunc_below hl).cell (p := ⟨b, o + k * 11 + 8, none⟩) hb2).symm.trans q8, ((trunc_below hl).cell (p := ⟨b, o + k * 11 + 9, none⟩) hb2).symm.trans q9, ((trunc_below hl).cell (p := ⟨b, o + k * 11 + 10, none⟩) hb2).symm.trans q10, z0, z2⟩⟩

theorem MarkedR.under {w w' : World} {a : Option Addr} {n k h : Nat} (m : MarkedR w a n k) (u : Und a h) (hb : Below h w w') : MarkedR w' a n k := by
  rcases m with m | ⟨b, o, e, m⟩
  · exact .inl m
  · exact .inr ⟨b, o, e, fun t ht => (hb.cell (p := ⟨b, o + t, none⟩) (u b o none e)).trans (m t ht)⟩

theorem truncAks {lo h : Nat} {w : World} {a : Option Addr} {xs : List Aks} (hs : SliceC AksC 4 lo w a xs) (u : Und a h) (hl : h ≤ w.heap.size) : SliceC AksC 4 lo (trunc w h) a xs := by
  refine ⟨hs.1, ?_⟩
  rcases hs.2 with h0 | ⟨b, o, e, ⟨l1, f1⟩, hb, hc⟩
  · exact .inl h0
  · have hbh : b < h := u b o none e
    have hb2 : b < (trunc w h).heap.size := by rw [trunc_size hl]; exact hbh
    exact .inr ⟨b, o, e, ⟨l1, fun hp p => ((trunc_below hl).frozen (p := ⟨b, p, none⟩) hb2).symm.trans (f1 hp p)⟩, hb2, fun k x hk => by
      obtain ⟨q0, q1, q2, q3, z0, z2⟩ := hc k x hk
      exact ⟨((trunc_below hl).cell (p := ⟨b, o + k * 4 + 0, none⟩) hb2).symm.trans q0, ((trunc_below hl).cell (p := ⟨b, o + k * 4 + 1, none⟩) hb2).symm.trans q1, ((trunc_below hl).cell (p := ⟨b, o + k * 4 + 2, none⟩) hb2).symm.trans q2, ((trunc_below hl).cell (p := ⟨b, o + k * 4 + 3, none⟩) hb2).symm.trans q3, z0, z2⟩⟩

theorem MkdRAks.under {w w' : World} {a : Option Addr} {n k h : Nat} (m : MkdRAks w a n k) (u : Und a h) (hb : Below h w w') : MkdRAks w' a n k := by
  rcases m with m | ⟨b, o, e, m⟩
  · exact .inl m
  · exact .inr ⟨b, o, e, fun t ht => (hb.cell (p := ⟨b, o + t, none⟩) (u b o none e)).trans (m t ht)⟩

set_option maxHeartbeats 4000000 in
set_option maxRecDepth 100000 in
theorem markMte_any (x : Mte) (a5 : Option Addr) (c5 : Nat) (a6 : Option Addr) (c6 : Nat) (a7 : Option Addr) (c7 : Nat) (a8 : Option Addr) (c8 : Nat) (lo k : Nat) (wx ws w : World) (hin : MSv x lo a5 a6 a7 a8 wx) (hlo : 0 < lo) (hm0 : Mkd lo wx ws w) (h0 : 0 < k) (h1 : k + x.wants.length * 7 + x.runs.length * 11 + x.asks.length * 4 + x.gives.length * 4 ≤ 1073741824) :
    Calls Try.prog 10 #[.agg #[.string x.name, .bool x.up, .int .i64 x.clock, .bool x.known, .int .i64 x.seen, .slice a5 x.wants.length c5, .slice a6 x.runs.length c6, .slice a7 x.asks.length c7, .slice a8 x.gives.length c8], .int .i64 (k : Int)] w fun e w' => e = .returned (.int .i64 ((k + x.wants.length * 7 + x.runs.length * 11 + x.asks.length * 4 + x.gives.length * 4 : Nat) : Int)) ∧ Mkd lo wx ws w' := by
  have S := Hid.intro hin
  clear hin
  have HK1 : Blk w.heap.size #[.string x.name, .bool x.up, .int .i64 x.clock, .bool x.known, .int .i64 x.seen, .slice a5 x.wants.length c5, .slice a6 x.runs.length c6, .slice a7 x.asks.length c7, .slice a8 x.gives.length c8] 36 (w.alloc (Obj.cells #[.string x.name, .bool x.up, .int .i64 x.clock, .bool x.known, .int .i64 x.seen, .slice a5 x.wants.length c5, .slice a6 x.runs.length c6, .slice a7 x.asks.length c7, .slice a8 x.gives.length c8] 36)) := Blk.alloc _ _ _
  have hxs : wx.heap.size ≤ w.heap.size := hm0.sz
  have M1 := Hid.intro (hm0.below ((Below.refl _ w).alloc (Nat.le_refl _) (Obj.cells #[.string x.name, .bool x.up, .int .i64 x.clock, .bool x.known, .int .i64 x.seen, .slice a5 x.wants.length c5, .slice a6 x.runs.length c6, .slice a7 x.asks.length c7, .slice a8 x.gives.length c8] 36)))
  clear hm0
  go_enter Try.func10, Try.ntmps10
  go_upto_region 1 with fail
  generalize w.alloc (Obj.cells #[.string x.name, .bool x.up, .int .i64 x.clock, .bool x.known, .int .i64 x.seen, .slice a5 x.wants.length c5, .slice a6 x.runs.length c6, .slice a7 x.asks.length c7, .slice a8 x.gives.length c8] 36) = w1 at *
  have C1 : Hid (∀ t v, (#[.string x.name, .bool x.up, .int .i64 x.clock, .bool x.known, .int .i64 x.seen, .slice a5 x.wants.length c5, .slice a6 x.runs.length c6, .slice a7 x.asks.length c7, .slice a8 x.gives.length c8] : Array Value)[t]? = some v → w1.cell? ⟨w.heap.size, t, none⟩ = some v) := fun t v hv => HK1.cell hv
  have hl1 : w.heap.size < w1.heap.size := HK1.lt
  clear HK1
  have k5 : w1.cell? ⟨w.heap.size, 5, none⟩ = some (.slice a5 x.wants.length c5) := C1.out 5 _ rfl
  go_wp2_with fail
  clear k5
  refine (markWntV_any x.wants a5 c5 lo (k) wx w1 w1 S.out.s5 hlo M1.out.rebase (by omega) (by omega)).mono ?_
  rintro e w2 ⟨rfl, -, hm⟩
  have C2 : Hid (∀ t v, (#[.string x.name, .bool x.up, .int .i64 x.clock, .bool x.known, .int .i64 x.seen, .slice a5 x.wants.length c5, .slice a6 x.runs.length c6, .slice a7 x.asks.length c7, .slice a8 x.gives.length c8] : Array Value)[t]? = some v → w2.cell? ⟨w.heap.size, t, none⟩ = some v) := fun t v hv => (hm.up w.heap.size t hxs hl1).1.trans (C1.out t v hv)
  have hl2 : w.heap.size < w2.heap.size := Nat.lt_of_lt_of_le hl1 hm.bel.size
  have M2 := Hid.intro (M1.out.trans hm)
  clear hm C1 M1
  have k6 : w2.cell? ⟨w.heap.size, 6, none⟩ = some (.slice a6 x.runs.length c6) := C2.out 6 _ rfl
  go_wp2_with fail
  clear k6
  refine (markRnV_any x.runs a6 c6 lo (k + x.wants.length * 7) wx w2 w2 S.out.s6 hlo M2.out.rebase (by omega) (by omega)).mono ?_
  rintro e w3 ⟨rfl, -, hm⟩
  have C3 : Hid (∀ t v, (#[.string x.name, .bool x.up, .int .i64 x.clock, .bool x.known, .int .i64 x.seen, .slice a5 x.wants.length c5, .slice a6 x.runs.length c6, .slice a7 x.asks.length c7, .slice a8 x.gives.length c8] : Array Value)[t]? = some v → w3.cell? ⟨w.heap.size, t, none⟩ = some v) := fun t v hv => (hm.up w.heap.size t hxs hl2).1.trans (C2.out t v hv)
  have hl3 : w.heap.size < w3.heap.size := Nat.lt_of_lt_of_le hl2 hm.bel.size
  have M3 := Hid.intro (M2.out.trans hm)
  clear hm C2 M2
  have k7 : w3.cell? ⟨w.heap.size, 7, none⟩ = some (.slice a7 x.asks.length c7) := C3.out 7 _ rfl
  go_wp2_with fail
  clear k7
  refine (markAksV_any x.asks a7 c7 lo (k + x.wants.length * 7 + x.runs.length * 11) wx w3 w3 S.out.s7 hlo M3.out.rebase (by omega) (by omega)).mono ?_
  rintro e w4 ⟨rfl, -, hm⟩
  have C4 : Hid (∀ t v, (#[.string x.name, .bool x.up, .int .i64 x.clock, .bool x.known, .int .i64 x.seen, .slice a5 x.wants.length c5, .slice a6 x.runs.length c6, .slice a7 x.asks.length c7, .slice a8 x.gives.length c8] : Array Value)[t]? = some v → w4.cell? ⟨w.heap.size, t, none⟩ = some v) := fun t v hv => (hm.up w.heap.size t hxs hl3).1.trans (C3.out t v hv)
  have hl4 : w.heap.size < w4.heap.size := Nat.lt_of_lt_of_le hl3 hm.bel.size
  have M4 := Hid.intro (M3.out.trans hm)
  clear hm C3 M3
  have k8 : w4.cell? ⟨w.heap.size, 8, none⟩ = some (.slice a8 x.gives.length c8) := C4.out 8 _ rfl
  go_wp2_with fail
  clear k8
  refine (markAksV_any x.gives a8 c8 lo (k + x.wants.length * 7 + x.runs.length * 11 + x.asks.length * 4) wx w4 w4 S.out.s8 hlo M4.out.rebase (by omega) (by omega)).mono ?_
  rintro e w5 ⟨rfl, -, hm⟩
  have C5 : Hid (∀ t v, (#[.string x.name, .bool x.up, .int .i64 x.clock, .bool x.known, .int .i64 x.seen, .slice a5 x.wants.length c5, .slice a6 x.runs.length c6, .slice a7 x.asks.length c7, .slice a8 x.gives.length c8] : Array Value)[t]? = some v → w5.cell? ⟨w.heap.size, t, none⟩ = some v) := fun t v hv => (hm.up w.heap.size t hxs hl4).1.trans (C4.out t v hv)
  have hl5 : w.heap.size < w5.heap.size := Nat.lt_of_lt_of_le hl4 hm.bel.size
  have M5 := Hid.intro (M4.out.trans hm)
  clear hm C4 M4
  go_wp2_with fail
  go_ret
  exact ⟨rfl, M5.out⟩

/-- the marks of a mate's lists -/
def Mk4 (x : Mte) (k : Nat) (a5 a6 a7 a8 : Option Addr) (w : World) : Prop := MkdRWnt w a5 x.wants.length (k) ∧ MarkedR w a6 x.runs.length (k + x.wants.length * 7) ∧ MkdRAks w a7 x.asks.length (k + x.wants.length * 7 + x.runs.length * 11) ∧ MkdRAks w a8 x.gives.length (k + x.wants.length * 7 + x.runs.length * 11 + x.asks.length * 4)

theorem Mk4.below {x : Mte} {k : Nat} {a5 a6 a7 a8 : Option Addr} {w w' : World} (h : Mk4 x k a5 a6 a7 a8 w) (hb : Below w.heap.size w w') : Mk4 x k a5 a6 a7 a8 w' :=
  ⟨h.1.below hb, h.2.1.below hb, h.2.2.1.below hb, h.2.2.2.below hb⟩

set_option maxHeartbeats 4000000 in
set_option maxRecDepth 100000 in
theorem markG_any (x : Mte) (a5 : Option Addr) (c5 : Nat) (a6 : Option Addr) (c6 : Nat) (a7 : Option Addr) (c7 : Nat) (a8 : Option Addr) (c8 : Nat) (lo hi k : Nat) (w : World) (hin : G4 x lo hi a5 a6 a7 a8 w) (hlo : 0 < lo) (h0 : 0 < k) (h1 : k + x.wants.length * 7 + x.runs.length * 11 + x.asks.length * 4 + x.gives.length * 4 ≤ 1073741824) :
    Calls Try.prog 10 #[.agg #[.string x.name, .bool x.up, .int .i64 x.clock, .bool x.known, .int .i64 x.seen, .slice a5 x.wants.length c5, .slice a6 x.runs.length c6, .slice a7 x.asks.length c7, .slice a8 x.gives.length c8], .int .i64 (k : Int)] w fun e w' => e = .returned (.int .i64 ((k + x.wants.length * 7 + x.runs.length * 11 + x.asks.length * 4 + x.gives.length * 4 : Nat) : Int)) ∧ Mk4 x k a5 a6 a7 a8 w' ∧ Below lo w w' ∧ Keeps hi w w' := by
  obtain ⟨h5, h6, h7, l5, l6, l7, l8, l9, u5, u6, u7, u8, s5, s6, s7, s8⟩ := hin
  have hb0 : Below w.heap.size w (w.alloc (Obj.cells #[.string x.name, .bool x.up, .int .i64 x.clock, .bool x.known, .int .i64 x.seen, .slice a5 x.wants.length c5, .slice a6 x.runs.length c6, .slice a7 x.asks.length c7, .slice a8 x.gives.length c8] 36)) := (Below.refl _ w).alloc (Nat.le_refl _) _
  have S5 := Hid.intro (s5.below WntC.holds hb0 (Nat.le_refl _))
  have S6 := Hid.intro (s6.below RnC.holds hb0 (Nat.le_refl _))
  have S7 := Hid.intro (s7.below AksC.holds hb0 (Nat.le_refl _))
  have S8 := Hid.intro (s8.below AksC.holds hb0 (Nat.le_refl _))
  have U5 := Hid.intro u5
  have U6 := Hid.intro u6
  have U7 := Hid.intro u7
  have U8 := Hid.intro u8
  have B1 : Hid (Below lo w (w.alloc (Obj.cells #[.string x.name, .bool x.up, .int .i64 x.clock, .bool x.known, .int .i64 x.seen, .slice a5 x.wants.length c5, .slice a6 x.runs.length c6, .slice a7 x.asks.length c7, .slice a8 x.gives.length c8] 36))) := hb0.mono (by omega)
  have K1 : Hid (Keeps hi w (w.alloc (Obj.cells #[.string x.name, .bool x.up, .int .i64 x.clock, .bool x.known, .int .i64 x.seen, .slice a5 x.wants.length c5, .slice a6 x.runs.length c6, .slice a7 x.asks.length c7, .slice a8 x.gives.length c8] 36))) := Keeps.of_below hb0 (Nat.le_refl _) _
  have HK1 : Blk w.heap.size #[.string x.name, .bool x.up, .int .i64 x.clock, .bool x.known, .int .i64 x.seen, .slice a5 x.wants.length c5, .slice a6 x.runs.length c6, .slice a7 x.asks.length c7, .slice a8 x.gives.length c8] 36 (w.alloc (Obj.cells #[.string x.name, .bool x.up, .int .i64 x.clock, .bool x.known, .int .i64 x.seen, .slice a5 x.wants.length c5, .slice a6 x.runs.length c6, .slice a7 x.asks.length c7, .slice a8 x.gives.length c8] 36)) := Blk.alloc _ _ _
  clear s5 s6 s7 s8 u5 u6 u7 u8 hb0
  go_enter Try.func10, Try.ntmps10
  go_upto_region 1 with fail
  generalize w.alloc (Obj.cells #[.string x.name, .bool x.up, .int .i64 x.clock, .bool x.known, .int .i64 x.seen, .slice a5 x.wants.length c5, .slice a6 x.runs.length c6, .slice a7 x.asks.length c7, .slice a8 x.gives.length c8] 36) = w1 at *
  have C1 : Hid (∀ t v, (#[.string x.name, .bool x.up, .int .i64 x.clock, .bool x.known, .int .i64 x.seen, .slice a5 x.wants.length c5, .slice a6 x.runs.length c6, .slice a7 x.asks.length c7, .slice a8 x.gives.length c8] : Array Value)[t]? = some v → w1.cell? ⟨w.heap.size, t, none⟩ = some v) := fun t v hv => HK1.cell hv
  have hl1 : w.heap.size < w1.heap.size := HK1.lt
  clear HK1
  have k5 : w1.cell? ⟨w.heap.size, 5, none⟩ = some (.slice a5 x.wants.length c5) := C1.out 5 _ rfl
  go_wp2_with fail
  clear k5
  refine (markWntV_any x.wants a5 c5 lo (k) (trunc w1 h5) w1 w1 (truncWnt S5.out U5.out (by omega)) (by omega) (Mkd.cut (by omega) (by omega)) (by omega) (by omega)).mono ?_
  rintro e w2 ⟨rfl, hr, hm⟩
  have hkp := hm.keeps (by omega)
  have C2 : Hid (∀ t v, (#[.string x.name, .bool x.up, .int .i64 x.clock, .bool x.known, .int .i64 x.seen, .slice a5 x.wants.length c5, .slice a6 x.runs.length c6, .slice a7 x.asks.length c7, .slice a8 x.gives.length c8] : Array Value)[t]? = some v → w2.cell? ⟨w.heap.size, t, none⟩ = some v) := fun t v hv => (hkp.2 w.heap.size t (by omega) hl1).1.trans (C1.out t v hv)
  have hl2 : w.heap.size < w2.heap.size := Nat.lt_of_lt_of_le hl1 hm.bel.size
  replace S6 := Hid.intro (S6.out.keep RnC.holds (hkp.lower (by omega)) (Nat.le_refl _))
  replace S7 := Hid.intro (S7.out.keep AksC.holds (hkp.lower (by omega)) (Nat.le_refl _))
  replace S8 := Hid.intro (S8.out.keep AksC.holds (hkp.lower (by omega)) (Nat.le_refl _))
  have R5 := Hid.intro hr
  have B2 : Hid (Below lo w w2) := B1.out.trans (hm.bel.mono (by omega))
  have K2 : Hid (Keeps hi w w2) := K1.out.trans (hkp.lower (by omega))
  clear hr hm hkp C1 B1 K1 S5
  have k6 : w2.cell? ⟨w.heap.size, 6, none⟩ = some (.slice a6 x.runs.length c6) := C2.out 6 _ rfl
  go_wp2_with fail
  clear k6
  refine (markRnV_any x.runs a6 c6 h5 (k + x.wants.length * 7) (trunc w2 h6) w2 w2 (truncRn S6.out U6.out (by omega)) (by omega) (Mkd.cut (by omega) (by omega)) (by omega) (by omega)).mono ?_
  rintro e w3 ⟨rfl, hr, hm⟩
  have hkp := hm.keeps (by omega)
  have C3 : Hid (∀ t v, (#[.string x.name, .bool x.up, .int .i64 x.clock, .bool x.known, .int .i64 x.seen, .slice a5 x.wants.length c5, .slice a6 x.runs.length c6, .slice a7 x.asks.length c7, .slice a8 x.gives.length c8] : Array Value)[t]? = some v → w3.cell? ⟨w.heap.size, t, none⟩ = some v) := fun t v hv => (hkp.2 w.heap.size t (by omega) hl2).1.trans (C2.out t v hv)
  have hl3 : w.heap.size < w3.heap.size := Nat.lt_of_lt_of_le hl2 hm.bel.size
  replace S7 := Hid.intro (S7.out.keep AksC.holds (hkp.lower (by omega)) (Nat.le_refl _))
  replace S8 := Hid.intro (S8.out.keep AksC.holds (hkp.lower (by omega)) (Nat.le_refl _))
  replace R5 := Hid.intro (R5.out.under U5.out (hm.bel.mono (by omega)))
  have R6 := Hid.intro hr
  have B3 : Hid (Below lo w w3) := B2.out.trans (hm.bel.mono (by omega))
  have K3 : Hid (Keeps hi w w3) := K2.out.trans (hkp.lower (by omega))
  clear hr hm hkp C2 B2 K2 S6
  have k7 : w3.cell? ⟨w.heap.size, 7, none⟩ = some (.slice a7 x.asks.length c7) := C3.out 7 _ rfl
  go_wp2_with fail
  clear k7
  refine (markAksV_any x.asks a7 c7 h6 (k + x.wants.length * 7 + x.runs.length * 11) (trunc w3 h7) w3 w3 (truncAks S7.out U7.out (by omega)) (by omega) (Mkd.cut (by omega) (by omega)) (by omega) (by omega)).mono ?_
  rintro e w4 ⟨rfl, hr, hm⟩
  have hkp := hm.keeps (by omega)
  have C4 : Hid (∀ t v, (#[.string x.name, .bool x.up, .int .i64 x.clock, .bool x.known, .int .i64 x.seen, .slice a5 x.wants.length c5, .slice a6 x.runs.length c6, .slice a7 x.asks.length c7, .slice a8 x.gives.length c8] : Array Value)[t]? = some v → w4.cell? ⟨w.heap.size, t, none⟩ = some v) := fun t v hv => (hkp.2 w.heap.size t (by omega) hl3).1.trans (C3.out t v hv)
  have hl4 : w.heap.size < w4.heap.size := Nat.lt_of_lt_of_le hl3 hm.bel.size
  replace S8 := Hid.intro (S8.out.keep AksC.holds (hkp.lower (by omega)) (Nat.le_refl _))
  replace R5 := Hid.intro (R5.out.under U5.out (hm.bel.mono (by omega)))
  replace R6 := Hid.intro (R6.out.under U6.out (hm.bel.mono (by omega)))
  have R7 := Hid.intro hr
  have B4 : Hid (Below lo w w4) := B3.out.trans (hm.bel.mono (by omega))
  have K4 : Hid (Keeps hi w w4) := K3.out.trans (hkp.lower (by omega))
  clear hr hm hkp C3 B3 K3 S7
  have k8 : w4.cell? ⟨w.heap.size, 8, none⟩ = some (.slice a8 x.gives.length c8) := C4.out 8 _ rfl
  go_wp2_with fail
  clear k8
  refine (markAksV_any x.gives a8 c8 h7 (k + x.wants.length * 7 + x.runs.length * 11 + x.asks.length * 4) (trunc w4 hi) w4 w4 (truncAks S8.out U8.out (by omega)) (by omega) (Mkd.cut (by omega) (by omega)) (by omega) (by omega)).mono ?_
  rintro e w5 ⟨rfl, hr, hm⟩
  have hkp := hm.keeps (by omega)
  have C5 : Hid (∀ t v, (#[.string x.name, .bool x.up, .int .i64 x.clock, .bool x.known, .int .i64 x.seen, .slice a5 x.wants.length c5, .slice a6 x.runs.length c6, .slice a7 x.asks.length c7, .slice a8 x.gives.length c8] : Array Value)[t]? = some v → w5.cell? ⟨w.heap.size, t, none⟩ = some v) := fun t v hv => (hkp.2 w.heap.size t (by omega) hl4).1.trans (C4.out t v hv)
  have hl5 : w.heap.size < w5.heap.size := Nat.lt_of_lt_of_le hl4 hm.bel.size
  replace R5 := Hid.intro (R5.out.under U5.out (hm.bel.mono (by omega)))
  replace R6 := Hid.intro (R6.out.under U6.out (hm.bel.mono (by omega)))
  replace R7 := Hid.intro (R7.out.under U7.out (hm.bel.mono (by omega)))
  have R8 := Hid.intro hr
  have B5 : Hid (Below lo w w5) := B4.out.trans (hm.bel.mono (by omega))
  have K5 : Hid (Keeps hi w w5) := K4.out.trans (hkp.lower (by omega))
  clear hr hm hkp C4 B4 K4 S8
  go_wp2_with fail
  go_ret
  exact ⟨rfl, ⟨R5.out, R6.out, R7.out, R8.out⟩, B5.out, K5.out⟩

end Go.Proofs.Ytlegklkbmifdeaa
