import Derived.Test.YtihnjndnkgnmaaaGreatTk0
import Derived.Test.YtihnjndnkgnmaaaGreatJ4
import Derived.Test.YtihnjndnkgnmaaaGreatJ9
import Derived.Test.YtihnjndnkgnmaaaGreatDc2
import Derived.Test.YtihnjndnkgnmaaaGreatPlc
import Derived.Lib.AppendZeros
import Derived.Lib.Walk
import Derived.Lib.SliceRun
import Derived.Laws.OwnMore
namespace Go.Proofs.YtihnjndnkgnmaaaGreat
open Go.RowKit

structure Part where
 ad : Option Addr
 len : Nat
 cap : Nat
 cs : List Value

def PartOk (n : Nat) (w : World) (p : Part) : Prop := (p.ad = none → p.len = 0) ∧ p.cs.length = p.len * n ∧ (∀ ad, p.ad = some ad → ∀ j u, p.cs[j]? = some u → w.cell? (ad.add j) = some u) ∧ ∀ u ∈ p.cs, u.oneCell' = true
theorem PartOk.below {n : Nat} {w w' : World} {p : Part} (h : PartOk n w p) (hb : Below w.heap.size w w') : PartOk n w' p :=
 ⟨h.1, h.2.1, fun ad e j u hj => (hb.cell (block_lt_of_cell (h.2.2.1 ad e j u hj))).trans (h.2.2.1 ad e j u hj), h.2.2.2⟩
def lenP (ps : List Part) : Nat := (ps.map (·.len)).sum
def cellsP (ps : List Part) : List Value := ps.flatMap (·.cs)
theorem lenP_snoc (ps : List Part) (p : Part) : lenP (ps ++ [p]) = lenP ps + p.len := by simp [lenP]
theorem cellsP_snoc (ps : List Part) (p : Part) : cellsP (ps ++ [p]) = cellsP ps ++ p.cs := by simp [cellsP]
theorem lenP_take (ps : List Part) (k : Nat) : lenP (ps.take k) ≤ lenP ps := by
 have h := congrArg lenP (List.take_append_drop k ps)
 unfold lenP at *
 rw [List.map_append, List.sum_append] at h
 omega

theorem row_slice {α β : Type} {V : α → Value → List Value} {sub : α → List β} {C : Make β} {m n : Nat} {XC : Make α} {T : TypeId} {base lo : Nat} {w : World} {v : Value} {l : List α} {cs : List Value} (h1 : w.ownsRow base T n v l.length cs) (hlo : lo ≤ base)
  (h2 : ∀ j x, l[j]? = some x → ∃ (ae : Option Addr) (ce : Nat), (∀ i u, (V x (.slice ae (sub x).length ce))[i]? = some u → cs[j * n + i]? = some u) ∧ SliceC C m lo w ae (sub x)) (hV : ∀ x s, (V x s).length = n) (hm : l.length ≤ maxLen)
  (hX : ∀ (f : Nat → Option Value) (x : α) (ae : Option Addr) (ce : Nat), x ∈ l → (∀ i u, (V x (.slice ae (sub x).length ce))[i]? = some u → f i = some u) → SliceC C m lo w ae (sub x) → XC lo w f x) : ∃ a q, v = .slice a l.length q ∧ SliceC XC n lo w a l := by
 rcases h1.2 with ⟨hv, h0⟩ | ⟨g, cap, cur, hv, hb, hg, _⟩
 ·have : l = [] := List.length_eq_zero_iff.1 h0
  subst this
  exact ⟨none, 0, hv, SliceC.nil⟩
 ·refine ⟨_, cap, hv, hm, .inr ⟨g, 0, rfl, ⟨by omega, fun _ p => (by rw [hv] at h1; exact h1.frozenAt p)⟩, (Array.getElem?_eq_some_iff.1 hg).1, fun j x hj => ?_⟩⟩
  have hlt := lt_of_some hj
  obtain ⟨ae, ce, q1, q2⟩ := h2 j x hj
  refine hX _ x ae ce (List.mem_of_getElem? hj) (fun i u hu => ?_) q2
  have hi : i < n := by have := lt_of_some hu; rwa [hV] at this
  have hj2 : (j + 1) * n ≤ l.length * n := Nat.mul_le_mul_right n (by omega)
  rw [Nat.add_mul] at hj2
  rw [hv] at h1
  have := h1.cellAt (j * n + i) (by omega)
  rw [q1 i u hu] at this
  simpa using this

set_option maxHeartbeats 1000000 in
theorem cmpPBrt_any (x : Brt) (ax : Option Addr) (cx : Nat) (s : ByteArray) (p : Nat) (w : World) (hp : w.cell? ⟨p, 0, none⟩ = some (.func (.func 86) #[] #[])) :
  Calls Tryz.prog 138 #[.agg #[.string x.name, .string x.zone, .slice ax x.marks.length cx, .int .i64 x.room, .int .i64 x.hold, .bool x.closed], .string s, .pointer (some ⟨p, 0, none⟩)] w fun e w' => e = .returned (.int .i64 (Lib.compareBytes x.name.data.toList s.data.toList)) ∧ Below w.heap.size w w' := by
 have hB1 : Below w.heap.size w (w.alloc (Obj.cells #[.string x.name, .string x.zone, .slice ax x.marks.length cx, .int .i64 x.room, .int .i64 x.hold, .bool x.closed] 45)) := by go_grown
 have HK : Hid (Blk w.heap.size #[.string x.name, .string x.zone, .slice ax x.marks.length cx, .int .i64 x.room, .int .i64 x.hold, .bool x.closed] 45 (w.alloc (Obj.cells #[.string x.name, .string x.zone, .slice ax x.marks.length cx, .int .i64 x.room, .int .i64 x.hold, .bool x.closed] 45))) := Blk.alloc _ _ _
 have hp1 : (w.alloc (Obj.cells #[.string x.name, .string x.zone, .slice ax x.marks.length cx, .int .i64 x.room, .int .i64 x.hold, .bool x.closed] 45)).cell? ⟨p, 0, none⟩ = some (.func (.func 86) #[] #[]) := (hB1.cell (p := ⟨p, 0, none⟩) (block_lt_of_cell hp)).trans hp
 clear hp
 go_enter Tryz.func138, Tryz.ntmps138
 go_upto_region 1 with fail
 generalize (w.alloc (Obj.cells #[.string x.name, .string x.zone, .slice ax x.marks.length cx, .int .i64 x.room, .int .i64 x.hold, .bool x.closed] 45)) = w1 at *
 go_wp2_with (refine wpList_load_mid rfl 45 _ rfl w.heap.size 0 rfl [.string x.name, .string x.zone, .slice ax x.marks.length cx, .int .i64 x.room, .int .i64 x.hold, .bool x.closed] _ HK.out.rangeA Tryz.underlying45 rfl isz_Brt ?_)
 refine (nameBrt_any x ax cx _).mono ?_
 rintro e w2 ⟨rfl, hb2⟩
 have hB2 : Below w.heap.size w w2 := hB1.trans (hb2.mono hB1.size)
 clear hb2 hB1 HK hp1
 go_wp2_with (go_at_call 139; refine (strCmp_any _ _ _).mono ?_; rintro e w' ⟨rfl, rfl⟩)
 go_ret
 exact ⟨rfl, hB2⟩

theorem rngBrt {lo : Nat} {w : World} {b o : Nat} {y : Brt} (h : BrtC lo w (fun i => w.cell? ⟨b, o + i, none⟩) y) : ∃ (ay : Option Addr) (cy : Nat), w.rangeAt b o [.string y.name, .string y.zone, .slice ay y.marks.length cy, .int .i64 y.room, .int .i64 y.hold, .bool y.closed] := by
 obtain ⟨ay, cy, q0, q1, q2, q3, q4, q5, z0, z1, hs⟩ := h
 exact ⟨ay, cy, range_cons q0 (range_cons q1 (range_cons q2 (range_cons q3 (range_cons q4 (range_cons q5 (range_nil _ _ _))))))⟩

def BsBrt (xs : List Brt) (s : ByteArray) (w : World) (e : Ending) (w' : World) : Prop := ∃ (i : Nat) (q : Bool), e = .returned (.tuple #[.int .i64 i, .bool q]) ∧ i ≤ xs.length ∧ (∀ (j : Nat) u, j < i → xs[j]? = some u → Lib.compareBytes u.name.data.toList s.data.toList < 0) ∧ (∀ (j : Nat) u, i ≤ j → xs[j]? = some u → 0 ≤ Lib.compareBytes u.name.data.toList s.data.toList) ∧ (q = true ↔ ∃ y, xs[i]? = some y ∧ y.name = s) ∧ Below w.heap.size w w'

set_option maxHeartbeats 4000000 in
set_option maxRecDepth 100000 in
theorem bsBrt_any (xs : List Brt) (s : ByteArray) (a : Option Addr) (cap lo p : Nat) (w : World) (hin : SliceC BrtC 6 lo w a xs) (hsm : xs.length ≤ 1048576) (hp : w.cell? ⟨p, 0, none⟩ = some (.func (.func 86) #[] #[])) (hmono : ∀ (j k : Nat) u v, j ≤ k → xs[j]? = some u → xs[k]? = some v → Lib.compareBytes v.name.data.toList s.data.toList < 0 → Lib.compareBytes u.name.data.toList s.data.toList < 0) :
  Calls Tryz.prog 140 #[.slice a xs.length cap, .string s, .func (.func 138) #[] #[.pointer (some ⟨p, 0, none⟩)]] w fun e w' => BsBrt xs s w e w' := by
 have HI := iH hin
 have HM := iH hmono
 have HP := iH hp
 have hpl : p < w.heap.size := block_lt_of_cell hp
 clear hin hmono hp
 go_enter Tryz.func140, Tryz.ntmps140
 go_wp2_with fail
 go_loopw [9, 10] (fun s9 s10 wr => ∃ l h : Nat, s9 = .int .i64 l ∧ s10 = .int .i64 h ∧ l ≤ h ∧ h ≤ xs.length ∧ Hid (∀ (j : Nat) u, j < l → xs[j]? = some u → Lib.compareBytes u.name.data.toList s.data.toList < 0) ∧ Hid (∀ (j : Nat) u, h ≤ j → xs[j]? = some u → 0 ≤ Lib.compareBytes u.name.data.toList s.data.toList) ∧ Below w.heap.size w wr) (fun s9 s10 _ => (intOf s10).toNat - (intOf s9).toNat)
 case atStart => exact ⟨0, xs.length, rfl, rfl, Nat.zero_le _, Nat.le_refl _, fun j u h => by omega, fun j u h hx => by have := lt_of_some hx; omega, Below.refl _ _⟩
 case round =>
  obtain ⟨l, h, rfl, rfl, hlh, hhn, hA, hC, hB⟩ := hrel
  by_cases hlt : l < h
  ·obtain ⟨y, hy⟩ : ∃ y, xs[(l + h) / 2]? = some y := ⟨xs[(l + h) / 2], List.getElem?_eq_getElem (by omega)⟩
   have hml : (l + h) / 2 < xs.length := by omega
   have hm1 : l ≤ (l + h) / 2 ∧ (l + h) / 2 < h := by omega
   have HWM : Hid (((l : Int) + (h : Int)) / 2 = (((l + h) / 2 : Nat) : Int)) := by show _ = _; omega
   obtain ⟨b, o, ea, _, hbl, hc⟩ := (HI.out.below BrtC.holds hB nL).at hy
   subst ea
   obtain ⟨ay, cy, hry⟩ := rngBrt hc
   have HRY := iH hry
   have HYY := iH hy
   clear hc hy hry
   go_upto_region 5 with fail
   try rw [HWM.out]
   clear HWM
   obtain ⟨hm1, hm2⟩ := hm1
   have HLH := iH hlt
   generalize (l + h) / 2 = m at *
   have i1 : (m : Int) < (xs.length : Int) := by omega
   go_wp2_with (refine wpList_load_mid rfl 45 _ rfl b (o + m * 6) (by first | rfl | (simp [go_sem]; done)) [.string y.name, .string y.zone, .slice ay y.marks.length cy, .int .i64 y.room, .int .i64 y.hold, .bool y.closed] _ HRY.out Tryz.underlying45 rfl isz_Brt ?_)
   refine (cmpPBrt_any y ay cy s p _ ((hB.cell (p := ⟨p, 0, none⟩) hpl).trans HP.out)).mono ?_
   rintro e w3 ⟨rfl, hb3⟩
   have hB3 : Below w.heap.size w w3 := hB.trans (hb3.mono hB.size)
   clear hb3 hB HRY
   generalize hcy : Lib.compareBytes y.name.data.toList s.data.toList = cc at *
   by_cases hn : cc < 0
   ·have HA2 : Hid (∀ (j : Nat) u, j < m + 1 → xs[j]? = some u → Lib.compareBytes u.name.data.toList s.data.toList < 0) := fun j u hj hu => HM.out j m u y (by omega) hu HYY.out (by rw [hcy]; exact hn)
    clear hcy hA
    go_wp2_with fail
    go_roundw
    case rel => exact ⟨m + 1, h, by go_num, rfl, by omega, hhn, HA2, hC, hB3⟩
    case measure => simp [intOf]; omega
   ·have hn0 : 0 ≤ cc := by omega
    have HC2 : Hid (∀ (j : Nat) u, m ≤ j → xs[j]? = some u → 0 ≤ Lib.compareBytes u.name.data.toList s.data.toList) := fun j u hj hu => by
     by_cases h9 : Lib.compareBytes u.name.data.toList s.data.toList < 0
     ·have := HM.out m j y u hj HYY.out hu h9
      omega
     ·omega
    have hn1 : decide (cc < 0) = false := by simpa using hn
    clear hcy hn hC
    go_wp2_with fail
    go_roundw
    case rel => exact ⟨l, m, rfl, rfl, by omega, by omega, hA, HC2, hB3⟩
    case measure => simp [intOf]; omega
  ·obtain rfl : l = h := by omega
   by_cases hn : l < xs.length
   ·obtain ⟨y, hy⟩ : ∃ y, xs[l]? = some y := ⟨xs[l], List.getElem?_eq_getElem hn⟩
    obtain ⟨b, o, ea, _, hbl, hc⟩ := (HI.out.below BrtC.holds hB nL).at hy
    subst ea
    have HYY := iH hy
    obtain ⟨ay, cy, q0, q1, q2, q3, q4, q5, z0, z1, hs⟩ := hc
    simp only [Nat.add_zero] at q0
    clear hy
    have i1 : (l : Int) < (xs.length : Int) := by omega
    go_wp2_with fail
    refine (cmpPBrt_any y ay cy s p _ ((hB.cell (p := ⟨p, 0, none⟩) hpl).trans HP.out)).mono ?_
    rintro e w3 ⟨rfl, hb3⟩
    have hB3 : Below w.heap.size w w3 := hB.trans (hb3.mono hB.size)
    have HEQ : Hid ((Lib.compareBytes y.name.data.toList s.data.toList == 0) = true ↔ ∃ y, xs[l]? = some y ∧ y.name = s) := by
     show _ ↔ _
     rw [beq_iff_eq, ← eqN_iff, HYY.out]
     exact ⟨fun h => ⟨_, rfl, h⟩, fun ⟨_, h1, h2⟩ => by cases h1; exact h2⟩
    clear hb3 hB q0 q1 q2 q3 q4 q5
    go_wp2_with fail
    exact bodyPost_ret (results_tmp2 rfl _ _ _) rfl ⟨l, _, rfl, hhn, hA.out, hC.out, by first | exact HEQ.out | simpa using HEQ.out, hB3⟩
   ·have i1 : ¬ (l : Int) < (xs.length : Int) := by omega
    have HNO : Hid (xs[l]? = none) := List.getElem?_eq_none (by omega)
    go_wp2_with fail
    exact bodyPost_ret (results_tmp2 rfl _ _ _) rfl ⟨l, _, rfl, hhn, hA.out, hC.out, by simp [HNO.out], hB⟩

set_option maxHeartbeats 2000000 in
set_option maxRecDepth 100000 in
theorem growBrt_any (n : Nat) (w : World) (h9 : n ≤ 1000) :
  Calls Tryz.prog 154 #[.slice none 0 0, .int .i64 ((n : Nat) : Int)] w fun e w' => ∃ v, e = .returned v ∧ w'.ownsRow w.heap.size 45 6 v 0 [] ∧ Below w.heap.size w w' := by
 by_cases h0 : 0 < n
 ·obtain ⟨i0, hi, hz0, hz1, hz2⟩ := info_parts info_Brt
  have hrz : ∀ ty, (Builtin.append_ #[37, 3] ty #[.slice none 0 0, .int .i64 ((n : Nat) : Int)]).run Tryz.prog w = .ok (.slice (some ⟨w.heap.size, 0, none⟩) n (grownCap w n 0 45)) (w.drew.alloc (.cells (Builtin.zeroCells (Value.cells (.agg #[.string ⟨#[]⟩, .string ⟨#[]⟩, .slice none 0 0, .int .i64 0, .int .i64 0, .bool false])) n ++ Builtin.zeroCells (Value.cells (.agg #[.string ⟨#[]⟩, .string ⟨#[]⟩, .slice none 0 0, .int .i64 0, .int .i64 0, .bool false])) (grownCap w n 0 45 - n)) 45)) := fun ty =>
   Lib.run_append_nil_zeros w 37 3 ty 45 i0 _ .i64 .i64 Tryz.underlying37 Tryz.underlying3 hi hz0 n h0 (by rw [hz1]; omega) (by omega) (by rw [hz2]; omega)
  obtain ⟨G, hG⟩ : ∃ G, G = grownCap w n 0 45 := ⟨_, rfl⟩
  rw [← hG] at hrz
  obtain ⟨ROW, hROW⟩ : ∃ ROW : Array Value, ROW = Builtin.zeroCells (Value.cells (.agg #[.string ⟨#[]⟩, .string ⟨#[]⟩, .slice none 0 0, .int .i64 0, .int .i64 0, .bool false])) n ++ Builtin.zeroCells (Value.cells (.agg #[.string ⟨#[]⟩, .string ⟨#[]⟩, .slice none 0 0, .int .i64 0, .int .i64 0, .bool false])) (G - n) := ⟨_, rfl⟩
  rw [← hROW] at hrz
  have hGn : n ≤ G := by rw [hG]; exact grownCap_ge w _ _ _
  have hGm : G ≤ maxLen := by rw [hG]; exact grownCap_le_maxLen w _ _ _ (by unfold maxLen; omega)
  have HRS : Hid (ROW.size = G * 6) := by
   show _ = _
   rw [hROW, Array.size_append, size_zeroCells, size_zeroCells]
   simp [Value.cells]
   omega
  have HGM := iH hGm
  have hG63 : G ≤ 9223372036854775807 := by unfold maxLen at hGm; omega
  clear hG hROW hi hz0 hz1 hz2 hGm
  go_enter Tryz.func154, Tryz.ntmps154
  go_wp2_with (at_builtin; refine Lib.wpList_append_run _ rfl _ _ _ _ rfl _ _ rfl rfl _ _ (hrz _) ?_)
  go_ret
  exact ⟨_, rfl, World.ownsRow_made w.drew ROW G nL HGM.out HRS.out, ((Below.refl _ w).drew).alloc nL _⟩
 ·obtain rfl : n = 0 := by omega
  go_enter Tryz.func154, Tryz.ntmps154
  go_wp2_with fail
  go_ret
  exact ⟨_, rfl, World.ownsRow_nil _ _ _ _, Below.refl _ _⟩

set_option maxHeartbeats 4000000 in
set_option maxRecDepth 100000 in
theorem catBrt_any (ps : List Part) (p K : Nat) (w : World) (hK : ps.length = K) (h3 : K ≤ 3) (hps : ∀ k x, ps[k]? = some x → PartOk 6 w x ∧ w.cell? ⟨p, k, none⟩ = some (.slice x.ad x.len x.cap)) (hpl : p < w.heap.size) (hsm : lenP ps ≤ 1000) :
  Calls Tryz.prog 141 #[.slice (some ⟨p, 0, none⟩) K K] w fun e w' => ∃ v, e = .returned v ∧ w'.ownsRow w.heap.size 45 6 v (lenP ps) (cellsP ps) ∧ Below w.heap.size w w' := by
 obtain ⟨i0, hi, hz0, hz1, hz2⟩ := info_parts info_Brt
 have HI0 := iH hi
 have HP := iH hps
 have HKK := iH hK
 clear hps hK hi
 go_enter Tryz.func141, Tryz.ntmps141
 go_wp2_with fail
 go_loopw [3, 11] (fun s i wr => ∃ k m : Nat, k ≤ K ∧ i = .int .i64 ((k : Nat) : Int) ∧ s = .int .i64 ((m : Nat) : Int) ∧ m ≤ 1000 ∧ Hid (m = lenP (ps.take k)) ∧ Below w.heap.size w wr) (fun _ i _ => K - (intOf i).toNat)
 case atStart => exact ⟨0, 0, Nat.zero_le _, rfl, rfl, Nat.zero_le _, rfl, Below.refl _ _⟩
 case round =>
  obtain ⟨k, m, hk, rfl, rfl, hm, HM, hB⟩ := hrel
  by_cases hlt : k < K
  ·obtain ⟨x, hx⟩ : ∃ x, ps[k]? = some x := ⟨ps[k]'(by have := HKK.out; omega), List.getElem?_eq_getElem _⟩
   have kc : wr.cell? ⟨p, k, none⟩ = some (.slice x.ad x.len x.cap) := (hB.cell (p := ⟨p, k, none⟩) hpl).trans (HP.out k x hx).2
   have HS : Hid (m + x.len = lenP (ps.take (k + 1))) := by
    show _ = _
    rw [take_snocD hx, lenP_snoc, HM.out]
   have hs9 : m + x.len ≤ 1000 := by have h9 := HS.out; have h8 := lenP_take ps (k + 1); omega
   have hn0 : ¬ ((m : Nat) : Int) + ((x.len : Nat) : Int) < 0 := by omega
   have i1 : (k : Int) < (K : Int) := by omega
   clear hx HM
   generalize x.len = xl at *
   go_wp2_with fail
   go_roundw
   case rel => exact ⟨k + 1, m + xl, by omega, by go_num, by first | rfl | go_num, by omega, HS, hB⟩
   case measure => simp [intOf]; omega
  have hke : k = K := by omega
  subst hke
  have HM2 : Hid (m = lenP ps) := by
   have h9 := HM.out
   rw [List.take_of_length_le (by have := HKK.out; omega)] at h9
   exact h9
  have i1 : ¬ (k : Int) < (k : Int) := by omega
  go_upto_region 10 with (go_at_call 154; refine (growBrt_any m _ hm).mono ?_; rintro e w2 ⟨v0, rfl, hO, hb2⟩; have HO2 := iH hO; have hB2 := hB.trans (hb2.mono hB.size); have HL2 : Hid (w2.ownsRow w.heap.size 45 6 v0 0 []) := own_monoD HO2.out hB.size; clear hO HO2 hb2)
  clear hB HM hlt hk i1
  go_wp2_with fail
  go_loopw [6, 27] (fun vx i wq => ∃ (j l : Nat) (v : Value), j ≤ k ∧ i = .int .i64 ((j : Nat) : Int) ∧ vx = v ∧ l ≤ 1000 ∧ Hid (l = lenP (ps.take j)) ∧ Hid (wq.ownsRow w.heap.size 45 6 v l (cellsP (ps.take j))) ∧ Below w.heap.size w wq) (fun _ i _ => k - (intOf i).toNat)
  case atStart => exact ⟨0, 0, _, Nat.zero_le _, rfl, rfl, Nat.zero_le _, rfl, HL2, hB2⟩
  case round =>
   clear HL2 hB2
   obtain ⟨j, l, v, hj, rfl, rfl, hl9, HL, HO, hB⟩ := hrel
   by_cases hlt : j < k
   ·obtain ⟨x, hx⟩ : ∃ x, ps[j]? = some x := ⟨ps[j]'(by have := HKK.out; omega), List.getElem?_eq_getElem _⟩
    have kc : wr.cell? ⟨p, j, none⟩ = some (.slice x.ad x.len x.cap) := (hB.cell (p := ⟨p, j, none⟩) hpl).trans (HP.out j x hx).2
    have HQ := iH ((HP.out j x hx).1.below hB)
    have HS : Hid (l + x.len = lenP (ps.take (j + 1))) := by
     show _ = _
     rw [take_snocD hx, lenP_snoc, HL.out]
    have HT : Hid (cellsP (ps.take (j + 1)) = cellsP (ps.take j) ++ x.cs) := by
     show _ = _
     rw [take_snocD hx, cellsP_snoc]
    have hs9 : l + x.len ≤ 1000 := by have h9 := HS.out; have h8 := lenP_take ps (j + 1); omega
    have i1 : (j : Int) < (k : Int) := by omega
    clear hx HL
    go_wp2_with (at_builtin; refine wpList_append_D rfl _ _ 37 rfl w.heap.size 45 i0 _ 6 80 Tryz.underlying37 HI0.out hz0 hz1 hz2 rfl (by decide) _ _ _ rfl HO.out x.ad x.len x.cap x.cs rfl HQ.out.1 HQ.out.2.1 HQ.out.2.2.1 HQ.out.2.2.2 (by unfold maxLen; omega) (by omega) hB.size ?_; intro v' w5 hown hgrow hnil)
    have HO5 : Hid (w5.ownsRow w.heap.size 45 6 v' (l + x.len) (cellsP (ps.take (j + 1)))) := by
     show World.ownsRow _ _ _ _ _ _ _
     rw [HT.out]
     exact hown
    have hB5 : Below w.heap.size w w5 := hB.grown hgrow hB.size (by intro b hb; exact (HO.out.lt b hb).1)
    clear hown hgrow hnil HQ HT HO
    go_roundw
    case rel => exact ⟨j + 1, l + x.len, _, by omega, by go_num, rfl, hs9, HS, HO5, hB5⟩
    case measure => simp [intOf]; omega
   ·have hje : j = k := by omega
    subst hje
    have i1 : ¬ (j : Int) < (j : Int) := by omega
    have hT : ps.take j = ps := List.take_of_length_le (by have := HKK.out; omega)
    have HO9 := HO.out
    rw [HL.out, hT] at HO9
    replace HO9 := iH HO9
    clear hT HO HL
    go_wp2_with fail
    go_ret
    exact ⟨_, rfl, HO9.out, hB⟩

set_option maxHeartbeats 1000000 in
theorem cmpPCpy_any (x : Cpy) (ax : Option Addr) (cx : Nat) (s : ByteArray) (p : Nat) (w : World) (hp : w.cell? ⟨p, 0, none⟩ = some (.func (.func 90) #[] #[])) :
  Calls Tryz.prog 142 #[.agg #[.string x.name, .string x.service, .int .i64 x.rank, .int .i64 x.born, .int .i64 x.room, .int .i64 x.hold, .string x.select, .slice ax x.likes.length cx, .int .i64 x.apart, .string x.near, .string x.fixed, .string x.at_], .string s, .pointer (some ⟨p, 0, none⟩)] w fun e w' => e = .returned (.int .i64 (Lib.compareBytes x.name.data.toList s.data.toList)) ∧ Below w.heap.size w w' := by
 have hB1 : Below w.heap.size w (w.alloc (Obj.cells #[.string x.name, .string x.service, .int .i64 x.rank, .int .i64 x.born, .int .i64 x.room, .int .i64 x.hold, .string x.select, .slice ax x.likes.length cx, .int .i64 x.apart, .string x.near, .string x.fixed, .string x.at_] 48)) := by go_grown
 have HK : Hid (Blk w.heap.size #[.string x.name, .string x.service, .int .i64 x.rank, .int .i64 x.born, .int .i64 x.room, .int .i64 x.hold, .string x.select, .slice ax x.likes.length cx, .int .i64 x.apart, .string x.near, .string x.fixed, .string x.at_] 48 (w.alloc (Obj.cells #[.string x.name, .string x.service, .int .i64 x.rank, .int .i64 x.born, .int .i64 x.room, .int .i64 x.hold, .string x.select, .slice ax x.likes.length cx, .int .i64 x.apart, .string x.near, .string x.fixed, .string x.at_] 48))) := Blk.alloc _ _ _
 have hp1 : (w.alloc (Obj.cells #[.string x.name, .string x.service, .int .i64 x.rank, .int .i64 x.born, .int .i64 x.room, .int .i64 x.hold, .string x.select, .slice ax x.likes.length cx, .int .i64 x.apart, .string x.near, .string x.fixed, .string x.at_] 48)).cell? ⟨p, 0, none⟩ = some (.func (.func 90) #[] #[]) := (hB1.cell (p := ⟨p, 0, none⟩) (block_lt_of_cell hp)).trans hp
 clear hp
 go_enter Tryz.func142, Tryz.ntmps142
 go_upto_region 1 with fail
 generalize (w.alloc (Obj.cells #[.string x.name, .string x.service, .int .i64 x.rank, .int .i64 x.born, .int .i64 x.room, .int .i64 x.hold, .string x.select, .slice ax x.likes.length cx, .int .i64 x.apart, .string x.near, .string x.fixed, .string x.at_] 48)) = w1 at *
 go_wp2_with (refine wpList_load_mid rfl 48 _ rfl w.heap.size 0 rfl [.string x.name, .string x.service, .int .i64 x.rank, .int .i64 x.born, .int .i64 x.room, .int .i64 x.hold, .string x.select, .slice ax x.likes.length cx, .int .i64 x.apart, .string x.near, .string x.fixed, .string x.at_] _ HK.out.rangeA Tryz.underlying48 rfl isz_Cpy ?_)
 refine (nameCpy_any x ax cx _).mono ?_
 rintro e w2 ⟨rfl, hb2⟩
 have hB2 : Below w.heap.size w w2 := hB1.trans (hb2.mono hB1.size)
 clear hb2 hB1 HK hp1
 go_wp2_with (go_at_call 139; refine (strCmp_any _ _ _).mono ?_; rintro e w' ⟨rfl, rfl⟩)
 go_ret
 exact ⟨rfl, hB2⟩

theorem rngCpy {lo : Nat} {w : World} {b o : Nat} {y : Cpy} (h : CpyC lo w (fun i => w.cell? ⟨b, o + i, none⟩) y) : ∃ (ay : Option Addr) (cy : Nat), w.rangeAt b o [.string y.name, .string y.service, .int .i64 y.rank, .int .i64 y.born, .int .i64 y.room, .int .i64 y.hold, .string y.select, .slice ay y.likes.length cy, .int .i64 y.apart, .string y.near, .string y.fixed, .string y.at_] := by
 obtain ⟨ay, cy, q0, q1, q2, q3, q4, q5, q6, q7, q8, q9, q10, q11, z0, z1, z6, z9, z10, z11, hs⟩ := h
 exact ⟨ay, cy, range_cons q0 (range_cons q1 (range_cons q2 (range_cons q3 (range_cons q4 (range_cons q5 (range_cons q6 (range_cons q7 (range_cons q8 (range_cons q9 (range_cons q10 (range_cons q11 (range_nil _ _ _))))))))))))⟩

def BsCpy (xs : List Cpy) (s : ByteArray) (w : World) (e : Ending) (w' : World) : Prop := ∃ (i : Nat) (q : Bool), e = .returned (.tuple #[.int .i64 i, .bool q]) ∧ i ≤ xs.length ∧ (∀ (j : Nat) u, j < i → xs[j]? = some u → Lib.compareBytes u.name.data.toList s.data.toList < 0) ∧ (∀ (j : Nat) u, i ≤ j → xs[j]? = some u → 0 ≤ Lib.compareBytes u.name.data.toList s.data.toList) ∧ (q = true ↔ ∃ y, xs[i]? = some y ∧ y.name = s) ∧ Below w.heap.size w w'

set_option maxHeartbeats 4000000 in
set_option maxRecDepth 100000 in
theorem bsCpy_any (xs : List Cpy) (s : ByteArray) (a : Option Addr) (cap lo p : Nat) (w : World) (hin : SliceC CpyC 12 lo w a xs) (hsm : xs.length ≤ 1048576) (hp : w.cell? ⟨p, 0, none⟩ = some (.func (.func 90) #[] #[])) (hmono : ∀ (j k : Nat) u v, j ≤ k → xs[j]? = some u → xs[k]? = some v → Lib.compareBytes v.name.data.toList s.data.toList < 0 → Lib.compareBytes u.name.data.toList s.data.toList < 0) :
  Calls Tryz.prog 143 #[.slice a xs.length cap, .string s, .func (.func 142) #[] #[.pointer (some ⟨p, 0, none⟩)]] w fun e w' => BsCpy xs s w e w' := by
 have HI := iH hin
 have HM := iH hmono
 have HP := iH hp
 have hpl : p < w.heap.size := block_lt_of_cell hp
 clear hin hmono hp
 go_enter Tryz.func143, Tryz.ntmps143
 go_wp2_with fail
 go_loopw [9, 10] (fun s9 s10 wr => ∃ l h : Nat, s9 = .int .i64 l ∧ s10 = .int .i64 h ∧ l ≤ h ∧ h ≤ xs.length ∧ Hid (∀ (j : Nat) u, j < l → xs[j]? = some u → Lib.compareBytes u.name.data.toList s.data.toList < 0) ∧ Hid (∀ (j : Nat) u, h ≤ j → xs[j]? = some u → 0 ≤ Lib.compareBytes u.name.data.toList s.data.toList) ∧ Below w.heap.size w wr) (fun s9 s10 _ => (intOf s10).toNat - (intOf s9).toNat)
 case atStart => exact ⟨0, xs.length, rfl, rfl, Nat.zero_le _, Nat.le_refl _, fun j u h => by omega, fun j u h hx => by have := lt_of_some hx; omega, Below.refl _ _⟩
 case round =>
  obtain ⟨l, h, rfl, rfl, hlh, hhn, hA, hC, hB⟩ := hrel
  by_cases hlt : l < h
  ·obtain ⟨y, hy⟩ : ∃ y, xs[(l + h) / 2]? = some y := ⟨xs[(l + h) / 2], List.getElem?_eq_getElem (by omega)⟩
   have hml : (l + h) / 2 < xs.length := by omega
   have hm1 : l ≤ (l + h) / 2 ∧ (l + h) / 2 < h := by omega
   have HWM : Hid (((l : Int) + (h : Int)) / 2 = (((l + h) / 2 : Nat) : Int)) := by show _ = _; omega
   obtain ⟨b, o, ea, _, hbl, hc⟩ := (HI.out.below CpyC.holds hB nL).at hy
   subst ea
   obtain ⟨ay, cy, hry⟩ := rngCpy hc
   have HRY := iH hry
   have HYY := iH hy
   clear hc hy hry
   go_upto_region 5 with fail
   try rw [HWM.out]
   clear HWM
   obtain ⟨hm1, hm2⟩ := hm1
   have HLH := iH hlt
   generalize (l + h) / 2 = m at *
   have i1 : (m : Int) < (xs.length : Int) := by omega
   go_wp2_with (refine wpList_load_mid rfl 48 _ rfl b (o + m * 12) (by first | rfl | (simp [go_sem]; done)) [.string y.name, .string y.service, .int .i64 y.rank, .int .i64 y.born, .int .i64 y.room, .int .i64 y.hold, .string y.select, .slice ay y.likes.length cy, .int .i64 y.apart, .string y.near, .string y.fixed, .string y.at_] _ HRY.out Tryz.underlying48 rfl isz_Cpy ?_)
   refine (cmpPCpy_any y ay cy s p _ ((hB.cell (p := ⟨p, 0, none⟩) hpl).trans HP.out)).mono ?_
   rintro e w3 ⟨rfl, hb3⟩
   have hB3 : Below w.heap.size w w3 := hB.trans (hb3.mono hB.size)
   clear hb3 hB HRY
   generalize hcy : Lib.compareBytes y.name.data.toList s.data.toList = cc at *
   by_cases hn : cc < 0
   ·have HA2 : Hid (∀ (j : Nat) u, j < m + 1 → xs[j]? = some u → Lib.compareBytes u.name.data.toList s.data.toList < 0) := fun j u hj hu => HM.out j m u y (by omega) hu HYY.out (by rw [hcy]; exact hn)
    clear hcy hA
    go_wp2_with fail
    go_roundw
    case rel => exact ⟨m + 1, h, by go_num, rfl, by omega, hhn, HA2, hC, hB3⟩
    case measure => simp [intOf]; omega
   ·have hn0 : 0 ≤ cc := by omega
    have HC2 : Hid (∀ (j : Nat) u, m ≤ j → xs[j]? = some u → 0 ≤ Lib.compareBytes u.name.data.toList s.data.toList) := fun j u hj hu => by
     by_cases h9 : Lib.compareBytes u.name.data.toList s.data.toList < 0
     ·have := HM.out m j y u hj HYY.out hu h9
      omega
     ·omega
    have hn1 : decide (cc < 0) = false := by simpa using hn
    clear hcy hn hC
    go_wp2_with fail
    go_roundw
    case rel => exact ⟨l, m, rfl, rfl, by omega, by omega, hA, HC2, hB3⟩
    case measure => simp [intOf]; omega
  ·obtain rfl : l = h := by omega
   by_cases hn : l < xs.length
   ·obtain ⟨y, hy⟩ : ∃ y, xs[l]? = some y := ⟨xs[l], List.getElem?_eq_getElem hn⟩
    obtain ⟨b, o, ea, _, hbl, hc⟩ := (HI.out.below CpyC.holds hB nL).at hy
    subst ea
    have HYY := iH hy
    obtain ⟨ay, cy, q0, q1, q2, q3, q4, q5, q6, q7, q8, q9, q10, q11, z0, z1, z6, z9, z10, z11, hs⟩ := hc
    simp only [Nat.add_zero] at q0
    clear hy
    have i1 : (l : Int) < (xs.length : Int) := by omega
    go_wp2_with fail
    refine (cmpPCpy_any y ay cy s p _ ((hB.cell (p := ⟨p, 0, none⟩) hpl).trans HP.out)).mono ?_
    rintro e w3 ⟨rfl, hb3⟩
    have hB3 : Below w.heap.size w w3 := hB.trans (hb3.mono hB.size)
    have HEQ : Hid ((Lib.compareBytes y.name.data.toList s.data.toList == 0) = true ↔ ∃ y, xs[l]? = some y ∧ y.name = s) := by
     show _ ↔ _
     rw [beq_iff_eq, ← eqN_iff, HYY.out]
     exact ⟨fun h => ⟨_, rfl, h⟩, fun ⟨_, h1, h2⟩ => by cases h1; exact h2⟩
    clear hb3 hB q0 q1 q2 q3 q4 q5 q6 q7 q8 q9 q10 q11
    go_wp2_with fail
    exact bodyPost_ret (results_tmp2 rfl _ _ _) rfl ⟨l, _, rfl, hhn, hA.out, hC.out, by first | exact HEQ.out | simpa using HEQ.out, hB3⟩
   ·have i1 : ¬ (l : Int) < (xs.length : Int) := by omega
    have HNO : Hid (xs[l]? = none) := List.getElem?_eq_none (by omega)
    go_wp2_with fail
    exact bodyPost_ret (results_tmp2 rfl _ _ _) rfl ⟨l, _, rfl, hhn, hA.out, hC.out, by simp [HNO.out], hB⟩

set_option maxHeartbeats 2000000 in
set_option maxRecDepth 100000 in
theorem growCpy_any (n : Nat) (w : World) (h9 : n ≤ 1000) :
  Calls Tryz.prog 155 #[.slice none 0 0, .int .i64 ((n : Nat) : Int)] w fun e w' => ∃ v, e = .returned v ∧ w'.ownsRow w.heap.size 48 12 v 0 [] ∧ Below w.heap.size w w' := by
 by_cases h0 : 0 < n
 ·obtain ⟨i0, hi, hz0, hz1, hz2⟩ := info_parts info_Cpy
  have hrz : ∀ ty, (Builtin.append_ #[39, 3] ty #[.slice none 0 0, .int .i64 ((n : Nat) : Int)]).run Tryz.prog w = .ok (.slice (some ⟨w.heap.size, 0, none⟩) n (grownCap w n 0 48)) (w.drew.alloc (.cells (Builtin.zeroCells (Value.cells (.agg #[.string ⟨#[]⟩, .string ⟨#[]⟩, .int .i64 0, .int .i64 0, .int .i64 0, .int .i64 0, .string ⟨#[]⟩, .slice none 0 0, .int .i64 0, .string ⟨#[]⟩, .string ⟨#[]⟩, .string ⟨#[]⟩])) n ++ Builtin.zeroCells (Value.cells (.agg #[.string ⟨#[]⟩, .string ⟨#[]⟩, .int .i64 0, .int .i64 0, .int .i64 0, .int .i64 0, .string ⟨#[]⟩, .slice none 0 0, .int .i64 0, .string ⟨#[]⟩, .string ⟨#[]⟩, .string ⟨#[]⟩])) (grownCap w n 0 48 - n)) 48)) := fun ty =>
   Lib.run_append_nil_zeros w 39 3 ty 48 i0 _ .i64 .i64 Tryz.underlying39 Tryz.underlying3 hi hz0 n h0 (by rw [hz1]; omega) (by omega) (by rw [hz2]; omega)
  obtain ⟨G, hG⟩ : ∃ G, G = grownCap w n 0 48 := ⟨_, rfl⟩
  rw [← hG] at hrz
  obtain ⟨ROW, hROW⟩ : ∃ ROW : Array Value, ROW = Builtin.zeroCells (Value.cells (.agg #[.string ⟨#[]⟩, .string ⟨#[]⟩, .int .i64 0, .int .i64 0, .int .i64 0, .int .i64 0, .string ⟨#[]⟩, .slice none 0 0, .int .i64 0, .string ⟨#[]⟩, .string ⟨#[]⟩, .string ⟨#[]⟩])) n ++ Builtin.zeroCells (Value.cells (.agg #[.string ⟨#[]⟩, .string ⟨#[]⟩, .int .i64 0, .int .i64 0, .int .i64 0, .int .i64 0, .string ⟨#[]⟩, .slice none 0 0, .int .i64 0, .string ⟨#[]⟩, .string ⟨#[]⟩, .string ⟨#[]⟩])) (G - n) := ⟨_, rfl⟩
  rw [← hROW] at hrz
  have hGn : n ≤ G := by rw [hG]; exact grownCap_ge w _ _ _
  have hGm : G ≤ maxLen := by rw [hG]; exact grownCap_le_maxLen w _ _ _ (by unfold maxLen; omega)
  have HRS : Hid (ROW.size = G * 12) := by
   show _ = _
   rw [hROW, Array.size_append, size_zeroCells, size_zeroCells]
   simp [Value.cells]
   omega
  have HGM := iH hGm
  have hG63 : G ≤ 9223372036854775807 := by unfold maxLen at hGm; omega
  clear hG hROW hi hz0 hz1 hz2 hGm
  go_enter Tryz.func155, Tryz.ntmps155
  go_wp2_with (at_builtin; refine Lib.wpList_append_run _ rfl _ _ _ _ rfl _ _ rfl rfl _ _ (hrz _) ?_)
  go_ret
  exact ⟨_, rfl, World.ownsRow_made w.drew ROW G nL HGM.out HRS.out, ((Below.refl _ w).drew).alloc nL _⟩
 ·obtain rfl : n = 0 := by omega
  go_enter Tryz.func155, Tryz.ntmps155
  go_wp2_with fail
  go_ret
  exact ⟨_, rfl, World.ownsRow_nil _ _ _ _, Below.refl _ _⟩

set_option maxHeartbeats 4000000 in
set_option maxRecDepth 100000 in
theorem catCpy_any (ps : List Part) (p K : Nat) (w : World) (hK : ps.length = K) (h3 : K ≤ 3) (hps : ∀ k x, ps[k]? = some x → PartOk 12 w x ∧ w.cell? ⟨p, k, none⟩ = some (.slice x.ad x.len x.cap)) (hpl : p < w.heap.size) (hsm : lenP ps ≤ 1000) :
  Calls Tryz.prog 144 #[.slice (some ⟨p, 0, none⟩) K K] w fun e w' => ∃ v, e = .returned v ∧ w'.ownsRow w.heap.size 48 12 v (lenP ps) (cellsP ps) ∧ Below w.heap.size w w' := by
 obtain ⟨i0, hi, hz0, hz1, hz2⟩ := info_parts info_Cpy
 have HI0 := iH hi
 have HP := iH hps
 have HKK := iH hK
 clear hps hK hi
 go_enter Tryz.func144, Tryz.ntmps144
 go_wp2_with fail
 go_loopw [3, 11] (fun s i wr => ∃ k m : Nat, k ≤ K ∧ i = .int .i64 ((k : Nat) : Int) ∧ s = .int .i64 ((m : Nat) : Int) ∧ m ≤ 1000 ∧ Hid (m = lenP (ps.take k)) ∧ Below w.heap.size w wr) (fun _ i _ => K - (intOf i).toNat)
 case atStart => exact ⟨0, 0, Nat.zero_le _, rfl, rfl, Nat.zero_le _, rfl, Below.refl _ _⟩
 case round =>
  obtain ⟨k, m, hk, rfl, rfl, hm, HM, hB⟩ := hrel
  by_cases hlt : k < K
  ·obtain ⟨x, hx⟩ : ∃ x, ps[k]? = some x := ⟨ps[k]'(by have := HKK.out; omega), List.getElem?_eq_getElem _⟩
   have kc : wr.cell? ⟨p, k, none⟩ = some (.slice x.ad x.len x.cap) := (hB.cell (p := ⟨p, k, none⟩) hpl).trans (HP.out k x hx).2
   have HS : Hid (m + x.len = lenP (ps.take (k + 1))) := by
    show _ = _
    rw [take_snocD hx, lenP_snoc, HM.out]
   have hs9 : m + x.len ≤ 1000 := by have h9 := HS.out; have h8 := lenP_take ps (k + 1); omega
   have hn0 : ¬ ((m : Nat) : Int) + ((x.len : Nat) : Int) < 0 := by omega
   have i1 : (k : Int) < (K : Int) := by omega
   clear hx HM
   generalize x.len = xl at *
   go_wp2_with fail
   go_roundw
   case rel => exact ⟨k + 1, m + xl, by omega, by go_num, by first | rfl | go_num, by omega, HS, hB⟩
   case measure => simp [intOf]; omega
  have hke : k = K := by omega
  subst hke
  have HM2 : Hid (m = lenP ps) := by
   have h9 := HM.out
   rw [List.take_of_length_le (by have := HKK.out; omega)] at h9
   exact h9
  have i1 : ¬ (k : Int) < (k : Int) := by omega
  go_upto_region 10 with (go_at_call 155; refine (growCpy_any m _ hm).mono ?_; rintro e w2 ⟨v0, rfl, hO, hb2⟩; have HO2 := iH hO; have hB2 := hB.trans (hb2.mono hB.size); have HL2 : Hid (w2.ownsRow w.heap.size 48 12 v0 0 []) := own_monoD HO2.out hB.size; clear hO HO2 hb2)
  clear hB HM hlt hk i1
  go_wp2_with fail
  go_loopw [6, 27] (fun vx i wq => ∃ (j l : Nat) (v : Value), j ≤ k ∧ i = .int .i64 ((j : Nat) : Int) ∧ vx = v ∧ l ≤ 1000 ∧ Hid (l = lenP (ps.take j)) ∧ Hid (wq.ownsRow w.heap.size 48 12 v l (cellsP (ps.take j))) ∧ Below w.heap.size w wq) (fun _ i _ => k - (intOf i).toNat)
  case atStart => exact ⟨0, 0, _, Nat.zero_le _, rfl, rfl, Nat.zero_le _, rfl, HL2, hB2⟩
  case round =>
   clear HL2 hB2
   obtain ⟨j, l, v, hj, rfl, rfl, hl9, HL, HO, hB⟩ := hrel
   by_cases hlt : j < k
   ·obtain ⟨x, hx⟩ : ∃ x, ps[j]? = some x := ⟨ps[j]'(by have := HKK.out; omega), List.getElem?_eq_getElem _⟩
    have kc : wr.cell? ⟨p, j, none⟩ = some (.slice x.ad x.len x.cap) := (hB.cell (p := ⟨p, j, none⟩) hpl).trans (HP.out j x hx).2
    have HQ := iH ((HP.out j x hx).1.below hB)
    have HS : Hid (l + x.len = lenP (ps.take (j + 1))) := by
     show _ = _
     rw [take_snocD hx, lenP_snoc, HL.out]
    have HT : Hid (cellsP (ps.take (j + 1)) = cellsP (ps.take j) ++ x.cs) := by
     show _ = _
     rw [take_snocD hx, cellsP_snoc]
    have hs9 : l + x.len ≤ 1000 := by have h9 := HS.out; have h8 := lenP_take ps (j + 1); omega
    have i1 : (j : Int) < (k : Int) := by omega
    clear hx HL
    go_wp2_with (at_builtin; refine wpList_append_D rfl _ _ 39 rfl w.heap.size 48 i0 _ 12 160 Tryz.underlying39 HI0.out hz0 hz1 hz2 rfl (by decide) _ _ _ rfl HO.out x.ad x.len x.cap x.cs rfl HQ.out.1 HQ.out.2.1 HQ.out.2.2.1 HQ.out.2.2.2 (by unfold maxLen; omega) (by omega) hB.size ?_; intro v' w5 hown hgrow hnil)
    have HO5 : Hid (w5.ownsRow w.heap.size 48 12 v' (l + x.len) (cellsP (ps.take (j + 1)))) := by
     show World.ownsRow _ _ _ _ _ _ _
     rw [HT.out]
     exact hown
    have hB5 : Below w.heap.size w w5 := hB.grown hgrow hB.size (by intro b hb; exact (HO.out.lt b hb).1)
    clear hown hgrow hnil HQ HT HO
    go_roundw
    case rel => exact ⟨j + 1, l + x.len, _, by omega, by go_num, rfl, hs9, HS, HO5, hB5⟩
    case measure => simp [intOf]; omega
   ·have hje : j = k := by omega
    subst hje
    have i1 : ¬ (j : Int) < (j : Int) := by omega
    have hT : ps.take j = ps := List.take_of_length_le (by have := HKK.out; omega)
    have HO9 := HO.out
    rw [HL.out, hT] at HO9
    replace HO9 := iH HO9
    clear hT HO HL
    go_wp2_with fail
    go_ret
    exact ⟨_, rfl, HO9.out, hB⟩

end Go.Proofs.YtihnjndnkgnmaaaGreat
