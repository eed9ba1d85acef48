import Derived.Test.YtnifmiacobfplaaJ23
import Derived.Test.YtnifmiacobfplaaMt8
import Derived.Test.YtnifmiacobfplaaDr1
import Derived.Laws.Concat
import Derived.Laws.Strings2
namespace Go.Proofs.Ytnifmiacobfplaa
open Go.RowKit

theorem results_cell_tmp {P : Program} {fn : Func} {p t : Tmp} {ty : TypeId} (h : fn.results = #[.cell p ty, .tmp t]) (tmps : Array Value) (w : World) (g : Nat) (cs : List Value) (d : TypeDesc)
  (hp : tmps.getD p undef = .pointer (some ⟨g, 0, none⟩)) (hc : w.rangeAt g 0 cs) (hu : P.underlying ty = some d) (hd : d.isRow = true) (hi : (P.info? ty).map (·.size) = some cs.length) :
  (results fn tmps).run P w = .ok (.tuple #[.agg cs.toArray, tmps.getD t undef]) w := by
 have hp' : tmps[p]?.getD undef = .pointer (some ⟨g, 0, none⟩) := by simpa using hp
 simp [results, h, hp', asAddr, run_loadVar_mid w g 0 ty cs d hc hu hd hi]

set_option maxHeartbeats 4000000 in
set_option maxRecDepth 100000 in
theorem want13_any (c : ByteArray) (xs : List Wnt) (a : Option Addr) (cap lo m : Nat) (w : World) (hin : SliceC WntC 7 lo w a xs) (hsm : xs.length ≤ 1048576) (hz : SzWnt xs m) :
  Calls Try.prog 56 #[.slice a xs.length cap, .string c] w fun e w' => ∃ (y : Wnt) (t : Bool), e = .returned (.tuple #[.agg #[.string y.copy, .int .i64 y.version, .string y.hold, .int .i64 y.pull, .int .i64 y.start, .int .i64 y.dies, .int .i64 y.grace], .bool t]) ∧ (y.copy.size ≤ m ∧ y.hold.size ≤ m) ∧ Below w.heap.size w w' := by
 have HI := Hid.intro hin
 clear hin
 have HG0 : Hid (Blk w.heap.size #[.string ⟨#[]⟩, .int .i64 0, .string ⟨#[]⟩, .int .i64 0, .int .i64 0, .int .i64 0, .int .i64 0] 36 (w.alloc (Obj.cells #[.string ⟨#[]⟩, .int .i64 0, .string ⟨#[]⟩, .int .i64 0, .int .i64 0, .int .i64 0, .int .i64 0] 36))) := Blk.alloc _ _ _
 have hB0 : Below w.heap.size w (w.alloc (Obj.cells #[.string ⟨#[]⟩, .int .i64 0, .string ⟨#[]⟩, .int .i64 0, .int .i64 0, .int .i64 0, .int .i64 0] 36)) := (Below.refl _ _).alloc (Nat.le_refl _) _
 go_enter Try.func56, Try.ntmps56
 go_upto_region 1 with fail
 generalize w.alloc (Obj.cells #[.string ⟨#[]⟩, .int .i64 0, .string ⟨#[]⟩, .int .i64 0, .int .i64 0, .int .i64 0, .int .i64 0] 36) = w0 at *
 go_wp2_with fail
 go_loopw [6] (fun i wr => ∃ k : Nat, k ≤ xs.length ∧ i = .int .i64 k ∧ Hid (Blk w.heap.size #[.string ⟨#[]⟩, .int .i64 0, .string ⟨#[]⟩, .int .i64 0, .int .i64 0, .int .i64 0, .int .i64 0] 36 wr) ∧ Below w.heap.size w wr) (fun i _ => xs.length - (intOf i).toNat)
 case atStart => exact ⟨0, Nat.zero_le _, rfl, HG0, hB0⟩
 case round =>
  clear HG0 hB0
  obtain ⟨k, hk, rfl, HG, hB⟩ := hrel
  by_cases hlt : k < xs.length
  case neg =>
   have HTS := Hid.intro HG.out.there
   obtain ⟨wf, HE⟩ : ∃ wf, Hid (wf = wr.setCells w.heap.size 0 [.string ⟨#[]⟩, .int .i64 0, .string ⟨#[]⟩, .int .i64 0, .int .i64 0, .int .i64 0, .int .i64 0]) := ⟨_, rfl⟩
   have HRf : Hid (wf.rangeAt w.heap.size 0 [.string ⟨#[]⟩, .int .i64 0, .string ⟨#[]⟩, .int .i64 0, .int .i64 0, .int .i64 0, .int .i64 0]) := by
    show World.rangeAt _ _ _ _
    rw [HE.out]
    exact World.rangeAt_setCells_same _ _ _ _ HTS.out
   have hBf : Below w.heap.size w wf := by
    rw [HE.out]
    exact below_setCells (Nat.le_refl _) _ _ _ hB
   go_wp2_with (first | (refine wpList_store_to rfl 36 _ _ rfl w.heap.size 0 #[.string ⟨#[]⟩, .int .i64 0, .string ⟨#[]⟩, .int .i64 0, .int .i64 0, .int .i64 0, .int .i64 0] (by first | rfl | (simp [go_sem]; done)) rfl HTS.out isz_Wnt (by simp [Value.oneCell']) wf HE.out ?_))
   exact bodyPost_ret (results_cell_tmp rfl _ _ w.heap.size [.string ⟨#[]⟩, .int .i64 0, .string ⟨#[]⟩, .int .i64 0, .int .i64 0, .int .i64 0, .int .i64 0] _ rfl HRf.out Try.underlying36 rfl isz_Wnt) rfl ⟨⟨⟨#[]⟩, 0, ⟨#[]⟩, 0, 0, 0, 0⟩, false, rfl, ⟨Nat.zero_le _, Nat.zero_le _⟩, hBf⟩
  obtain ⟨x, hx⟩ : ∃ x, xs[k]? = some x := ⟨xs[k], List.getElem?_eq_getElem hlt⟩
  obtain ⟨b, o, rfl, _, hbl, hc⟩ := (HI.out.below WntC.holds hB (Nat.le_refl _)).at hx
  have HRA := Hid.intro (wnt_range hc)
  have q0 : wr.cell? ⟨b, o + k * 7, none⟩ = some (.string x.copy) := by simpa using hc.1
  have HXS := Hid.intro (hz x (List.mem_of_getElem? hx))
  clear hc hx
  cases hq : (x.copy.toList == c.toList) with
  | true =>
   go_upto_region 5 with fail
   clear hq q0
   have HTS := Hid.intro HG.out.there
   obtain ⟨wf, HE⟩ : ∃ wf, Hid (wf = wr.setCells w.heap.size 0 [.string x.copy, .int .i64 x.version, .string x.hold, .int .i64 x.pull, .int .i64 x.start, .int .i64 x.dies, .int .i64 x.grace]) := ⟨_, rfl⟩
   have HRf : Hid (wf.rangeAt w.heap.size 0 [.string x.copy, .int .i64 x.version, .string x.hold, .int .i64 x.pull, .int .i64 x.start, .int .i64 x.dies, .int .i64 x.grace]) := by
    show World.rangeAt _ _ _ _
    rw [HE.out]
    exact World.rangeAt_setCells_same _ _ _ _ HTS.out
   have hBf : Below w.heap.size w wf := by
    rw [HE.out]
    exact below_setCells (Nat.le_refl _) _ _ _ hB
   go_wp2_with (first | (refine wpList_load_mid rfl 36 _ rfl b (o + k * 7) (by first | rfl | (simp [go_sem]; done)) [.string x.copy, .int .i64 x.version, .string x.hold, .int .i64 x.pull, .int .i64 x.start, .int .i64 x.dies, .int .i64 x.grace] _ HRA.out Try.underlying36 rfl isz_Wnt ?_) | (refine wpList_store_to rfl 36 _ _ rfl w.heap.size 0 #[.string x.copy, .int .i64 x.version, .string x.hold, .int .i64 x.pull, .int .i64 x.start, .int .i64 x.dies, .int .i64 x.grace] (by first | rfl | (simp [go_sem]; done)) rfl HTS.out isz_Wnt (by simp [Value.oneCell']) wf HE.out ?_))
   exact bodyPost_ret (results_cell_tmp rfl _ _ w.heap.size [.string x.copy, .int .i64 x.version, .string x.hold, .int .i64 x.pull, .int .i64 x.start, .int .i64 x.dies, .int .i64 x.grace] _ rfl HRf.out Try.underlying36 rfl isz_Wnt) rfl ⟨x, true, rfl, HXS.out, hBf⟩
  | false =>
   go_wp2_with fail
   go_roundw
   case rel => exact ⟨k + 1, by omega, by go_num, HG, hB⟩
   case measure => simp [intOf]; omega

end Go.Proofs.Ytnifmiacobfplaa

namespace Go.Proofs.Ytnifmiacobfplaa
open Go.RowKit

set_option maxHeartbeats 2000000 in
theorem many_any (s0 : ByteArray) (n : Nat) (T : Nat) (w : World) (h1 : s0.size * n ≤ T) (h2 : s0.size ≤ T) (h3 : T ≤ 100000) (h4 : n ≤ 1000) :
  Calls Try.prog 72 #[.string s0, .int .i64 (n : Int)] w fun e w' => ∃ t : ByteArray, e = .returned (.string t) ∧ t.size ≤ T ∧ Below w.heap.size w w' := by
 have HB0 : Below w.heap.size w w := Below.refl _ _
 go_enter Try.func72, Try.ntmps72
 go_wp2_with fail
 go_loopw [0, 1, 5] (fun s m o wr => ∃ (t u : ByteArray) (k : Nat), s = .string t ∧ m = .int .i64 (k : Int) ∧ o = .string u ∧ k ≤ 1000 ∧ t.size ≤ 2 * T ∧ Hid (u.size + t.size * k ≤ T) ∧ Below w.heap.size w wr) (fun _ m _ _ => (intOf m).toNat)
 case atStart => exact ⟨s0, ⟨#[]⟩, n, rfl, rfl, rfl, h4, by omega, by show 0 + _ ≤ _; omega, HB0⟩
 case round =>
  obtain ⟨t, u, k, rfl, rfl, rfl, hk, ht, hT, hbel⟩ := hrel
  have hT' := hT.out
  by_cases hz : k = 0
  ·subst hz
   have hu : u.size ≤ T := by omega
   clear hT'
   go_wp2_with fail
   go_ret
   exact ⟨u, rfl, hu, hbel⟩
  ·have hk0 : (0 : Int) < (k : Int) := by omega
   have htk : t.size ≤ t.size * k := Nat.le_mul_of_pos_right _ (by omega)
   have e : t.size * k = 2 * (t.size * (k / 2)) + t.size * (k % 2) := by
    conv => lhs; rw [← Nat.div_add_mod k 2]
    rw [Nat.mul_add, Nat.mul_left_comm]
   have e2 : (t ++ t).size * (k / 2) = 2 * (t.size * (k / 2)) := by
    rw [ByteArray.size_append, ← Nat.two_mul, Nat.mul_assoc]
   have ht2 : (t ++ t).size ≤ 2 * T := by rw [ByteArray.size_append]; omega
   have hut : ¬ 9223372036854775807 < u.size + t.size := by omega
   have hus : (u ++ t).size = u.size + t.size := ByteArray.size_append
   have HK : Hid (u.size + t.size * k ≤ T) := hT
   have HE := Hid.intro e
   have HE2 := Hid.intro e2
   have HT2 := Hid.intro ht2
   have HUS := Hid.intro hus
   clear e e2 ht2 hus hT' htk hT
   cases h5 : ((k : Int) % 2 == 1)
   ·have h6 : k % 2 = 0 := by
     have : ¬ ((k : Int) % 2 = 1) := by simpa using h5
     omega
    have HF : Hid (u.size + (t ++ t).size * (k / 2) ≤ T) := by
     have a1 := HK.out
     have a2 := HE.out
     have a3 := HE2.out
     rw [h6] at a2
     show _ ≤ _
     omega
    clear h6 HK HE HE2
    go_wp2_with fail
    exact ⟨⟨t ++ t, u, k / 2, rfl, rfl, rfl, by omega, HT2.out, HF, hbel⟩, by simp [intOf]; omega⟩
   ·have h6 : k % 2 = 1 := by
     have : (k : Int) % 2 = 1 := by simpa using h5
     omega
    have HF : Hid ((u ++ t).size + (t ++ t).size * (k / 2) ≤ T) := by
     have a1 := HK.out
     have a2 := HE.out
     have a3 := HE2.out
     have a4 := HUS.out
     rw [h6] at a2
     show _ ≤ _
     omega
    clear h6 HK HE HE2
    go_wp2_with fail
    exact ⟨⟨t ++ t, u ++ t, k / 2, rfl, rfl, rfl, by omega, HT2.out, HF, hbel⟩, by simp [intOf]; omega⟩

theorem bys_alloc {xs : List Nat} {a : Option Addr} {w : World} (h : ∀ (k x : Nat), xs[k]? = some x → ∃ b o, a = some ⟨b, o, none⟩ ∧ w.cell? ⟨b, o + k, none⟩ = some (.int .u8 (x : Int)) ∧ x < 256 ∧ b < w.heap.size) (ob : Obj) : ByS w.heap.size a xs (w.alloc ob) := fun k x hk => by
 obtain ⟨b, o, e, c, l, q⟩ := h k x hk
 exact ⟨b, o, e, (World.cell?_alloc_lt _ _ _ q).trans c, l, q⟩

set_option maxHeartbeats 2000000 in
theorem open_rd (xs : List Nat) (a : Option Addr) (cap : Nat) (w : World) (hin : ∀ (k x : Nat), xs[k]? = some x → ∃ b o, a = some ⟨b, o, none⟩ ∧ w.cell? ⟨b, o + k, none⟩ = some (.int .u8 (x : Int)) ∧ x < 256 ∧ b < w.heap.size) (hl : xs.length ≤ 1048576) (hc : xs.length ≤ cap) :
  Calls Try.prog 15 #[.slice a xs.length cap] w fun e w' => ∃ p, e = .returned (.pointer (some ⟨p, 0, none⟩)) ∧ RdS p 0 w' ∧ w.heap.size ≤ p ∧ Below w.heap.size w w' := by
 have HI := Hid.intro hin
 clear hin
 by_cases h : xs.length ≤ 2000
 ·have hi : ¬ (2000 : Int) < (xs.length : Int) := by omega
  go_enter Try.func15, Try.ntmps15
  go_wp2_with fail
  go_ret
  exact ⟨w.heap.size, rfl, ⟨xs, a, cap, bys_alloc (fun _ _ hk => HI.out _ _ hk) _, Blk.alloc _ _ _, h⟩, Nat.le_refl _, (Below.refl _ _).alloc (Nat.le_refl _) _⟩
 ·have hi : (2000 : Int) < (xs.length : Int) := by omega
  have ht : (xs.take 2000).length = 2000 := by rw [List.length_take]; omega
  go_enter Try.func15, Try.ntmps15
  go_wp2_with fail
  go_ret
  refine ⟨w.heap.size, rfl, ⟨xs.take 2000, a, cap, bys_alloc (fun k x hk => ?_) _, ?_, by omega⟩, Nat.le_refl _, (Below.refl _ _).alloc (Nat.le_refl _) _⟩
  ·rw [List.getElem?_take] at hk
   split at hk
   ·exact HI.out _ _ hk
   ·cases hk
  ·rw [ht]
   exact Blk.alloc _ _ _

end Go.Proofs.Ytnifmiacobfplaa
