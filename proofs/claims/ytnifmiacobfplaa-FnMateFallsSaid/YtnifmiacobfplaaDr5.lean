import Derived.Test.YtnifmiacobfplaaDr3
import Derived.Test.YtnifmiacobfplaaJ38
namespace Go.Proofs.Ytnifmiacobfplaa
open Go.RowKit

theorem intAt3 (a b c : Int) (v : Nat) (h : (v : Int) < 3) : ∃ d : Int, (#[.int .i64 a, .int .i64 b, .int .i64 c] : Array Value)[v]? = some (.int .i64 d) := by
 rcases (by omega : v = 0 ∨ v = 1 ∨ v = 2) with rfl | rfl | rfl <;> exact ⟨_, rfl⟩
theorem strAt3 (a b c : ByteArray) (v : Nat) (h : (v : Int) < 3) (ha : a.size ≤ 100) (hb : b.size ≤ 100) (hc : c.size ≤ 100) : ∃ s : ByteArray, (#[.string a, .string b, .string c] : Array Value)[v]? = some (.string s) ∧ s.size ≤ 100 := by
 rcases (by omega : v = 0 ∨ v = 1 ∨ v = 2) with rfl | rfl | rfl
 ·exact ⟨_, rfl, ha⟩
 ·exact ⟨_, rfl, hb⟩
 ·exact ⟨_, rfl, hc⟩
theorem many_i (s : ByteArray) (m : Int) (w : World) (hs : s.size ≤ 1) (h0 : 0 ≤ m) (h1 : m ≤ 100) :
  Calls Try.prog 72 #[.string s, .int .i64 m] w fun e w' => ∃ t : ByteArray, e = .returned (.string t) ∧ t.size ≤ 100 ∧ Below w.heap.size w w' := by
 obtain ⟨n, rfl⟩ : ∃ n : Nat, m = (n : Int) := ⟨m.toNat, by omega⟩
 have : s.size * n ≤ 1 * n := Nat.mul_le_mul_right _ hs
 exact many_any s n 100 w (by omega) (by omega) (by omega) (by omega)

set_option maxHeartbeats 8000000 in
set_option maxRecDepth 100000 in
theorem spoilWant_any (p k0 : Nat) (x : Wnt) (w : World) (hR : RdS p k0 w) (hK0 : k0 ≤ 800000) (z0 : x.copy.size ≤ 100) (z2 : x.hold.size ≤ 100) :
  Calls Try.prog 58 #[.pointer (some ⟨p, 0, none⟩), .agg #[.string x.copy, .int .i64 x.version, .string x.hold, .int .i64 x.pull, .int .i64 x.start, .int .i64 x.dies, .int .i64 x.grace]] w fun e w' => ∃ (y : Wnt) (k : Nat), e = .returned (.agg #[.string y.copy, .int .i64 y.version, .string y.hold, .int .i64 y.pull, .int .i64 y.start, .int .i64 y.dies, .int .i64 y.grace]) ∧ y.copy.size ≤ 100 ∧ y.hold.size ≤ 100 ∧ k ≤ k0 + 10 ∧ RdS p k w' ∧ Bt p w.heap.size w w' := by
 have HXa : Blk w.heap.size #[.string x.copy, .int .i64 x.version, .string x.hold, .int .i64 x.pull, .int .i64 x.start, .int .i64 x.dies, .int .i64 x.grace] 36 (w.alloc (.cells #[.string x.copy, .int .i64 x.version, .string x.hold, .int .i64 x.pull, .int .i64 x.start, .int .i64 x.dies, .int .i64 x.grace] 36)) := Blk.alloc _ _ _
 have HZ2 : Hid (Blk (w.heap.size + 1) #[.string ⟨#[]⟩, .int .i64 0, .string ⟨#[]⟩, .int .i64 0, .int .i64 0, .int .i64 0, .int .i64 0] 36 ((w.alloc (.cells #[.string x.copy, .int .i64 x.version, .string x.hold, .int .i64 x.pull, .int .i64 x.start, .int .i64 x.dies, .int .i64 x.grace] 36)).alloc (.cells #[.string ⟨#[]⟩, .int .i64 0, .string ⟨#[]⟩, .int .i64 0, .int .i64 0, .int .i64 0, .int .i64 0] 36))) := by
  have := Blk.alloc (w.alloc (.cells #[.string x.copy, .int .i64 x.version, .string x.hold, .int .i64 x.pull, .int .i64 x.start, .int .i64 x.dies, .int .i64 x.grace] 36)) #[.string ⟨#[]⟩, .int .i64 0, .string ⟨#[]⟩, .int .i64 0, .int .i64 0, .int .i64 0, .int .i64 0] 36
  show Blk _ _ _ _
  simpa using this
 have HX2 : Hid (Blk w.heap.size #[.string x.copy, .int .i64 x.version, .string x.hold, .int .i64 x.pull, .int .i64 x.start, .int .i64 x.dies, .int .i64 x.grace] 36 ((w.alloc (.cells #[.string x.copy, .int .i64 x.version, .string x.hold, .int .i64 x.pull, .int .i64 x.start, .int .i64 x.dies, .int .i64 x.grace] 36)).alloc (.cells #[.string ⟨#[]⟩, .int .i64 0, .string ⟨#[]⟩, .int .i64 0, .int .i64 0, .int .i64 0, .int .i64 0] 36))) := HXa.below ((Below.refl _ _).alloc (Nat.le_refl _) _) HXa.lt
 have hba : Below w.heap.size w ((w.alloc (.cells #[.string x.copy, .int .i64 x.version, .string x.hold, .int .i64 x.pull, .int .i64 x.start, .int .i64 x.dies, .int .i64 x.grace] 36)).alloc (.cells #[.string ⟨#[]⟩, .int .i64 0, .string ⟨#[]⟩, .int .i64 0, .int .i64 0, .int .i64 0, .int .i64 0] 36)) := by go_grown
 have HR2 : Hid (RdS p k0 ((w.alloc (.cells #[.string x.copy, .int .i64 x.version, .string x.hold, .int .i64 x.pull, .int .i64 x.start, .int .i64 x.dies, .int .i64 x.grace] 36)).alloc (.cells #[.string ⟨#[]⟩, .int .i64 0, .string ⟨#[]⟩, .int .i64 0, .int .i64 0, .int .i64 0, .int .i64 0] 36))) := hR.below hba hR.lt
 have hpl := hR.lt
 have HB2 : Hid (Bt p w.heap.size w ((w.alloc (.cells #[.string x.copy, .int .i64 x.version, .string x.hold, .int .i64 x.pull, .int .i64 x.start, .int .i64 x.dies, .int .i64 x.grace] 36)).alloc (.cells #[.string ⟨#[]⟩, .int .i64 0, .string ⟨#[]⟩, .int .i64 0, .int .i64 0, .int .i64 0, .int .i64 0] 36))) := Bt.of_below hba
 clear hR hba HXa
 go_enter Try.func58, Try.ntmps58
 go_wp2_with fail
 generalize (w.alloc (Obj.cells #[.string x.copy, .int .i64 x.version, .string x.hold, .int .i64 x.pull, .int .i64 x.start, .int .i64 x.dies, .int .i64 x.grace] 36)).alloc (Obj.cells #[.string ⟨#[]⟩, .int .i64 0, .string ⟨#[]⟩, .int .i64 0, .int .i64 0, .int .i64 0, .int .i64 0] 36) = w2 at *
 refine (pick_rd p (k0 + 0) 7 _ HR2.out (by omega) (by omega) (by omega)).mono ?_
 rintro e w3 ⟨s7, rfl, hs7, hr, hb, -⟩
 have HR3 : Hid (RdS p (k0 + 1) w3) := hr
 have HB3 : Hid (Bt p w.heap.size w w3) := HB2.out.trans (hb.mono HB2.out.size)
 have HX3 : Hid (Blk w.heap.size #[.string x.copy, .int .i64 x.version, .string x.hold, .int .i64 x.pull, .int .i64 x.start, .int .i64 x.dies, .int .i64 x.grace] 36 w3) := HX2.out.bt hb HX2.out.lt (by omega)
 have HZ3 : Hid (Blk (w.heap.size + 1) #[.string ⟨#[]⟩, .int .i64 0, .string ⟨#[]⟩, .int .i64 0, .int .i64 0, .int .i64 0, .int .i64 0] 36 w3) := HZ2.out.bt hb HZ2.out.lt (by omega)
 clear HR2 HB2 HX2 HZ2 hr hb
 rcases (by omega : s7 = 0 ∨ s7 = 1 ∨ s7 = 2 ∨ s7 = 3 ∨ s7 = 4 ∨ s7 = 5 ∨ s7 = 6) with rfl | rfl | rfl | rfl | rfl | rfl | rfl
 ·go_wp2_with fail
  refine (pick_rd p (k0 + 1) 2 _ HR3.out (by omega) (by omega) (by omega)).mono ?_
  rintro e w4 ⟨u, rfl, hu, hr, hb, -⟩
  have HR4 : Hid (RdS p (k0 + 2) w4) := hr
  have HB4 : Hid (Bt p w.heap.size w w4) := HB3.out.trans (hb.mono HB3.out.size)
  have HX4 : Hid (Blk w.heap.size #[.string x.copy, .int .i64 x.version, .string x.hold, .int .i64 x.pull, .int .i64 x.start, .int .i64 x.dies, .int .i64 x.grace] 36 w4) := HX3.out.bt hb HX3.out.lt (by omega)
  have HZ4 : Hid (Blk (w.heap.size + 1) #[.string ⟨#[]⟩, .int .i64 0, .string ⟨#[]⟩, .int .i64 0, .int .i64 0, .int .i64 0, .int .i64 0] 36 w4) := HZ3.out.bt hb HZ3.out.lt (by omega)
  clear HR3 HB3 HX3 HZ3 hr hb
  go_wp2_with fail
  refine (many_i ⟨#[110]⟩ (20 + (u : Int)) _ (by decide) (by omega) (by omega)).mono ?_
  rintro e w5 ⟨t, rfl, hts, hb⟩
  have HR5 : Hid (RdS p (k0 + 2) w5) := HR4.out.below hb HR4.out.lt
  have HB5 : Hid (Bt p w.heap.size w w5) := HB4.out.trans (Bt.of_below (hb.mono HB4.out.size))
  have HX5 : Hid (Blk w.heap.size #[.string x.copy, .int .i64 x.version, .string x.hold, .int .i64 x.pull, .int .i64 x.start, .int .i64 x.dies, .int .i64 x.grace] 36 w5) := HX4.out.below hb HX4.out.lt
  have HZ5 : Hid (Blk (w.heap.size + 1) #[.string ⟨#[]⟩, .int .i64 0, .string ⟨#[]⟩, .int .i64 0, .int .i64 0, .int .i64 0, .int .i64 0] 36 w5) := HZ4.out.below hb HZ4.out.lt
  clear HR4 HB4 HX4 HZ4 hb
  have hba : Below w5.heap.size w5 (w5.alloc (.cells #[.string ⟨#[]⟩, .string ⟨#[120, 32, 121]⟩, .string t] 9)) := (Below.refl _ _).alloc (Nat.le_refl _) _
  have HL6 : Hid (Blk w5.heap.size #[.string ⟨#[]⟩, .string ⟨#[120, 32, 121]⟩, .string t] 9 (w5.alloc (.cells #[.string ⟨#[]⟩, .string ⟨#[120, 32, 121]⟩, .string t] 9))) := Blk.alloc _ _ _
  have hgl : w.heap.size + 1 < w5.heap.size := HZ5.out.lt
  have HR6 : Hid (RdS p (k0 + 2) (w5.alloc (.cells #[.string ⟨#[]⟩, .string ⟨#[120, 32, 121]⟩, .string t] 9))) := HR5.out.below hba HR5.out.lt
  have HB6 : Hid (Bt p w.heap.size w (w5.alloc (.cells #[.string ⟨#[]⟩, .string ⟨#[120, 32, 121]⟩, .string t] 9))) := HB5.out.trans (Bt.of_below (hba.mono HB5.out.size))
  have HX6 : Hid (Blk w.heap.size #[.string x.copy, .int .i64 x.version, .string x.hold, .int .i64 x.pull, .int .i64 x.start, .int .i64 x.dies, .int .i64 x.grace] 36 (w5.alloc (.cells #[.string ⟨#[]⟩, .string ⟨#[120, 32, 121]⟩, .string t] 9))) := HX5.out.below hba HX5.out.lt
  have HZ6 : Hid (Blk (w.heap.size + 1) #[.string ⟨#[]⟩, .int .i64 0, .string ⟨#[]⟩, .int .i64 0, .int .i64 0, .int .i64 0, .int .i64 0] 36 (w5.alloc (.cells #[.string ⟨#[]⟩, .string ⟨#[120, 32, 121]⟩, .string t] 9))) := HZ5.out.below hba HZ5.out.lt
  clear HR5 HB5 HX5 HZ5 hba
  go_wp2_with fail
  generalize w5.alloc (Obj.cells #[.string ⟨#[]⟩, .string ⟨#[120, 32, 121]⟩, .string t] 9) = w6 at *
  generalize w5.heap.size = gl at *
  refine (pick_rd p (k0 + 2) 3 _ HR6.out (by omega) (by omega) (by omega)).mono ?_
  rintro e w7 ⟨v, rfl, hv, hr, hb, -⟩
  have HR7 : Hid (RdS p (k0 + 3) w7) := hr
  have HB7 : Hid (Bt p w.heap.size w w7) := HB6.out.trans (hb.mono HB6.out.size)
  have HX7 : Hid (Blk w.heap.size #[.string x.copy, .int .i64 x.version, .string x.hold, .int .i64 x.pull, .int .i64 x.start, .int .i64 x.dies, .int .i64 x.grace] 36 w7) := HX6.out.bt hb HX6.out.lt (by omega)
  have HZ7 : Hid (Blk (w.heap.size + 1) #[.string ⟨#[]⟩, .int .i64 0, .string ⟨#[]⟩, .int .i64 0, .int .i64 0, .int .i64 0, .int .i64 0] 36 w7) := HZ6.out.bt hb HZ6.out.lt (by omega)
  have HL7 : Hid (Blk gl #[.string ⟨#[]⟩, .string ⟨#[120, 32, 121]⟩, .string t] 9 w7) := HL6.out.bt hb HL6.out.lt (by omega)
  clear HR6 HB6 HX6 HZ6 hr hb
  obtain ⟨d, hd, hds⟩ := strAt3 ⟨#[]⟩ ⟨#[120, 32, 121]⟩ t v hv (by decide) (by decide) hts
  have kl : w7.cell? ⟨gl, v, none⟩ = some (.string d) := HL7.out.cell hd
  clear hd
  have kx : w7.cell? ⟨w.heap.size, 0, none⟩ = some (.string x.copy) := HX7.out.cell rfl
  have fx : w7.frozen? ⟨w.heap.size, 0, none⟩ = false := HX7.out.frozen _
  have HXE : Hid (Blk w.heap.size #[.string d, .int .i64 x.version, .string x.hold, .int .i64 x.pull, .int .i64 x.start, .int .i64 x.dies, .int .i64 x.grace] 36 (w7.setCell ⟨w.heap.size, 0, none⟩ (.string d))) := HX7.out.set 0 _
  have HZE : Hid (Blk (w.heap.size + 1) #[.string ⟨#[]⟩, .int .i64 0, .string ⟨#[]⟩, .int .i64 0, .int .i64 0, .int .i64 0, .int .i64 0] 36 (w7.setCell ⟨w.heap.size, 0, none⟩ (.string d))) := HZ7.out.other (a := ⟨w.heap.size, 0, none⟩) (show w.heap.size + 1 ≠ w.heap.size by omega) _
  have hbe : Below w.heap.size w7 (w7.setCell ⟨w.heap.size, 0, none⟩ (.string d)) := (Below.refl _ _).setCell (p := ⟨w.heap.size, 0, none⟩) (Nat.le_refl _) _
  have HTE := Hid.intro HZE.out.there
  obtain ⟨w9, HW9⟩ : ∃ w9, Hid (w9 = (w7.setCell ⟨w.heap.size, 0, none⟩ (.string d)).setCells (w.heap.size + 1) 0 [.string d, .int .i64 x.version, .string x.hold, .int .i64 x.pull, .int .i64 x.start, .int .i64 x.dies, .int .i64 x.grace]) := ⟨_, rfl⟩
  have HR9 : Hid (w9.rangeAt (w.heap.size + 1) 0 [.string d, .int .i64 x.version, .string x.hold, .int .i64 x.pull, .int .i64 x.start, .int .i64 x.dies, .int .i64 x.grace]) := by
   show World.rangeAt _ _ _ _
   rw [HW9.out]
   exact World.rangeAt_setCells_same _ _ _ _ HTE.out
  have hb9 : Below w.heap.size w7 w9 := by
   rw [HW9.out]
   exact below_setCells (Nat.le_succ _) _ _ _ hbe
  have HRd : Hid (RdS p (k0 + 3) w9) := HR7.out.below hb9 hpl
  have HBt : Hid (Bt p w.heap.size w w9) := HB7.out.trans (Bt.of_below hb9)
  clear hb9 hbe HR7 HB7 HZ7 HX7
  go_wp2_with (first | (refine wpList_load_mid rfl 36 _ rfl w.heap.size 0 rfl [.string d, .int .i64 x.version, .string x.hold, .int .i64 x.pull, .int .i64 x.start, .int .i64 x.dies, .int .i64 x.grace] _ HXE.out.rangeA Try.underlying36 rfl isz_Wnt ?_) | (refine wpList_store_to rfl 36 _ _ rfl (w.heap.size + 1) 0 #[.string d, .int .i64 x.version, .string x.hold, .int .i64 x.pull, .int .i64 x.start, .int .i64 x.dies, .int .i64 x.grace] rfl rfl HTE.out isz_Wnt (by simp [Value.oneCell']) w9 HW9.out ?_))
  exact bodyPost_ret (results_cell_mid rfl _ _ (w.heap.size + 1) [.string d, .int .i64 x.version, .string x.hold, .int .i64 x.pull, .int .i64 x.start, .int .i64 x.dies, .int .i64 x.grace] _ rfl HR9.out Try.underlying36 rfl isz_Wnt) rfl ⟨⟨d, x.version, x.hold, x.pull, x.start, x.dies, x.grace⟩, k0 + 3, rfl, hds, z2, by omega, HRd.out, HBt.out⟩
 ·have hba : Below w3.heap.size w3 (w3.alloc (.cells #[.int .i64 0, .int .i64 1000000, .int .i64 1000001] 3)) := (Below.refl _ _).alloc (Nat.le_refl _) _
  have HL4 : Hid (Blk w3.heap.size #[.int .i64 0, .int .i64 1000000, .int .i64 1000001] 3 (w3.alloc (.cells #[.int .i64 0, .int .i64 1000000, .int .i64 1000001] 3))) := Blk.alloc _ _ _
  have hgl : w.heap.size + 1 < w3.heap.size := HZ3.out.lt
  have HR4 : Hid (RdS p (k0 + 1) (w3.alloc (.cells #[.int .i64 0, .int .i64 1000000, .int .i64 1000001] 3))) := HR3.out.below hba HR3.out.lt
  have HB4 : Hid (Bt p w.heap.size w (w3.alloc (.cells #[.int .i64 0, .int .i64 1000000, .int .i64 1000001] 3))) := HB3.out.trans (Bt.of_below (hba.mono HB3.out.size))
  have HX4 : Hid (Blk w.heap.size #[.string x.copy, .int .i64 x.version, .string x.hold, .int .i64 x.pull, .int .i64 x.start, .int .i64 x.dies, .int .i64 x.grace] 36 (w3.alloc (.cells #[.int .i64 0, .int .i64 1000000, .int .i64 1000001] 3))) := HX3.out.below hba HX3.out.lt
  have HZ4 : Hid (Blk (w.heap.size + 1) #[.string ⟨#[]⟩, .int .i64 0, .string ⟨#[]⟩, .int .i64 0, .int .i64 0, .int .i64 0, .int .i64 0] 36 (w3.alloc (.cells #[.int .i64 0, .int .i64 1000000, .int .i64 1000001] 3))) := HZ3.out.below hba HZ3.out.lt
  clear HR3 HB3 HX3 HZ3 hba
  go_wp2_with fail
  generalize w3.alloc (Obj.cells #[.int .i64 0, .int .i64 1000000, .int .i64 1000001] 3) = w4 at *
  generalize w3.heap.size = gl at *
  refine (pick_rd p (k0 + 1) 3 _ HR4.out (by omega) (by omega) (by omega)).mono ?_
  rintro e w5 ⟨v, rfl, hv, hr, hb, -⟩
  have HR5 : Hid (RdS p (k0 + 2) w5) := hr
  have HB5 : Hid (Bt p w.heap.size w w5) := HB4.out.trans (hb.mono HB4.out.size)
  have HX5 : Hid (Blk w.heap.size #[.string x.copy, .int .i64 x.version, .string x.hold, .int .i64 x.pull, .int .i64 x.start, .int .i64 x.dies, .int .i64 x.grace] 36 w5) := HX4.out.bt hb HX4.out.lt (by omega)
  have HZ5 : Hid (Blk (w.heap.size + 1) #[.string ⟨#[]⟩, .int .i64 0, .string ⟨#[]⟩, .int .i64 0, .int .i64 0, .int .i64 0, .int .i64 0] 36 w5) := HZ4.out.bt hb HZ4.out.lt (by omega)
  have HL5 : Hid (Blk gl #[.int .i64 0, .int .i64 1000000, .int .i64 1000001] 3 w5) := HL4.out.bt hb HL4.out.lt (by omega)
  clear HR4 HB4 HX4 HZ4 hr hb
  obtain ⟨d, hd⟩ := intAt3 (0) (1000000) (1000001) v hv
  have kl : w5.cell? ⟨gl, v, none⟩ = some (.int .i64 d) := HL5.out.cell hd
  clear hd
  have kx : w5.cell? ⟨w.heap.size, 1, none⟩ = some (.int .i64 x.version) := HX5.out.cell rfl
  have fx : w5.frozen? ⟨w.heap.size, 1, none⟩ = false := HX5.out.frozen _
  have HXE : Hid (Blk w.heap.size #[.string x.copy, .int .i64 d, .string x.hold, .int .i64 x.pull, .int .i64 x.start, .int .i64 x.dies, .int .i64 x.grace] 36 (w5.setCell ⟨w.heap.size, 1, none⟩ (.int .i64 d))) := HX5.out.set 1 _
  have HZE : Hid (Blk (w.heap.size + 1) #[.string ⟨#[]⟩, .int .i64 0, .string ⟨#[]⟩, .int .i64 0, .int .i64 0, .int .i64 0, .int .i64 0] 36 (w5.setCell ⟨w.heap.size, 1, none⟩ (.int .i64 d))) := HZ5.out.other (a := ⟨w.heap.size, 1, none⟩) (show w.heap.size + 1 ≠ w.heap.size by omega) _
  have hbe : Below w.heap.size w5 (w5.setCell ⟨w.heap.size, 1, none⟩ (.int .i64 d)) := (Below.refl _ _).setCell (p := ⟨w.heap.size, 1, none⟩) (Nat.le_refl _) _
  have HTE := Hid.intro HZE.out.there
  obtain ⟨w9, HW9⟩ : ∃ w9, Hid (w9 = (w5.setCell ⟨w.heap.size, 1, none⟩ (.int .i64 d)).setCells (w.heap.size + 1) 0 [.string x.copy, .int .i64 d, .string x.hold, .int .i64 x.pull, .int .i64 x.start, .int .i64 x.dies, .int .i64 x.grace]) := ⟨_, rfl⟩
  have HR9 : Hid (w9.rangeAt (w.heap.size + 1) 0 [.string x.copy, .int .i64 d, .string x.hold, .int .i64 x.pull, .int .i64 x.start, .int .i64 x.dies, .int .i64 x.grace]) := by
   show World.rangeAt _ _ _ _
   rw [HW9.out]
   exact World.rangeAt_setCells_same _ _ _ _ HTE.out
  have hb9 : Below w.heap.size w5 w9 := by
   rw [HW9.out]
   exact below_setCells (Nat.le_succ _) _ _ _ hbe
  have HRd : Hid (RdS p (k0 + 2) w9) := HR5.out.below hb9 hpl
  have HBt : Hid (Bt p w.heap.size w w9) := HB5.out.trans (Bt.of_below hb9)
  clear hb9 hbe HR5 HB5 HZ5 HX5
  go_wp2_with (first | (refine wpList_load_mid rfl 36 _ rfl w.heap.size 0 rfl [.string x.copy, .int .i64 d, .string x.hold, .int .i64 x.pull, .int .i64 x.start, .int .i64 x.dies, .int .i64 x.grace] _ HXE.out.rangeA Try.underlying36 rfl isz_Wnt ?_) | (refine wpList_store_to rfl 36 _ _ rfl (w.heap.size + 1) 0 #[.string x.copy, .int .i64 d, .string x.hold, .int .i64 x.pull, .int .i64 x.start, .int .i64 x.dies, .int .i64 x.grace] rfl rfl HTE.out isz_Wnt (by simp [Value.oneCell']) w9 HW9.out ?_))
  exact bodyPost_ret (results_cell_mid rfl _ _ (w.heap.size + 1) [.string x.copy, .int .i64 d, .string x.hold, .int .i64 x.pull, .int .i64 x.start, .int .i64 x.dies, .int .i64 x.grace] _ rfl HR9.out Try.underlying36 rfl isz_Wnt) rfl ⟨⟨x.copy, d, x.hold, x.pull, x.start, x.dies, x.grace⟩, k0 + 2, rfl, z0, z2, by omega, HRd.out, HBt.out⟩
 ·have hba : Below w3.heap.size w3 (w3.alloc (.cells #[.string ⟨#[120, 32, 121]⟩, .string ⟨#[42]⟩, .string ⟨#[118, 111, 108]⟩] 9)) := (Below.refl _ _).alloc (Nat.le_refl _) _
  have HL4 : Hid (Blk w3.heap.size #[.string ⟨#[120, 32, 121]⟩, .string ⟨#[42]⟩, .string ⟨#[118, 111, 108]⟩] 9 (w3.alloc (.cells #[.string ⟨#[120, 32, 121]⟩, .string ⟨#[42]⟩, .string ⟨#[118, 111, 108]⟩] 9))) := Blk.alloc _ _ _
  have hgl : w.heap.size + 1 < w3.heap.size := HZ3.out.lt
  have HR4 : Hid (RdS p (k0 + 1) (w3.alloc (.cells #[.string ⟨#[120, 32, 121]⟩, .string ⟨#[42]⟩, .string ⟨#[118, 111, 108]⟩] 9))) := HR3.out.below hba HR3.out.lt
  have HB4 : Hid (Bt p w.heap.size w (w3.alloc (.cells #[.string ⟨#[120, 32, 121]⟩, .string ⟨#[42]⟩, .string ⟨#[118, 111, 108]⟩] 9))) := HB3.out.trans (Bt.of_below (hba.mono HB3.out.size))
  have HX4 : Hid (Blk w.heap.size #[.string x.copy, .int .i64 x.version, .string x.hold, .int .i64 x.pull, .int .i64 x.start, .int .i64 x.dies, .int .i64 x.grace] 36 (w3.alloc (.cells #[.string ⟨#[120, 32, 121]⟩, .string ⟨#[42]⟩, .string ⟨#[118, 111, 108]⟩] 9))) := HX3.out.below hba HX3.out.lt
  have HZ4 : Hid (Blk (w.heap.size + 1) #[.string ⟨#[]⟩, .int .i64 0, .string ⟨#[]⟩, .int .i64 0, .int .i64 0, .int .i64 0, .int .i64 0] 36 (w3.alloc (.cells #[.string ⟨#[120, 32, 121]⟩, .string ⟨#[42]⟩, .string ⟨#[118, 111, 108]⟩] 9))) := HZ3.out.below hba HZ3.out.lt
  clear HR3 HB3 HX3 HZ3 hba
  go_wp2_with fail
  generalize w3.alloc (Obj.cells #[.string ⟨#[120, 32, 121]⟩, .string ⟨#[42]⟩, .string ⟨#[118, 111, 108]⟩] 9) = w4 at *
  generalize w3.heap.size = gl at *
  refine (pick_rd p (k0 + 1) 3 _ HR4.out (by omega) (by omega) (by omega)).mono ?_
  rintro e w5 ⟨v, rfl, hv, hr, hb, -⟩
  have HR5 : Hid (RdS p (k0 + 2) w5) := hr
  have HB5 : Hid (Bt p w.heap.size w w5) := HB4.out.trans (hb.mono HB4.out.size)
  have HX5 : Hid (Blk w.heap.size #[.string x.copy, .int .i64 x.version, .string x.hold, .int .i64 x.pull, .int .i64 x.start, .int .i64 x.dies, .int .i64 x.grace] 36 w5) := HX4.out.bt hb HX4.out.lt (by omega)
  have HZ5 : Hid (Blk (w.heap.size + 1) #[.string ⟨#[]⟩, .int .i64 0, .string ⟨#[]⟩, .int .i64 0, .int .i64 0, .int .i64 0, .int .i64 0] 36 w5) := HZ4.out.bt hb HZ4.out.lt (by omega)
  have HL5 : Hid (Blk gl #[.string ⟨#[120, 32, 121]⟩, .string ⟨#[42]⟩, .string ⟨#[118, 111, 108]⟩] 9 w5) := HL4.out.bt hb HL4.out.lt (by omega)
  clear HR4 HB4 HX4 HZ4 hr hb
  obtain ⟨d, hd, hds⟩ := strAt3 ⟨#[120, 32, 121]⟩ ⟨#[42]⟩ ⟨#[118, 111, 108]⟩ v hv (by decide) (by decide) (by decide)
  have kl : w5.cell? ⟨gl, v, none⟩ = some (.string d) := HL5.out.cell hd
  clear hd
  have kx : w5.cell? ⟨w.heap.size, 2, none⟩ = some (.string x.hold) := HX5.out.cell rfl
  have fx : w5.frozen? ⟨w.heap.size, 2, none⟩ = false := HX5.out.frozen _
  have HXE : Hid (Blk w.heap.size #[.string x.copy, .int .i64 x.version, .string d, .int .i64 x.pull, .int .i64 x.start, .int .i64 x.dies, .int .i64 x.grace] 36 (w5.setCell ⟨w.heap.size, 2, none⟩ (.string d))) := HX5.out.set 2 _
  have HZE : Hid (Blk (w.heap.size + 1) #[.string ⟨#[]⟩, .int .i64 0, .string ⟨#[]⟩, .int .i64 0, .int .i64 0, .int .i64 0, .int .i64 0] 36 (w5.setCell ⟨w.heap.size, 2, none⟩ (.string d))) := HZ5.out.other (a := ⟨w.heap.size, 2, none⟩) (show w.heap.size + 1 ≠ w.heap.size by omega) _
  have hbe : Below w.heap.size w5 (w5.setCell ⟨w.heap.size, 2, none⟩ (.string d)) := (Below.refl _ _).setCell (p := ⟨w.heap.size, 2, none⟩) (Nat.le_refl _) _
  have HTE := Hid.intro HZE.out.there
  obtain ⟨w9, HW9⟩ : ∃ w9, Hid (w9 = (w5.setCell ⟨w.heap.size, 2, none⟩ (.string d)).setCells (w.heap.size + 1) 0 [.string x.copy, .int .i64 x.version, .string d, .int .i64 x.pull, .int .i64 x.start, .int .i64 x.dies, .int .i64 x.grace]) := ⟨_, rfl⟩
  have HR9 : Hid (w9.rangeAt (w.heap.size + 1) 0 [.string x.copy, .int .i64 x.version, .string d, .int .i64 x.pull, .int .i64 x.start, .int .i64 x.dies, .int .i64 x.grace]) := by
   show World.rangeAt _ _ _ _
   rw [HW9.out]
   exact World.rangeAt_setCells_same _ _ _ _ HTE.out
  have hb9 : Below w.heap.size w5 w9 := by
   rw [HW9.out]
   exact below_setCells (Nat.le_succ _) _ _ _ hbe
  have HRd : Hid (RdS p (k0 + 2) w9) := HR5.out.below hb9 hpl
  have HBt : Hid (Bt p w.heap.size w w9) := HB5.out.trans (Bt.of_below hb9)
  clear hb9 hbe HR5 HB5 HZ5 HX5
  go_wp2_with (first | (refine wpList_load_mid rfl 36 _ rfl w.heap.size 0 rfl [.string x.copy, .int .i64 x.version, .string d, .int .i64 x.pull, .int .i64 x.start, .int .i64 x.dies, .int .i64 x.grace] _ HXE.out.rangeA Try.underlying36 rfl isz_Wnt ?_) | (refine wpList_store_to rfl 36 _ _ rfl (w.heap.size + 1) 0 #[.string x.copy, .int .i64 x.version, .string d, .int .i64 x.pull, .int .i64 x.start, .int .i64 x.dies, .int .i64 x.grace] rfl rfl HTE.out isz_Wnt (by simp [Value.oneCell']) w9 HW9.out ?_))
  exact bodyPost_ret (results_cell_mid rfl _ _ (w.heap.size + 1) [.string x.copy, .int .i64 x.version, .string d, .int .i64 x.pull, .int .i64 x.start, .int .i64 x.dies, .int .i64 x.grace] _ rfl HR9.out Try.underlying36 rfl isz_Wnt) rfl ⟨⟨x.copy, x.version, d, x.pull, x.start, x.dies, x.grace⟩, k0 + 2, rfl, z0, hds, by omega, HRd.out, HBt.out⟩
 ·have hba : Below w3.heap.size w3 (w3.alloc (.cells #[.int .i64 (-1), .int .i64 100, .int .i64 101] 3)) := (Below.refl _ _).alloc (Nat.le_refl _) _
  have HL4 : Hid (Blk w3.heap.size #[.int .i64 (-1), .int .i64 100, .int .i64 101] 3 (w3.alloc (.cells #[.int .i64 (-1), .int .i64 100, .int .i64 101] 3))) := Blk.alloc _ _ _
  have hgl : w.heap.size + 1 < w3.heap.size := HZ3.out.lt
  have HR4 : Hid (RdS p (k0 + 1) (w3.alloc (.cells #[.int .i64 (-1), .int .i64 100, .int .i64 101] 3))) := HR3.out.below hba HR3.out.lt
  have HB4 : Hid (Bt p w.heap.size w (w3.alloc (.cells #[.int .i64 (-1), .int .i64 100, .int .i64 101] 3))) := HB3.out.trans (Bt.of_below (hba.mono HB3.out.size))
  have HX4 : Hid (Blk w.heap.size #[.string x.copy, .int .i64 x.version, .string x.hold, .int .i64 x.pull, .int .i64 x.start, .int .i64 x.dies, .int .i64 x.grace] 36 (w3.alloc (.cells #[.int .i64 (-1), .int .i64 100, .int .i64 101] 3))) := HX3.out.below hba HX3.out.lt
  have HZ4 : Hid (Blk (w.heap.size + 1) #[.string ⟨#[]⟩, .int .i64 0, .string ⟨#[]⟩, .int .i64 0, .int .i64 0, .int .i64 0, .int .i64 0] 36 (w3.alloc (.cells #[.int .i64 (-1), .int .i64 100, .int .i64 101] 3))) := HZ3.out.below hba HZ3.out.lt
  clear HR3 HB3 HX3 HZ3 hba
  go_wp2_with fail
  generalize w3.alloc (Obj.cells #[.int .i64 (-1), .int .i64 100, .int .i64 101] 3) = w4 at *
  generalize w3.heap.size = gl at *
  refine (pick_rd p (k0 + 1) 3 _ HR4.out (by omega) (by omega) (by omega)).mono ?_
  rintro e w5 ⟨v, rfl, hv, hr, hb, -⟩
  have HR5 : Hid (RdS p (k0 + 2) w5) := hr
  have HB5 : Hid (Bt p w.heap.size w w5) := HB4.out.trans (hb.mono HB4.out.size)
  have HX5 : Hid (Blk w.heap.size #[.string x.copy, .int .i64 x.version, .string x.hold, .int .i64 x.pull, .int .i64 x.start, .int .i64 x.dies, .int .i64 x.grace] 36 w5) := HX4.out.bt hb HX4.out.lt (by omega)
  have HZ5 : Hid (Blk (w.heap.size + 1) #[.string ⟨#[]⟩, .int .i64 0, .string ⟨#[]⟩, .int .i64 0, .int .i64 0, .int .i64 0, .int .i64 0] 36 w5) := HZ4.out.bt hb HZ4.out.lt (by omega)
  have HL5 : Hid (Blk gl #[.int .i64 (-1), .int .i64 100, .int .i64 101] 3 w5) := HL4.out.bt hb HL4.out.lt (by omega)
  clear HR4 HB4 HX4 HZ4 hr hb
  obtain ⟨d, hd⟩ := intAt3 ((-1)) (100) (101) v hv
  have kl : w5.cell? ⟨gl, v, none⟩ = some (.int .i64 d) := HL5.out.cell hd
  clear hd
  have kx : w5.cell? ⟨w.heap.size, 3, none⟩ = some (.int .i64 x.pull) := HX5.out.cell rfl
  have fx : w5.frozen? ⟨w.heap.size, 3, none⟩ = false := HX5.out.frozen _
  have HXE : Hid (Blk w.heap.size #[.string x.copy, .int .i64 x.version, .string x.hold, .int .i64 d, .int .i64 x.start, .int .i64 x.dies, .int .i64 x.grace] 36 (w5.setCell ⟨w.heap.size, 3, none⟩ (.int .i64 d))) := HX5.out.set 3 _
  have HZE : Hid (Blk (w.heap.size + 1) #[.string ⟨#[]⟩, .int .i64 0, .string ⟨#[]⟩, .int .i64 0, .int .i64 0, .int .i64 0, .int .i64 0] 36 (w5.setCell ⟨w.heap.size, 3, none⟩ (.int .i64 d))) := HZ5.out.other (a := ⟨w.heap.size, 3, none⟩) (show w.heap.size + 1 ≠ w.heap.size by omega) _
  have hbe : Below w.heap.size w5 (w5.setCell ⟨w.heap.size, 3, none⟩ (.int .i64 d)) := (Below.refl _ _).setCell (p := ⟨w.heap.size, 3, none⟩) (Nat.le_refl _) _
  have HTE := Hid.intro HZE.out.there
  obtain ⟨w9, HW9⟩ : ∃ w9, Hid (w9 = (w5.setCell ⟨w.heap.size, 3, none⟩ (.int .i64 d)).setCells (w.heap.size + 1) 0 [.string x.copy, .int .i64 x.version, .string x.hold, .int .i64 d, .int .i64 x.start, .int .i64 x.dies, .int .i64 x.grace]) := ⟨_, rfl⟩
  have HR9 : Hid (w9.rangeAt (w.heap.size + 1) 0 [.string x.copy, .int .i64 x.version, .string x.hold, .int .i64 d, .int .i64 x.start, .int .i64 x.dies, .int .i64 x.grace]) := by
   show World.rangeAt _ _ _ _
   rw [HW9.out]
   exact World.rangeAt_setCells_same _ _ _ _ HTE.out
  have hb9 : Below w.heap.size w5 w9 := by
   rw [HW9.out]
   exact below_setCells (Nat.le_succ _) _ _ _ hbe
  have HRd : Hid (RdS p (k0 + 2) w9) := HR5.out.below hb9 hpl
  have HBt : Hid (Bt p w.heap.size w w9) := HB5.out.trans (Bt.of_below hb9)
  clear hb9 hbe HR5 HB5 HZ5 HX5
  go_wp2_with (first | (refine wpList_load_mid rfl 36 _ rfl w.heap.size 0 rfl [.string x.copy, .int .i64 x.version, .string x.hold, .int .i64 d, .int .i64 x.start, .int .i64 x.dies, .int .i64 x.grace] _ HXE.out.rangeA Try.underlying36 rfl isz_Wnt ?_) | (refine wpList_store_to rfl 36 _ _ rfl (w.heap.size + 1) 0 #[.string x.copy, .int .i64 x.version, .string x.hold, .int .i64 d, .int .i64 x.start, .int .i64 x.dies, .int .i64 x.grace] rfl rfl HTE.out isz_Wnt (by simp [Value.oneCell']) w9 HW9.out ?_))
  exact bodyPost_ret (results_cell_mid rfl _ _ (w.heap.size + 1) [.string x.copy, .int .i64 x.version, .string x.hold, .int .i64 d, .int .i64 x.start, .int .i64 x.dies, .int .i64 x.grace] _ rfl HR9.out Try.underlying36 rfl isz_Wnt) rfl ⟨⟨x.copy, x.version, x.hold, d, x.start, x.dies, x.grace⟩, k0 + 2, rfl, z0, z2, by omega, HRd.out, HBt.out⟩
 ·have hba : Below w3.heap.size w3 (w3.alloc (.cells #[.int .i64 (-1), .int .i64 100, .int .i64 101] 3)) := (Below.refl _ _).alloc (Nat.le_refl _) _
  have HL4 : Hid (Blk w3.heap.size #[.int .i64 (-1), .int .i64 100, .int .i64 101] 3 (w3.alloc (.cells #[.int .i64 (-1), .int .i64 100, .int .i64 101] 3))) := Blk.alloc _ _ _
  have hgl : w.heap.size + 1 < w3.heap.size := HZ3.out.lt
  have HR4 : Hid (RdS p (k0 + 1) (w3.alloc (.cells #[.int .i64 (-1), .int .i64 100, .int .i64 101] 3))) := HR3.out.below hba HR3.out.lt
  have HB4 : Hid (Bt p w.heap.size w (w3.alloc (.cells #[.int .i64 (-1), .int .i64 100, .int .i64 101] 3))) := HB3.out.trans (Bt.of_below (hba.mono HB3.out.size))
  have HX4 : Hid (Blk w.heap.size #[.string x.copy, .int .i64 x.version, .string x.hold, .int .i64 x.pull, .int .i64 x.start, .int .i64 x.dies, .int .i64 x.grace] 36 (w3.alloc (.cells #[.int .i64 (-1), .int .i64 100, .int .i64 101] 3))) := HX3.out.below hba HX3.out.lt
  have HZ4 : Hid (Blk (w.heap.size + 1) #[.string ⟨#[]⟩, .int .i64 0, .string ⟨#[]⟩, .int .i64 0, .int .i64 0, .int .i64 0, .int .i64 0] 36 (w3.alloc (.cells #[.int .i64 (-1), .int .i64 100, .int .i64 101] 3))) := HZ3.out.below hba HZ3.out.lt
  clear HR3 HB3 HX3 HZ3 hba
  go_wp2_with fail
  generalize w3.alloc (Obj.cells #[.int .i64 (-1), .int .i64 100, .int .i64 101] 3) = w4 at *
  generalize w3.heap.size = gl at *
  refine (pick_rd p (k0 + 1) 3 _ HR4.out (by omega) (by omega) (by omega)).mono ?_
  rintro e w5 ⟨v, rfl, hv, hr, hb, -⟩
  have HR5 : Hid (RdS p (k0 + 2) w5) := hr
  have HB5 : Hid (Bt p w.heap.size w w5) := HB4.out.trans (hb.mono HB4.out.size)
  have HX5 : Hid (Blk w.heap.size #[.string x.copy, .int .i64 x.version, .string x.hold, .int .i64 x.pull, .int .i64 x.start, .int .i64 x.dies, .int .i64 x.grace] 36 w5) := HX4.out.bt hb HX4.out.lt (by omega)
  have HZ5 : Hid (Blk (w.heap.size + 1) #[.string ⟨#[]⟩, .int .i64 0, .string ⟨#[]⟩, .int .i64 0, .int .i64 0, .int .i64 0, .int .i64 0] 36 w5) := HZ4.out.bt hb HZ4.out.lt (by omega)
  have HL5 : Hid (Blk gl #[.int .i64 (-1), .int .i64 100, .int .i64 101] 3 w5) := HL4.out.bt hb HL4.out.lt (by omega)
  clear HR4 HB4 HX4 HZ4 hr hb
  obtain ⟨d, hd⟩ := intAt3 ((-1)) (100) (101) v hv
  have kl : w5.cell? ⟨gl, v, none⟩ = some (.int .i64 d) := HL5.out.cell hd
  clear hd
  have kx : w5.cell? ⟨w.heap.size, 4, none⟩ = some (.int .i64 x.start) := HX5.out.cell rfl
  have fx : w5.frozen? ⟨w.heap.size, 4, none⟩ = false := HX5.out.frozen _
  have HXE : Hid (Blk w.heap.size #[.string x.copy, .int .i64 x.version, .string x.hold, .int .i64 x.pull, .int .i64 d, .int .i64 x.dies, .int .i64 x.grace] 36 (w5.setCell ⟨w.heap.size, 4, none⟩ (.int .i64 d))) := HX5.out.set 4 _
  have HZE : Hid (Blk (w.heap.size + 1) #[.string ⟨#[]⟩, .int .i64 0, .string ⟨#[]⟩, .int .i64 0, .int .i64 0, .int .i64 0, .int .i64 0] 36 (w5.setCell ⟨w.heap.size, 4, none⟩ (.int .i64 d))) := HZ5.out.other (a := ⟨w.heap.size, 4, none⟩) (show w.heap.size + 1 ≠ w.heap.size by omega) _
  have hbe : Below w.heap.size w5 (w5.setCell ⟨w.heap.size, 4, none⟩ (.int .i64 d)) := (Below.refl _ _).setCell (p := ⟨w.heap.size, 4, none⟩) (Nat.le_refl _) _
  have HTE := Hid.intro HZE.out.there
  obtain ⟨w9, HW9⟩ : ∃ w9, Hid (w9 = (w5.setCell ⟨w.heap.size, 4, none⟩ (.int .i64 d)).setCells (w.heap.size + 1) 0 [.string x.copy, .int .i64 x.version, .string x.hold, .int .i64 x.pull, .int .i64 d, .int .i64 x.dies, .int .i64 x.grace]) := ⟨_, rfl⟩
  have HR9 : Hid (w9.rangeAt (w.heap.size + 1) 0 [.string x.copy, .int .i64 x.version, .string x.hold, .int .i64 x.pull, .int .i64 d, .int .i64 x.dies, .int .i64 x.grace]) := by
   show World.rangeAt _ _ _ _
   rw [HW9.out]
   exact World.rangeAt_setCells_same _ _ _ _ HTE.out
  have hb9 : Below w.heap.size w5 w9 := by
   rw [HW9.out]
   exact below_setCells (Nat.le_succ _) _ _ _ hbe
  have HRd : Hid (RdS p (k0 + 2) w9) := HR5.out.below hb9 hpl
  have HBt : Hid (Bt p w.heap.size w w9) := HB5.out.trans (Bt.of_below hb9)
  clear hb9 hbe HR5 HB5 HZ5 HX5
  go_wp2_with (first | (refine wpList_load_mid rfl 36 _ rfl w.heap.size 0 rfl [.string x.copy, .int .i64 x.version, .string x.hold, .int .i64 x.pull, .int .i64 d, .int .i64 x.dies, .int .i64 x.grace] _ HXE.out.rangeA Try.underlying36 rfl isz_Wnt ?_) | (refine wpList_store_to rfl 36 _ _ rfl (w.heap.size + 1) 0 #[.string x.copy, .int .i64 x.version, .string x.hold, .int .i64 x.pull, .int .i64 d, .int .i64 x.dies, .int .i64 x.grace] rfl rfl HTE.out isz_Wnt (by simp [Value.oneCell']) w9 HW9.out ?_))
  exact bodyPost_ret (results_cell_mid rfl _ _ (w.heap.size + 1) [.string x.copy, .int .i64 x.version, .string x.hold, .int .i64 x.pull, .int .i64 d, .int .i64 x.dies, .int .i64 x.grace] _ rfl HR9.out Try.underlying36 rfl isz_Wnt) rfl ⟨⟨x.copy, x.version, x.hold, x.pull, d, x.dies, x.grace⟩, k0 + 2, rfl, z0, z2, by omega, HRd.out, HBt.out⟩
 ·have hba : Below w3.heap.size w3 (w3.alloc (.cells #[.int .i64 (-1), .int .i64 100, .int .i64 101] 3)) := (Below.refl _ _).alloc (Nat.le_refl _) _
  have HL4 : Hid (Blk w3.heap.size #[.int .i64 (-1), .int .i64 100, .int .i64 101] 3 (w3.alloc (.cells #[.int .i64 (-1), .int .i64 100, .int .i64 101] 3))) := Blk.alloc _ _ _
  have hgl : w.heap.size + 1 < w3.heap.size := HZ3.out.lt
  have HR4 : Hid (RdS p (k0 + 1) (w3.alloc (.cells #[.int .i64 (-1), .int .i64 100, .int .i64 101] 3))) := HR3.out.below hba HR3.out.lt
  have HB4 : Hid (Bt p w.heap.size w (w3.alloc (.cells #[.int .i64 (-1), .int .i64 100, .int .i64 101] 3))) := HB3.out.trans (Bt.of_below (hba.mono HB3.out.size))
  have HX4 : Hid (Blk w.heap.size #[.string x.copy, .int .i64 x.version, .string x.hold, .int .i64 x.pull, .int .i64 x.start, .int .i64 x.dies, .int .i64 x.grace] 36 (w3.alloc (.cells #[.int .i64 (-1), .int .i64 100, .int .i64 101] 3))) := HX3.out.below hba HX3.out.lt
  have HZ4 : Hid (Blk (w.heap.size + 1) #[.string ⟨#[]⟩, .int .i64 0, .string ⟨#[]⟩, .int .i64 0, .int .i64 0, .int .i64 0, .int .i64 0] 36 (w3.alloc (.cells #[.int .i64 (-1), .int .i64 100, .int .i64 101] 3))) := HZ3.out.below hba HZ3.out.lt
  clear HR3 HB3 HX3 HZ3 hba
  go_wp2_with fail
  generalize w3.alloc (Obj.cells #[.int .i64 (-1), .int .i64 100, .int .i64 101] 3) = w4 at *
  generalize w3.heap.size = gl at *
  refine (pick_rd p (k0 + 1) 3 _ HR4.out (by omega) (by omega) (by omega)).mono ?_
  rintro e w5 ⟨v, rfl, hv, hr, hb, -⟩
  have HR5 : Hid (RdS p (k0 + 2) w5) := hr
  have HB5 : Hid (Bt p w.heap.size w w5) := HB4.out.trans (hb.mono HB4.out.size)
  have HX5 : Hid (Blk w.heap.size #[.string x.copy, .int .i64 x.version, .string x.hold, .int .i64 x.pull, .int .i64 x.start, .int .i64 x.dies, .int .i64 x.grace] 36 w5) := HX4.out.bt hb HX4.out.lt (by omega)
  have HZ5 : Hid (Blk (w.heap.size + 1) #[.string ⟨#[]⟩, .int .i64 0, .string ⟨#[]⟩, .int .i64 0, .int .i64 0, .int .i64 0, .int .i64 0] 36 w5) := HZ4.out.bt hb HZ4.out.lt (by omega)
  have HL5 : Hid (Blk gl #[.int .i64 (-1), .int .i64 100, .int .i64 101] 3 w5) := HL4.out.bt hb HL4.out.lt (by omega)
  clear HR4 HB4 HX4 HZ4 hr hb
  obtain ⟨d, hd⟩ := intAt3 ((-1)) (100) (101) v hv
  have kl : w5.cell? ⟨gl, v, none⟩ = some (.int .i64 d) := HL5.out.cell hd
  clear hd
  have kx : w5.cell? ⟨w.heap.size, 5, none⟩ = some (.int .i64 x.dies) := HX5.out.cell rfl
  have fx : w5.frozen? ⟨w.heap.size, 5, none⟩ = false := HX5.out.frozen _
  have HXE : Hid (Blk w.heap.size #[.string x.copy, .int .i64 x.version, .string x.hold, .int .i64 x.pull, .int .i64 x.start, .int .i64 d, .int .i64 x.grace] 36 (w5.setCell ⟨w.heap.size, 5, none⟩ (.int .i64 d))) := HX5.out.set 5 _
  have HZE : Hid (Blk (w.heap.size + 1) #[.string ⟨#[]⟩, .int .i64 0, .string ⟨#[]⟩, .int .i64 0, .int .i64 0, .int .i64 0, .int .i64 0] 36 (w5.setCell ⟨w.heap.size, 5, none⟩ (.int .i64 d))) := HZ5.out.other (a := ⟨w.heap.size, 5, none⟩) (show w.heap.size + 1 ≠ w.heap.size by omega) _
  have hbe : Below w.heap.size w5 (w5.setCell ⟨w.heap.size, 5, none⟩ (.int .i64 d)) := (Below.refl _ _).setCell (p := ⟨w.heap.size, 5, none⟩) (Nat.le_refl _) _
  have HTE := Hid.intro HZE.out.there
  obtain ⟨w9, HW9⟩ : ∃ w9, Hid (w9 = (w5.setCell ⟨w.heap.size, 5, none⟩ (.int .i64 d)).setCells (w.heap.size + 1) 0 [.string x.copy, .int .i64 x.version, .string x.hold, .int .i64 x.pull, .int .i64 x.start, .int .i64 d, .int .i64 x.grace]) := ⟨_, rfl⟩
  have HR9 : Hid (w9.rangeAt (w.heap.size + 1) 0 [.string x.copy, .int .i64 x.version, .string x.hold, .int .i64 x.pull, .int .i64 x.start, .int .i64 d, .int .i64 x.grace]) := by
   show World.rangeAt _ _ _ _
   rw [HW9.out]
   exact World.rangeAt_setCells_same _ _ _ _ HTE.out
  have hb9 : Below w.heap.size w5 w9 := by
   rw [HW9.out]
   exact below_setCells (Nat.le_succ _) _ _ _ hbe
  have HRd : Hid (RdS p (k0 + 2) w9) := HR5.out.below hb9 hpl
  have HBt : Hid (Bt p w.heap.size w w9) := HB5.out.trans (Bt.of_below hb9)
  clear hb9 hbe HR5 HB5 HZ5 HX5
  go_wp2_with (first | (refine wpList_load_mid rfl 36 _ rfl w.heap.size 0 rfl [.string x.copy, .int .i64 x.version, .string x.hold, .int .i64 x.pull, .int .i64 x.start, .int .i64 d, .int .i64 x.grace] _ HXE.out.rangeA Try.underlying36 rfl isz_Wnt ?_) | (refine wpList_store_to rfl 36 _ _ rfl (w.heap.size + 1) 0 #[.string x.copy, .int .i64 x.version, .string x.hold, .int .i64 x.pull, .int .i64 x.start, .int .i64 d, .int .i64 x.grace] rfl rfl HTE.out isz_Wnt (by simp [Value.oneCell']) w9 HW9.out ?_))
  exact bodyPost_ret (results_cell_mid rfl _ _ (w.heap.size + 1) [.string x.copy, .int .i64 x.version, .string x.hold, .int .i64 x.pull, .int .i64 x.start, .int .i64 d, .int .i64 x.grace] _ rfl HR9.out Try.underlying36 rfl isz_Wnt) rfl ⟨⟨x.copy, x.version, x.hold, x.pull, x.start, d, x.grace⟩, k0 + 2, rfl, z0, z2, by omega, HRd.out, HBt.out⟩
 ·have hba : Below w3.heap.size w3 (w3.alloc (.cells #[.int .i64 (-1), .int .i64 100, .int .i64 101] 3)) := (Below.refl _ _).alloc (Nat.le_refl _) _
  have HL4 : Hid (Blk w3.heap.size #[.int .i64 (-1), .int .i64 100, .int .i64 101] 3 (w3.alloc (.cells #[.int .i64 (-1), .int .i64 100, .int .i64 101] 3))) := Blk.alloc _ _ _
  have hgl : w.heap.size + 1 < w3.heap.size := HZ3.out.lt
  have HR4 : Hid (RdS p (k0 + 1) (w3.alloc (.cells #[.int .i64 (-1), .int .i64 100, .int .i64 101] 3))) := HR3.out.below hba HR3.out.lt
  have HB4 : Hid (Bt p w.heap.size w (w3.alloc (.cells #[.int .i64 (-1), .int .i64 100, .int .i64 101] 3))) := HB3.out.trans (Bt.of_below (hba.mono HB3.out.size))
  have HX4 : Hid (Blk w.heap.size #[.string x.copy, .int .i64 x.version, .string x.hold, .int .i64 x.pull, .int .i64 x.start, .int .i64 x.dies, .int .i64 x.grace] 36 (w3.alloc (.cells #[.int .i64 (-1), .int .i64 100, .int .i64 101] 3))) := HX3.out.below hba HX3.out.lt
  have HZ4 : Hid (Blk (w.heap.size + 1) #[.string ⟨#[]⟩, .int .i64 0, .string ⟨#[]⟩, .int .i64 0, .int .i64 0, .int .i64 0, .int .i64 0] 36 (w3.alloc (.cells #[.int .i64 (-1), .int .i64 100, .int .i64 101] 3))) := HZ3.out.below hba HZ3.out.lt
  clear HR3 HB3 HX3 HZ3 hba
  go_wp2_with fail
  generalize w3.alloc (Obj.cells #[.int .i64 (-1), .int .i64 100, .int .i64 101] 3) = w4 at *
  generalize w3.heap.size = gl at *
  refine (pick_rd p (k0 + 1) 3 _ HR4.out (by omega) (by omega) (by omega)).mono ?_
  rintro e w5 ⟨v, rfl, hv, hr, hb, -⟩
  have HR5 : Hid (RdS p (k0 + 2) w5) := hr
  have HB5 : Hid (Bt p w.heap.size w w5) := HB4.out.trans (hb.mono HB4.out.size)
  have HX5 : Hid (Blk w.heap.size #[.string x.copy, .int .i64 x.version, .string x.hold, .int .i64 x.pull, .int .i64 x.start, .int .i64 x.dies, .int .i64 x.grace] 36 w5) := HX4.out.bt hb HX4.out.lt (by omega)
  have HZ5 : Hid (Blk (w.heap.size + 1) #[.string ⟨#[]⟩, .int .i64 0, .string ⟨#[]⟩, .int .i64 0, .int .i64 0, .int .i64 0, .int .i64 0] 36 w5) := HZ4.out.bt hb HZ4.out.lt (by omega)
  have HL5 : Hid (Blk gl #[.int .i64 (-1), .int .i64 100, .int .i64 101] 3 w5) := HL4.out.bt hb HL4.out.lt (by omega)
  clear HR4 HB4 HX4 HZ4 hr hb
  obtain ⟨d, hd⟩ := intAt3 ((-1)) (100) (101) v hv
  have kl : w5.cell? ⟨gl, v, none⟩ = some (.int .i64 d) := HL5.out.cell hd
  clear hd
  have kx : w5.cell? ⟨w.heap.size, 6, none⟩ = some (.int .i64 x.grace) := HX5.out.cell rfl
  have fx : w5.frozen? ⟨w.heap.size, 6, none⟩ = false := HX5.out.frozen _
  have HXE : Hid (Blk w.heap.size #[.string x.copy, .int .i64 x.version, .string x.hold, .int .i64 x.pull, .int .i64 x.start, .int .i64 x.dies, .int .i64 d] 36 (w5.setCell ⟨w.heap.size, 6, none⟩ (.int .i64 d))) := HX5.out.set 6 _
  have HZE : Hid (Blk (w.heap.size + 1) #[.string ⟨#[]⟩, .int .i64 0, .string ⟨#[]⟩, .int .i64 0, .int .i64 0, .int .i64 0, .int .i64 0] 36 (w5.setCell ⟨w.heap.size, 6, none⟩ (.int .i64 d))) := HZ5.out.other (a := ⟨w.heap.size, 6, none⟩) (show w.heap.size + 1 ≠ w.heap.size by omega) _
  have hbe : Below w.heap.size w5 (w5.setCell ⟨w.heap.size, 6, none⟩ (.int .i64 d)) := (Below.refl _ _).setCell (p := ⟨w.heap.size, 6, none⟩) (Nat.le_refl _) _
  have HTE := Hid.intro HZE.out.there
  obtain ⟨w9, HW9⟩ : ∃ w9, Hid (w9 = (w5.setCell ⟨w.heap.size, 6, none⟩ (.int .i64 d)).setCells (w.heap.size + 1) 0 [.string x.copy, .int .i64 x.version, .string x.hold, .int .i64 x.pull, .int .i64 x.start, .int .i64 x.dies, .int .i64 d]) := ⟨_, rfl⟩
  have HR9 : Hid (w9.rangeAt (w.heap.size + 1) 0 [.string x.copy, .int .i64 x.version, .string x.hold, .int .i64 x.pull, .int .i64 x.start, .int .i64 x.dies, .int .i64 d]) := by
   show World.rangeAt _ _ _ _
   rw [HW9.out]
   exact World.rangeAt_setCells_same _ _ _ _ HTE.out
  have hb9 : Below w.heap.size w5 w9 := by
   rw [HW9.out]
   exact below_setCells (Nat.le_succ _) _ _ _ hbe
  have HRd : Hid (RdS p (k0 + 2) w9) := HR5.out.below hb9 hpl
  have HBt : Hid (Bt p w.heap.size w w9) := HB5.out.trans (Bt.of_below hb9)
  clear hb9 hbe HR5 HB5 HZ5 HX5
  go_wp2_with (first | (refine wpList_load_mid rfl 36 _ rfl w.heap.size 0 rfl [.string x.copy, .int .i64 x.version, .string x.hold, .int .i64 x.pull, .int .i64 x.start, .int .i64 x.dies, .int .i64 d] _ HXE.out.rangeA Try.underlying36 rfl isz_Wnt ?_) | (refine wpList_store_to rfl 36 _ _ rfl (w.heap.size + 1) 0 #[.string x.copy, .int .i64 x.version, .string x.hold, .int .i64 x.pull, .int .i64 x.start, .int .i64 x.dies, .int .i64 d] rfl rfl HTE.out isz_Wnt (by simp [Value.oneCell']) w9 HW9.out ?_))
  exact bodyPost_ret (results_cell_mid rfl _ _ (w.heap.size + 1) [.string x.copy, .int .i64 x.version, .string x.hold, .int .i64 x.pull, .int .i64 x.start, .int .i64 x.dies, .int .i64 d] _ rfl HR9.out Try.underlying36 rfl isz_Wnt) rfl ⟨⟨x.copy, x.version, x.hold, x.pull, x.start, x.dies, d⟩, k0 + 2, rfl, z0, z2, by omega, HRd.out, HBt.out⟩

end Go.Proofs.Ytnifmiacobfplaa
