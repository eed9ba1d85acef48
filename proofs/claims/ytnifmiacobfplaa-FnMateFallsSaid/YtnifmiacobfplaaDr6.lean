import Derived.Test.YtnifmiacobfplaaDr5
import Derived.Test.YtnifmiacobfplaaNw
namespace Go.Proofs.Ytnifmiacobfplaa
open Go.RowKit

theorem intAt5 (a b c d e : Int) (v : Nat) (h : (v : Int) < 5) : ∃ r : Int, (#[.int .i64 a, .int .i64 b, .int .i64 c, .int .i64 d, .int .i64 e] : Array Value)[v]? = some (.int .i64 r) := by
 rcases (by omega : v = 0 ∨ v = 1 ∨ v = 2 ∨ v = 3 ∨ v = 4) with rfl | rfl | rfl | rfl | rfl <;> exact ⟨_, rfl⟩

set_option maxHeartbeats 8000000 in
set_option maxRecDepth 100000 in
theorem spoilRun_any (p k0 : Nat) (x : Rn) (w : World) (hR : RdS p k0 w) (hK0 : k0 ≤ 700000) (z0 : x.want.copy.size ≤ 100) (z2 : x.want.hold.size ≤ 100) :
  Calls Try.prog 59 #[.pointer (some ⟨p, 0, none⟩), .agg #[.string x.want.copy, .int .i64 x.want.version, .string x.want.hold, .int .i64 x.want.pull, .int .i64 x.want.start, .int .i64 x.want.dies, .int .i64 x.want.grace, .int .i64 x.state, .int .i64 x.left, .int .i64 x.falls, .int .i64 x.until_]] w fun e w' => ∃ (y : Rn) (k : Nat), e = .returned (.agg #[.string y.want.copy, .int .i64 y.want.version, .string y.want.hold, .int .i64 y.want.pull, .int .i64 y.want.start, .int .i64 y.want.dies, .int .i64 y.want.grace, .int .i64 y.state, .int .i64 y.left, .int .i64 y.falls, .int .i64 y.until_]) ∧ y.want.copy.size ≤ 100 ∧ y.want.hold.size ≤ 100 ∧ k ≤ k0 + 20 ∧ RdS p k w' ∧ Bt p w.heap.size w w' := by
 have HXa : Blk w.heap.size #[.string x.want.copy, .int .i64 x.want.version, .string x.want.hold, .int .i64 x.want.pull, .int .i64 x.want.start, .int .i64 x.want.dies, .int .i64 x.want.grace, .int .i64 x.state, .int .i64 x.left, .int .i64 x.falls, .int .i64 x.until_] 38 (w.alloc (.cells #[.string x.want.copy, .int .i64 x.want.version, .string x.want.hold, .int .i64 x.want.pull, .int .i64 x.want.start, .int .i64 x.want.dies, .int .i64 x.want.grace, .int .i64 x.state, .int .i64 x.left, .int .i64 x.falls, .int .i64 x.until_] 38)) := Blk.alloc _ _ _
 have HZ2 : Hid (Blk (w.heap.size + 1) #[.string ⟨#[]⟩, .int .i64 0, .string ⟨#[]⟩, .int .i64 0, .int .i64 0, .int .i64 0, .int .i64 0, .int .i64 0, .int .i64 0, .int .i64 0, .int .i64 0] 38 ((w.alloc (.cells #[.string x.want.copy, .int .i64 x.want.version, .string x.want.hold, .int .i64 x.want.pull, .int .i64 x.want.start, .int .i64 x.want.dies, .int .i64 x.want.grace, .int .i64 x.state, .int .i64 x.left, .int .i64 x.falls, .int .i64 x.until_] 38)).alloc (.cells #[.string ⟨#[]⟩, .int .i64 0, .string ⟨#[]⟩, .int .i64 0, .int .i64 0, .int .i64 0, .int .i64 0, .int .i64 0, .int .i64 0, .int .i64 0, .int .i64 0] 38))) := by
  have := Blk.alloc (w.alloc (.cells #[.string x.want.copy, .int .i64 x.want.version, .string x.want.hold, .int .i64 x.want.pull, .int .i64 x.want.start, .int .i64 x.want.dies, .int .i64 x.want.grace, .int .i64 x.state, .int .i64 x.left, .int .i64 x.falls, .int .i64 x.until_] 38)) #[.string ⟨#[]⟩, .int .i64 0, .string ⟨#[]⟩, .int .i64 0, .int .i64 0, .int .i64 0, .int .i64 0, .int .i64 0, .int .i64 0, .int .i64 0, .int .i64 0] 38
  show Blk _ _ _ _
  simpa using this
 have HX2 : Hid (Blk w.heap.size #[.string x.want.copy, .int .i64 x.want.version, .string x.want.hold, .int .i64 x.want.pull, .int .i64 x.want.start, .int .i64 x.want.dies, .int .i64 x.want.grace, .int .i64 x.state, .int .i64 x.left, .int .i64 x.falls, .int .i64 x.until_] 38 ((w.alloc (.cells #[.string x.want.copy, .int .i64 x.want.version, .string x.want.hold, .int .i64 x.want.pull, .int .i64 x.want.start, .int .i64 x.want.dies, .int .i64 x.want.grace, .int .i64 x.state, .int .i64 x.left, .int .i64 x.falls, .int .i64 x.until_] 38)).alloc (.cells #[.string ⟨#[]⟩, .int .i64 0, .string ⟨#[]⟩, .int .i64 0, .int .i64 0, .int .i64 0, .int .i64 0, .int .i64 0, .int .i64 0, .int .i64 0, .int .i64 0] 38))) := HXa.below ((Below.refl _ _).alloc (Nat.le_refl _) _) HXa.lt
 have hba : Below w.heap.size w ((w.alloc (.cells #[.string x.want.copy, .int .i64 x.want.version, .string x.want.hold, .int .i64 x.want.pull, .int .i64 x.want.start, .int .i64 x.want.dies, .int .i64 x.want.grace, .int .i64 x.state, .int .i64 x.left, .int .i64 x.falls, .int .i64 x.until_] 38)).alloc (.cells #[.string ⟨#[]⟩, .int .i64 0, .string ⟨#[]⟩, .int .i64 0, .int .i64 0, .int .i64 0, .int .i64 0, .int .i64 0, .int .i64 0, .int .i64 0, .int .i64 0] 38)) := by go_grown
 have HR2 : Hid (RdS p k0 ((w.alloc (.cells #[.string x.want.copy, .int .i64 x.want.version, .string x.want.hold, .int .i64 x.want.pull, .int .i64 x.want.start, .int .i64 x.want.dies, .int .i64 x.want.grace, .int .i64 x.state, .int .i64 x.left, .int .i64 x.falls, .int .i64 x.until_] 38)).alloc (.cells #[.string ⟨#[]⟩, .int .i64 0, .string ⟨#[]⟩, .int .i64 0, .int .i64 0, .int .i64 0, .int .i64 0, .int .i64 0, .int .i64 0, .int .i64 0, .int .i64 0] 38))) := hR.below hba hR.lt
 have hpl := hR.lt
 have HB2 : Hid (Bt p w.heap.size w ((w.alloc (.cells #[.string x.want.copy, .int .i64 x.want.version, .string x.want.hold, .int .i64 x.want.pull, .int .i64 x.want.start, .int .i64 x.want.dies, .int .i64 x.want.grace, .int .i64 x.state, .int .i64 x.left, .int .i64 x.falls, .int .i64 x.until_] 38)).alloc (.cells #[.string ⟨#[]⟩, .int .i64 0, .string ⟨#[]⟩, .int .i64 0, .int .i64 0, .int .i64 0, .int .i64 0, .int .i64 0, .int .i64 0, .int .i64 0, .int .i64 0] 38))) := Bt.of_below hba
 clear hR hba HXa
 go_enter Try.func59, Try.ntmps59
 go_wp2_with fail
 generalize (w.alloc (Obj.cells #[.string x.want.copy, .int .i64 x.want.version, .string x.want.hold, .int .i64 x.want.pull, .int .i64 x.want.start, .int .i64 x.want.dies, .int .i64 x.want.grace, .int .i64 x.state, .int .i64 x.left, .int .i64 x.falls, .int .i64 x.until_] 38)).alloc (Obj.cells #[.string ⟨#[]⟩, .int .i64 0, .string ⟨#[]⟩, .int .i64 0, .int .i64 0, .int .i64 0, .int .i64 0, .int .i64 0, .int .i64 0, .int .i64 0, .int .i64 0] 38) = w2 at *
 refine (pick_rd p (k0 + 0) 6 _ HR2.out (by omega) (by omega) (by omega)).mono ?_
 rintro e w3 ⟨s7, rfl, hs7, hr, hb, -⟩
 have HR3 : Hid (RdS p (k0 + 1) w3) := hr
 have HB3 : Hid (Bt p w.heap.size w w3) := HB2.out.trans (hb.mono HB2.out.size)
 have HX3 : Hid (Blk w.heap.size #[.string x.want.copy, .int .i64 x.want.version, .string x.want.hold, .int .i64 x.want.pull, .int .i64 x.want.start, .int .i64 x.want.dies, .int .i64 x.want.grace, .int .i64 x.state, .int .i64 x.left, .int .i64 x.falls, .int .i64 x.until_] 38 w3) := HX2.out.bt hb HX2.out.lt (by omega)
 have HZ3 : Hid (Blk (w.heap.size + 1) #[.string ⟨#[]⟩, .int .i64 0, .string ⟨#[]⟩, .int .i64 0, .int .i64 0, .int .i64 0, .int .i64 0, .int .i64 0, .int .i64 0, .int .i64 0, .int .i64 0] 38 w3) := HZ2.out.bt hb HZ2.out.lt (by omega)
 clear HR2 HB2 HX2 HZ2 hr hb
 rcases (by omega : s7 = 0 ∨ s7 = 1 ∨ s7 = 2 ∨ s7 = 3 ∨ s7 = 4 ∨ s7 = 5) with rfl | rfl | rfl | rfl | rfl | rfl
 ·go_wp2_with (refine wpList_load_mid rfl 36 _ rfl w.heap.size 0 rfl [.string x.want.copy, .int .i64 x.want.version, .string x.want.hold, .int .i64 x.want.pull, .int .i64 x.want.start, .int .i64 x.want.dies, .int .i64 x.want.grace] _ (rg7 HX3.out.rangeA) Try.underlying36 rfl isz_Wnt ?_)
  refine (spoilWant_any p (k0 + 1) x.want _ HR3.out (by omega) z0 z2).mono ?_
  rintro e w4 ⟨y, k, rfl, y0, y2, hk, hr, hb⟩
  have HB4 : Hid (Bt p w.heap.size w w4) := HB3.out.trans (hb.mono HB3.out.size)
  have HX4 : Hid (Blk w.heap.size #[.string x.want.copy, .int .i64 x.want.version, .string x.want.hold, .int .i64 x.want.pull, .int .i64 x.want.start, .int .i64 x.want.dies, .int .i64 x.want.grace, .int .i64 x.state, .int .i64 x.left, .int .i64 x.falls, .int .i64 x.until_] 38 w4) := HX3.out.bt hb HX3.out.lt (by omega)
  have HZ4 : Hid (Blk (w.heap.size + 1) #[.string ⟨#[]⟩, .int .i64 0, .string ⟨#[]⟩, .int .i64 0, .int .i64 0, .int .i64 0, .int .i64 0, .int .i64 0, .int .i64 0, .int .i64 0, .int .i64 0] 38 w4) := HZ3.out.bt hb HZ3.out.lt (by omega)
  have HR4 := Hid.intro hr
  clear HR3 HB3 HX3 HZ3 hr hb
  obtain ⟨w5, HW5⟩ : ∃ w5, Hid (w5 = w4.setCells w.heap.size 0 [.string y.copy, .int .i64 y.version, .string y.hold, .int .i64 y.pull, .int .i64 y.start, .int .i64 y.dies, .int .i64 y.grace]) := ⟨_, rfl⟩
  have HXE : Hid (Blk w.heap.size #[.string y.copy, .int .i64 y.version, .string y.hold, .int .i64 y.pull, .int .i64 y.start, .int .i64 y.dies, .int .i64 y.grace, .int .i64 x.state, .int .i64 x.left, .int .i64 x.falls, .int .i64 x.until_] 38 w5) := by
   show Blk _ _ _ _
   rw [HW5.out]
   have h := Blk.setRow [.string y.copy, .int .i64 y.version, .string y.hold, .int .i64 y.pull, .int .i64 y.start, .int .i64 y.dies, .int .i64 y.grace] 0 _ _ HX4.out
   exact h
  have HZE : Hid (Blk (w.heap.size + 1) #[.string ⟨#[]⟩, .int .i64 0, .string ⟨#[]⟩, .int .i64 0, .int .i64 0, .int .i64 0, .int .i64 0, .int .i64 0, .int .i64 0, .int .i64 0, .int .i64 0] 38 w5) := by
   show Blk _ _ _ _
   rw [HW5.out]
   exact blk_setCells_other (by omega) _ _ _ HZ4.out
  have hb5 : Below w.heap.size w4 w5 := by
   rw [HW5.out]
   exact below_setCells (Nat.le_refl _) _ _ _ (Below.refl _ _)
  have HT5 : Hid (w4.there w.heap.size 0 7) := fun j hj => HX4.out.there j (show j < 11 by omega)
  have HTE := Hid.intro HZE.out.there
  obtain ⟨w9, HW9⟩ : ∃ w9, Hid (w9 = w5.setCells (w.heap.size + 1) 0 [.string y.copy, .int .i64 y.version, .string y.hold, .int .i64 y.pull, .int .i64 y.start, .int .i64 y.dies, .int .i64 y.grace, .int .i64 x.state, .int .i64 x.left, .int .i64 x.falls, .int .i64 x.until_]) := ⟨_, rfl⟩
  have HR9 : Hid (w9.rangeAt (w.heap.size + 1) 0 [.string y.copy, .int .i64 y.version, .string y.hold, .int .i64 y.pull, .int .i64 y.start, .int .i64 y.dies, .int .i64 y.grace, .int .i64 x.state, .int .i64 x.left, .int .i64 x.falls, .int .i64 x.until_]) := by
   show World.rangeAt _ _ _ _
   rw [HW9.out]
   exact World.rangeAt_setCells_same _ _ _ _ HTE.out
  have hb9 : Below w.heap.size w4 w9 := by
   rw [HW9.out]
   exact below_setCells (Nat.le_succ _) _ _ _ hb5
  have HRd : Hid (RdS p k w9) := HR4.out.below hb9 hpl
  have HBt : Hid (Bt p w.heap.size w w9) := HB4.out.trans (Bt.of_below hb9)
  clear hb9 hb5 HR4 HB4 HZ4 HX4
  go_wp2_with (first | (refine wpList_store_to rfl 36 _ _ rfl w.heap.size 0 #[.string y.copy, .int .i64 y.version, .string y.hold, .int .i64 y.pull, .int .i64 y.start, .int .i64 y.dies, .int .i64 y.grace] rfl rfl HT5.out isz_Wnt (by simp [Value.oneCell']) w5 HW5.out ?_) | (refine wpList_load_mid rfl 38 _ rfl w.heap.size 0 rfl [.string y.copy, .int .i64 y.version, .string y.hold, .int .i64 y.pull, .int .i64 y.start, .int .i64 y.dies, .int .i64 y.grace, .int .i64 x.state, .int .i64 x.left, .int .i64 x.falls, .int .i64 x.until_] _ HXE.out.rangeA Try.underlying38 rfl isz_Rn ?_) | (refine wpList_store_to rfl 38 _ _ rfl (w.heap.size + 1) 0 #[.string y.copy, .int .i64 y.version, .string y.hold, .int .i64 y.pull, .int .i64 y.start, .int .i64 y.dies, .int .i64 y.grace, .int .i64 x.state, .int .i64 x.left, .int .i64 x.falls, .int .i64 x.until_] rfl rfl HTE.out isz_Rn (by simp [Value.oneCell']) w9 HW9.out ?_))
  exact bodyPost_ret (results_cell_mid rfl _ _ (w.heap.size + 1) [.string y.copy, .int .i64 y.version, .string y.hold, .int .i64 y.pull, .int .i64 y.start, .int .i64 y.dies, .int .i64 y.grace, .int .i64 x.state, .int .i64 x.left, .int .i64 x.falls, .int .i64 x.until_] _ rfl HR9.out Try.underlying38 rfl isz_Rn) rfl ⟨⟨y, x.state, x.left, x.falls, x.until_⟩, k, rfl, y0, y2, by omega, HRd.out, HBt.out⟩
 ·go_wp2_with fail
  refine (pick_rd p (k0 + 1) 9 _ HR3.out (by omega) (by omega) (by omega)).mono ?_
  rintro e w4 ⟨u, rfl, hu, hr, hb, -⟩
  have HR4 : Hid (RdS p (k0 + 2) w4) := hr
  have HB4 : Hid (Bt p w.heap.size w w4) := HB3.out.trans (hb.mono HB3.out.size)
  have HX4 : Hid (Blk w.heap.size #[.string x.want.copy, .int .i64 x.want.version, .string x.want.hold, .int .i64 x.want.pull, .int .i64 x.want.start, .int .i64 x.want.dies, .int .i64 x.want.grace, .int .i64 x.state, .int .i64 x.left, .int .i64 x.falls, .int .i64 x.until_] 38 w4) := HX3.out.bt hb HX3.out.lt (by omega)
  have HZ4 : Hid (Blk (w.heap.size + 1) #[.string ⟨#[]⟩, .int .i64 0, .string ⟨#[]⟩, .int .i64 0, .int .i64 0, .int .i64 0, .int .i64 0, .int .i64 0, .int .i64 0, .int .i64 0, .int .i64 0] 38 w4) := HZ3.out.bt hb HZ3.out.lt (by omega)
  clear HR3 HB3 HX3 HZ3 hr hb
  have kx : w4.cell? ⟨w.heap.size, 7, none⟩ = some (.int .i64 x.state) := HX4.out.cell rfl
  have fx : w4.frozen? ⟨w.heap.size, 7, none⟩ = false := HX4.out.frozen _
  have HXE : Hid (Blk w.heap.size #[.string x.want.copy, .int .i64 x.want.version, .string x.want.hold, .int .i64 x.want.pull, .int .i64 x.want.start, .int .i64 x.want.dies, .int .i64 x.want.grace, .int .i64 ((u : Int) - 1), .int .i64 x.left, .int .i64 x.falls, .int .i64 x.until_] 38 (w4.setCell ⟨w.heap.size, 7, none⟩ (.int .i64 ((u : Int) - 1)))) := HX4.out.set 7 _
  have HZE : Hid (Blk (w.heap.size + 1) #[.string ⟨#[]⟩, .int .i64 0, .string ⟨#[]⟩, .int .i64 0, .int .i64 0, .int .i64 0, .int .i64 0, .int .i64 0, .int .i64 0, .int .i64 0, .int .i64 0] 38 (w4.setCell ⟨w.heap.size, 7, none⟩ (.int .i64 ((u : Int) - 1)))) := HZ4.out.other (a := ⟨w.heap.size, 7, none⟩) (show w.heap.size + 1 ≠ w.heap.size by omega) _
  have hbe : Below w.heap.size w4 (w4.setCell ⟨w.heap.size, 7, none⟩ (.int .i64 ((u : Int) - 1))) := (Below.refl _ _).setCell (p := ⟨w.heap.size, 7, none⟩) (Nat.le_refl _) _
  have HTE := Hid.intro HZE.out.there
  obtain ⟨w9, HW9⟩ : ∃ w9, Hid (w9 = (w4.setCell ⟨w.heap.size, 7, none⟩ (.int .i64 ((u : Int) - 1))).setCells (w.heap.size + 1) 0 [.string x.want.copy, .int .i64 x.want.version, .string x.want.hold, .int .i64 x.want.pull, .int .i64 x.want.start, .int .i64 x.want.dies, .int .i64 x.want.grace, .int .i64 ((u : Int) - 1), .int .i64 x.left, .int .i64 x.falls, .int .i64 x.until_]) := ⟨_, rfl⟩
  have HR9 : Hid (w9.rangeAt (w.heap.size + 1) 0 [.string x.want.copy, .int .i64 x.want.version, .string x.want.hold, .int .i64 x.want.pull, .int .i64 x.want.start, .int .i64 x.want.dies, .int .i64 x.want.grace, .int .i64 ((u : Int) - 1), .int .i64 x.left, .int .i64 x.falls, .int .i64 x.until_]) := by
   show World.rangeAt _ _ _ _
   rw [HW9.out]
   exact World.rangeAt_setCells_same _ _ _ _ HTE.out
  have hb9 : Below w.heap.size w4 w9 := by
   rw [HW9.out]
   exact below_setCells (Nat.le_succ _) _ _ _ hbe
  have HRd : Hid (RdS p (k0 + 2) w9) := HR4.out.below hb9 hpl
  have HBt : Hid (Bt p w.heap.size w w9) := HB4.out.trans (Bt.of_below hb9)
  clear hb9 hbe HR4 HB4 HZ4 HX4
  go_wp2_with (first | (refine wpList_load_mid rfl 38 _ rfl w.heap.size 0 rfl [.string x.want.copy, .int .i64 x.want.version, .string x.want.hold, .int .i64 x.want.pull, .int .i64 x.want.start, .int .i64 x.want.dies, .int .i64 x.want.grace, .int .i64 ((u : Int) - 1), .int .i64 x.left, .int .i64 x.falls, .int .i64 x.until_] _ HXE.out.rangeA Try.underlying38 rfl isz_Rn ?_) | (refine wpList_store_to rfl 38 _ _ rfl (w.heap.size + 1) 0 #[.string x.want.copy, .int .i64 x.want.version, .string x.want.hold, .int .i64 x.want.pull, .int .i64 x.want.start, .int .i64 x.want.dies, .int .i64 x.want.grace, .int .i64 ((u : Int) - 1), .int .i64 x.left, .int .i64 x.falls, .int .i64 x.until_] rfl rfl HTE.out isz_Rn (by simp [Value.oneCell']) w9 HW9.out ?_))
  exact bodyPost_ret (results_cell_mid rfl _ _ (w.heap.size + 1) [.string x.want.copy, .int .i64 x.want.version, .string x.want.hold, .int .i64 x.want.pull, .int .i64 x.want.start, .int .i64 x.want.dies, .int .i64 x.want.grace, .int .i64 ((u : Int) - 1), .int .i64 x.left, .int .i64 x.falls, .int .i64 x.until_] _ rfl HR9.out Try.underlying38 rfl isz_Rn) rfl ⟨⟨⟨x.want.copy, x.want.version, x.want.hold, x.want.pull, x.want.start, x.want.dies, x.want.grace⟩, ((u : Int) - 1), x.left, x.falls, x.until_⟩, k0 + 2, rfl, z0, z2, by omega, HRd.out, HBt.out⟩
 ·have hba : Below w3.heap.size w3 (w3.alloc (.cells #[.int .i64 (-1), .int .i64 100, .int .i64 101] 3)) := (Below.refl _ _).alloc (Nat.le_refl _) _
  have HL4 : Hid (Blk w3.heap.size #[.int .i64 (-1), .int .i64 100, .int .i64 101] 3 (w3.alloc (.cells #[.int .i64 (-1), .int .i64 100, .int .i64 101] 3))) := Blk.alloc _ _ _
  have hgl : w.heap.size + 1 < w3.heap.size := HZ3.out.lt
  have HR4 : Hid (RdS p (k0 + 1) (w3.alloc (.cells #[.int .i64 (-1), .int .i64 100, .int .i64 101] 3))) := HR3.out.below hba HR3.out.lt
  have HB4 : Hid (Bt p w.heap.size w (w3.alloc (.cells #[.int .i64 (-1), .int .i64 100, .int .i64 101] 3))) := HB3.out.trans (Bt.of_below (hba.mono HB3.out.size))
  have HX4 : Hid (Blk w.heap.size #[.string x.want.copy, .int .i64 x.want.version, .string x.want.hold, .int .i64 x.want.pull, .int .i64 x.want.start, .int .i64 x.want.dies, .int .i64 x.want.grace, .int .i64 x.state, .int .i64 x.left, .int .i64 x.falls, .int .i64 x.until_] 38 (w3.alloc (.cells #[.int .i64 (-1), .int .i64 100, .int .i64 101] 3))) := HX3.out.below hba HX3.out.lt
  have HZ4 : Hid (Blk (w.heap.size + 1) #[.string ⟨#[]⟩, .int .i64 0, .string ⟨#[]⟩, .int .i64 0, .int .i64 0, .int .i64 0, .int .i64 0, .int .i64 0, .int .i64 0, .int .i64 0, .int .i64 0] 38 (w3.alloc (.cells #[.int .i64 (-1), .int .i64 100, .int .i64 101] 3))) := HZ3.out.below hba HZ3.out.lt
  clear HR3 HB3 HX3 HZ3 hba
  go_wp2_with fail
  generalize w3.alloc (Obj.cells #[.int .i64 (-1), .int .i64 100, .int .i64 101] 3) = w4 at *
  generalize w3.heap.size = gl at *
  refine (pick_rd p (k0 + 1) 3 _ HR4.out (by omega) (by omega) (by omega)).mono ?_
  rintro e w5 ⟨v, rfl, hv, hr, hb, -⟩
  have HR5 : Hid (RdS p (k0 + 2) w5) := hr
  have HB5 : Hid (Bt p w.heap.size w w5) := HB4.out.trans (hb.mono HB4.out.size)
  have HX5 : Hid (Blk w.heap.size #[.string x.want.copy, .int .i64 x.want.version, .string x.want.hold, .int .i64 x.want.pull, .int .i64 x.want.start, .int .i64 x.want.dies, .int .i64 x.want.grace, .int .i64 x.state, .int .i64 x.left, .int .i64 x.falls, .int .i64 x.until_] 38 w5) := HX4.out.bt hb HX4.out.lt (by omega)
  have HZ5 : Hid (Blk (w.heap.size + 1) #[.string ⟨#[]⟩, .int .i64 0, .string ⟨#[]⟩, .int .i64 0, .int .i64 0, .int .i64 0, .int .i64 0, .int .i64 0, .int .i64 0, .int .i64 0, .int .i64 0] 38 w5) := HZ4.out.bt hb HZ4.out.lt (by omega)
  have HL5 : Hid (Blk gl #[.int .i64 (-1), .int .i64 100, .int .i64 101] 3 w5) := HL4.out.bt hb HL4.out.lt (by omega)
  clear HR4 HB4 HX4 HZ4 hr hb
  obtain ⟨d, hd⟩ := intAt3 ((-1)) (100) (101) v hv
  have kl : w5.cell? ⟨gl, v, none⟩ = some (.int .i64 d) := HL5.out.cell hd
  clear hd
  have kx : w5.cell? ⟨w.heap.size, 8, none⟩ = some (.int .i64 x.left) := HX5.out.cell rfl
  have fx : w5.frozen? ⟨w.heap.size, 8, none⟩ = false := HX5.out.frozen _
  have HXE : Hid (Blk w.heap.size #[.string x.want.copy, .int .i64 x.want.version, .string x.want.hold, .int .i64 x.want.pull, .int .i64 x.want.start, .int .i64 x.want.dies, .int .i64 x.want.grace, .int .i64 x.state, .int .i64 d, .int .i64 x.falls, .int .i64 x.until_] 38 (w5.setCell ⟨w.heap.size, 8, none⟩ (.int .i64 d))) := HX5.out.set 8 _
  have HZE : Hid (Blk (w.heap.size + 1) #[.string ⟨#[]⟩, .int .i64 0, .string ⟨#[]⟩, .int .i64 0, .int .i64 0, .int .i64 0, .int .i64 0, .int .i64 0, .int .i64 0, .int .i64 0, .int .i64 0] 38 (w5.setCell ⟨w.heap.size, 8, none⟩ (.int .i64 d))) := HZ5.out.other (a := ⟨w.heap.size, 8, none⟩) (show w.heap.size + 1 ≠ w.heap.size by omega) _
  have hbe : Below w.heap.size w5 (w5.setCell ⟨w.heap.size, 8, none⟩ (.int .i64 d)) := (Below.refl _ _).setCell (p := ⟨w.heap.size, 8, none⟩) (Nat.le_refl _) _
  have HTE := Hid.intro HZE.out.there
  obtain ⟨w9, HW9⟩ : ∃ w9, Hid (w9 = (w5.setCell ⟨w.heap.size, 8, none⟩ (.int .i64 d)).setCells (w.heap.size + 1) 0 [.string x.want.copy, .int .i64 x.want.version, .string x.want.hold, .int .i64 x.want.pull, .int .i64 x.want.start, .int .i64 x.want.dies, .int .i64 x.want.grace, .int .i64 x.state, .int .i64 d, .int .i64 x.falls, .int .i64 x.until_]) := ⟨_, rfl⟩
  have HR9 : Hid (w9.rangeAt (w.heap.size + 1) 0 [.string x.want.copy, .int .i64 x.want.version, .string x.want.hold, .int .i64 x.want.pull, .int .i64 x.want.start, .int .i64 x.want.dies, .int .i64 x.want.grace, .int .i64 x.state, .int .i64 d, .int .i64 x.falls, .int .i64 x.until_]) := by
   show World.rangeAt _ _ _ _
   rw [HW9.out]
   exact World.rangeAt_setCells_same _ _ _ _ HTE.out
  have hb9 : Below w.heap.size w5 w9 := by
   rw [HW9.out]
   exact below_setCells (Nat.le_succ _) _ _ _ hbe
  have HRd : Hid (RdS p (k0 + 2) w9) := HR5.out.below hb9 hpl
  have HBt : Hid (Bt p w.heap.size w w9) := HB5.out.trans (Bt.of_below hb9)
  clear hb9 hbe HR5 HB5 HZ5 HX5
  go_wp2_with (first | (refine wpList_load_mid rfl 38 _ rfl w.heap.size 0 rfl [.string x.want.copy, .int .i64 x.want.version, .string x.want.hold, .int .i64 x.want.pull, .int .i64 x.want.start, .int .i64 x.want.dies, .int .i64 x.want.grace, .int .i64 x.state, .int .i64 d, .int .i64 x.falls, .int .i64 x.until_] _ HXE.out.rangeA Try.underlying38 rfl isz_Rn ?_) | (refine wpList_store_to rfl 38 _ _ rfl (w.heap.size + 1) 0 #[.string x.want.copy, .int .i64 x.want.version, .string x.want.hold, .int .i64 x.want.pull, .int .i64 x.want.start, .int .i64 x.want.dies, .int .i64 x.want.grace, .int .i64 x.state, .int .i64 d, .int .i64 x.falls, .int .i64 x.until_] rfl rfl HTE.out isz_Rn (by simp [Value.oneCell']) w9 HW9.out ?_))
  exact bodyPost_ret (results_cell_mid rfl _ _ (w.heap.size + 1) [.string x.want.copy, .int .i64 x.want.version, .string x.want.hold, .int .i64 x.want.pull, .int .i64 x.want.start, .int .i64 x.want.dies, .int .i64 x.want.grace, .int .i64 x.state, .int .i64 d, .int .i64 x.falls, .int .i64 x.until_] _ rfl HR9.out Try.underlying38 rfl isz_Rn) rfl ⟨⟨⟨x.want.copy, x.want.version, x.want.hold, x.want.pull, x.want.start, x.want.dies, x.want.grace⟩, x.state, d, x.falls, x.until_⟩, k0 + 2, rfl, z0, z2, by omega, HRd.out, HBt.out⟩
 ·have hba : Below w3.heap.size w3 (w3.alloc (.cells #[.int .i64 (-1), .int .i64 1000, .int .i64 1001] 3)) := (Below.refl _ _).alloc (Nat.le_refl _) _
  have HL4 : Hid (Blk w3.heap.size #[.int .i64 (-1), .int .i64 1000, .int .i64 1001] 3 (w3.alloc (.cells #[.int .i64 (-1), .int .i64 1000, .int .i64 1001] 3))) := Blk.alloc _ _ _
  have hgl : w.heap.size + 1 < w3.heap.size := HZ3.out.lt
  have HR4 : Hid (RdS p (k0 + 1) (w3.alloc (.cells #[.int .i64 (-1), .int .i64 1000, .int .i64 1001] 3))) := HR3.out.below hba HR3.out.lt
  have HB4 : Hid (Bt p w.heap.size w (w3.alloc (.cells #[.int .i64 (-1), .int .i64 1000, .int .i64 1001] 3))) := HB3.out.trans (Bt.of_below (hba.mono HB3.out.size))
  have HX4 : Hid (Blk w.heap.size #[.string x.want.copy, .int .i64 x.want.version, .string x.want.hold, .int .i64 x.want.pull, .int .i64 x.want.start, .int .i64 x.want.dies, .int .i64 x.want.grace, .int .i64 x.state, .int .i64 x.left, .int .i64 x.falls, .int .i64 x.until_] 38 (w3.alloc (.cells #[.int .i64 (-1), .int .i64 1000, .int .i64 1001] 3))) := HX3.out.below hba HX3.out.lt
  have HZ4 : Hid (Blk (w.heap.size + 1) #[.string ⟨#[]⟩, .int .i64 0, .string ⟨#[]⟩, .int .i64 0, .int .i64 0, .int .i64 0, .int .i64 0, .int .i64 0, .int .i64 0, .int .i64 0, .int .i64 0] 38 (w3.alloc (.cells #[.int .i64 (-1), .int .i64 1000, .int .i64 1001] 3))) := HZ3.out.below hba HZ3.out.lt
  clear HR3 HB3 HX3 HZ3 hba
  go_wp2_with fail
  generalize w3.alloc (Obj.cells #[.int .i64 (-1), .int .i64 1000, .int .i64 1001] 3) = w4 at *
  generalize w3.heap.size = gl at *
  refine (pick_rd p (k0 + 1) 3 _ HR4.out (by omega) (by omega) (by omega)).mono ?_
  rintro e w5 ⟨v, rfl, hv, hr, hb, -⟩
  have HR5 : Hid (RdS p (k0 + 2) w5) := hr
  have HB5 : Hid (Bt p w.heap.size w w5) := HB4.out.trans (hb.mono HB4.out.size)
  have HX5 : Hid (Blk w.heap.size #[.string x.want.copy, .int .i64 x.want.version, .string x.want.hold, .int .i64 x.want.pull, .int .i64 x.want.start, .int .i64 x.want.dies, .int .i64 x.want.grace, .int .i64 x.state, .int .i64 x.left, .int .i64 x.falls, .int .i64 x.until_] 38 w5) := HX4.out.bt hb HX4.out.lt (by omega)
  have HZ5 : Hid (Blk (w.heap.size + 1) #[.string ⟨#[]⟩, .int .i64 0, .string ⟨#[]⟩, .int .i64 0, .int .i64 0, .int .i64 0, .int .i64 0, .int .i64 0, .int .i64 0, .int .i64 0, .int .i64 0] 38 w5) := HZ4.out.bt hb HZ4.out.lt (by omega)
  have HL5 : Hid (Blk gl #[.int .i64 (-1), .int .i64 1000, .int .i64 1001] 3 w5) := HL4.out.bt hb HL4.out.lt (by omega)
  clear HR4 HB4 HX4 HZ4 hr hb
  obtain ⟨d, hd⟩ := intAt3 ((-1)) (1000) (1001) v hv
  have kl : w5.cell? ⟨gl, v, none⟩ = some (.int .i64 d) := HL5.out.cell hd
  clear hd
  have kx : w5.cell? ⟨w.heap.size, 9, none⟩ = some (.int .i64 x.falls) := HX5.out.cell rfl
  have fx : w5.frozen? ⟨w.heap.size, 9, none⟩ = false := HX5.out.frozen _
  have HXE : Hid (Blk w.heap.size #[.string x.want.copy, .int .i64 x.want.version, .string x.want.hold, .int .i64 x.want.pull, .int .i64 x.want.start, .int .i64 x.want.dies, .int .i64 x.want.grace, .int .i64 x.state, .int .i64 x.left, .int .i64 d, .int .i64 x.until_] 38 (w5.setCell ⟨w.heap.size, 9, none⟩ (.int .i64 d))) := HX5.out.set 9 _
  have HZE : Hid (Blk (w.heap.size + 1) #[.string ⟨#[]⟩, .int .i64 0, .string ⟨#[]⟩, .int .i64 0, .int .i64 0, .int .i64 0, .int .i64 0, .int .i64 0, .int .i64 0, .int .i64 0, .int .i64 0] 38 (w5.setCell ⟨w.heap.size, 9, none⟩ (.int .i64 d))) := HZ5.out.other (a := ⟨w.heap.size, 9, none⟩) (show w.heap.size + 1 ≠ w.heap.size by omega) _
  have hbe : Below w.heap.size w5 (w5.setCell ⟨w.heap.size, 9, none⟩ (.int .i64 d)) := (Below.refl _ _).setCell (p := ⟨w.heap.size, 9, none⟩) (Nat.le_refl _) _
  have HTE := Hid.intro HZE.out.there
  obtain ⟨w9, HW9⟩ : ∃ w9, Hid (w9 = (w5.setCell ⟨w.heap.size, 9, none⟩ (.int .i64 d)).setCells (w.heap.size + 1) 0 [.string x.want.copy, .int .i64 x.want.version, .string x.want.hold, .int .i64 x.want.pull, .int .i64 x.want.start, .int .i64 x.want.dies, .int .i64 x.want.grace, .int .i64 x.state, .int .i64 x.left, .int .i64 d, .int .i64 x.until_]) := ⟨_, rfl⟩
  have HR9 : Hid (w9.rangeAt (w.heap.size + 1) 0 [.string x.want.copy, .int .i64 x.want.version, .string x.want.hold, .int .i64 x.want.pull, .int .i64 x.want.start, .int .i64 x.want.dies, .int .i64 x.want.grace, .int .i64 x.state, .int .i64 x.left, .int .i64 d, .int .i64 x.until_]) := by
   show World.rangeAt _ _ _ _
   rw [HW9.out]
   exact World.rangeAt_setCells_same _ _ _ _ HTE.out
  have hb9 : Below w.heap.size w5 w9 := by
   rw [HW9.out]
   exact below_setCells (Nat.le_succ _) _ _ _ hbe
  have HRd : Hid (RdS p (k0 + 2) w9) := HR5.out.below hb9 hpl
  have HBt : Hid (Bt p w.heap.size w w9) := HB5.out.trans (Bt.of_below hb9)
  clear hb9 hbe HR5 HB5 HZ5 HX5
  go_wp2_with (first | (refine wpList_load_mid rfl 38 _ rfl w.heap.size 0 rfl [.string x.want.copy, .int .i64 x.want.version, .string x.want.hold, .int .i64 x.want.pull, .int .i64 x.want.start, .int .i64 x.want.dies, .int .i64 x.want.grace, .int .i64 x.state, .int .i64 x.left, .int .i64 d, .int .i64 x.until_] _ HXE.out.rangeA Try.underlying38 rfl isz_Rn ?_) | (refine wpList_store_to rfl 38 _ _ rfl (w.heap.size + 1) 0 #[.string x.want.copy, .int .i64 x.want.version, .string x.want.hold, .int .i64 x.want.pull, .int .i64 x.want.start, .int .i64 x.want.dies, .int .i64 x.want.grace, .int .i64 x.state, .int .i64 x.left, .int .i64 d, .int .i64 x.until_] rfl rfl HTE.out isz_Rn (by simp [Value.oneCell']) w9 HW9.out ?_))
  exact bodyPost_ret (results_cell_mid rfl _ _ (w.heap.size + 1) [.string x.want.copy, .int .i64 x.want.version, .string x.want.hold, .int .i64 x.want.pull, .int .i64 x.want.start, .int .i64 x.want.dies, .int .i64 x.want.grace, .int .i64 x.state, .int .i64 x.left, .int .i64 d, .int .i64 x.until_] _ rfl HR9.out Try.underlying38 rfl isz_Rn) rfl ⟨⟨⟨x.want.copy, x.want.version, x.want.hold, x.want.pull, x.want.start, x.want.dies, x.want.grace⟩, x.state, x.left, d, x.until_⟩, k0 + 2, rfl, z0, z2, by omega, HRd.out, HBt.out⟩
 ·have hba : Below w3.heap.size w3 (w3.alloc (.cells #[.int .i64 (-1), .int .i64 0, .int .i64 1, .int .i64 1000016, .int .i64 1000017] 3)) := (Below.refl _ _).alloc (Nat.le_refl _) _
  have HL4 : Hid (Blk w3.heap.size #[.int .i64 (-1), .int .i64 0, .int .i64 1, .int .i64 1000016, .int .i64 1000017] 3 (w3.alloc (.cells #[.int .i64 (-1), .int .i64 0, .int .i64 1, .int .i64 1000016, .int .i64 1000017] 3))) := Blk.alloc _ _ _
  have hgl : w.heap.size + 1 < w3.heap.size := HZ3.out.lt
  have HR4 : Hid (RdS p (k0 + 1) (w3.alloc (.cells #[.int .i64 (-1), .int .i64 0, .int .i64 1, .int .i64 1000016, .int .i64 1000017] 3))) := HR3.out.below hba HR3.out.lt
  have HB4 : Hid (Bt p w.heap.size w (w3.alloc (.cells #[.int .i64 (-1), .int .i64 0, .int .i64 1, .int .i64 1000016, .int .i64 1000017] 3))) := HB3.out.trans (Bt.of_below (hba.mono HB3.out.size))
  have HX4 : Hid (Blk w.heap.size #[.string x.want.copy, .int .i64 x.want.version, .string x.want.hold, .int .i64 x.want.pull, .int .i64 x.want.start, .int .i64 x.want.dies, .int .i64 x.want.grace, .int .i64 x.state, .int .i64 x.left, .int .i64 x.falls, .int .i64 x.until_] 38 (w3.alloc (.cells #[.int .i64 (-1), .int .i64 0, .int .i64 1, .int .i64 1000016, .int .i64 1000017] 3))) := HX3.out.below hba HX3.out.lt
  have HZ4 : Hid (Blk (w.heap.size + 1) #[.string ⟨#[]⟩, .int .i64 0, .string ⟨#[]⟩, .int .i64 0, .int .i64 0, .int .i64 0, .int .i64 0, .int .i64 0, .int .i64 0, .int .i64 0, .int .i64 0] 38 (w3.alloc (.cells #[.int .i64 (-1), .int .i64 0, .int .i64 1, .int .i64 1000016, .int .i64 1000017] 3))) := HZ3.out.below hba HZ3.out.lt
  clear HR3 HB3 HX3 HZ3 hba
  go_wp2_with fail
  generalize w3.alloc (Obj.cells #[.int .i64 (-1), .int .i64 0, .int .i64 1, .int .i64 1000016, .int .i64 1000017] 3) = w4 at *
  generalize w3.heap.size = gl at *
  refine (pick_rd p (k0 + 1) 5 _ HR4.out (by omega) (by omega) (by omega)).mono ?_
  rintro e w5 ⟨v, rfl, hv, hr, hb, -⟩
  have HR5 : Hid (RdS p (k0 + 2) w5) := hr
  have HB5 : Hid (Bt p w.heap.size w w5) := HB4.out.trans (hb.mono HB4.out.size)
  have HX5 : Hid (Blk w.heap.size #[.string x.want.copy, .int .i64 x.want.version, .string x.want.hold, .int .i64 x.want.pull, .int .i64 x.want.start, .int .i64 x.want.dies, .int .i64 x.want.grace, .int .i64 x.state, .int .i64 x.left, .int .i64 x.falls, .int .i64 x.until_] 38 w5) := HX4.out.bt hb HX4.out.lt (by omega)
  have HZ5 : Hid (Blk (w.heap.size + 1) #[.string ⟨#[]⟩, .int .i64 0, .string ⟨#[]⟩, .int .i64 0, .int .i64 0, .int .i64 0, .int .i64 0, .int .i64 0, .int .i64 0, .int .i64 0, .int .i64 0] 38 w5) := HZ4.out.bt hb HZ4.out.lt (by omega)
  have HL5 : Hid (Blk gl #[.int .i64 (-1), .int .i64 0, .int .i64 1, .int .i64 1000016, .int .i64 1000017] 3 w5) := HL4.out.bt hb HL4.out.lt (by omega)
  clear HR4 HB4 HX4 HZ4 hr hb
  obtain ⟨d, hd⟩ := intAt5 ((-1)) (0) (1) (1000016) (1000017) v hv
  have kl : w5.cell? ⟨gl, v, none⟩ = some (.int .i64 d) := HL5.out.cell hd
  clear hd
  have kx : w5.cell? ⟨w.heap.size, 10, none⟩ = some (.int .i64 x.until_) := HX5.out.cell rfl
  have fx : w5.frozen? ⟨w.heap.size, 10, none⟩ = false := HX5.out.frozen _
  have HXE : Hid (Blk w.heap.size #[.string x.want.copy, .int .i64 x.want.version, .string x.want.hold, .int .i64 x.want.pull, .int .i64 x.want.start, .int .i64 x.want.dies, .int .i64 x.want.grace, .int .i64 x.state, .int .i64 x.left, .int .i64 x.falls, .int .i64 d] 38 (w5.setCell ⟨w.heap.size, 10, none⟩ (.int .i64 d))) := HX5.out.set 10 _
  have HZE : Hid (Blk (w.heap.size + 1) #[.string ⟨#[]⟩, .int .i64 0, .string ⟨#[]⟩, .int .i64 0, .int .i64 0, .int .i64 0, .int .i64 0, .int .i64 0, .int .i64 0, .int .i64 0, .int .i64 0] 38 (w5.setCell ⟨w.heap.size, 10, none⟩ (.int .i64 d))) := HZ5.out.other (a := ⟨w.heap.size, 10, none⟩) (show w.heap.size + 1 ≠ w.heap.size by omega) _
  have hbe : Below w.heap.size w5 (w5.setCell ⟨w.heap.size, 10, none⟩ (.int .i64 d)) := (Below.refl _ _).setCell (p := ⟨w.heap.size, 10, none⟩) (Nat.le_refl _) _
  have HTE := Hid.intro HZE.out.there
  obtain ⟨w9, HW9⟩ : ∃ w9, Hid (w9 = (w5.setCell ⟨w.heap.size, 10, none⟩ (.int .i64 d)).setCells (w.heap.size + 1) 0 [.string x.want.copy, .int .i64 x.want.version, .string x.want.hold, .int .i64 x.want.pull, .int .i64 x.want.start, .int .i64 x.want.dies, .int .i64 x.want.grace, .int .i64 x.state, .int .i64 x.left, .int .i64 x.falls, .int .i64 d]) := ⟨_, rfl⟩
  have HR9 : Hid (w9.rangeAt (w.heap.size + 1) 0 [.string x.want.copy, .int .i64 x.want.version, .string x.want.hold, .int .i64 x.want.pull, .int .i64 x.want.start, .int .i64 x.want.dies, .int .i64 x.want.grace, .int .i64 x.state, .int .i64 x.left, .int .i64 x.falls, .int .i64 d]) := by
   show World.rangeAt _ _ _ _
   rw [HW9.out]
   exact World.rangeAt_setCells_same _ _ _ _ HTE.out
  have hb9 : Below w.heap.size w5 w9 := by
   rw [HW9.out]
   exact below_setCells (Nat.le_succ _) _ _ _ hbe
  have HRd : Hid (RdS p (k0 + 2) w9) := HR5.out.below hb9 hpl
  have HBt : Hid (Bt p w.heap.size w w9) := HB5.out.trans (Bt.of_below hb9)
  clear hb9 hbe HR5 HB5 HZ5 HX5
  go_wp2_with (first | (refine wpList_load_mid rfl 38 _ rfl w.heap.size 0 rfl [.string x.want.copy, .int .i64 x.want.version, .string x.want.hold, .int .i64 x.want.pull, .int .i64 x.want.start, .int .i64 x.want.dies, .int .i64 x.want.grace, .int .i64 x.state, .int .i64 x.left, .int .i64 x.falls, .int .i64 d] _ HXE.out.rangeA Try.underlying38 rfl isz_Rn ?_) | (refine wpList_store_to rfl 38 _ _ rfl (w.heap.size + 1) 0 #[.string x.want.copy, .int .i64 x.want.version, .string x.want.hold, .int .i64 x.want.pull, .int .i64 x.want.start, .int .i64 x.want.dies, .int .i64 x.want.grace, .int .i64 x.state, .int .i64 x.left, .int .i64 x.falls, .int .i64 d] rfl rfl HTE.out isz_Rn (by simp [Value.oneCell']) w9 HW9.out ?_))
  exact bodyPost_ret (results_cell_mid rfl _ _ (w.heap.size + 1) [.string x.want.copy, .int .i64 x.want.version, .string x.want.hold, .int .i64 x.want.pull, .int .i64 x.want.start, .int .i64 x.want.dies, .int .i64 x.want.grace, .int .i64 x.state, .int .i64 x.left, .int .i64 x.falls, .int .i64 d] _ rfl HR9.out Try.underlying38 rfl isz_Rn) rfl ⟨⟨⟨x.want.copy, x.want.version, x.want.hold, x.want.pull, x.want.start, x.want.dies, x.want.grace⟩, x.state, x.left, x.falls, d⟩, k0 + 2, rfl, z0, z2, by omega, HRd.out, HBt.out⟩
 ·have kx : w3.cell? ⟨w.heap.size, 2, none⟩ = some (.string x.want.hold) := HX3.out.cell rfl
  have fx : w3.frozen? ⟨w.heap.size, 2, none⟩ = false := HX3.out.frozen _
  have HXE : Hid (Blk w.heap.size #[.string x.want.copy, .int .i64 x.want.version, .string ⟨#[]⟩, .int .i64 x.want.pull, .int .i64 x.want.start, .int .i64 x.want.dies, .int .i64 x.want.grace, .int .i64 x.state, .int .i64 x.left, .int .i64 x.falls, .int .i64 x.until_] 38 (w3.setCell ⟨w.heap.size, 2, none⟩ (.string ⟨#[]⟩))) := HX3.out.set 2 _
  have HZE : Hid (Blk (w.heap.size + 1) #[.string ⟨#[]⟩, .int .i64 0, .string ⟨#[]⟩, .int .i64 0, .int .i64 0, .int .i64 0, .int .i64 0, .int .i64 0, .int .i64 0, .int .i64 0, .int .i64 0] 38 (w3.setCell ⟨w.heap.size, 2, none⟩ (.string ⟨#[]⟩))) := HZ3.out.other (a := ⟨w.heap.size, 2, none⟩) (show w.heap.size + 1 ≠ w.heap.size by omega) _
  have hbe : Below w.heap.size w3 (w3.setCell ⟨w.heap.size, 2, none⟩ (.string ⟨#[]⟩)) := (Below.refl _ _).setCell (p := ⟨w.heap.size, 2, none⟩) (Nat.le_refl _) _
  have HTE := Hid.intro HZE.out.there
  obtain ⟨w9, HW9⟩ : ∃ w9, Hid (w9 = (w3.setCell ⟨w.heap.size, 2, none⟩ (.string ⟨#[]⟩)).setCells (w.heap.size + 1) 0 [.string x.want.copy, .int .i64 x.want.version, .string ⟨#[]⟩, .int .i64 x.want.pull, .int .i64 x.want.start, .int .i64 x.want.dies, .int .i64 x.want.grace, .int .i64 x.state, .int .i64 x.left, .int .i64 x.falls, .int .i64 x.until_]) := ⟨_, rfl⟩
  have HR9 : Hid (w9.rangeAt (w.heap.size + 1) 0 [.string x.want.copy, .int .i64 x.want.version, .string ⟨#[]⟩, .int .i64 x.want.pull, .int .i64 x.want.start, .int .i64 x.want.dies, .int .i64 x.want.grace, .int .i64 x.state, .int .i64 x.left, .int .i64 x.falls, .int .i64 x.until_]) := by
   show World.rangeAt _ _ _ _
   rw [HW9.out]
   exact World.rangeAt_setCells_same _ _ _ _ HTE.out
  have hb9 : Below w.heap.size w3 w9 := by
   rw [HW9.out]
   exact below_setCells (Nat.le_succ _) _ _ _ hbe
  have HRd : Hid (RdS p (k0 + 1) w9) := HR3.out.below hb9 hpl
  have HBt : Hid (Bt p w.heap.size w w9) := HB3.out.trans (Bt.of_below hb9)
  clear hb9 hbe HR3 HB3 HZ3 HX3
  go_wp2_with (first | (refine wpList_load_mid rfl 38 _ rfl w.heap.size 0 rfl [.string x.want.copy, .int .i64 x.want.version, .string ⟨#[]⟩, .int .i64 x.want.pull, .int .i64 x.want.start, .int .i64 x.want.dies, .int .i64 x.want.grace, .int .i64 x.state, .int .i64 x.left, .int .i64 x.falls, .int .i64 x.until_] _ HXE.out.rangeA Try.underlying38 rfl isz_Rn ?_) | (refine wpList_store_to rfl 38 _ _ rfl (w.heap.size + 1) 0 #[.string x.want.copy, .int .i64 x.want.version, .string ⟨#[]⟩, .int .i64 x.want.pull, .int .i64 x.want.start, .int .i64 x.want.dies, .int .i64 x.want.grace, .int .i64 x.state, .int .i64 x.left, .int .i64 x.falls, .int .i64 x.until_] rfl rfl HTE.out isz_Rn (by simp [Value.oneCell']) w9 HW9.out ?_))
  exact bodyPost_ret (results_cell_mid rfl _ _ (w.heap.size + 1) [.string x.want.copy, .int .i64 x.want.version, .string ⟨#[]⟩, .int .i64 x.want.pull, .int .i64 x.want.start, .int .i64 x.want.dies, .int .i64 x.want.grace, .int .i64 x.state, .int .i64 x.left, .int .i64 x.falls, .int .i64 x.until_] _ rfl HR9.out Try.underlying38 rfl isz_Rn) rfl ⟨⟨⟨x.want.copy, x.want.version, ⟨#[]⟩, x.want.pull, x.want.start, x.want.dies, x.want.grace⟩, x.state, x.left, x.falls, x.until_⟩, k0 + 1, rfl, z0, Nat.zero_le _, by omega, HRd.out, HBt.out⟩

end Go.Proofs.Ytnifmiacobfplaa
