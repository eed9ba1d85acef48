/-
  Walk: the law of runs that are not wanted. Made by mklms.py.
-/
import Derived.Test.YtalnkbocfhhjkaaDr7
import Derived.Test.YtalnkbocfhhjkaaEqr
namespace Go.Proofs.Ytalnkbocfhhjkaa
open Go.RowKit

set_option maxHeartbeats 8000000 in
set_option maxRecDepth 100000 in
theorem law_any (xs : List Nat) (a : Option Addr) (cap : Nat) (w : World) (hin : ∀ (k x : Nat), xs[k]? = some x → ∃ b o, a = some ⟨b, o, none⟩ ∧ w.cell? ⟨b, o + k, none⟩ = some (.int .u8 (x : Int)) ∧ x < 256 ∧ b < w.heap.size) (hc : xs.length ≤ cap) :
    Calls Try.prog 3 #[.slice a xs.length cap] w fun e w' => e = .returned (.bool true) ∧ Below w.heap.size w w' := by
  have hB0 : Below w.heap.size w w := Below.refl _ _
  have HI := Hid.intro hin
  clear hin
  by_cases hl : 1048576 < xs.length
  · have hl' : (1048576 : Int) < (xs.length : Int) := by omega
    go_enter Try.func3, Try.ntmps3
    go_wp2_with fail
    go_ret
    exact ⟨rfl, hB0⟩
  have hl1 : xs.length ≤ 1048576 := by omega
  have hl2 : (xs.length : Int) ≤ 1048576 := by omega
  clear hl
  go_enter Try.func3, Try.ntmps3
  go_wp2_with fail
  refine (drawLive_any xs a cap _ HI.out hl1 hc).mono ?_
  rintro e w1 ⟨x, y, v, c, rfl, hx0, hx2, hc0, hc1, hB1⟩
  clear HI hl1 hl2 hc hB0
  have HXa : Blk w1.heap.size #[.string ⟨#[]⟩, .int .i64 0, .string ⟨#[]⟩, .int .i64 0, .int .i64 0, .int .i64 0, .int .i64 0, .int .i64 0, .int .i64 0, .int .i64 0, .int .i64 0] 26 (w1.alloc (.cells #[.string ⟨#[]⟩, .int .i64 0, .string ⟨#[]⟩, .int .i64 0, .int .i64 0, .int .i64 0, .int .i64 0, .int .i64 0, .int .i64 0, .int .i64 0, .int .i64 0] 26)) := Blk.alloc _ _ _
  have HYb : Hid (Blk (w1.heap.size + 1) #[.string ⟨#[]⟩, .int .i64 0, .string ⟨#[]⟩, .int .i64 0, .int .i64 0, .int .i64 0, .int .i64 0] 24 ((w1.alloc (.cells #[.string ⟨#[]⟩, .int .i64 0, .string ⟨#[]⟩, .int .i64 0, .int .i64 0, .int .i64 0, .int .i64 0, .int .i64 0, .int .i64 0, .int .i64 0, .int .i64 0] 26)).alloc (.cells #[.string ⟨#[]⟩, .int .i64 0, .string ⟨#[]⟩, .int .i64 0, .int .i64 0, .int .i64 0, .int .i64 0] 24))) := by
    have := Blk.alloc (w1.alloc (.cells #[.string ⟨#[]⟩, .int .i64 0, .string ⟨#[]⟩, .int .i64 0, .int .i64 0, .int .i64 0, .int .i64 0, .int .i64 0, .int .i64 0, .int .i64 0, .int .i64 0] 26)) #[.string ⟨#[]⟩, .int .i64 0, .string ⟨#[]⟩, .int .i64 0, .int .i64 0, .int .i64 0, .int .i64 0] 24
    show Blk _ _ _ _
    simpa using this
  have HXb : Hid (Blk w1.heap.size #[.string ⟨#[]⟩, .int .i64 0, .string ⟨#[]⟩, .int .i64 0, .int .i64 0, .int .i64 0, .int .i64 0, .int .i64 0, .int .i64 0, .int .i64 0, .int .i64 0] 26 ((w1.alloc (.cells #[.string ⟨#[]⟩, .int .i64 0, .string ⟨#[]⟩, .int .i64 0, .int .i64 0, .int .i64 0, .int .i64 0, .int .i64 0, .int .i64 0, .int .i64 0, .int .i64 0] 26)).alloc (.cells #[.string ⟨#[]⟩, .int .i64 0, .string ⟨#[]⟩, .int .i64 0, .int .i64 0, .int .i64 0, .int .i64 0] 24))) := HXa.below ((Below.refl _ _).alloc (Nat.le_refl _) _) HXa.lt
  have hB2 : Below w.heap.size w ((w1.alloc (.cells #[.string ⟨#[]⟩, .int .i64 0, .string ⟨#[]⟩, .int .i64 0, .int .i64 0, .int .i64 0, .int .i64 0, .int .i64 0, .int .i64 0, .int .i64 0, .int .i64 0] 26)).alloc (.cells #[.string ⟨#[]⟩, .int .i64 0, .string ⟨#[]⟩, .int .i64 0, .int .i64 0, .int .i64 0, .int .i64 0] 24)) := hB1.trans ((by go_grown : Below w1.heap.size w1 ((w1.alloc (.cells #[.string ⟨#[]⟩, .int .i64 0, .string ⟨#[]⟩, .int .i64 0, .int .i64 0, .int .i64 0, .int .i64 0, .int .i64 0, .int .i64 0, .int .i64 0, .int .i64 0] 26)).alloc (.cells #[.string ⟨#[]⟩, .int .i64 0, .string ⟨#[]⟩, .int .i64 0, .int .i64 0, .int .i64 0, .int .i64 0] 24))).mono hB1.size)
  have hgq : w.heap.size ≤ w1.heap.size := hB1.size
  obtain ⟨w2, HE2⟩ : ∃ w2, Hid (w2 = ((w1.alloc (.cells #[.string ⟨#[]⟩, .int .i64 0, .string ⟨#[]⟩, .int .i64 0, .int .i64 0, .int .i64 0, .int .i64 0, .int .i64 0, .int .i64 0, .int .i64 0, .int .i64 0] 26)).alloc (.cells #[.string ⟨#[]⟩, .int .i64 0, .string ⟨#[]⟩, .int .i64 0, .int .i64 0, .int .i64 0, .int .i64 0] 24)).setCells w1.heap.size 0 [.string x.want.copy, .int .i64 x.want.version, .string x.want.hold, .int .i64 x.want.pull, .int .i64 x.want.start, .int .i64 x.want.dies, .int .i64 x.want.grace, .int .i64 x.state, .int .i64 x.left, .int .i64 x.falls, .int .i64 x.until_]) := ⟨_, rfl⟩
  have HX2 : Hid (Blk w1.heap.size #[.string x.want.copy, .int .i64 x.want.version, .string x.want.hold, .int .i64 x.want.pull, .int .i64 x.want.start, .int .i64 x.want.dies, .int .i64 x.want.grace, .int .i64 x.state, .int .i64 x.left, .int .i64 x.falls, .int .i64 x.until_] 26 w2) := by
    show Blk _ _ _ _
    rw [HE2.out]
    exact HXb.out.setAll #[.string x.want.copy, .int .i64 x.want.version, .string x.want.hold, .int .i64 x.want.pull, .int .i64 x.want.start, .int .i64 x.want.dies, .int .i64 x.want.grace, .int .i64 x.state, .int .i64 x.left, .int .i64 x.falls, .int .i64 x.until_] rfl
  have HY2 : Hid (Blk (w1.heap.size + 1) #[.string ⟨#[]⟩, .int .i64 0, .string ⟨#[]⟩, .int .i64 0, .int .i64 0, .int .i64 0, .int .i64 0] 24 w2) := by
    show Blk _ _ _ _
    rw [HE2.out]
    exact blk_setCells_other (by omega) _ _ _ HYb.out
  obtain ⟨w3, HE3⟩ : ∃ w3, Hid (w3 = w2.setCells (w1.heap.size + 1) 0 [.string y.copy, .int .i64 y.version, .string y.hold, .int .i64 y.pull, .int .i64 y.start, .int .i64 y.dies, .int .i64 y.grace]) := ⟨_, rfl⟩
  have HX3 : Hid (Blk w1.heap.size #[.string x.want.copy, .int .i64 x.want.version, .string x.want.hold, .int .i64 x.want.pull, .int .i64 x.want.start, .int .i64 x.want.dies, .int .i64 x.want.grace, .int .i64 x.state, .int .i64 x.left, .int .i64 x.falls, .int .i64 x.until_] 26 w3) := by
    show Blk _ _ _ _
    rw [HE3.out]
    exact blk_setCells_other (by omega) _ _ _ HX2.out
  have HY3 : Hid (Blk (w1.heap.size + 1) #[.string y.copy, .int .i64 y.version, .string y.hold, .int .i64 y.pull, .int .i64 y.start, .int .i64 y.dies, .int .i64 y.grace] 24 w3) := by
    show Blk _ _ _ _
    rw [HE3.out]
    exact HY2.out.setAll #[.string y.copy, .int .i64 y.version, .string y.hold, .int .i64 y.pull, .int .i64 y.start, .int .i64 y.dies, .int .i64 y.grace] rfl
  have hB3 : Below w.heap.size w w3 := by
    rw [HE3.out]
    refine below_setCells (by omega) _ _ _ ?_
    rw [HE2.out]
    exact below_setCells (by omega) _ _ _ hB2
  have HTX := Hid.intro HXb.out.there
  have HTY := Hid.intro HY2.out.there
  clear HXa HYb HXb hB2 HX2 HY2 hB1
  go_upto_region 4 with (first | (refine wpList_store_to rfl 26 _ _ rfl w1.heap.size 0 #[.string x.want.copy, .int .i64 x.want.version, .string x.want.hold, .int .i64 x.want.pull, .int .i64 x.want.start, .int .i64 x.want.dies, .int .i64 x.want.grace, .int .i64 x.state, .int .i64 x.left, .int .i64 x.falls, .int .i64 x.until_] rfl rfl HTX.out isz_Rn (by simp [Value.oneCell']) w2 HE2.out ?_) | (refine wpList_store_to rfl 24 _ _ rfl (w1.heap.size + 1) 0 #[.string y.copy, .int .i64 y.version, .string y.hold, .int .i64 y.pull, .int .i64 y.start, .int .i64 y.dies, .int .i64 y.grace] rfl rfl HTY.out isz_Wnt (by simp [Value.oneCell']) w3 HE3.out ?_))
  clear HE2 HE3 HTX HTY
  generalize w1.heap.size = q at *
  go_wp2_with (first | (refine wpList_load_mid rfl 26 _ rfl q 0 rfl [.string x.want.copy, .int .i64 x.want.version, .string x.want.hold, .int .i64 x.want.pull, .int .i64 x.want.start, .int .i64 x.want.dies, .int .i64 x.want.grace, .int .i64 x.state, .int .i64 x.left, .int .i64 x.falls, .int .i64 x.until_] _ HX3.out.rangeA Try.underlying26 rfl isz_Rn ?_) | (refine wpList_load_mid rfl 24 _ rfl (q + 1) 0 rfl [.string y.copy, .int .i64 y.version, .string y.hold, .int .i64 y.pull, .int .i64 y.start, .int .i64 y.dies, .int .i64 y.grace] _ HY3.out.rangeA Try.underlying24 rfl isz_Wnt ?_))
  refine (implLive_any x y v c _ (by omega) (by omega)).mono ?_
  rintro e w4 ⟨F, k, hF, rfl, hb4⟩
  rw [live_eq] at hF
  have HF := Hid.intro hF
  have HX4 := Hid.intro (HX3.out.below hb4 HX3.out.lt)
  have HY4 := Hid.intro (HY3.out.below hb4 HY3.out.lt)
  have hB4 := hB3.trans (hb4.mono hB3.size)
  have hq4 : q + 1 < w4.heap.size := HY4.out.lt
  have HG5 : Hid (Blk w4.heap.size #[.string F.want.copy, .int .i64 F.want.version, .string F.want.hold, .int .i64 F.want.pull, .int .i64 F.want.start, .int .i64 F.want.dies, .int .i64 F.want.grace, .int .i64 F.state, .int .i64 F.left, .int .i64 F.falls, .int .i64 F.until_] 26 (w4.alloc (.cells #[.string F.want.copy, .int .i64 F.want.version, .string F.want.hold, .int .i64 F.want.pull, .int .i64 F.want.start, .int .i64 F.want.dies, .int .i64 F.want.grace, .int .i64 F.state, .int .i64 F.left, .int .i64 F.falls, .int .i64 F.until_] 26))) := Blk.alloc _ _ _
  have hb5 : Below w4.heap.size w4 (w4.alloc (.cells #[.string F.want.copy, .int .i64 F.want.version, .string F.want.hold, .int .i64 F.want.pull, .int .i64 F.want.start, .int .i64 F.want.dies, .int .i64 F.want.grace, .int .i64 F.state, .int .i64 F.left, .int .i64 F.falls, .int .i64 F.until_] 26)) := by go_grown
  have HX5 : Hid (Blk q #[.string x.want.copy, .int .i64 x.want.version, .string x.want.hold, .int .i64 x.want.pull, .int .i64 x.want.start, .int .i64 x.want.dies, .int .i64 x.want.grace, .int .i64 x.state, .int .i64 x.left, .int .i64 x.falls, .int .i64 x.until_] 26 (w4.alloc (.cells #[.string F.want.copy, .int .i64 F.want.version, .string F.want.hold, .int .i64 F.want.pull, .int .i64 F.want.start, .int .i64 F.want.dies, .int .i64 F.want.grace, .int .i64 F.state, .int .i64 F.left, .int .i64 F.falls, .int .i64 F.until_] 26))) := HX4.out.below hb5 HX4.out.lt
  have HY5 : Hid (Blk (q + 1) #[.string y.copy, .int .i64 y.version, .string y.hold, .int .i64 y.pull, .int .i64 y.start, .int .i64 y.dies, .int .i64 y.grace] 24 (w4.alloc (.cells #[.string F.want.copy, .int .i64 F.want.version, .string F.want.hold, .int .i64 F.want.pull, .int .i64 F.want.start, .int .i64 F.want.dies, .int .i64 F.want.grace, .int .i64 F.state, .int .i64 F.left, .int .i64 F.falls, .int .i64 F.until_] 26))) := HY4.out.below hb5 HY4.out.lt
  have hB5 : Below w.heap.size w (w4.alloc (.cells #[.string F.want.copy, .int .i64 F.want.version, .string F.want.hold, .int .i64 F.want.pull, .int .i64 F.want.start, .int .i64 F.want.dies, .int .i64 F.want.grace, .int .i64 F.state, .int .i64 F.left, .int .i64 F.falls, .int .i64 F.until_] 26)) := hB4.trans (hb5.mono hB4.size)
  clear hF hb4 hb5 HX3 HY3 hB3 HX4 HY4 hB4
  go_upto_region 5 with fail
  generalize w4.alloc (Obj.cells #[.string F.want.copy, .int .i64 F.want.version, .string F.want.hold, .int .i64 F.want.pull, .int .i64 F.want.start, .int .i64 F.want.dies, .int .i64 F.want.grace, .int .i64 F.state, .int .i64 F.left, .int .i64 F.falls, .int .i64 F.until_] 26) = w5 at *
  generalize w4.heap.size = g at *
  go_wp2_with (first | (refine wpList_load_mid rfl 26 _ rfl q 0 rfl [.string x.want.copy, .int .i64 x.want.version, .string x.want.hold, .int .i64 x.want.pull, .int .i64 x.want.start, .int .i64 x.want.dies, .int .i64 x.want.grace, .int .i64 x.state, .int .i64 x.left, .int .i64 x.falls, .int .i64 x.until_] _ HX5.out.rangeA Try.underlying26 rfl isz_Rn ?_) | (refine wpList_load_mid rfl 24 _ rfl (q + 1) 0 rfl [.string y.copy, .int .i64 y.version, .string y.hold, .int .i64 y.pull, .int .i64 y.start, .int .i64 y.dies, .int .i64 y.grace] _ HY5.out.rangeA Try.underlying24 rfl isz_Wnt ?_))
  refine (specLive_any x y v c _).mono ?_
  rintro e w6 ⟨F', k', hF, rfl, hb6⟩
  have hFk : (F', k') = (F, k) := hF.trans HF.out.symm
  cases hFk
  have HX6 := Hid.intro (HX5.out.below hb6 HX5.out.lt)
  have HG6 := Hid.intro (HG5.out.below hb6 HG5.out.lt)
  have hB6 := hB5.trans (hb6.mono hB5.size)
  have hg6 : g < w6.heap.size := HG6.out.lt
  have HG7 : Hid (Blk g #[.string F.want.copy, .int .i64 F.want.version, .string F.want.hold, .int .i64 F.want.pull, .int .i64 F.want.start, .int .i64 F.want.dies, .int .i64 F.want.grace, .int .i64 F.state, .int .i64 F.left, .int .i64 F.falls, .int .i64 F.until_] 26 (w6.alloc (.cells #[.string F.want.copy, .int .i64 F.want.version, .string F.want.hold, .int .i64 F.want.pull, .int .i64 F.want.start, .int .i64 F.want.dies, .int .i64 F.want.grace, .int .i64 F.state, .int .i64 F.left, .int .i64 F.falls, .int .i64 F.until_] 26))) := HG6.out.below ((Below.refl _ _).alloc (Nat.le_refl _) _) HG6.out.lt
  have HH7 : Hid (Blk w6.heap.size #[.string F.want.copy, .int .i64 F.want.version, .string F.want.hold, .int .i64 F.want.pull, .int .i64 F.want.start, .int .i64 F.want.dies, .int .i64 F.want.grace, .int .i64 F.state, .int .i64 F.left, .int .i64 F.falls, .int .i64 F.until_] 26 (w6.alloc (.cells #[.string F.want.copy, .int .i64 F.want.version, .string F.want.hold, .int .i64 F.want.pull, .int .i64 F.want.start, .int .i64 F.want.dies, .int .i64 F.want.grace, .int .i64 F.state, .int .i64 F.left, .int .i64 F.falls, .int .i64 F.until_] 26))) := Blk.alloc _ _ _
  have HX7 : Hid (Blk q #[.string x.want.copy, .int .i64 x.want.version, .string x.want.hold, .int .i64 x.want.pull, .int .i64 x.want.start, .int .i64 x.want.dies, .int .i64 x.want.grace, .int .i64 x.state, .int .i64 x.left, .int .i64 x.falls, .int .i64 x.until_] 26 (w6.alloc (.cells #[.string F.want.copy, .int .i64 F.want.version, .string F.want.hold, .int .i64 F.want.pull, .int .i64 F.want.start, .int .i64 F.want.dies, .int .i64 F.want.grace, .int .i64 F.state, .int .i64 F.left, .int .i64 F.falls, .int .i64 F.until_] 26))) := HX6.out.below ((Below.refl _ _).alloc (Nat.le_refl _) _) HX6.out.lt
  have hB7 : Below w.heap.size w (w6.alloc (.cells #[.string F.want.copy, .int .i64 F.want.version, .string F.want.hold, .int .i64 F.want.pull, .int .i64 F.want.start, .int .i64 F.want.dies, .int .i64 F.want.grace, .int .i64 F.state, .int .i64 F.left, .int .i64 F.falls, .int .i64 F.until_] 26)) := hB6.trans ((by go_grown : Below w6.heap.size w6 (w6.alloc (.cells #[.string F.want.copy, .int .i64 F.want.version, .string F.want.hold, .int .i64 F.want.pull, .int .i64 F.want.start, .int .i64 F.want.dies, .int .i64 F.want.grace, .int .i64 F.state, .int .i64 F.left, .int .i64 F.falls, .int .i64 F.until_] 26))).mono hB6.size)
  clear hF hb6 HX5 HY5 HG5 hB5 HX6 HG6 hB6 HF
  go_upto_region 6 with fail
  generalize w6.alloc (Obj.cells #[.string F.want.copy, .int .i64 F.want.version, .string F.want.hold, .int .i64 F.want.pull, .int .i64 F.want.start, .int .i64 F.want.dies, .int .i64 F.want.grace, .int .i64 F.state, .int .i64 F.left, .int .i64 F.falls, .int .i64 F.until_] 26) = w7 at *
  generalize w6.heap.size = h at *
  have hq := equalR F
  have hgd := guardR
  have m0 : w7.cell? ⟨g, 0, none⟩ = some (.string F.want.copy) := HG7.out.cell rfl
  have m1 : w7.cell? ⟨g, 1, none⟩ = some (.int .i64 F.want.version) := HG7.out.cell rfl
  have m2 : w7.cell? ⟨g, 2, none⟩ = some (.string F.want.hold) := HG7.out.cell rfl
  have m3 : w7.cell? ⟨g, 3, none⟩ = some (.int .i64 F.want.pull) := HG7.out.cell rfl
  have m4 : w7.cell? ⟨g, 4, none⟩ = some (.int .i64 F.want.start) := HG7.out.cell rfl
  have m5 : w7.cell? ⟨g, 5, none⟩ = some (.int .i64 F.want.dies) := HG7.out.cell rfl
  have m6 : w7.cell? ⟨g, 6, none⟩ = some (.int .i64 F.want.grace) := HG7.out.cell rfl
  have m7 : w7.cell? ⟨g, 7, none⟩ = some (.int .i64 F.state) := HG7.out.cell rfl
  have m8 : w7.cell? ⟨g, 8, none⟩ = some (.int .i64 F.left) := HG7.out.cell rfl
  have m9 : w7.cell? ⟨g, 9, none⟩ = some (.int .i64 F.falls) := HG7.out.cell rfl
  have m10 : w7.cell? ⟨g, 10, none⟩ = some (.int .i64 F.until_) := HG7.out.cell rfl
  have n0 : w7.cell? ⟨h, 0, none⟩ = some (.string F.want.copy) := HH7.out.cell rfl
  have n1 : w7.cell? ⟨h, 1, none⟩ = some (.int .i64 F.want.version) := HH7.out.cell rfl
  have n2 : w7.cell? ⟨h, 2, none⟩ = some (.string F.want.hold) := HH7.out.cell rfl
  have n3 : w7.cell? ⟨h, 3, none⟩ = some (.int .i64 F.want.pull) := HH7.out.cell rfl
  have n4 : w7.cell? ⟨h, 4, none⟩ = some (.int .i64 F.want.start) := HH7.out.cell rfl
  have n5 : w7.cell? ⟨h, 5, none⟩ = some (.int .i64 F.want.dies) := HH7.out.cell rfl
  have n6 : w7.cell? ⟨h, 6, none⟩ = some (.int .i64 F.want.grace) := HH7.out.cell rfl
  have n7 : w7.cell? ⟨h, 7, none⟩ = some (.int .i64 F.state) := HH7.out.cell rfl
  have n8 : w7.cell? ⟨h, 8, none⟩ = some (.int .i64 F.left) := HH7.out.cell rfl
  have n9 : w7.cell? ⟨h, 9, none⟩ = some (.int .i64 F.falls) := HH7.out.cell rfl
  have n10 : w7.cell? ⟨h, 10, none⟩ = some (.int .i64 F.until_) := HH7.out.cell rfl
  go_upto_region 8 with fail
  clear hq hgd HH7 m0 n0 m1 n1 m2 n2 m3 n3 m4 n4 m5 n5 m6 n6 m7 n7 m8 n8 m9 n9 m10 n10
  have k7 : w7.cell? ⟨q, 7, none⟩ = some (.int .i64 x.state) := HX7.out.cell rfl
  have k8 : w7.cell? ⟨q, 8, none⟩ = some (.int .i64 x.left) := HX7.out.cell rfl
  have k6 : w7.cell? ⟨q, 6, none⟩ = some (.int .i64 x.want.grace) := HX7.out.cell rfl
  go_cut [78] (fun r wz => wz = w7 ∧ ∃ b : Bool, r = .bool b ∧ Hid (b = false → 0 ≤ x.want.grace ∧ x.want.grace ≤ 100 ∧ (x.state = 6 → x.left ≤ x.want.grace)))
  case first =>
    by_cases s1 : x.state < 1
    · go_wp2_with fail
      go_meet
      exact ⟨rfl, true, rfl, fun h => by cases h⟩
    replace s1 : 1 ≤ x.state := by omega
    by_cases s6 : 6 < x.state
    · go_wp2_with fail
      go_meet
      exact ⟨rfl, true, rfl, fun h => by cases h⟩
    replace s6 : x.state ≤ 6 := by omega
    by_cases g0 : x.want.grace < 0
    · go_wp2_with fail
      go_meet
      exact ⟨rfl, true, rfl, fun h => by cases h⟩
    replace g0 : 0 ≤ x.want.grace := by omega
    by_cases g1 : 100 < x.want.grace
    · go_wp2_with fail
      go_meet
      exact ⟨rfl, true, rfl, fun h => by cases h⟩
    replace g1 : x.want.grace ≤ 100 := by omega
    by_cases gl : x.want.grace < x.left
    · cases hs : (x.state == 6)
      · have HS : Hid (¬ x.state = 6) := by show ¬ _; simpa using hs
        go_wp2_with fail
        go_meet
        exact ⟨rfl, false, congrArg Value.bool (by simp only [Bool.or_eq_false_iff, decide_eq_false_iff_not]; omega), fun _ => ⟨g0, g1, fun h => absurd h HS.out⟩⟩
      · go_wp2_with fail
        go_meet
        exact ⟨rfl, true, rfl, fun h => by cases h⟩
    · replace gl : x.left ≤ x.want.grace := by omega
      go_wp2_with fail
      go_meet
      exact ⟨rfl, false, congrArg Value.bool (by simp only [Bool.or_eq_false_iff, decide_eq_false_iff_not]; omega), fun _ => ⟨g0, g1, fun _ => gl⟩⟩
  case rest =>
    obtain ⟨hwz, b, rfl, HC⟩ := hcut
    subst hwz
    cases b with
    | true =>
      go_wp2_with fail
      go_ret
      exact ⟨rfl, hB7⟩
    | false =>
      obtain ⟨g0, g1, gl⟩ := HC.out rfl
      have HGL := Hid.intro gl
      clear gl HC k7 k8 k6
      have HTG := Hid.intro HG7.out.there
      obtain ⟨w8, HE⟩ : ∃ w8, Hid (w8 = wc.setCells g 0 [.string x.want.copy, .int .i64 x.want.version, .string x.want.hold, .int .i64 x.want.pull, .int .i64 x.want.start, .int .i64 x.want.dies, .int .i64 x.want.grace, .int .i64 x.state, .int .i64 x.left, .int .i64 x.falls, .int .i64 x.until_]) := ⟨_, rfl⟩
      have HG8 : Hid (Blk g #[.string x.want.copy, .int .i64 x.want.version, .string x.want.hold, .int .i64 x.want.pull, .int .i64 x.want.start, .int .i64 x.want.dies, .int .i64 x.want.grace, .int .i64 x.state, .int .i64 x.left, .int .i64 x.falls, .int .i64 x.until_] 26 w8) := by
        show Blk _ _ _ _
        rw [HE.out]
        exact HG7.out.setAll #[.string x.want.copy, .int .i64 x.want.version, .string x.want.hold, .int .i64 x.want.pull, .int .i64 x.want.start, .int .i64 x.want.dies, .int .i64 x.want.grace, .int .i64 x.state, .int .i64 x.left, .int .i64 x.falls, .int .i64 x.until_] rfl
      have HX8 : Hid (Blk q #[.string x.want.copy, .int .i64 x.want.version, .string x.want.hold, .int .i64 x.want.pull, .int .i64 x.want.start, .int .i64 x.want.dies, .int .i64 x.want.grace, .int .i64 x.state, .int .i64 x.left, .int .i64 x.falls, .int .i64 x.until_] 26 w8) := by
        show Blk _ _ _ _
        rw [HE.out]
        exact blk_setCells_other (by omega) _ _ _ HX7.out
      have hB8 : Below w.heap.size w w8 := by
        rw [HE.out]
        exact below_setCells (by omega) _ _ _ hB7
      go_wp2_with (first | (refine wpList_load_mid rfl 26 _ rfl q 0 rfl [.string x.want.copy, .int .i64 x.want.version, .string x.want.hold, .int .i64 x.want.pull, .int .i64 x.want.start, .int .i64 x.want.dies, .int .i64 x.want.grace, .int .i64 x.state, .int .i64 x.left, .int .i64 x.falls, .int .i64 x.until_] _ HX7.out.rangeA Try.underlying26 rfl isz_Rn ?_) | (refine wpList_store_to rfl 26 _ _ rfl g 0 #[.string x.want.copy, .int .i64 x.want.version, .string x.want.hold, .int .i64 x.want.pull, .int .i64 x.want.start, .int .i64 x.want.dies, .int .i64 x.want.grace, .int .i64 x.state, .int .i64 x.left, .int .i64 x.falls, .int .i64 x.until_] rfl rfl HTG.out isz_Rn (by simp [Value.oneCell']) w8 HE.out ?_))
      clear HE HTG HG7 HX7 hB7
      go_loopw [8, 11] (fun th i wr => ∃ (X : Rn) (k : Nat) (b : Bool), th = .bool b ∧ i = .int .i64 (k : Int) ∧ (k : Int) ≤ x.want.grace + 2 ∧ Hid (StopAt x X k) ∧ Hid (Blk g #[.string X.want.copy, .int .i64 X.want.version, .string X.want.hold, .int .i64 X.want.pull, .int .i64 X.want.start, .int .i64 X.want.dies, .int .i64 X.want.grace, .int .i64 X.state, .int .i64 X.left, .int .i64 X.falls, .int .i64 X.until_] 26 wr) ∧ Hid (Blk q #[.string x.want.copy, .int .i64 x.want.version, .string x.want.hold, .int .i64 x.want.pull, .int .i64 x.want.start, .int .i64 x.want.dies, .int .i64 x.want.grace, .int .i64 x.state, .int .i64 x.left, .int .i64 x.falls, .int .i64 x.until_] 26 wr) ∧ Below w.heap.size w wr) (fun _ i _ => (202 - intOf i).toNat)
      case atStart => exact ⟨x, 0, _, rfl, rfl, by omega, .inl ⟨rfl, rfl⟩, HG8, HX8, hB8⟩
      case round =>
        obtain ⟨X, k, b, rfl, rfl, hk, HS, HG, HX, hB⟩ := hrel
        clear HG8 HX8 hB8
        have k6 : wr.cell? ⟨q, 6, none⟩ = some (.int .i64 x.want.grace) := HX.out.cell rfl
        have hXw := stopAt_want HS.out
        by_cases hlt : (k : Int) < x.want.grace + 2
        · have z0 : X.want.copy.size ≤ 1048576 := by rw [hXw]; omega
          have z2 : X.want.hold.size ≤ 1048576 := by rw [hXw]; omega
          have HZ := Hid.intro (And.intro z0 z2)
          clear z0 z2 hXw
          go_wp2_with (refine wpList_load_mid rfl 26 _ rfl g 0 rfl [.string X.want.copy, .int .i64 X.want.version, .string X.want.hold, .int .i64 X.want.pull, .int .i64 X.want.start, .int .i64 X.want.dies, .int .i64 X.want.grace, .int .i64 X.state, .int .i64 X.left, .int .i64 X.falls, .int .i64 X.until_] _ HG.out.rangeA Try.underlying26 rfl isz_Rn ?_)
          refine (implLive_any X ⟨⟨#[]⟩, 0, ⟨#[]⟩, 0, 0, 0, 0⟩ false _ _ HZ.out.1 HZ.out.2).mono ?_
          rintro e w9 ⟨F, b9, hF, rfl, hb9⟩
          have hF2 := hF.trans (live_eq X false _)
          obtain ⟨hno, hyes⟩ := stopAt_next HS.out g1 HGL.out hF2
          have HNO := Hid.intro hno
          have HYES := Hid.intro hyes
          have HG9 := Hid.intro (HG.out.below hb9 HG.out.lt)
          have HX9 := Hid.intro (HX.out.below hb9 HX.out.lt)
          have hB9 := hB.trans (hb9.mono hB.size)
          have HTG := Hid.intro HG9.out.there
          obtain ⟨w10, HE⟩ : ∃ w10, Hid (w10 = w9.setCells g 0 [.string F.want.copy, .int .i64 F.want.version, .string F.want.hold, .int .i64 F.want.pull, .int .i64 F.want.start, .int .i64 F.want.dies, .int .i64 F.want.grace, .int .i64 F.state, .int .i64 F.left, .int .i64 F.falls, .int .i64 F.until_]) := ⟨_, rfl⟩
          have HG10 : Hid (Blk g #[.string F.want.copy, .int .i64 F.want.version, .string F.want.hold, .int .i64 F.want.pull, .int .i64 F.want.start, .int .i64 F.want.dies, .int .i64 F.want.grace, .int .i64 F.state, .int .i64 F.left, .int .i64 F.falls, .int .i64 F.until_] 26 w10) := by
            show Blk _ _ _ _
            rw [HE.out]
            exact HG9.out.setAll #[.string F.want.copy, .int .i64 F.want.version, .string F.want.hold, .int .i64 F.want.pull, .int .i64 F.want.start, .int .i64 F.want.dies, .int .i64 F.want.grace, .int .i64 F.state, .int .i64 F.left, .int .i64 F.falls, .int .i64 F.until_] rfl
          have HX10 : Hid (Blk q #[.string x.want.copy, .int .i64 x.want.version, .string x.want.hold, .int .i64 x.want.pull, .int .i64 x.want.start, .int .i64 x.want.dies, .int .i64 x.want.grace, .int .i64 x.state, .int .i64 x.left, .int .i64 x.falls, .int .i64 x.until_] 26 w10) := by
            show Blk _ _ _ _
            rw [HE.out]
            exact blk_setCells_other (by omega) _ _ _ HX9.out
          have hB10 : Below w.heap.size w w10 := by
            rw [HE.out]
            exact below_setCells (by omega) _ _ _ hB9
          clear hF hF2 hno hyes hb9 HG HX hB k6 HG9 HX9 hB9 HZ HS
          cases b9 with
          | false =>
            have hq : ∀ w, (Op.equalIn 10000 26 (.agg #[.string F.want.copy, .int .i64 F.want.version, .string F.want.hold, .int .i64 F.want.pull, .int .i64 F.want.start, .int .i64 F.want.dies, .int .i64 F.want.grace, .int .i64 F.state, .int .i64 F.left, .int .i64 F.falls, .int .i64 F.until_]) (.agg #[.string ⟨#[]⟩, .int .i64 0, .string ⟨#[]⟩, .int .i64 0, .int .i64 0, .int .i64 0, .int .i64 0, .int .i64 0, .int .i64 0, .int .i64 0, .int .i64 0])).run Try.prog w = .ok true w := fun w => by rw [HNO.out rfl]; exact equalR noRn w
            have hgd := guardR
            go_wp2_with (first | (refine wpList_store_to rfl 26 _ _ rfl g 0 #[.string F.want.copy, .int .i64 F.want.version, .string F.want.hold, .int .i64 F.want.pull, .int .i64 F.want.start, .int .i64 F.want.dies, .int .i64 F.want.grace, .int .i64 F.state, .int .i64 F.left, .int .i64 F.falls, .int .i64 F.until_] rfl rfl HTG.out isz_Rn (by simp [Value.oneCell']) w10 HE.out ?_) | (refine wpList_load_mid rfl 26 _ rfl g 0 rfl [.string F.want.copy, .int .i64 F.want.version, .string F.want.hold, .int .i64 F.want.pull, .int .i64 F.want.start, .int .i64 F.want.dies, .int .i64 F.want.grace, .int .i64 F.state, .int .i64 F.left, .int .i64 F.falls, .int .i64 F.until_] _ HG10.out.rangeA Try.underlying26 rfl isz_Rn ?_))
            go_ret
            exact ⟨rfl, hB10⟩
          | true =>
            obtain ⟨f6, fw, fs⟩ := HYES.out rfl
            have hq : ∀ w, (Op.equalIn 10000 24 (.agg #[.string F.want.copy, .int .i64 F.want.version, .string F.want.hold, .int .i64 F.want.pull, .int .i64 F.want.start, .int .i64 F.want.dies, .int .i64 F.want.grace]) (.agg #[.string x.want.copy, .int .i64 x.want.version, .string x.want.hold, .int .i64 x.want.pull, .int .i64 x.want.start, .int .i64 x.want.dies, .int .i64 x.want.grace])).run Try.prog w = .ok true w := fun w => by rw [equalW, fw, eqW_self]
            have hgd := guardW
            have m0 : w10.cell? ⟨g, 0, none⟩ = some (.string F.want.copy) := HG10.out.cell rfl
            have m1 : w10.cell? ⟨g, 1, none⟩ = some (.int .i64 F.want.version) := HG10.out.cell rfl
            have m2 : w10.cell? ⟨g, 2, none⟩ = some (.string F.want.hold) := HG10.out.cell rfl
            have m3 : w10.cell? ⟨g, 3, none⟩ = some (.int .i64 F.want.pull) := HG10.out.cell rfl
            have m4 : w10.cell? ⟨g, 4, none⟩ = some (.int .i64 F.want.start) := HG10.out.cell rfl
            have m5 : w10.cell? ⟨g, 5, none⟩ = some (.int .i64 F.want.dies) := HG10.out.cell rfl
            have m6 : w10.cell? ⟨g, 6, none⟩ = some (.int .i64 F.want.grace) := HG10.out.cell rfl
            have n0 : w10.cell? ⟨q, 0, none⟩ = some (.string x.want.copy) := HX10.out.cell rfl
            have n1 : w10.cell? ⟨q, 1, none⟩ = some (.int .i64 x.want.version) := HX10.out.cell rfl
            have n2 : w10.cell? ⟨q, 2, none⟩ = some (.string x.want.hold) := HX10.out.cell rfl
            have n3 : w10.cell? ⟨q, 3, none⟩ = some (.int .i64 x.want.pull) := HX10.out.cell rfl
            have n4 : w10.cell? ⟨q, 4, none⟩ = some (.int .i64 x.want.start) := HX10.out.cell rfl
            have n5 : w10.cell? ⟨q, 5, none⟩ = some (.int .i64 x.want.dies) := HX10.out.cell rfl
            have n6 : w10.cell? ⟨q, 6, none⟩ = some (.int .i64 x.want.grace) := HX10.out.cell rfl
            have kf : w10.cell? ⟨g, 7, none⟩ = some (.int .i64 6) := by
              have h : w10.cell? ⟨g, 7, none⟩ = some (.int .i64 F.state) := HG10.out.cell rfl
              rw [h, f6]
            have HFS := Hid.intro fs
            clear f6 fw fs HYES HNO
            go_wp2_with (refine wpList_store_to rfl 26 _ _ rfl g 0 #[.string F.want.copy, .int .i64 F.want.version, .string F.want.hold, .int .i64 F.want.pull, .int .i64 F.want.start, .int .i64 F.want.dies, .int .i64 F.want.grace, .int .i64 F.state, .int .i64 F.left, .int .i64 F.falls, .int .i64 F.until_] rfl rfl HTG.out isz_Rn (by simp [Value.oneCell']) w10 HE.out ?_)
            go_roundw
            case rel => exact ⟨F, k + 1, true, rfl, by go_num, by omega, HFS, HG10, HX10, hB10⟩
            case measure => simp [intOf]; omega
        · exact (stopAt_end HS.out g0 (by omega)).elim

end Go.Proofs.Ytalnkbocfhhjkaa
