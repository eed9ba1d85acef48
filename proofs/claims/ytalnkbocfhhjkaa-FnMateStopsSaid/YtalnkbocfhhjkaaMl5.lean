/-
  A tick of a run by the specification. Made by mkml5.py.
-/
import Derived.Test.YtalnkbocfhhjkaaMl4
namespace Go.Proofs.Ytalnkbocfhhjkaa
open Go.RowKit

set_option maxHeartbeats 4000000 in
set_option maxRecDepth 100000 in
theorem begin12_any (x : Rn) (c : Int) (w : World) :
    Calls Try.prog 17 #[.agg #[.string x.want.copy, .int .i64 x.want.version, .string x.want.hold, .int .i64 x.want.pull, .int .i64 x.want.start, .int .i64 x.want.dies, .int .i64 x.want.grace, .int .i64 x.state, .int .i64 x.left, .int .i64 x.falls, .int .i64 x.until_], .int .i64 c] w fun e w' => e = .returned (.agg #[.string (bgR x c).want.copy, .int .i64 (bgR x c).want.version, .string (bgR x c).want.hold, .int .i64 (bgR x c).want.pull, .int .i64 (bgR x c).want.start, .int .i64 (bgR x c).want.dies, .int .i64 (bgR x c).want.grace, .int .i64 (bgR x c).state, .int .i64 (bgR x c).left, .int .i64 (bgR x c).falls, .int .i64 (bgR x c).until_]) ∧ Below w.heap.size w w' := by
  have HX0 : Blk w.heap.size #[.string x.want.copy, .int .i64 x.want.version, .string x.want.hold, .int .i64 x.want.pull, .int .i64 x.want.start, .int .i64 x.want.dies, .int .i64 x.want.grace, .int .i64 x.state, .int .i64 x.left, .int .i64 x.falls, .int .i64 x.until_] 26 (w.alloc (.cells #[.string x.want.copy, .int .i64 x.want.version, .string x.want.hold, .int .i64 x.want.pull, .int .i64 x.want.start, .int .i64 x.want.dies, .int .i64 x.want.grace, .int .i64 x.state, .int .i64 x.left, .int .i64 x.falls, .int .i64 x.until_] 26)) := Blk.alloc _ _ _
  have HZ : Hid (Blk (w.heap.size + 1) #[.string ⟨#[]⟩, .int .i64 0, .string ⟨#[]⟩, .int .i64 0, .int .i64 0, .int .i64 0, .int .i64 0, .int .i64 0, .int .i64 0, .int .i64 0, .int .i64 0] 26 ((w.alloc (.cells #[.string x.want.copy, .int .i64 x.want.version, .string x.want.hold, .int .i64 x.want.pull, .int .i64 x.want.start, .int .i64 x.want.dies, .int .i64 x.want.grace, .int .i64 x.state, .int .i64 x.left, .int .i64 x.falls, .int .i64 x.until_] 26)).alloc (.cells #[.string ⟨#[]⟩, .int .i64 0, .string ⟨#[]⟩, .int .i64 0, .int .i64 0, .int .i64 0, .int .i64 0, .int .i64 0, .int .i64 0, .int .i64 0, .int .i64 0] 26))) := by
    have := Blk.alloc (w.alloc (.cells #[.string x.want.copy, .int .i64 x.want.version, .string x.want.hold, .int .i64 x.want.pull, .int .i64 x.want.start, .int .i64 x.want.dies, .int .i64 x.want.grace, .int .i64 x.state, .int .i64 x.left, .int .i64 x.falls, .int .i64 x.until_] 26)) #[.string ⟨#[]⟩, .int .i64 0, .string ⟨#[]⟩, .int .i64 0, .int .i64 0, .int .i64 0, .int .i64 0, .int .i64 0, .int .i64 0, .int .i64 0, .int .i64 0] 26
    show Blk _ _ _ _
    simpa using this
  have hB0 : Below w.heap.size w ((w.alloc (.cells #[.string x.want.copy, .int .i64 x.want.version, .string x.want.hold, .int .i64 x.want.pull, .int .i64 x.want.start, .int .i64 x.want.dies, .int .i64 x.want.grace, .int .i64 x.state, .int .i64 x.left, .int .i64 x.falls, .int .i64 x.until_] 26)).alloc (.cells #[.string ⟨#[]⟩, .int .i64 0, .string ⟨#[]⟩, .int .i64 0, .int .i64 0, .int .i64 0, .int .i64 0, .int .i64 0, .int .i64 0, .int .i64 0, .int .i64 0] 26)) := by go_grown
  have HX : Hid (Blk w.heap.size #[.string x.want.copy, .int .i64 x.want.version, .string x.want.hold, .int .i64 x.want.pull, .int .i64 x.want.start, .int .i64 x.want.dies, .int .i64 x.want.grace, .int .i64 x.state, .int .i64 x.left, .int .i64 x.falls, .int .i64 x.until_] 26 ((w.alloc (.cells #[.string x.want.copy, .int .i64 x.want.version, .string x.want.hold, .int .i64 x.want.pull, .int .i64 x.want.start, .int .i64 x.want.dies, .int .i64 x.want.grace, .int .i64 x.state, .int .i64 x.left, .int .i64 x.falls, .int .i64 x.until_] 26)).alloc (.cells #[.string ⟨#[]⟩, .int .i64 0, .string ⟨#[]⟩, .int .i64 0, .int .i64 0, .int .i64 0, .int .i64 0, .int .i64 0, .int .i64 0, .int .i64 0, .int .i64 0] 26))) := HX0.below ((Below.refl _ _).alloc (Nat.le_refl _) _) HX0.lt
  clear HX0
  go_enter Try.func17, Try.ntmps17
  go_upto_region 1 with fail
  generalize (w.alloc (Obj.cells #[.string x.want.copy, .int .i64 x.want.version, .string x.want.hold, .int .i64 x.want.pull, .int .i64 x.want.start, .int .i64 x.want.dies, .int .i64 x.want.grace, .int .i64 x.state, .int .i64 x.left, .int .i64 x.falls, .int .i64 x.until_] 26)).alloc (Obj.cells #[.string ⟨#[]⟩, .int .i64 0, .string ⟨#[]⟩, .int .i64 0, .int .i64 0, .int .i64 0, .int .i64 0, .int .i64 0, .int .i64 0, .int .i64 0, .int .i64 0] 26) = w0 at *
  have k7 : w0.cell? ⟨w.heap.size, 7, none⟩ = some (.int .i64 x.state) := HX.out.cell rfl
  have f7 : w0.frozen? ⟨w.heap.size, 7, none⟩ = false := HX.out.frozen _
  have k8 : w0.cell? ⟨w.heap.size, 8, none⟩ = some (.int .i64 x.left) := HX.out.cell rfl
  have f8 : w0.frozen? ⟨w.heap.size, 8, none⟩ = false := HX.out.frozen _
  have HX2 : Hid (Blk w.heap.size #[.string x.want.copy, .int .i64 x.want.version, .string x.want.hold, .int .i64 x.want.pull, .int .i64 x.want.start, .int .i64 x.want.dies, .int .i64 x.want.grace, .int .i64 2, .int .i64 0, .int .i64 x.falls, .int .i64 x.until_] 26 ((w0.setCell ⟨w.heap.size, 7, none⟩ (.int .i64 2)).setCell ⟨w.heap.size, 8, none⟩ (.int .i64 0))) := (HX.out.set 7 _).set 8 _
  have HZ2 : Hid (Blk (w.heap.size + 1) #[.string ⟨#[]⟩, .int .i64 0, .string ⟨#[]⟩, .int .i64 0, .int .i64 0, .int .i64 0, .int .i64 0, .int .i64 0, .int .i64 0, .int .i64 0, .int .i64 0] 26 ((w0.setCell ⟨w.heap.size, 7, none⟩ (.int .i64 2)).setCell ⟨w.heap.size, 8, none⟩ (.int .i64 0))) := (HZ.out.other (by simp) _).other (by simp) _
  have hB2 : Below w.heap.size w ((w0.setCell ⟨w.heap.size, 7, none⟩ (.int .i64 2)).setCell ⟨w.heap.size, 8, none⟩ (.int .i64 0)) := (hB0.setCell (p := ⟨w.heap.size, 7, none⟩) (Nat.le_refl _) _).setCell (p := ⟨w.heap.size, 8, none⟩) (Nat.le_refl _) _
  go_upto_region 3 with fail
  generalize (w0.setCell ⟨w.heap.size, 7, none⟩ (Value.int .i64 2)).setCell ⟨w.heap.size, 8, none⟩ (Value.int .i64 0) = w2 at *
  clear hB0 HX HZ k7 k8 f7 f8
  go_wp2_with (first | (refine wpList_load_mid rfl 26 _ rfl w.heap.size 0 rfl [.string x.want.copy, .int .i64 x.want.version, .string x.want.hold, .int .i64 x.want.pull, .int .i64 x.want.start, .int .i64 x.want.dies, .int .i64 x.want.grace, .int .i64 2, .int .i64 0, .int .i64 x.falls, .int .i64 x.until_] _ HX2.out.rangeA Try.underlying26 rfl isz_Rn ?_))
  refine (leased11_any { x with state := 2, left := 0 } c _).mono ?_
  rintro e w3 ⟨rfl, hb3⟩
  have HX3 := Hid.intro (HX2.out.below hb3 HX2.out.lt)
  have HZ3 := Hid.intro (HZ2.out.below hb3 HZ2.out.lt)
  have hB3 := hB2.trans (hb3.mono hB2.size)
  have hls : lsB { x with state := 2, left := 0 } c = lsB x c := rfl
  rw [hls]
  clear hb3 hB2 HX2 HZ2 hls
  cases hl : lsB x c with
  | true =>
    have HG : Hid (bgR x c = { x with state := 3, left := x.want.start }) := if_pos hl
    clear hl
    have k4 : w3.cell? ⟨w.heap.size, 4, none⟩ = some (.int .i64 x.want.start) := HX3.out.cell rfl
    have f4 : w3.frozen? ⟨w.heap.size, 4, none⟩ = false := HX3.out.frozen _
    have k7 : w3.cell? ⟨w.heap.size, 7, none⟩ = some (.int .i64 2) := HX3.out.cell rfl
    have f7 : w3.frozen? ⟨w.heap.size, 7, none⟩ = false := HX3.out.frozen _
    have k8 : w3.cell? ⟨w.heap.size, 8, none⟩ = some (.int .i64 0) := HX3.out.cell rfl
    have f8 : w3.frozen? ⟨w.heap.size, 8, none⟩ = false := HX3.out.frozen _
    have HX4 : Hid (Blk w.heap.size #[.string x.want.copy, .int .i64 x.want.version, .string x.want.hold, .int .i64 x.want.pull, .int .i64 x.want.start, .int .i64 x.want.dies, .int .i64 x.want.grace, .int .i64 3, .int .i64 x.want.start, .int .i64 x.falls, .int .i64 x.until_] 26 ((w3.setCell ⟨w.heap.size, 7, none⟩ (.int .i64 3)).setCell ⟨w.heap.size, 8, none⟩ (.int .i64 x.want.start))) := (HX3.out.set 7 _).set 8 _
    have HZ4 : Hid (Blk (w.heap.size + 1) #[.string ⟨#[]⟩, .int .i64 0, .string ⟨#[]⟩, .int .i64 0, .int .i64 0, .int .i64 0, .int .i64 0, .int .i64 0, .int .i64 0, .int .i64 0, .int .i64 0] 26 ((w3.setCell ⟨w.heap.size, 7, none⟩ (.int .i64 3)).setCell ⟨w.heap.size, 8, none⟩ (.int .i64 x.want.start))) := (HZ3.out.other (by simp) _).other (by simp) _
    have hB4 : Below w.heap.size w ((w3.setCell ⟨w.heap.size, 7, none⟩ (.int .i64 3)).setCell ⟨w.heap.size, 8, none⟩ (.int .i64 x.want.start)) := (hB3.setCell (p := ⟨w.heap.size, 7, none⟩) (Nat.le_refl _) _).setCell (p := ⟨w.heap.size, 8, none⟩) (Nat.le_refl _) _
    obtain ⟨w5, HW5⟩ : ∃ w5, Hid (w5 = ((w3.setCell ⟨w.heap.size, 7, none⟩ (.int .i64 3)).setCell ⟨w.heap.size, 8, none⟩ (.int .i64 x.want.start)).setCells (w.heap.size + 1) 0 [.string x.want.copy, .int .i64 x.want.version, .string x.want.hold, .int .i64 x.want.pull, .int .i64 x.want.start, .int .i64 x.want.dies, .int .i64 x.want.grace, .int .i64 3, .int .i64 x.want.start, .int .i64 x.falls, .int .i64 x.until_]) := ⟨_, rfl⟩
    have HR5 : Hid (w5.rangeAt (w.heap.size + 1) 0 [.string x.want.copy, .int .i64 x.want.version, .string x.want.hold, .int .i64 x.want.pull, .int .i64 x.want.start, .int .i64 x.want.dies, .int .i64 x.want.grace, .int .i64 3, .int .i64 x.want.start, .int .i64 x.falls, .int .i64 x.until_]) := by
      show World.rangeAt _ _ _ _
      rw [HW5.out]
      exact World.rangeAt_setCells_same _ _ _ _ HZ4.out.there
    have hB5 : Below w.heap.size w w5 := by
      rw [HW5.out]
      exact below_setCells (by omega) _ _ _ hB4
    have HTZ := Hid.intro HZ4.out.there
    go_wp2_with (first | (refine wpList_load_mid rfl 26 _ rfl w.heap.size 0 rfl [.string x.want.copy, .int .i64 x.want.version, .string x.want.hold, .int .i64 x.want.pull, .int .i64 x.want.start, .int .i64 x.want.dies, .int .i64 x.want.grace, .int .i64 3, .int .i64 x.want.start, .int .i64 x.falls, .int .i64 x.until_] _ HX4.out.rangeA Try.underlying26 rfl isz_Rn ?_) | (refine wpList_store_to rfl 26 _ _ rfl (w.heap.size + 1) 0 #[.string x.want.copy, .int .i64 x.want.version, .string x.want.hold, .int .i64 x.want.pull, .int .i64 x.want.start, .int .i64 x.want.dies, .int .i64 x.want.grace, .int .i64 3, .int .i64 x.want.start, .int .i64 x.falls, .int .i64 x.until_] rfl rfl HTZ.out isz_Rn (by simp [Value.oneCell']) w5 HW5.out ?_))
    exact bodyPost_ret (results_cell_mid rfl _ _ (w.heap.size + 1) [.string x.want.copy, .int .i64 x.want.version, .string x.want.hold, .int .i64 x.want.pull, .int .i64 x.want.start, .int .i64 x.want.dies, .int .i64 x.want.grace, .int .i64 3, .int .i64 x.want.start, .int .i64 x.falls, .int .i64 x.until_] _ rfl HR5.out Try.underlying26 rfl isz_Rn) rfl ⟨by rw [HG.out], hB5⟩
  | false =>
    have HG : Hid (bgR x c = { x with state := 2, left := 0 }) := if_neg (by rw [hl]; simp)
    clear hl
    obtain ⟨w5, HW5⟩ : ∃ w5, Hid (w5 = (w3).setCells (w.heap.size + 1) 0 [.string x.want.copy, .int .i64 x.want.version, .string x.want.hold, .int .i64 x.want.pull, .int .i64 x.want.start, .int .i64 x.want.dies, .int .i64 x.want.grace, .int .i64 2, .int .i64 0, .int .i64 x.falls, .int .i64 x.until_]) := ⟨_, rfl⟩
    have HR5 : Hid (w5.rangeAt (w.heap.size + 1) 0 [.string x.want.copy, .int .i64 x.want.version, .string x.want.hold, .int .i64 x.want.pull, .int .i64 x.want.start, .int .i64 x.want.dies, .int .i64 x.want.grace, .int .i64 2, .int .i64 0, .int .i64 x.falls, .int .i64 x.until_]) := by
      show World.rangeAt _ _ _ _
      rw [HW5.out]
      exact World.rangeAt_setCells_same _ _ _ _ HZ3.out.there
    have hB5 : Below w.heap.size w w5 := by
      rw [HW5.out]
      exact below_setCells (by omega) _ _ _ hB3
    have HTZ := Hid.intro HZ3.out.there
    go_wp2_with (first | (refine wpList_load_mid rfl 26 _ rfl w.heap.size 0 rfl [.string x.want.copy, .int .i64 x.want.version, .string x.want.hold, .int .i64 x.want.pull, .int .i64 x.want.start, .int .i64 x.want.dies, .int .i64 x.want.grace, .int .i64 2, .int .i64 0, .int .i64 x.falls, .int .i64 x.until_] _ HX3.out.rangeA Try.underlying26 rfl isz_Rn ?_) | (refine wpList_store_to rfl 26 _ _ rfl (w.heap.size + 1) 0 #[.string x.want.copy, .int .i64 x.want.version, .string x.want.hold, .int .i64 x.want.pull, .int .i64 x.want.start, .int .i64 x.want.dies, .int .i64 x.want.grace, .int .i64 2, .int .i64 0, .int .i64 x.falls, .int .i64 x.until_] rfl rfl HTZ.out isz_Rn (by simp [Value.oneCell']) w5 HW5.out ?_))
    exact bodyPost_ret (results_cell_mid rfl _ _ (w.heap.size + 1) [.string x.want.copy, .int .i64 x.want.version, .string x.want.hold, .int .i64 x.want.pull, .int .i64 x.want.start, .int .i64 x.want.dies, .int .i64 x.want.grace, .int .i64 2, .int .i64 0, .int .i64 x.falls, .int .i64 x.until_] _ rfl HR5.out Try.underlying26 rfl isz_Rn) rfl ⟨by rw [HG.out], hB5⟩

set_option maxHeartbeats 4000000 in
set_option maxRecDepth 100000 in
theorem dies12_any (x : Rn) (w : World) :
    Calls Try.prog 16 #[.agg #[.string x.want.copy, .int .i64 x.want.version, .string x.want.hold, .int .i64 x.want.pull, .int .i64 x.want.start, .int .i64 x.want.dies, .int .i64 x.want.grace, .int .i64 x.state, .int .i64 x.left, .int .i64 x.falls, .int .i64 x.until_]] w fun e w' => e = .returned (.agg #[.string (dyR x).want.copy, .int .i64 (dyR x).want.version, .string (dyR x).want.hold, .int .i64 (dyR x).want.pull, .int .i64 (dyR x).want.start, .int .i64 (dyR x).want.dies, .int .i64 (dyR x).want.grace, .int .i64 (dyR x).state, .int .i64 (dyR x).left, .int .i64 (dyR x).falls, .int .i64 (dyR x).until_]) ∧ Below w.heap.size w w' := by
  have HX0 : Blk w.heap.size #[.string x.want.copy, .int .i64 x.want.version, .string x.want.hold, .int .i64 x.want.pull, .int .i64 x.want.start, .int .i64 x.want.dies, .int .i64 x.want.grace, .int .i64 x.state, .int .i64 x.left, .int .i64 x.falls, .int .i64 x.until_] 26 (w.alloc (.cells #[.string x.want.copy, .int .i64 x.want.version, .string x.want.hold, .int .i64 x.want.pull, .int .i64 x.want.start, .int .i64 x.want.dies, .int .i64 x.want.grace, .int .i64 x.state, .int .i64 x.left, .int .i64 x.falls, .int .i64 x.until_] 26)) := Blk.alloc _ _ _
  have HZ : Hid (Blk (w.heap.size + 1) #[.string ⟨#[]⟩, .int .i64 0, .string ⟨#[]⟩, .int .i64 0, .int .i64 0, .int .i64 0, .int .i64 0, .int .i64 0, .int .i64 0, .int .i64 0, .int .i64 0] 26 ((w.alloc (.cells #[.string x.want.copy, .int .i64 x.want.version, .string x.want.hold, .int .i64 x.want.pull, .int .i64 x.want.start, .int .i64 x.want.dies, .int .i64 x.want.grace, .int .i64 x.state, .int .i64 x.left, .int .i64 x.falls, .int .i64 x.until_] 26)).alloc (.cells #[.string ⟨#[]⟩, .int .i64 0, .string ⟨#[]⟩, .int .i64 0, .int .i64 0, .int .i64 0, .int .i64 0, .int .i64 0, .int .i64 0, .int .i64 0, .int .i64 0] 26))) := by
    have := Blk.alloc (w.alloc (.cells #[.string x.want.copy, .int .i64 x.want.version, .string x.want.hold, .int .i64 x.want.pull, .int .i64 x.want.start, .int .i64 x.want.dies, .int .i64 x.want.grace, .int .i64 x.state, .int .i64 x.left, .int .i64 x.falls, .int .i64 x.until_] 26)) #[.string ⟨#[]⟩, .int .i64 0, .string ⟨#[]⟩, .int .i64 0, .int .i64 0, .int .i64 0, .int .i64 0, .int .i64 0, .int .i64 0, .int .i64 0, .int .i64 0] 26
    show Blk _ _ _ _
    simpa using this
  have hB0 : Below w.heap.size w ((w.alloc (.cells #[.string x.want.copy, .int .i64 x.want.version, .string x.want.hold, .int .i64 x.want.pull, .int .i64 x.want.start, .int .i64 x.want.dies, .int .i64 x.want.grace, .int .i64 x.state, .int .i64 x.left, .int .i64 x.falls, .int .i64 x.until_] 26)).alloc (.cells #[.string ⟨#[]⟩, .int .i64 0, .string ⟨#[]⟩, .int .i64 0, .int .i64 0, .int .i64 0, .int .i64 0, .int .i64 0, .int .i64 0, .int .i64 0, .int .i64 0] 26)) := by go_grown
  have HX : Hid (Blk w.heap.size #[.string x.want.copy, .int .i64 x.want.version, .string x.want.hold, .int .i64 x.want.pull, .int .i64 x.want.start, .int .i64 x.want.dies, .int .i64 x.want.grace, .int .i64 x.state, .int .i64 x.left, .int .i64 x.falls, .int .i64 x.until_] 26 ((w.alloc (.cells #[.string x.want.copy, .int .i64 x.want.version, .string x.want.hold, .int .i64 x.want.pull, .int .i64 x.want.start, .int .i64 x.want.dies, .int .i64 x.want.grace, .int .i64 x.state, .int .i64 x.left, .int .i64 x.falls, .int .i64 x.until_] 26)).alloc (.cells #[.string ⟨#[]⟩, .int .i64 0, .string ⟨#[]⟩, .int .i64 0, .int .i64 0, .int .i64 0, .int .i64 0, .int .i64 0, .int .i64 0, .int .i64 0, .int .i64 0] 26))) := HX0.below ((Below.refl _ _).alloc (Nat.le_refl _) _) HX0.lt
  clear HX0
  go_enter Try.func16, Try.ntmps16
  go_upto_region 1 with fail
  generalize (w.alloc (Obj.cells #[.string x.want.copy, .int .i64 x.want.version, .string x.want.hold, .int .i64 x.want.pull, .int .i64 x.want.start, .int .i64 x.want.dies, .int .i64 x.want.grace, .int .i64 x.state, .int .i64 x.left, .int .i64 x.falls, .int .i64 x.until_] 26)).alloc (Obj.cells #[.string ⟨#[]⟩, .int .i64 0, .string ⟨#[]⟩, .int .i64 0, .int .i64 0, .int .i64 0, .int .i64 0, .int .i64 0, .int .i64 0, .int .i64 0, .int .i64 0] 26) = w0 at *
  have k7 : w0.cell? ⟨w.heap.size, 7, none⟩ = some (.int .i64 x.state) := HX.out.cell rfl
  have f7 : w0.frozen? ⟨w.heap.size, 7, none⟩ = false := HX.out.frozen _
  have k8 : w0.cell? ⟨w.heap.size, 8, none⟩ = some (.int .i64 x.left) := HX.out.cell rfl
  have f8 : w0.frozen? ⟨w.heap.size, 8, none⟩ = false := HX.out.frozen _
  have k9 : w0.cell? ⟨w.heap.size, 9, none⟩ = some (.int .i64 x.falls) := HX.out.cell rfl
  have f9 : w0.frozen? ⟨w.heap.size, 9, none⟩ = false := HX.out.frozen _
  by_cases hf : x.falls < 1000
  · have HF : Hid (flF x.falls = wrap64 (x.falls + 1)) := if_pos hf
    have HX2 : Hid (Blk w.heap.size #[.string x.want.copy, .int .i64 x.want.version, .string x.want.hold, .int .i64 x.want.pull, .int .i64 x.want.start, .int .i64 x.want.dies, .int .i64 x.want.grace, .int .i64 5, .int .i64 1, .int .i64 (wrap64 (x.falls + 1)), .int .i64 x.until_] 26 ((((w0.setCell ⟨w.heap.size, 9, none⟩ (.int .i64 (wrap64 (x.falls + 1)))).setCell ⟨w.heap.size, 7, none⟩ (.int .i64 5)).setCell ⟨w.heap.size, 8, none⟩ (.int .i64 1)))) := ((HX.out.set 9 _).set 7 _).set 8 _
    have HZ2 : Hid (Blk (w.heap.size + 1) #[.string ⟨#[]⟩, .int .i64 0, .string ⟨#[]⟩, .int .i64 0, .int .i64 0, .int .i64 0, .int .i64 0, .int .i64 0, .int .i64 0, .int .i64 0, .int .i64 0] 26 ((((w0.setCell ⟨w.heap.size, 9, none⟩ (.int .i64 (wrap64 (x.falls + 1)))).setCell ⟨w.heap.size, 7, none⟩ (.int .i64 5)).setCell ⟨w.heap.size, 8, none⟩ (.int .i64 1)))) := ((HZ.out.other (by simp) _).other (by simp) _).other (by simp) _
    have hB2 : Below w.heap.size w ((((w0.setCell ⟨w.heap.size, 9, none⟩ (.int .i64 (wrap64 (x.falls + 1)))).setCell ⟨w.heap.size, 7, none⟩ (.int .i64 5)).setCell ⟨w.heap.size, 8, none⟩ (.int .i64 1))) := (((hB0.setCell (p := ⟨w.heap.size, 9, none⟩) (Nat.le_refl _) _).setCell (p := ⟨w.heap.size, 7, none⟩) (Nat.le_refl _) _).setCell (p := ⟨w.heap.size, 8, none⟩) (Nat.le_refl _) _)
    go_upto_region 5 with fail
    generalize ((w0.setCell ⟨w.heap.size, 9, none⟩ (Value.int .i64 (wrap64 (x.falls + 1)))).setCell ⟨w.heap.size, 7, none⟩ (Value.int .i64 5)).setCell ⟨w.heap.size, 8, none⟩ (Value.int .i64 1) = w2 at *
    clear hB0 HX HZ k7 k8 k9 f7 f8 f9
    have HY : Hid (dyR x = { x with state := 5, left := bkB (wrap64 (x.falls + 1)), falls := (wrap64 (x.falls + 1)) }) := by show _ = _; unfold dyR; rw [HF.out]
    generalize (wrap64 (x.falls + 1)) = F at *
    clear HF
    go_wp2_with fail
    go_loopw [3] (fun i wr => ∃ k : Nat, k ≤ 4 ∧ i = .int .i64 k ∧ Hid (Blk w.heap.size #[.string x.want.copy, .int .i64 x.want.version, .string x.want.hold, .int .i64 x.want.pull, .int .i64 x.want.start, .int .i64 x.want.dies, .int .i64 x.want.grace, .int .i64 5, .int .i64 (pw k), .int .i64 F, .int .i64 x.until_] 26 wr) ∧ Hid (Blk (w.heap.size + 1) #[.string ⟨#[]⟩, .int .i64 0, .string ⟨#[]⟩, .int .i64 0, .int .i64 0, .int .i64 0, .int .i64 0, .int .i64 0, .int .i64 0, .int .i64 0, .int .i64 0] 26 wr) ∧ Below w.heap.size w wr ∧ Hid (k = 0 ∨ (k : Int) ≤ F)) (fun i _ => 5 - (intOf i).toNat)
    case atStart => exact ⟨0, by omega, rfl, HX2, HZ2, hB2, .inl rfl⟩
    case round =>
      clear HX2 HZ2 hB2
      obtain ⟨k, hk, rfl, HXr, HZr, hBr, hf⟩ := hrel
      have m8 : wr.cell? ⟨w.heap.size, 8, none⟩ = some (.int .i64 (pw k)) := HXr.out.cell rfl
      have m9 : wr.cell? ⟨w.heap.size, 9, none⟩ = some (.int .i64 F) := HXr.out.cell rfl
      have mf : wr.frozen? ⟨w.heap.size, 8, none⟩ = false := HXr.out.frozen _
      by_cases h : (k : Int) < F
      · have hc : k = 0 ∨ k = 1 ∨ k = 2 ∨ k = 3 ∨ k = 4 := by omega
        rcases hc with rfl | rfl | rfl | rfl | rfl
        · have HX4 : Hid (Blk w.heap.size #[.string x.want.copy, .int .i64 x.want.version, .string x.want.hold, .int .i64 x.want.pull, .int .i64 x.want.start, .int .i64 x.want.dies, .int .i64 x.want.grace, .int .i64 5, .int .i64 (pw 1), .int .i64 F, .int .i64 x.until_] 26 (wr.setCell ⟨w.heap.size, 8, none⟩ (.int .i64 (pw 1)))) := HXr.out.set 8 _
          have HZ4 : Hid (Blk (w.heap.size + 1) #[.string ⟨#[]⟩, .int .i64 0, .string ⟨#[]⟩, .int .i64 0, .int .i64 0, .int .i64 0, .int .i64 0, .int .i64 0, .int .i64 0, .int .i64 0, .int .i64 0] 26 (wr.setCell ⟨w.heap.size, 8, none⟩ (.int .i64 (pw 1)))) := HZr.out.other (by simp) _
          have hB4 : Below w.heap.size w (wr.setCell ⟨w.heap.size, 8, none⟩ (.int .i64 (pw 1))) := hBr.setCell (p := ⟨w.heap.size, 8, none⟩) (Nat.le_refl _) _
          simp only [pw] at m8 HX4 HZ4 hB4
          go_wp2_with fail
          go_roundw
          case rel => exact ⟨1, by omega, by go_num, HX4, HZ4, hB4, .inr (by simp at h ⊢; omega)⟩
          case measure => simp [intOf]
        · have HX4 : Hid (Blk w.heap.size #[.string x.want.copy, .int .i64 x.want.version, .string x.want.hold, .int .i64 x.want.pull, .int .i64 x.want.start, .int .i64 x.want.dies, .int .i64 x.want.grace, .int .i64 5, .int .i64 (pw 2), .int .i64 F, .int .i64 x.until_] 26 (wr.setCell ⟨w.heap.size, 8, none⟩ (.int .i64 (pw 2)))) := HXr.out.set 8 _
          have HZ4 : Hid (Blk (w.heap.size + 1) #[.string ⟨#[]⟩, .int .i64 0, .string ⟨#[]⟩, .int .i64 0, .int .i64 0, .int .i64 0, .int .i64 0, .int .i64 0, .int .i64 0, .int .i64 0, .int .i64 0] 26 (wr.setCell ⟨w.heap.size, 8, none⟩ (.int .i64 (pw 2)))) := HZr.out.other (by simp) _
          have hB4 : Below w.heap.size w (wr.setCell ⟨w.heap.size, 8, none⟩ (.int .i64 (pw 2))) := hBr.setCell (p := ⟨w.heap.size, 8, none⟩) (Nat.le_refl _) _
          simp only [pw] at m8 HX4 HZ4 hB4
          go_wp2_with fail
          go_roundw
          case rel => exact ⟨2, by omega, by go_num, HX4, HZ4, hB4, .inr (by simp at h ⊢; omega)⟩
          case measure => simp [intOf]
        · have HX4 : Hid (Blk w.heap.size #[.string x.want.copy, .int .i64 x.want.version, .string x.want.hold, .int .i64 x.want.pull, .int .i64 x.want.start, .int .i64 x.want.dies, .int .i64 x.want.grace, .int .i64 5, .int .i64 (pw 3), .int .i64 F, .int .i64 x.until_] 26 (wr.setCell ⟨w.heap.size, 8, none⟩ (.int .i64 (pw 3)))) := HXr.out.set 8 _
          have HZ4 : Hid (Blk (w.heap.size + 1) #[.string ⟨#[]⟩, .int .i64 0, .string ⟨#[]⟩, .int .i64 0, .int .i64 0, .int .i64 0, .int .i64 0, .int .i64 0, .int .i64 0, .int .i64 0, .int .i64 0] 26 (wr.setCell ⟨w.heap.size, 8, none⟩ (.int .i64 (pw 3)))) := HZr.out.other (by simp) _
          have hB4 : Below w.heap.size w (wr.setCell ⟨w.heap.size, 8, none⟩ (.int .i64 (pw 3))) := hBr.setCell (p := ⟨w.heap.size, 8, none⟩) (Nat.le_refl _) _
          simp only [pw] at m8 HX4 HZ4 hB4
          go_wp2_with fail
          go_roundw
          case rel => exact ⟨3, by omega, by go_num, HX4, HZ4, hB4, .inr (by simp at h ⊢; omega)⟩
          case measure => simp [intOf]
        · have HX4 : Hid (Blk w.heap.size #[.string x.want.copy, .int .i64 x.want.version, .string x.want.hold, .int .i64 x.want.pull, .int .i64 x.want.start, .int .i64 x.want.dies, .int .i64 x.want.grace, .int .i64 5, .int .i64 (pw 4), .int .i64 F, .int .i64 x.until_] 26 (wr.setCell ⟨w.heap.size, 8, none⟩ (.int .i64 (pw 4)))) := HXr.out.set 8 _
          have HZ4 : Hid (Blk (w.heap.size + 1) #[.string ⟨#[]⟩, .int .i64 0, .string ⟨#[]⟩, .int .i64 0, .int .i64 0, .int .i64 0, .int .i64 0, .int .i64 0, .int .i64 0, .int .i64 0, .int .i64 0] 26 (wr.setCell ⟨w.heap.size, 8, none⟩ (.int .i64 (pw 4)))) := HZr.out.other (by simp) _
          have hB4 : Below w.heap.size w (wr.setCell ⟨w.heap.size, 8, none⟩ (.int .i64 (pw 4))) := hBr.setCell (p := ⟨w.heap.size, 8, none⟩) (Nat.le_refl _) _
          simp only [pw] at m8 HX4 HZ4 hB4
          go_wp2_with fail
          go_roundw
          case rel => exact ⟨4, by omega, by go_num, HX4, HZ4, hB4, .inr (by simp at h ⊢; omega)⟩
          case measure => simp [intOf]
        · have HE := Hid.intro (bk_end (f := F) (k := 4) (by omega) hf.out (.inr rfl))
          simp only [pw] at m8 HXr HE
          obtain ⟨w5, HW5⟩ : ∃ w5, Hid (w5 = (wr).setCells (w.heap.size + 1) 0 [.string x.want.copy, .int .i64 x.want.version, .string x.want.hold, .int .i64 x.want.pull, .int .i64 x.want.start, .int .i64 x.want.dies, .int .i64 x.want.grace, .int .i64 5, .int .i64 16, .int .i64 F, .int .i64 x.until_]) := ⟨_, rfl⟩
          have HR5 : Hid (w5.rangeAt (w.heap.size + 1) 0 [.string x.want.copy, .int .i64 x.want.version, .string x.want.hold, .int .i64 x.want.pull, .int .i64 x.want.start, .int .i64 x.want.dies, .int .i64 x.want.grace, .int .i64 5, .int .i64 16, .int .i64 F, .int .i64 x.until_]) := by
            show World.rangeAt _ _ _ _
            rw [HW5.out]
            exact World.rangeAt_setCells_same _ _ _ _ HZr.out.there
          have hB5 : Below w.heap.size w w5 := by
            rw [HW5.out]
            exact below_setCells (by omega) _ _ _ hBr
          have HTZ := Hid.intro HZr.out.there
          go_wp2_with (first | (refine wpList_load_mid rfl 26 _ rfl w.heap.size 0 rfl [.string x.want.copy, .int .i64 x.want.version, .string x.want.hold, .int .i64 x.want.pull, .int .i64 x.want.start, .int .i64 x.want.dies, .int .i64 x.want.grace, .int .i64 5, .int .i64 16, .int .i64 F, .int .i64 x.until_] _ HXr.out.rangeA Try.underlying26 rfl isz_Rn ?_) | (refine wpList_store_to rfl 26 _ _ rfl (w.heap.size + 1) 0 #[.string x.want.copy, .int .i64 x.want.version, .string x.want.hold, .int .i64 x.want.pull, .int .i64 x.want.start, .int .i64 x.want.dies, .int .i64 x.want.grace, .int .i64 5, .int .i64 16, .int .i64 F, .int .i64 x.until_] rfl rfl HTZ.out isz_Rn (by simp [Value.oneCell']) w5 HW5.out ?_))
          exact bodyPost_ret (results_cell_mid rfl _ _ (w.heap.size + 1) [.string x.want.copy, .int .i64 x.want.version, .string x.want.hold, .int .i64 x.want.pull, .int .i64 x.want.start, .int .i64 x.want.dies, .int .i64 x.want.grace, .int .i64 5, .int .i64 16, .int .i64 F, .int .i64 x.until_] _ rfl HR5.out Try.underlying26 rfl isz_Rn) rfl ⟨by rw [HY.out, HE.out], hB5⟩
      · have HE := Hid.intro (bk_end hk hf.out (.inl h))
        have h' : F ≤ (k : Int) := by omega
        clear h
        generalize pw k = P at *
        obtain ⟨w5, HW5⟩ : ∃ w5, Hid (w5 = (wr).setCells (w.heap.size + 1) 0 [.string x.want.copy, .int .i64 x.want.version, .string x.want.hold, .int .i64 x.want.pull, .int .i64 x.want.start, .int .i64 x.want.dies, .int .i64 x.want.grace, .int .i64 5, .int .i64 P, .int .i64 F, .int .i64 x.until_]) := ⟨_, rfl⟩
        have HR5 : Hid (w5.rangeAt (w.heap.size + 1) 0 [.string x.want.copy, .int .i64 x.want.version, .string x.want.hold, .int .i64 x.want.pull, .int .i64 x.want.start, .int .i64 x.want.dies, .int .i64 x.want.grace, .int .i64 5, .int .i64 P, .int .i64 F, .int .i64 x.until_]) := by
          show World.rangeAt _ _ _ _
          rw [HW5.out]
          exact World.rangeAt_setCells_same _ _ _ _ HZr.out.there
        have hB5 : Below w.heap.size w w5 := by
          rw [HW5.out]
          exact below_setCells (by omega) _ _ _ hBr
        have HTZ := Hid.intro HZr.out.there
        go_wp2_with (first | (refine wpList_load_mid rfl 26 _ rfl w.heap.size 0 rfl [.string x.want.copy, .int .i64 x.want.version, .string x.want.hold, .int .i64 x.want.pull, .int .i64 x.want.start, .int .i64 x.want.dies, .int .i64 x.want.grace, .int .i64 5, .int .i64 P, .int .i64 F, .int .i64 x.until_] _ HXr.out.rangeA Try.underlying26 rfl isz_Rn ?_) | (refine wpList_store_to rfl 26 _ _ rfl (w.heap.size + 1) 0 #[.string x.want.copy, .int .i64 x.want.version, .string x.want.hold, .int .i64 x.want.pull, .int .i64 x.want.start, .int .i64 x.want.dies, .int .i64 x.want.grace, .int .i64 5, .int .i64 P, .int .i64 F, .int .i64 x.until_] rfl rfl HTZ.out isz_Rn (by simp [Value.oneCell']) w5 HW5.out ?_))
        exact bodyPost_ret (results_cell_mid rfl _ _ (w.heap.size + 1) [.string x.want.copy, .int .i64 x.want.version, .string x.want.hold, .int .i64 x.want.pull, .int .i64 x.want.start, .int .i64 x.want.dies, .int .i64 x.want.grace, .int .i64 5, .int .i64 P, .int .i64 F, .int .i64 x.until_] _ rfl HR5.out Try.underlying26 rfl isz_Rn) rfl ⟨by rw [HY.out, HE.out], hB5⟩
  · have HF : Hid (flF x.falls = x.falls) := if_neg hf
    have hf' : 1000 ≤ x.falls := by omega
    clear hf
    have HX2 : Hid (Blk w.heap.size #[.string x.want.copy, .int .i64 x.want.version, .string x.want.hold, .int .i64 x.want.pull, .int .i64 x.want.start, .int .i64 x.want.dies, .int .i64 x.want.grace, .int .i64 5, .int .i64 1, .int .i64 x.falls, .int .i64 x.until_] 26 (((w0.setCell ⟨w.heap.size, 7, none⟩ (.int .i64 5)).setCell ⟨w.heap.size, 8, none⟩ (.int .i64 1)))) := (HX.out.set 7 _).set 8 _
    have HZ2 : Hid (Blk (w.heap.size + 1) #[.string ⟨#[]⟩, .int .i64 0, .string ⟨#[]⟩, .int .i64 0, .int .i64 0, .int .i64 0, .int .i64 0, .int .i64 0, .int .i64 0, .int .i64 0, .int .i64 0] 26 (((w0.setCell ⟨w.heap.size, 7, none⟩ (.int .i64 5)).setCell ⟨w.heap.size, 8, none⟩ (.int .i64 1)))) := (HZ.out.other (by simp) _).other (by simp) _
    have hB2 : Below w.heap.size w (((w0.setCell ⟨w.heap.size, 7, none⟩ (.int .i64 5)).setCell ⟨w.heap.size, 8, none⟩ (.int .i64 1))) := ((hB0.setCell (p := ⟨w.heap.size, 7, none⟩) (Nat.le_refl _) _).setCell (p := ⟨w.heap.size, 8, none⟩) (Nat.le_refl _) _)
    go_upto_region 5 with fail
    generalize (w0.setCell ⟨w.heap.size, 7, none⟩ (Value.int .i64 5)).setCell ⟨w.heap.size, 8, none⟩ (Value.int .i64 1) = w2 at *
    clear hB0 HX HZ k7 k8 k9 f7 f8 f9
    have HY : Hid (dyR x = { x with state := 5, left := bkB x.falls, falls := x.falls }) := by show _ = _; unfold dyR; rw [HF.out]
    clear HF
    go_wp2_with fail
    go_loopw [3] (fun i wr => ∃ k : Nat, k ≤ 4 ∧ i = .int .i64 k ∧ Hid (Blk w.heap.size #[.string x.want.copy, .int .i64 x.want.version, .string x.want.hold, .int .i64 x.want.pull, .int .i64 x.want.start, .int .i64 x.want.dies, .int .i64 x.want.grace, .int .i64 5, .int .i64 (pw k), .int .i64 x.falls, .int .i64 x.until_] 26 wr) ∧ Hid (Blk (w.heap.size + 1) #[.string ⟨#[]⟩, .int .i64 0, .string ⟨#[]⟩, .int .i64 0, .int .i64 0, .int .i64 0, .int .i64 0, .int .i64 0, .int .i64 0, .int .i64 0, .int .i64 0] 26 wr) ∧ Below w.heap.size w wr ∧ Hid (k = 0 ∨ (k : Int) ≤ x.falls)) (fun i _ => 5 - (intOf i).toNat)
    case atStart => exact ⟨0, by omega, rfl, HX2, HZ2, hB2, .inl rfl⟩
    case round =>
      clear HX2 HZ2 hB2
      obtain ⟨k, hk, rfl, HXr, HZr, hBr, hf⟩ := hrel
      have m8 : wr.cell? ⟨w.heap.size, 8, none⟩ = some (.int .i64 (pw k)) := HXr.out.cell rfl
      have m9 : wr.cell? ⟨w.heap.size, 9, none⟩ = some (.int .i64 x.falls) := HXr.out.cell rfl
      have mf : wr.frozen? ⟨w.heap.size, 8, none⟩ = false := HXr.out.frozen _
      by_cases h : (k : Int) < x.falls
      · have hc : k = 0 ∨ k = 1 ∨ k = 2 ∨ k = 3 ∨ k = 4 := by omega
        rcases hc with rfl | rfl | rfl | rfl | rfl
        · have HX4 : Hid (Blk w.heap.size #[.string x.want.copy, .int .i64 x.want.version, .string x.want.hold, .int .i64 x.want.pull, .int .i64 x.want.start, .int .i64 x.want.dies, .int .i64 x.want.grace, .int .i64 5, .int .i64 (pw 1), .int .i64 x.falls, .int .i64 x.until_] 26 (wr.setCell ⟨w.heap.size, 8, none⟩ (.int .i64 (pw 1)))) := HXr.out.set 8 _
          have HZ4 : Hid (Blk (w.heap.size + 1) #[.string ⟨#[]⟩, .int .i64 0, .string ⟨#[]⟩, .int .i64 0, .int .i64 0, .int .i64 0, .int .i64 0, .int .i64 0, .int .i64 0, .int .i64 0, .int .i64 0] 26 (wr.setCell ⟨w.heap.size, 8, none⟩ (.int .i64 (pw 1)))) := HZr.out.other (by simp) _
          have hB4 : Below w.heap.size w (wr.setCell ⟨w.heap.size, 8, none⟩ (.int .i64 (pw 1))) := hBr.setCell (p := ⟨w.heap.size, 8, none⟩) (Nat.le_refl _) _
          simp only [pw] at m8 HX4 HZ4 hB4
          go_wp2_with fail
          go_roundw
          case rel => exact ⟨1, by omega, by go_num, HX4, HZ4, hB4, .inr (by simp at h ⊢; omega)⟩
          case measure => simp [intOf]
        · have HX4 : Hid (Blk w.heap.size #[.string x.want.copy, .int .i64 x.want.version, .string x.want.hold, .int .i64 x.want.pull, .int .i64 x.want.start, .int .i64 x.want.dies, .int .i64 x.want.grace, .int .i64 5, .int .i64 (pw 2), .int .i64 x.falls, .int .i64 x.until_] 26 (wr.setCell ⟨w.heap.size, 8, none⟩ (.int .i64 (pw 2)))) := HXr.out.set 8 _
          have HZ4 : Hid (Blk (w.heap.size + 1) #[.string ⟨#[]⟩, .int .i64 0, .string ⟨#[]⟩, .int .i64 0, .int .i64 0, .int .i64 0, .int .i64 0, .int .i64 0, .int .i64 0, .int .i64 0, .int .i64 0] 26 (wr.setCell ⟨w.heap.size, 8, none⟩ (.int .i64 (pw 2)))) := HZr.out.other (by simp) _
          have hB4 : Below w.heap.size w (wr.setCell ⟨w.heap.size, 8, none⟩ (.int .i64 (pw 2))) := hBr.setCell (p := ⟨w.heap.size, 8, none⟩) (Nat.le_refl _) _
          simp only [pw] at m8 HX4 HZ4 hB4
          go_wp2_with fail
          go_roundw
          case rel => exact ⟨2, by omega, by go_num, HX4, HZ4, hB4, .inr (by simp at h ⊢; omega)⟩
          case measure => simp [intOf]
        · have HX4 : Hid (Blk w.heap.size #[.string x.want.copy, .int .i64 x.want.version, .string x.want.hold, .int .i64 x.want.pull, .int .i64 x.want.start, .int .i64 x.want.dies, .int .i64 x.want.grace, .int .i64 5, .int .i64 (pw 3), .int .i64 x.falls, .int .i64 x.until_] 26 (wr.setCell ⟨w.heap.size, 8, none⟩ (.int .i64 (pw 3)))) := HXr.out.set 8 _
          have HZ4 : Hid (Blk (w.heap.size + 1) #[.string ⟨#[]⟩, .int .i64 0, .string ⟨#[]⟩, .int .i64 0, .int .i64 0, .int .i64 0, .int .i64 0, .int .i64 0, .int .i64 0, .int .i64 0, .int .i64 0] 26 (wr.setCell ⟨w.heap.size, 8, none⟩ (.int .i64 (pw 3)))) := HZr.out.other (by simp) _
          have hB4 : Below w.heap.size w (wr.setCell ⟨w.heap.size, 8, none⟩ (.int .i64 (pw 3))) := hBr.setCell (p := ⟨w.heap.size, 8, none⟩) (Nat.le_refl _) _
          simp only [pw] at m8 HX4 HZ4 hB4
          go_wp2_with fail
          go_roundw
          case rel => exact ⟨3, by omega, by go_num, HX4, HZ4, hB4, .inr (by simp at h ⊢; omega)⟩
          case measure => simp [intOf]
        · have HX4 : Hid (Blk w.heap.size #[.string x.want.copy, .int .i64 x.want.version, .string x.want.hold, .int .i64 x.want.pull, .int .i64 x.want.start, .int .i64 x.want.dies, .int .i64 x.want.grace, .int .i64 5, .int .i64 (pw 4), .int .i64 x.falls, .int .i64 x.until_] 26 (wr.setCell ⟨w.heap.size, 8, none⟩ (.int .i64 (pw 4)))) := HXr.out.set 8 _
          have HZ4 : Hid (Blk (w.heap.size + 1) #[.string ⟨#[]⟩, .int .i64 0, .string ⟨#[]⟩, .int .i64 0, .int .i64 0, .int .i64 0, .int .i64 0, .int .i64 0, .int .i64 0, .int .i64 0, .int .i64 0] 26 (wr.setCell ⟨w.heap.size, 8, none⟩ (.int .i64 (pw 4)))) := HZr.out.other (by simp) _
          have hB4 : Below w.heap.size w (wr.setCell ⟨w.heap.size, 8, none⟩ (.int .i64 (pw 4))) := hBr.setCell (p := ⟨w.heap.size, 8, none⟩) (Nat.le_refl _) _
          simp only [pw] at m8 HX4 HZ4 hB4
          go_wp2_with fail
          go_roundw
          case rel => exact ⟨4, by omega, by go_num, HX4, HZ4, hB4, .inr (by simp at h ⊢; omega)⟩
          case measure => simp [intOf]
        · have HE := Hid.intro (bk_end (f := x.falls) (k := 4) (by omega) hf.out (.inr rfl))
          simp only [pw] at m8 HXr HE
          obtain ⟨w5, HW5⟩ : ∃ w5, Hid (w5 = (wr).setCells (w.heap.size + 1) 0 [.string x.want.copy, .int .i64 x.want.version, .string x.want.hold, .int .i64 x.want.pull, .int .i64 x.want.start, .int .i64 x.want.dies, .int .i64 x.want.grace, .int .i64 5, .int .i64 16, .int .i64 x.falls, .int .i64 x.until_]) := ⟨_, rfl⟩
          have HR5 : Hid (w5.rangeAt (w.heap.size + 1) 0 [.string x.want.copy, .int .i64 x.want.version, .string x.want.hold, .int .i64 x.want.pull, .int .i64 x.want.start, .int .i64 x.want.dies, .int .i64 x.want.grace, .int .i64 5, .int .i64 16, .int .i64 x.falls, .int .i64 x.until_]) := by
            show World.rangeAt _ _ _ _
            rw [HW5.out]
            exact World.rangeAt_setCells_same _ _ _ _ HZr.out.there
          have hB5 : Below w.heap.size w w5 := by
            rw [HW5.out]
            exact below_setCells (by omega) _ _ _ hBr
          have HTZ := Hid.intro HZr.out.there
          go_wp2_with (first | (refine wpList_load_mid rfl 26 _ rfl w.heap.size 0 rfl [.string x.want.copy, .int .i64 x.want.version, .string x.want.hold, .int .i64 x.want.pull, .int .i64 x.want.start, .int .i64 x.want.dies, .int .i64 x.want.grace, .int .i64 5, .int .i64 16, .int .i64 x.falls, .int .i64 x.until_] _ HXr.out.rangeA Try.underlying26 rfl isz_Rn ?_) | (refine wpList_store_to rfl 26 _ _ rfl (w.heap.size + 1) 0 #[.string x.want.copy, .int .i64 x.want.version, .string x.want.hold, .int .i64 x.want.pull, .int .i64 x.want.start, .int .i64 x.want.dies, .int .i64 x.want.grace, .int .i64 5, .int .i64 16, .int .i64 x.falls, .int .i64 x.until_] rfl rfl HTZ.out isz_Rn (by simp [Value.oneCell']) w5 HW5.out ?_))
          exact bodyPost_ret (results_cell_mid rfl _ _ (w.heap.size + 1) [.string x.want.copy, .int .i64 x.want.version, .string x.want.hold, .int .i64 x.want.pull, .int .i64 x.want.start, .int .i64 x.want.dies, .int .i64 x.want.grace, .int .i64 5, .int .i64 16, .int .i64 x.falls, .int .i64 x.until_] _ rfl HR5.out Try.underlying26 rfl isz_Rn) rfl ⟨by rw [HY.out, HE.out], hB5⟩
      · exact absurd h (by omega)

end Go.Proofs.Ytalnkbocfhhjkaa
