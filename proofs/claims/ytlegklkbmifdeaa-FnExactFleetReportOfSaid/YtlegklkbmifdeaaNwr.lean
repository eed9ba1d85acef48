/-
  What runs, in memory of its own, by the program. Made by mkdp1.py's text.
-/
import Derived.Test.YtlegklkbmifdeaaRan
import Derived.Test.YtlegklkbmifdeaaNw
namespace Go.Proofs.Ytlegklkbmifdeaa
open Go.RowKit

set_option maxHeartbeats 2000000 in
set_option maxRecDepth 100000 in
theorem nwRan_any (x : Ran) (w : World) (z0 : x.copy.size ≤ 1048576) :
    Calls Try.prog 48 #[.agg #[.string x.copy, .int .i64 x.version, .int .i64 x.state]] w fun e w' => e = .returned (.agg #[.string x.copy, .int .i64 x.version, .int .i64 x.state]) ∧ Below w.heap.size w w' := by
  have hB3 : Below w.heap.size w ((w.alloc (Obj.cells #[.string x.copy, .int .i64 x.version, .int .i64 x.state] 52)).alloc (Obj.cells #[.string ⟨#[]⟩, .int .i64 0, .int .i64 0] 52)) := by go_grown
  have h1 : Blk w.heap.size #[.string x.copy, .int .i64 x.version, .int .i64 x.state] 52 (w.alloc (Obj.cells #[.string x.copy, .int .i64 x.version, .int .i64 x.state] 52)) := Blk.alloc _ _ _
  have HX : Hid (Blk w.heap.size #[.string x.copy, .int .i64 x.version, .int .i64 x.state] 52 ((w.alloc (Obj.cells #[.string x.copy, .int .i64 x.version, .int .i64 x.state] 52)).alloc (Obj.cells #[.string ⟨#[]⟩, .int .i64 0, .int .i64 0] 52))) := h1.below ((Below.refl _ _).alloc (Nat.le_refl _) _) h1.lt
  have HZ : Hid (Blk (w.heap.size + 1) #[.string ⟨#[]⟩, .int .i64 0, .int .i64 0] 52 ((w.alloc (Obj.cells #[.string x.copy, .int .i64 x.version, .int .i64 x.state] 52)).alloc (Obj.cells #[.string ⟨#[]⟩, .int .i64 0, .int .i64 0] 52))) := by
    have := Blk.alloc (w.alloc (Obj.cells #[.string x.copy, .int .i64 x.version, .int .i64 x.state] 52)) #[.string ⟨#[]⟩, .int .i64 0, .int .i64 0] 52
    show Blk _ _ _ _
    simpa using this
  clear h1
  go_enter Try.func48, Try.ntmps48
  go_upto_region 1 with fail
  generalize ((w.alloc (Obj.cells #[.string x.copy, .int .i64 x.version, .int .i64 x.state] 52)).alloc (Obj.cells #[.string ⟨#[]⟩, .int .i64 0, .int .i64 0] 52)) = w3 at *
  have k0 : w3.cell? ⟨w.heap.size, 0, none⟩ = some (.string x.copy) := HX.out.cell rfl
  go_wp2_with fail
  refine (cl3_any x.copy _ z0).mono ?_
  rintro e w4 ⟨rfl, hb4⟩
  have HX4 := Hid.intro (HX.out.below hb4 HX.out.lt)
  have HZ4 := Hid.intro (HZ.out.below hb4 HZ.out.lt)
  have hB4 := hB3.trans (hb4.mono hB3.size)
  have c0 : w4.cell? ⟨w.heap.size, 0, none⟩ = some (.string x.copy) := HX4.out.cell rfl
  have f0 := HX4.out.frozen 0
  have HX5 : Hid (Blk w.heap.size #[.string x.copy, .int .i64 x.version, .int .i64 x.state] 52 (w4.setCell ⟨w.heap.size, 0, none⟩ (.string x.copy))) := HX4.out.set 0 _
  have HZ5 : Hid (Blk (w.heap.size + 1) #[.string ⟨#[]⟩, .int .i64 0, .int .i64 0] 52 (w4.setCell ⟨w.heap.size, 0, none⟩ (.string x.copy))) := HZ4.out.other (a := ⟨w.heap.size, 0, none⟩) (show w.heap.size + 1 ≠ w.heap.size by omega) _
  have hB5 : Below w.heap.size w (w4.setCell ⟨w.heap.size, 0, none⟩ (.string x.copy)) := hB4.setCell (p := ⟨w.heap.size, 0, none⟩) (Nat.le_refl _) _
  clear HX HZ hB3 hb4 k0
  go_upto_region 2 with fail
  clear c0 f0 HX4 HZ4 hB4
  generalize w4.setCell ⟨w.heap.size, 0, none⟩ (.string x.copy) = w5 at *
  obtain ⟨w8, HW8⟩ : ∃ w8, Hid (w8 = w5.setCells (w.heap.size + 1) 0 [.string x.copy, .int .i64 x.version, .int .i64 x.state]) := ⟨_, rfl⟩
  have HT : Hid (w5.there (w.heap.size + 1) 0 3) := HZ5.out.there
  have HR8 : Hid (w8.rangeAt (w.heap.size + 1) 0 [.string x.copy, .int .i64 x.version, .int .i64 x.state]) := by
    show World.rangeAt _ _ _ _
    rw [HW8.out]
    exact World.rangeAt_setCells_same _ _ _ _ HT.out
  have hB8 : Below w.heap.size w w8 := by
    rw [HW8.out]
    exact below_setCells (by omega) _ _ _ hB5
  go_wp2_with (first | (refine wpList_load_mid rfl 52 _ rfl w.heap.size 0 rfl [.string x.copy, .int .i64 x.version, .int .i64 x.state] _ HX5.out.rangeA Try.underlying52 rfl isz_Ran ?_) | (refine wpList_store_to rfl 52 _ _ rfl (w.heap.size + 1) 0 #[.string x.copy, .int .i64 x.version, .int .i64 x.state] rfl rfl HT.out isz_Ran (by simp [Value.oneCell']) w8 HW8.out ?_))
  exact bodyPost_ret (results_cell_mid rfl _ _ (w.heap.size + 1) [.string x.copy, .int .i64 x.version, .int .i64 x.state] _ rfl HR8.out Try.underlying52 rfl isz_Ran) rfl ⟨rfl, hB8⟩

end Go.Proofs.Ytlegklkbmifdeaa
