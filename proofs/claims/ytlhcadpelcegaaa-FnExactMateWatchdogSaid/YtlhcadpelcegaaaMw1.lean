/-
  A run watched, by the program. Made by mkmw1.py.
-/
import Derived.Test.YtlhcadpelcegaaaMl3
namespace Go.Proofs.Ytlhcadpelcegaaa
open Go.RowKit

/-- killed, if it has no lease for long enough -/
def wdR (x : Rn) (c : Int) : Rn := if alB x.state = true then (if lsB x c = true then x else { x with state := 2, left := 0 }) else x

theorem wdR_want (x : Rn) (c : Int) : (wdR x c).want = x.want := by
  unfold wdR
  split
  · split <;> rfl
  · rfl

set_option maxHeartbeats 1000000 in
theorem enter11_any (x : Rn) (L : Nat) (s l : Int) (w : World) (hX : Blk L #[.string x.want.copy, .int .i64 x.want.version, .string x.want.hold, .int .i64 x.want.pull, .int .i64 x.want.start, .int .i64 x.want.dies, .int .i64 x.want.grace, .int .i64 x.state, .int .i64 x.left, .int .i64 x.falls, .int .i64 x.until_] 62 w) :
    Calls Try.prog 65 #[.pointer (some ⟨L, 0, none⟩), .int .i64 s, .int .i64 l] w fun e w' => e = .returned (.tuple #[]) ∧ Blk L #[.string x.want.copy, .int .i64 x.want.version, .string x.want.hold, .int .i64 x.want.pull, .int .i64 x.want.start, .int .i64 x.want.dies, .int .i64 x.want.grace, .int .i64 s, .int .i64 l, .int .i64 x.falls, .int .i64 x.until_] 62 w' ∧ Below L w w' ∧ ∀ g cs t, g ≠ L → Blk g cs t w → Blk g cs t w' := by
  have HX := Hid.intro hX
  have k7 : w.cell? ⟨L, 7, none⟩ = some (.int .i64 x.state) := hX.cell rfl
  have k8 : w.cell? ⟨L, 8, none⟩ = some (.int .i64 x.left) := hX.cell rfl
  have f7 : w.frozen? ⟨L, 7, none⟩ = false := hX.frozen _
  have f8 : w.frozen? ⟨L, 8, none⟩ = false := hX.frozen _
  clear hX
  go_enter Try.func65, Try.ntmps65
  go_wp2_with fail
  exact bodyPost_end (results_none rfl _ _ _) rfl ⟨rfl, (HX.out.set 7 (.int .i64 s)).set 8 (.int .i64 l), below_set2 _ _ _ _ _ _, fun g cs t hg h => (h.other hg _).other hg _⟩

set_option maxHeartbeats 4000000 in
set_option maxRecDepth 100000 in
theorem watched_any (x : Rn) (c : Int) (w : World) :
    Calls Try.prog 44 #[.agg #[.string x.want.copy, .int .i64 x.want.version, .string x.want.hold, .int .i64 x.want.pull, .int .i64 x.want.start, .int .i64 x.want.dies, .int .i64 x.want.grace, .int .i64 x.state, .int .i64 x.left, .int .i64 x.falls, .int .i64 x.until_], .int .i64 c] w fun e w' => e = .returned (.agg #[.string (wdR x c).want.copy, .int .i64 (wdR x c).want.version, .string (wdR x c).want.hold, .int .i64 (wdR x c).want.pull, .int .i64 (wdR x c).want.start, .int .i64 (wdR x c).want.dies, .int .i64 (wdR x c).want.grace, .int .i64 (wdR x c).state, .int .i64 (wdR x c).left, .int .i64 (wdR x c).falls, .int .i64 (wdR x c).until_]) ∧ Below w.heap.size w w' := by
  have HX0 : Blk w.heap.size #[.string x.want.copy, .int .i64 x.want.version, .string x.want.hold, .int .i64 x.want.pull, .int .i64 x.want.start, .int .i64 x.want.dies, .int .i64 x.want.grace, .int .i64 x.state, .int .i64 x.left, .int .i64 x.falls, .int .i64 x.until_] 62 (w.alloc (.cells #[.string x.want.copy, .int .i64 x.want.version, .string x.want.hold, .int .i64 x.want.pull, .int .i64 x.want.start, .int .i64 x.want.dies, .int .i64 x.want.grace, .int .i64 x.state, .int .i64 x.left, .int .i64 x.falls, .int .i64 x.until_] 62)) := Blk.alloc _ _ _
  have HZ0 : Hid (Blk (w.heap.size + 1) #[.string ⟨#[]⟩, .int .i64 0, .string ⟨#[]⟩, .int .i64 0, .int .i64 0, .int .i64 0, .int .i64 0, .int .i64 0, .int .i64 0, .int .i64 0, .int .i64 0] 62 ((w.alloc (.cells #[.string x.want.copy, .int .i64 x.want.version, .string x.want.hold, .int .i64 x.want.pull, .int .i64 x.want.start, .int .i64 x.want.dies, .int .i64 x.want.grace, .int .i64 x.state, .int .i64 x.left, .int .i64 x.falls, .int .i64 x.until_] 62)).alloc (.cells #[.string ⟨#[]⟩, .int .i64 0, .string ⟨#[]⟩, .int .i64 0, .int .i64 0, .int .i64 0, .int .i64 0, .int .i64 0, .int .i64 0, .int .i64 0, .int .i64 0] 62))) := by
    have := Blk.alloc (w.alloc (.cells #[.string x.want.copy, .int .i64 x.want.version, .string x.want.hold, .int .i64 x.want.pull, .int .i64 x.want.start, .int .i64 x.want.dies, .int .i64 x.want.grace, .int .i64 x.state, .int .i64 x.left, .int .i64 x.falls, .int .i64 x.until_] 62)) #[.string ⟨#[]⟩, .int .i64 0, .string ⟨#[]⟩, .int .i64 0, .int .i64 0, .int .i64 0, .int .i64 0, .int .i64 0, .int .i64 0, .int .i64 0, .int .i64 0] 62
    show Blk _ _ _ _
    simpa using this
  have hB0 : Below w.heap.size w ((w.alloc (.cells #[.string x.want.copy, .int .i64 x.want.version, .string x.want.hold, .int .i64 x.want.pull, .int .i64 x.want.start, .int .i64 x.want.dies, .int .i64 x.want.grace, .int .i64 x.state, .int .i64 x.left, .int .i64 x.falls, .int .i64 x.until_] 62)).alloc (.cells #[.string ⟨#[]⟩, .int .i64 0, .string ⟨#[]⟩, .int .i64 0, .int .i64 0, .int .i64 0, .int .i64 0, .int .i64 0, .int .i64 0, .int .i64 0, .int .i64 0] 62)) := by go_grown
  have HX : Hid (Blk w.heap.size #[.string x.want.copy, .int .i64 x.want.version, .string x.want.hold, .int .i64 x.want.pull, .int .i64 x.want.start, .int .i64 x.want.dies, .int .i64 x.want.grace, .int .i64 x.state, .int .i64 x.left, .int .i64 x.falls, .int .i64 x.until_] 62 ((w.alloc (.cells #[.string x.want.copy, .int .i64 x.want.version, .string x.want.hold, .int .i64 x.want.pull, .int .i64 x.want.start, .int .i64 x.want.dies, .int .i64 x.want.grace, .int .i64 x.state, .int .i64 x.left, .int .i64 x.falls, .int .i64 x.until_] 62)).alloc (.cells #[.string ⟨#[]⟩, .int .i64 0, .string ⟨#[]⟩, .int .i64 0, .int .i64 0, .int .i64 0, .int .i64 0, .int .i64 0, .int .i64 0, .int .i64 0, .int .i64 0] 62))) := HX0.below ((Below.refl _ _).alloc (Nat.le_refl _) _) HX0.lt
  clear HX0
  go_enter Try.func44, Try.ntmps44
  go_upto_region 1 with fail
  generalize (w.alloc (Obj.cells #[.string x.want.copy, .int .i64 x.want.version, .string x.want.hold, .int .i64 x.want.pull, .int .i64 x.want.start, .int .i64 x.want.dies, .int .i64 x.want.grace, .int .i64 x.state, .int .i64 x.left, .int .i64 x.falls, .int .i64 x.until_] 62)).alloc (Obj.cells #[.string ⟨#[]⟩, .int .i64 0, .string ⟨#[]⟩, .int .i64 0, .int .i64 0, .int .i64 0, .int .i64 0, .int .i64 0, .int .i64 0, .int .i64 0, .int .i64 0] 62) = w0 at *
  go_wp2_with (first | (refine wpList_load_mid rfl 62 _ rfl w.heap.size 0 rfl [.string x.want.copy, .int .i64 x.want.version, .string x.want.hold, .int .i64 x.want.pull, .int .i64 x.want.start, .int .i64 x.want.dies, .int .i64 x.want.grace, .int .i64 x.state, .int .i64 x.left, .int .i64 x.falls, .int .i64 x.until_] _ HX.out.rangeA Try.underlying62 rfl isz_mRun ?_))
  refine (ralive_any x _).mono ?_
  rintro e w1 ⟨rfl, hb1⟩
  have HX1 := Hid.intro (HX.out.below hb1 HX.out.lt)
  have HZ1 := Hid.intro (HZ0.out.below hb1 HZ0.out.lt)
  have hB1 := hB0.trans (hb1.mono hB0.size)
  clear hb1 hB0 HX HZ0
  cases ha : alB x.state with
  | false =>
    have HW : Hid (wdR x c = x) := if_neg (by rw [ha]; simp)
    clear ha
    obtain ⟨w8, HW8⟩ : ∃ w8, Hid (w8 = w1.setCells (w.heap.size + 1) 0 [.string x.want.copy, .int .i64 x.want.version, .string x.want.hold, .int .i64 x.want.pull, .int .i64 x.want.start, .int .i64 x.want.dies, .int .i64 x.want.grace, .int .i64 x.state, .int .i64 x.left, .int .i64 x.falls, .int .i64 x.until_]) := ⟨_, rfl⟩
    have HR8 : Hid (w8.rangeAt (w.heap.size + 1) 0 [.string x.want.copy, .int .i64 x.want.version, .string x.want.hold, .int .i64 x.want.pull, .int .i64 x.want.start, .int .i64 x.want.dies, .int .i64 x.want.grace, .int .i64 x.state, .int .i64 x.left, .int .i64 x.falls, .int .i64 x.until_]) := by
      show World.rangeAt _ _ _ _
      rw [HW8.out]
      exact World.rangeAt_setCells_same _ _ _ _ HZ1.out.there
    have hB8 : Below w.heap.size w w8 := by
      rw [HW8.out]
      exact below_setCells (by omega) _ _ _ hB1
    have HTS := Hid.intro HZ1.out.there
    go_wp2_with (first | (refine wpList_load_mid rfl 62 _ rfl w.heap.size 0 rfl [.string x.want.copy, .int .i64 x.want.version, .string x.want.hold, .int .i64 x.want.pull, .int .i64 x.want.start, .int .i64 x.want.dies, .int .i64 x.want.grace, .int .i64 x.state, .int .i64 x.left, .int .i64 x.falls, .int .i64 x.until_] _ HX1.out.rangeA Try.underlying62 rfl isz_mRun ?_) | (refine wpList_store_to rfl 62 _ _ rfl (w.heap.size + 1) 0 #[.string x.want.copy, .int .i64 x.want.version, .string x.want.hold, .int .i64 x.want.pull, .int .i64 x.want.start, .int .i64 x.want.dies, .int .i64 x.want.grace, .int .i64 x.state, .int .i64 x.left, .int .i64 x.falls, .int .i64 x.until_] rfl rfl HTS.out isz_mRun (by simp [Value.oneCell']) w8 HW8.out ?_))
    exact bodyPost_ret (results_cell_mid rfl _ _ (w.heap.size + 1) [.string x.want.copy, .int .i64 x.want.version, .string x.want.hold, .int .i64 x.want.pull, .int .i64 x.want.start, .int .i64 x.want.dies, .int .i64 x.want.grace, .int .i64 x.state, .int .i64 x.left, .int .i64 x.falls, .int .i64 x.until_] _ rfl HR8.out Try.underlying62 rfl isz_mRun) rfl ⟨by rw [HW.out], hB8⟩
  | true =>
    have HWA : Hid (wdR x c = if lsB x c = true then x else { x with state := 2, left := 0 }) := if_pos ha
    clear ha
    have k0 : w1.cell? ⟨w.heap.size, 0, none⟩ = some (.string x.want.copy) := HX1.out.cell rfl
    have k1 : w1.cell? ⟨w.heap.size, 1, none⟩ = some (.int .i64 x.want.version) := HX1.out.cell rfl
    have k2 : w1.cell? ⟨w.heap.size, 2, none⟩ = some (.string x.want.hold) := HX1.out.cell rfl
    have k3 : w1.cell? ⟨w.heap.size, 3, none⟩ = some (.int .i64 x.want.pull) := HX1.out.cell rfl
    have k4 : w1.cell? ⟨w.heap.size, 4, none⟩ = some (.int .i64 x.want.start) := HX1.out.cell rfl
    have k5 : w1.cell? ⟨w.heap.size, 5, none⟩ = some (.int .i64 x.want.dies) := HX1.out.cell rfl
    have k6 : w1.cell? ⟨w.heap.size, 6, none⟩ = some (.int .i64 x.want.grace) := HX1.out.cell rfl
    have k7 : w1.cell? ⟨w.heap.size, 7, none⟩ = some (.int .i64 x.state) := HX1.out.cell rfl
    have k8 : w1.cell? ⟨w.heap.size, 8, none⟩ = some (.int .i64 x.left) := HX1.out.cell rfl
    have k9 : w1.cell? ⟨w.heap.size, 9, none⟩ = some (.int .i64 x.falls) := HX1.out.cell rfl
    have k10 : w1.cell? ⟨w.heap.size, 10, none⟩ = some (.int .i64 x.until_) := HX1.out.cell rfl
    go_wp2_with fail
    refine (rleased_any x c _).mono ?_
    rintro e w2 ⟨rfl, hb2⟩
    have HX2 := Hid.intro (HX1.out.below hb2 HX1.out.lt)
    have HZ2 := Hid.intro (HZ1.out.below hb2 HZ1.out.lt)
    have hB2 := hB1.trans (hb2.mono hB1.size)
    clear hb2 hB1 HX1 HZ1 k0 k1 k2 k3 k4 k5 k6 k7 k8 k9 k10
    cases hl : lsB x c with
    | true =>
      have HW : Hid (wdR x c = x) := HWA.out.trans (if_pos hl)
      clear hl HWA
      obtain ⟨w8, HW8⟩ : ∃ w8, Hid (w8 = w2.setCells (w.heap.size + 1) 0 [.string x.want.copy, .int .i64 x.want.version, .string x.want.hold, .int .i64 x.want.pull, .int .i64 x.want.start, .int .i64 x.want.dies, .int .i64 x.want.grace, .int .i64 x.state, .int .i64 x.left, .int .i64 x.falls, .int .i64 x.until_]) := ⟨_, rfl⟩
      have HR8 : Hid (w8.rangeAt (w.heap.size + 1) 0 [.string x.want.copy, .int .i64 x.want.version, .string x.want.hold, .int .i64 x.want.pull, .int .i64 x.want.start, .int .i64 x.want.dies, .int .i64 x.want.grace, .int .i64 x.state, .int .i64 x.left, .int .i64 x.falls, .int .i64 x.until_]) := by
        show World.rangeAt _ _ _ _
        rw [HW8.out]
        exact World.rangeAt_setCells_same _ _ _ _ HZ2.out.there
      have hB8 : Below w.heap.size w w8 := by
        rw [HW8.out]
        exact below_setCells (by omega) _ _ _ hB2
      have HTS := Hid.intro HZ2.out.there
      go_wp2_with (first | (refine wpList_load_mid rfl 62 _ rfl w.heap.size 0 rfl [.string x.want.copy, .int .i64 x.want.version, .string x.want.hold, .int .i64 x.want.pull, .int .i64 x.want.start, .int .i64 x.want.dies, .int .i64 x.want.grace, .int .i64 x.state, .int .i64 x.left, .int .i64 x.falls, .int .i64 x.until_] _ HX2.out.rangeA Try.underlying62 rfl isz_mRun ?_) | (refine wpList_store_to rfl 62 _ _ rfl (w.heap.size + 1) 0 #[.string x.want.copy, .int .i64 x.want.version, .string x.want.hold, .int .i64 x.want.pull, .int .i64 x.want.start, .int .i64 x.want.dies, .int .i64 x.want.grace, .int .i64 x.state, .int .i64 x.left, .int .i64 x.falls, .int .i64 x.until_] rfl rfl HTS.out isz_mRun (by simp [Value.oneCell']) w8 HW8.out ?_))
      exact bodyPost_ret (results_cell_mid rfl _ _ (w.heap.size + 1) [.string x.want.copy, .int .i64 x.want.version, .string x.want.hold, .int .i64 x.want.pull, .int .i64 x.want.start, .int .i64 x.want.dies, .int .i64 x.want.grace, .int .i64 x.state, .int .i64 x.left, .int .i64 x.falls, .int .i64 x.until_] _ rfl HR8.out Try.underlying62 rfl isz_mRun) rfl ⟨by rw [HW.out], hB8⟩
    | false =>
      have HW : Hid (wdR x c = { x with state := 2, left := 0 }) := HWA.out.trans (if_neg (by rw [hl]; simp))
      clear hl HWA
      go_wp2_with fail
      refine (enter11_any x _ 2 0 _ HX2.out).mono ?_
      rintro e w3 ⟨rfl, hX3, hb3, ho3⟩
      have HX3 := Hid.intro hX3
      have HZ3 := Hid.intro (ho3 _ _ _ (by simp) HZ2.out)
      have hB3 := hB2.trans hb3
      clear hX3 hb3 ho3 hB2 HX2 HZ2
      obtain ⟨w8, HW8⟩ : ∃ w8, Hid (w8 = w3.setCells (w.heap.size + 1) 0 [.string x.want.copy, .int .i64 x.want.version, .string x.want.hold, .int .i64 x.want.pull, .int .i64 x.want.start, .int .i64 x.want.dies, .int .i64 x.want.grace, .int .i64 2, .int .i64 0, .int .i64 x.falls, .int .i64 x.until_]) := ⟨_, rfl⟩
      have HR8 : Hid (w8.rangeAt (w.heap.size + 1) 0 [.string x.want.copy, .int .i64 x.want.version, .string x.want.hold, .int .i64 x.want.pull, .int .i64 x.want.start, .int .i64 x.want.dies, .int .i64 x.want.grace, .int .i64 2, .int .i64 0, .int .i64 x.falls, .int .i64 x.until_]) := by
        show World.rangeAt _ _ _ _
        rw [HW8.out]
        exact World.rangeAt_setCells_same _ _ _ _ HZ3.out.there
      have hB8 : Below w.heap.size w w8 := by
        rw [HW8.out]
        exact below_setCells (by omega) _ _ _ hB3
      have HTS := Hid.intro HZ3.out.there
      go_wp2_with (first | (refine wpList_load_mid rfl 62 _ rfl w.heap.size 0 rfl [.string x.want.copy, .int .i64 x.want.version, .string x.want.hold, .int .i64 x.want.pull, .int .i64 x.want.start, .int .i64 x.want.dies, .int .i64 x.want.grace, .int .i64 2, .int .i64 0, .int .i64 x.falls, .int .i64 x.until_] _ HX3.out.rangeA Try.underlying62 rfl isz_mRun ?_) | (refine wpList_store_to rfl 62 _ _ rfl (w.heap.size + 1) 0 #[.string x.want.copy, .int .i64 x.want.version, .string x.want.hold, .int .i64 x.want.pull, .int .i64 x.want.start, .int .i64 x.want.dies, .int .i64 x.want.grace, .int .i64 2, .int .i64 0, .int .i64 x.falls, .int .i64 x.until_] rfl rfl HTS.out isz_mRun (by simp [Value.oneCell']) w8 HW8.out ?_))
      exact bodyPost_ret (results_cell_mid rfl _ _ (w.heap.size + 1) [.string x.want.copy, .int .i64 x.want.version, .string x.want.hold, .int .i64 x.want.pull, .int .i64 x.want.start, .int .i64 x.want.dies, .int .i64 x.want.grace, .int .i64 2, .int .i64 0, .int .i64 x.falls, .int .i64 x.until_] _ rfl HR8.out Try.underlying62 rfl isz_mRun) rfl ⟨by rw [HW.out], hB8⟩

set_option maxHeartbeats 4000000 in
set_option maxRecDepth 100000 in
theorem watch1_any (x : Rn) (c : Int) (p : Nat) (w : World) (hP : w.cell? ⟨p, 0, none⟩ = some (.int .i64 c)) (hp : p < w.heap.size) (z0 : x.want.copy.size ≤ 1048576) (z2 : x.want.hold.size ≤ 1048576) :
    Calls Try.prog 43 #[.agg #[.string x.want.copy, .int .i64 x.want.version, .string x.want.hold, .int .i64 x.want.pull, .int .i64 x.want.start, .int .i64 x.want.dies, .int .i64 x.want.grace, .int .i64 x.state, .int .i64 x.left, .int .i64 x.falls, .int .i64 x.until_], .pointer (some ⟨p, 0, none⟩)] w fun e w' => e = .returned (.agg #[.string (wdR x c).want.copy, .int .i64 (wdR x c).want.version, .string (wdR x c).want.hold, .int .i64 (wdR x c).want.pull, .int .i64 (wdR x c).want.start, .int .i64 (wdR x c).want.dies, .int .i64 (wdR x c).want.grace, .int .i64 (wdR x c).state, .int .i64 (wdR x c).left, .int .i64 (wdR x c).falls, .int .i64 (wdR x c).until_]) ∧ Below w.heap.size w w' := by
  have HX0 : Blk w.heap.size #[.string x.want.copy, .int .i64 x.want.version, .string x.want.hold, .int .i64 x.want.pull, .int .i64 x.want.start, .int .i64 x.want.dies, .int .i64 x.want.grace, .int .i64 x.state, .int .i64 x.left, .int .i64 x.falls, .int .i64 x.until_] 37 (w.alloc (.cells #[.string x.want.copy, .int .i64 x.want.version, .string x.want.hold, .int .i64 x.want.pull, .int .i64 x.want.start, .int .i64 x.want.dies, .int .i64 x.want.grace, .int .i64 x.state, .int .i64 x.left, .int .i64 x.falls, .int .i64 x.until_] 37)) := Blk.alloc _ _ _
  have HZ0 : Hid (Blk (w.heap.size + 1) #[.string ⟨#[]⟩, .int .i64 0, .string ⟨#[]⟩, .int .i64 0, .int .i64 0, .int .i64 0, .int .i64 0, .int .i64 0, .int .i64 0, .int .i64 0, .int .i64 0] 37 ((w.alloc (.cells #[.string x.want.copy, .int .i64 x.want.version, .string x.want.hold, .int .i64 x.want.pull, .int .i64 x.want.start, .int .i64 x.want.dies, .int .i64 x.want.grace, .int .i64 x.state, .int .i64 x.left, .int .i64 x.falls, .int .i64 x.until_] 37)).alloc (.cells #[.string ⟨#[]⟩, .int .i64 0, .string ⟨#[]⟩, .int .i64 0, .int .i64 0, .int .i64 0, .int .i64 0, .int .i64 0, .int .i64 0, .int .i64 0, .int .i64 0] 37))) := by
    have := Blk.alloc (w.alloc (.cells #[.string x.want.copy, .int .i64 x.want.version, .string x.want.hold, .int .i64 x.want.pull, .int .i64 x.want.start, .int .i64 x.want.dies, .int .i64 x.want.grace, .int .i64 x.state, .int .i64 x.left, .int .i64 x.falls, .int .i64 x.until_] 37)) #[.string ⟨#[]⟩, .int .i64 0, .string ⟨#[]⟩, .int .i64 0, .int .i64 0, .int .i64 0, .int .i64 0, .int .i64 0, .int .i64 0, .int .i64 0, .int .i64 0] 37
    show Blk _ _ _ _
    simpa using this
  have hB0 : Below w.heap.size w ((w.alloc (.cells #[.string x.want.copy, .int .i64 x.want.version, .string x.want.hold, .int .i64 x.want.pull, .int .i64 x.want.start, .int .i64 x.want.dies, .int .i64 x.want.grace, .int .i64 x.state, .int .i64 x.left, .int .i64 x.falls, .int .i64 x.until_] 37)).alloc (.cells #[.string ⟨#[]⟩, .int .i64 0, .string ⟨#[]⟩, .int .i64 0, .int .i64 0, .int .i64 0, .int .i64 0, .int .i64 0, .int .i64 0, .int .i64 0, .int .i64 0] 37)) := by go_grown
  have HX : Hid (Blk w.heap.size #[.string x.want.copy, .int .i64 x.want.version, .string x.want.hold, .int .i64 x.want.pull, .int .i64 x.want.start, .int .i64 x.want.dies, .int .i64 x.want.grace, .int .i64 x.state, .int .i64 x.left, .int .i64 x.falls, .int .i64 x.until_] 37 ((w.alloc (.cells #[.string x.want.copy, .int .i64 x.want.version, .string x.want.hold, .int .i64 x.want.pull, .int .i64 x.want.start, .int .i64 x.want.dies, .int .i64 x.want.grace, .int .i64 x.state, .int .i64 x.left, .int .i64 x.falls, .int .i64 x.until_] 37)).alloc (.cells #[.string ⟨#[]⟩, .int .i64 0, .string ⟨#[]⟩, .int .i64 0, .int .i64 0, .int .i64 0, .int .i64 0, .int .i64 0, .int .i64 0, .int .i64 0, .int .i64 0] 37))) := HX0.below ((Below.refl _ _).alloc (Nat.le_refl _) _) HX0.lt
  have HP0 : Hid (World.cell? ((w.alloc (.cells #[.string x.want.copy, .int .i64 x.want.version, .string x.want.hold, .int .i64 x.want.pull, .int .i64 x.want.start, .int .i64 x.want.dies, .int .i64 x.want.grace, .int .i64 x.state, .int .i64 x.left, .int .i64 x.falls, .int .i64 x.until_] 37)).alloc (.cells #[.string ⟨#[]⟩, .int .i64 0, .string ⟨#[]⟩, .int .i64 0, .int .i64 0, .int .i64 0, .int .i64 0, .int .i64 0, .int .i64 0, .int .i64 0, .int .i64 0] 37)) ⟨p, 0, none⟩ = some (.int .i64 c)) := (hB0.cell (p := ⟨p, 0, none⟩) hp).trans hP
  clear HX0 hP
  go_enter Try.func43, Try.ntmps43
  go_upto_region 1 with fail
  generalize (w.alloc (Obj.cells #[.string x.want.copy, .int .i64 x.want.version, .string x.want.hold, .int .i64 x.want.pull, .int .i64 x.want.start, .int .i64 x.want.dies, .int .i64 x.want.grace, .int .i64 x.state, .int .i64 x.left, .int .i64 x.falls, .int .i64 x.until_] 37)).alloc (Obj.cells #[.string ⟨#[]⟩, .int .i64 0, .string ⟨#[]⟩, .int .i64 0, .int .i64 0, .int .i64 0, .int .i64 0, .int .i64 0, .int .i64 0, .int .i64 0, .int .i64 0] 37) = w0 at *
  refine wp_region_held_drew (S := fun wy => Blk w.heap.size #[.string x.want.copy, .int .i64 x.want.version, .string x.want.hold, .int .i64 x.want.pull, .int .i64 x.want.start, .int .i64 x.want.dies, .int .i64 x.want.grace, .int .i64 x.state, .int .i64 x.left, .int .i64 x.falls, .int .i64 x.until_] 37 wy ∧ wy.cell? ⟨p, 0, none⟩ = some (.int .i64 c) ∧ wy.there (w.heap.size + 1) 0 11) (by kernel_rfl) ⟨HX.out.drew, by simpa using HP0.out, HZ0.out.drew.there⟩ (fun hS => ?_)
  refine wpAnyH_take (i := 0) (oi := { dst := some 4, op := _, type := _, pos := _, after := _, guard := none }) (v := .agg #[.string x.want.copy, .int .i64 x.want.version, .string x.want.hold, .int .i64 x.want.pull, .int .i64 x.want.start, .int .i64 x.want.dies, .int .i64 x.want.grace, .int .i64 x.state, .int .i64 x.left, .int .i64 x.falls, .int .i64 x.until_]) rfl (by kernel_rfl) (by kernel_rfl) (by kernel_rfl) (fun _ _ _ h => h) (yieldsIf_load_mid (by rfl) _ _ rfl w.heap.size (0) rfl [.string x.want.copy, .int .i64 x.want.version, .string x.want.hold, .int .i64 x.want.pull, .int .i64 x.want.start, .int .i64 x.want.dies, .int .i64 x.want.grace, .int .i64 x.state, .int .i64 x.left, .int .i64 x.falls, .int .i64 x.until_] _ (fun _ h => h.1.rangeA) Try.underlying37 rfl isz_Rn) hS ?_
  simp only [Act.put, List.setIfInBounds_toArray, List.set_cons_zero, List.set_cons_succ]
  refine wpAnyH_take (i := 2) (oi := { dst := some 6, op := _, type := _, pos := _, after := _, guard := none }) (v := .int .i64 c) rfl (by kernel_rfl) (by kernel_rfl) (by kernel_rfl) (fun _ _ _ h => h) (Or.inl ⟨by rfl, ?_⟩) hS ?_
  · intro wy hy
    have h0 := hy.2.1
    clear hy
    go_simp
  simp only [Act.put, List.setIfInBounds_toArray, List.set_cons_zero, List.set_cons_succ]
  refine wpAnyH_ready (rs := [1]) (by kernel_rfl) (by simp) (AllReadyH.cons (o := { dst := some 5, op := _, type := _, pos := _, after := _, guard := none }) rfl (fun K hK => ?_) AllReadyH.nil)
  go_simp
  refine (runOf_any x _).mono ?_
  rintro e w1 ⟨rfl, hb1⟩
  have hb1d : Below w0.heap.size w0 w1 := ((Below.refl w0.heap.size w0).drew).trans hb1
  have hB1 := hB0.trans (hb1d.mono hB0.size)
  have hlt : w.heap.size + 1 < w0.heap.size := HZ0.out.lt
  refine hK.out _ _ ⟨hS.1.below hb1 hS.1.lt, (hb1.cell (p := ⟨p, 0, none⟩) (Nat.lt_trans hp (by have := hS.1.lt; exact this))).trans hS.2.1, there_below hS.2.2 hb1 (by have := hlt; first | omega | exact this)⟩ (fun hS => ?_)
  clear hK K
  have hlt1 : w.heap.size + 1 < w1.heap.size := Nat.lt_of_lt_of_le hlt hb1d.size
  clear hb1 hb1d hlt
  have hlt := hlt1
  clear hlt1
  refine wpAnyH_ready (rs := [3]) (by kernel_rfl) (by simp) (AllReadyH.cons (o := { dst := some 7, op := _, type := _, pos := _, after := _, guard := none }) rfl (fun K hK => ?_) AllReadyH.nil)
  go_simp
  refine (watched_any x c _).mono ?_
  rintro e w2 ⟨rfl, hb2⟩
  have hB2 := hB1.trans (hb2.mono hB1.size)
  refine hK.out _ _ ⟨hS.1.below hb2 hS.1.lt, (hb2.cell (p := ⟨p, 0, none⟩) (Nat.lt_trans hp (by have := hS.1.lt; exact this))).trans hS.2.1, there_below hS.2.2 hb2 (by have := hlt; first | omega | exact this)⟩ (fun hS => ?_)
  clear hK K
  have hlt1 : w.heap.size + 1 < w2.heap.size := Nat.lt_of_lt_of_le hlt hb2.size
  clear hb2 hlt
  have hlt := hlt1
  clear hlt1
  refine wpAnyH_ready (rs := [4]) (by kernel_rfl) (by simp) (AllReadyH.cons (o := { dst := some 8, op := _, type := _, pos := _, after := _, guard := none }) rfl (fun K hK => ?_) AllReadyH.nil)
  go_simp
  refine (told_any (wdR x c) _ (by rw [wdR_want]; exact z0) (by rw [wdR_want]; exact z2)).mono ?_
  rintro e w3 ⟨rfl, hb3⟩
  have hB3 := hB2.trans (hb3.mono hB2.size)
  refine hK.out _ _ ⟨hS.1.below hb3 hS.1.lt, (hb3.cell (p := ⟨p, 0, none⟩) (Nat.lt_trans hp (by have := hS.1.lt; exact this))).trans hS.2.1, there_below hS.2.2 hb3 (by have := hlt; first | omega | exact this)⟩ (fun hS => ?_)
  clear hK K
  have hlt1 : w.heap.size + 1 < w3.heap.size := Nat.lt_of_lt_of_le hlt hb3.size
  clear hb3 hlt
  have hlt := hlt1
  clear hlt1
  generalize hG : wdR x c = G at *
  have HG := Hid.intro hG
  clear hG
  refine wpAnyH_ready (rs := [5]) (by kernel_rfl) (by simp) (AllReadyH.cons (o := { dst := none, op := _, type := _, pos := _, after := _, guard := none }) rfl (fun K hK => ?_) AllReadyH.nil)
  rw [if_pos (by rfl)]
  refine wp_store_mid 37 (.tmp 3) (.tmp 8) (by rfl) (w.heap.size + 1) 0 #[.string G.want.copy, .int .i64 G.want.version, .string G.want.hold, .int .i64 G.want.pull, .int .i64 G.want.start, .int .i64 G.want.dies, .int .i64 G.want.grace, .int .i64 G.state, .int .i64 G.left, .int .i64 G.falls, .int .i64 G.until_] (by rfl) (by rfl) hS.2.2 isz_Rn (by simp [Value.oneCell']) ?_
  have HB5 : Hid (Below w.heap.size w (w3.setCells (w.heap.size + 1) 0 [.string G.want.copy, .int .i64 G.want.version, .string G.want.hold, .int .i64 G.want.pull, .int .i64 G.want.start, .int .i64 G.want.dies, .int .i64 G.want.grace, .int .i64 G.state, .int .i64 G.left, .int .i64 G.falls, .int .i64 G.until_])) := below_setCells (by omega) _ _ _ hB3
  have HR5 : Hid ((w3.setCells (w.heap.size + 1) 0 [.string G.want.copy, .int .i64 G.want.version, .string G.want.hold, .int .i64 G.want.pull, .int .i64 G.want.start, .int .i64 G.want.dies, .int .i64 G.want.grace, .int .i64 G.state, .int .i64 G.left, .int .i64 G.falls, .int .i64 G.until_]).rangeAt (w.heap.size + 1) 0 [.string G.want.copy, .int .i64 G.want.version, .string G.want.hold, .int .i64 G.want.pull, .int .i64 G.want.start, .int .i64 G.want.dies, .int .i64 G.want.grace, .int .i64 G.state, .int .i64 G.left, .int .i64 G.falls, .int .i64 G.until_]) := World.rangeAt_setCells_same w3 (w.heap.size + 1) 0 _ hS.2.2
  have hbs : Below (w.heap.size + 1) w3 (w3.setCells (w.heap.size + 1) 0 [.string G.want.copy, .int .i64 G.want.version, .string G.want.hold, .int .i64 G.want.pull, .int .i64 G.want.start, .int .i64 G.want.dies, .int .i64 G.want.grace, .int .i64 G.state, .int .i64 G.left, .int .i64 G.falls, .int .i64 G.until_]) := below_setCells (Nat.le_refl _) _ _ _ (Below.refl _ _)
  refine hK.out _ _ ⟨hS.1.below hbs (by omega), (hbs.cell (p := ⟨p, 0, none⟩) (by show p < _; omega)).trans hS.2.1, World.there_setCells hS.2.2 _ _ _⟩ (fun hS => ?_)
  clear hK K hbs hS
  generalize w3.setCells (w.heap.size + 1) 0 [.string G.want.copy, .int .i64 G.want.version, .string G.want.hold, .int .i64 G.want.pull, .int .i64 G.want.start, .int .i64 G.want.dies, .int .i64 G.want.grace, .int .i64 G.state, .int .i64 G.left, .int .i64 G.falls, .int .i64 G.until_] = w5 at *
  refine wpAnyH_done (by kernel_rfl) ?_ _
  clear hB0 hB1 hB2 hB3
  go_wp2_with fail
  exact bodyPost_ret (results_cell_mid rfl _ _ (w.heap.size + 1) [.string G.want.copy, .int .i64 G.want.version, .string G.want.hold, .int .i64 G.want.pull, .int .i64 G.want.start, .int .i64 G.want.dies, .int .i64 G.want.grace, .int .i64 G.state, .int .i64 G.left, .int .i64 G.falls, .int .i64 G.until_] _ rfl HR5.out Try.underlying37 rfl isz_Rn) rfl ⟨by rw [HG.out], HB5.out⟩

end Go.Proofs.Ytlhcadpelcegaaa
