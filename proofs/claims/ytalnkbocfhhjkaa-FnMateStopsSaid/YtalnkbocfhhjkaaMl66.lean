/-
  MateLive of the specification at one state. Made by mkml6.py.
-/
import Derived.Test.YtalnkbocfhhjkaaMl6
namespace Go.Proofs.Ytalnkbocfhhjkaa
open Go.RowKit

set_option maxHeartbeats 8000000 in
set_option maxRecDepth 100000 in
theorem specLive6_any (wn : Wnt) (l f u : Int) (y : Wnt) (wanted : Bool) (c : Int) (w : World)  :
    Calls Try.prog 6 #[.agg #[.string wn.copy, .int .i64 wn.version, .string wn.hold, .int .i64 wn.pull, .int .i64 wn.start, .int .i64 wn.dies, .int .i64 wn.grace, .int .i64 6, .int .i64 l, .int .i64 f, .int .i64 u], .agg #[.string y.copy, .int .i64 y.version, .string y.hold, .int .i64 y.pull, .int .i64 y.start, .int .i64 y.dies, .int .i64 y.grace], .bool wanted, .int .i64 c] w fun e w' => ∃ F : Rn, ∃ k : Bool, (F, k) = livS (⟨wn, 6, l, f, u⟩ : Rn) (!(wanted && eqW y wn)) c ∧ e = .returned (.tuple #[.agg #[.string F.want.copy, .int .i64 F.want.version, .string F.want.hold, .int .i64 F.want.pull, .int .i64 F.want.start, .int .i64 F.want.dies, .int .i64 F.want.grace, .int .i64 F.state, .int .i64 F.left, .int .i64 F.falls, .int .i64 F.until_], .bool k]) ∧ Below w.heap.size w w' := by
  have HX0 : Blk w.heap.size #[.string wn.copy, .int .i64 wn.version, .string wn.hold, .int .i64 wn.pull, .int .i64 wn.start, .int .i64 wn.dies, .int .i64 wn.grace, .int .i64 6, .int .i64 l, .int .i64 f, .int .i64 u] 26 (w.alloc (.cells #[.string wn.copy, .int .i64 wn.version, .string wn.hold, .int .i64 wn.pull, .int .i64 wn.start, .int .i64 wn.dies, .int .i64 wn.grace, .int .i64 6, .int .i64 l, .int .i64 f, .int .i64 u] 26)) := Blk.alloc _ _ _
  have HY0 : Blk (w.heap.size + 1) #[.string y.copy, .int .i64 y.version, .string y.hold, .int .i64 y.pull, .int .i64 y.start, .int .i64 y.dies, .int .i64 y.grace] 24 ((w.alloc (.cells #[.string wn.copy, .int .i64 wn.version, .string wn.hold, .int .i64 wn.pull, .int .i64 wn.start, .int .i64 wn.dies, .int .i64 wn.grace, .int .i64 6, .int .i64 l, .int .i64 f, .int .i64 u] 26)).alloc (.cells #[.string y.copy, .int .i64 y.version, .string y.hold, .int .i64 y.pull, .int .i64 y.start, .int .i64 y.dies, .int .i64 y.grace] 24)) := by
    have := Blk.alloc (w.alloc (.cells #[.string wn.copy, .int .i64 wn.version, .string wn.hold, .int .i64 wn.pull, .int .i64 wn.start, .int .i64 wn.dies, .int .i64 wn.grace, .int .i64 6, .int .i64 l, .int .i64 f, .int .i64 u] 26)) #[.string y.copy, .int .i64 y.version, .string y.hold, .int .i64 y.pull, .int .i64 y.start, .int .i64 y.dies, .int .i64 y.grace] 24
    simpa using this
  have hba : Below (w.alloc (.cells #[.string wn.copy, .int .i64 wn.version, .string wn.hold, .int .i64 wn.pull, .int .i64 wn.start, .int .i64 wn.dies, .int .i64 wn.grace, .int .i64 6, .int .i64 l, .int .i64 f, .int .i64 u] 26)).heap.size (w.alloc (.cells #[.string wn.copy, .int .i64 wn.version, .string wn.hold, .int .i64 wn.pull, .int .i64 wn.start, .int .i64 wn.dies, .int .i64 wn.grace, .int .i64 6, .int .i64 l, .int .i64 f, .int .i64 u] 26)) ((w.alloc (.cells #[.string wn.copy, .int .i64 wn.version, .string wn.hold, .int .i64 wn.pull, .int .i64 wn.start, .int .i64 wn.dies, .int .i64 wn.grace, .int .i64 6, .int .i64 l, .int .i64 f, .int .i64 u] 26)).alloc (.cells #[.string y.copy, .int .i64 y.version, .string y.hold, .int .i64 y.pull, .int .i64 y.start, .int .i64 y.dies, .int .i64 y.grace] 24)) := (Below.refl _ _).alloc (Nat.le_refl _) _
  have hbb : Below ((w.alloc (.cells #[.string wn.copy, .int .i64 wn.version, .string wn.hold, .int .i64 wn.pull, .int .i64 wn.start, .int .i64 wn.dies, .int .i64 wn.grace, .int .i64 6, .int .i64 l, .int .i64 f, .int .i64 u] 26)).alloc (.cells #[.string y.copy, .int .i64 y.version, .string y.hold, .int .i64 y.pull, .int .i64 y.start, .int .i64 y.dies, .int .i64 y.grace] 24)).heap.size ((w.alloc (.cells #[.string wn.copy, .int .i64 wn.version, .string wn.hold, .int .i64 wn.pull, .int .i64 wn.start, .int .i64 wn.dies, .int .i64 wn.grace, .int .i64 6, .int .i64 l, .int .i64 f, .int .i64 u] 26)).alloc (.cells #[.string y.copy, .int .i64 y.version, .string y.hold, .int .i64 y.pull, .int .i64 y.start, .int .i64 y.dies, .int .i64 y.grace] 24)) (((w.alloc (.cells #[.string wn.copy, .int .i64 wn.version, .string wn.hold, .int .i64 wn.pull, .int .i64 wn.start, .int .i64 wn.dies, .int .i64 wn.grace, .int .i64 6, .int .i64 l, .int .i64 f, .int .i64 u] 26)).alloc (.cells #[.string y.copy, .int .i64 y.version, .string y.hold, .int .i64 y.pull, .int .i64 y.start, .int .i64 y.dies, .int .i64 y.grace] 24)).alloc (.cells #[.string ⟨#[]⟩, .int .i64 0, .string ⟨#[]⟩, .int .i64 0, .int .i64 0, .int .i64 0, .int .i64 0, .int .i64 0, .int .i64 0, .int .i64 0, .int .i64 0] 26)) := (Below.refl _ _).alloc (Nat.le_refl _) _
  have HZ : Hid (Blk (w.heap.size + 1 + 1) #[.string ⟨#[]⟩, .int .i64 0, .string ⟨#[]⟩, .int .i64 0, .int .i64 0, .int .i64 0, .int .i64 0, .int .i64 0, .int .i64 0, .int .i64 0, .int .i64 0] 26 (((w.alloc (.cells #[.string wn.copy, .int .i64 wn.version, .string wn.hold, .int .i64 wn.pull, .int .i64 wn.start, .int .i64 wn.dies, .int .i64 wn.grace, .int .i64 6, .int .i64 l, .int .i64 f, .int .i64 u] 26)).alloc (.cells #[.string y.copy, .int .i64 y.version, .string y.hold, .int .i64 y.pull, .int .i64 y.start, .int .i64 y.dies, .int .i64 y.grace] 24)).alloc (.cells #[.string ⟨#[]⟩, .int .i64 0, .string ⟨#[]⟩, .int .i64 0, .int .i64 0, .int .i64 0, .int .i64 0, .int .i64 0, .int .i64 0, .int .i64 0, .int .i64 0] 26))) := by
    show Blk _ _ _ _
    have := Blk.alloc ((w.alloc (.cells #[.string wn.copy, .int .i64 wn.version, .string wn.hold, .int .i64 wn.pull, .int .i64 wn.start, .int .i64 wn.dies, .int .i64 wn.grace, .int .i64 6, .int .i64 l, .int .i64 f, .int .i64 u] 26)).alloc (.cells #[.string y.copy, .int .i64 y.version, .string y.hold, .int .i64 y.pull, .int .i64 y.start, .int .i64 y.dies, .int .i64 y.grace] 24)) #[.string ⟨#[]⟩, .int .i64 0, .string ⟨#[]⟩, .int .i64 0, .int .i64 0, .int .i64 0, .int .i64 0, .int .i64 0, .int .i64 0, .int .i64 0, .int .i64 0] 26
    simpa using this
  have HX : Hid (Blk w.heap.size #[.string wn.copy, .int .i64 wn.version, .string wn.hold, .int .i64 wn.pull, .int .i64 wn.start, .int .i64 wn.dies, .int .i64 wn.grace, .int .i64 6, .int .i64 l, .int .i64 f, .int .i64 u] 26 (((w.alloc (.cells #[.string wn.copy, .int .i64 wn.version, .string wn.hold, .int .i64 wn.pull, .int .i64 wn.start, .int .i64 wn.dies, .int .i64 wn.grace, .int .i64 6, .int .i64 l, .int .i64 f, .int .i64 u] 26)).alloc (.cells #[.string y.copy, .int .i64 y.version, .string y.hold, .int .i64 y.pull, .int .i64 y.start, .int .i64 y.dies, .int .i64 y.grace] 24)).alloc (.cells #[.string ⟨#[]⟩, .int .i64 0, .string ⟨#[]⟩, .int .i64 0, .int .i64 0, .int .i64 0, .int .i64 0, .int .i64 0, .int .i64 0, .int .i64 0, .int .i64 0] 26))) := (HX0.below hba HX0.lt).below hbb (HX0.below hba HX0.lt).lt
  have HY : Hid (Blk (w.heap.size + 1) #[.string y.copy, .int .i64 y.version, .string y.hold, .int .i64 y.pull, .int .i64 y.start, .int .i64 y.dies, .int .i64 y.grace] 24 (((w.alloc (.cells #[.string wn.copy, .int .i64 wn.version, .string wn.hold, .int .i64 wn.pull, .int .i64 wn.start, .int .i64 wn.dies, .int .i64 wn.grace, .int .i64 6, .int .i64 l, .int .i64 f, .int .i64 u] 26)).alloc (.cells #[.string y.copy, .int .i64 y.version, .string y.hold, .int .i64 y.pull, .int .i64 y.start, .int .i64 y.dies, .int .i64 y.grace] 24)).alloc (.cells #[.string ⟨#[]⟩, .int .i64 0, .string ⟨#[]⟩, .int .i64 0, .int .i64 0, .int .i64 0, .int .i64 0, .int .i64 0, .int .i64 0, .int .i64 0, .int .i64 0] 26))) := HY0.below hbb HY0.lt
  have hB0 : Below w.heap.size w (((w.alloc (.cells #[.string wn.copy, .int .i64 wn.version, .string wn.hold, .int .i64 wn.pull, .int .i64 wn.start, .int .i64 wn.dies, .int .i64 wn.grace, .int .i64 6, .int .i64 l, .int .i64 f, .int .i64 u] 26)).alloc (.cells #[.string y.copy, .int .i64 y.version, .string y.hold, .int .i64 y.pull, .int .i64 y.start, .int .i64 y.dies, .int .i64 y.grace] 24)).alloc (.cells #[.string ⟨#[]⟩, .int .i64 0, .string ⟨#[]⟩, .int .i64 0, .int .i64 0, .int .i64 0, .int .i64 0, .int .i64 0, .int .i64 0, .int .i64 0, .int .i64 0] 26)) := by go_grown
  clear HX0 HY0 hba hbb
  go_enter Try.func6, Try.ntmps6
  go_upto_region 1 with fail
  generalize ((w.alloc (Obj.cells #[.string wn.copy, .int .i64 wn.version, .string wn.hold, .int .i64 wn.pull, .int .i64 wn.start, .int .i64 wn.dies, .int .i64 wn.grace, .int .i64 6, .int .i64 l, .int .i64 f, .int .i64 u] 26)).alloc (Obj.cells #[.string y.copy, .int .i64 y.version, .string y.hold, .int .i64 y.pull, .int .i64 y.start, .int .i64 y.dies, .int .i64 y.grace] 24)).alloc (Obj.cells #[.string ⟨#[]⟩, .int .i64 0, .string ⟨#[]⟩, .int .i64 0, .int .i64 0, .int .i64 0, .int .i64 0, .int .i64 0, .int .i64 0, .int .i64 0, .int .i64 0] 26) = w0 at *
  have hq : ∀ w, (Op.equalIn 10000 24 (.agg #[.string y.copy, .int .i64 y.version, .string y.hold, .int .i64 y.pull, .int .i64 y.start, .int .i64 y.dies, .int .i64 y.grace]) (.agg #[.string wn.copy, .int .i64 wn.version, .string wn.hold, .int .i64 wn.pull, .int .i64 wn.start, .int .i64 wn.dies, .int .i64 wn.grace])).run Try.prog w = .ok (eqW y wn) w := fun w => equalW y wn w
  have hgd := guardW
  have k0 : w0.cell? ⟨w.heap.size, 0, none⟩ = some (.string wn.copy) := HX.out.cell rfl
  have k1 : w0.cell? ⟨w.heap.size, 1, none⟩ = some (.int .i64 wn.version) := HX.out.cell rfl
  have k2 : w0.cell? ⟨w.heap.size, 2, none⟩ = some (.string wn.hold) := HX.out.cell rfl
  have k3 : w0.cell? ⟨w.heap.size, 3, none⟩ = some (.int .i64 wn.pull) := HX.out.cell rfl
  have k4 : w0.cell? ⟨w.heap.size, 4, none⟩ = some (.int .i64 wn.start) := HX.out.cell rfl
  have k5 : w0.cell? ⟨w.heap.size, 5, none⟩ = some (.int .i64 wn.dies) := HX.out.cell rfl
  have k6 : w0.cell? ⟨w.heap.size, 6, none⟩ = some (.int .i64 wn.grace) := HX.out.cell rfl
  have k7 : w0.cell? ⟨w.heap.size, 7, none⟩ = some (.int .i64 6) := HX.out.cell rfl
  have k8 : w0.cell? ⟨w.heap.size, 8, none⟩ = some (.int .i64 l) := HX.out.cell rfl
  have f7 : w0.frozen? ⟨w.heap.size, 7, none⟩ = false := HX.out.frozen _
  have f8 : w0.frozen? ⟨w.heap.size, 8, none⟩ = false := HX.out.frozen _
  have l0 : w0.cell? ⟨w.heap.size + 1, 0, none⟩ = some (.string y.copy) := HY.out.cell rfl
  have l1 : w0.cell? ⟨w.heap.size + 1, 1, none⟩ = some (.int .i64 y.version) := HY.out.cell rfl
  have l2 : w0.cell? ⟨w.heap.size + 1, 2, none⟩ = some (.string y.hold) := HY.out.cell rfl
  have l3 : w0.cell? ⟨w.heap.size + 1, 3, none⟩ = some (.int .i64 y.pull) := HY.out.cell rfl
  have l4 : w0.cell? ⟨w.heap.size + 1, 4, none⟩ = some (.int .i64 y.start) := HY.out.cell rfl
  have l5 : w0.cell? ⟨w.heap.size + 1, 5, none⟩ = some (.int .i64 y.dies) := HY.out.cell rfl
  have l6 : w0.cell? ⟨w.heap.size + 1, 6, none⟩ = some (.int .i64 y.grace) := HY.out.cell rfl
  cases wanted with
  | false =>
    by_cases hl : 1 < l
    · skip
      have HEQ : Hid (((⟨wn, 6, wrap64 (l - 1), f, u⟩ : Rn), true) = livS (⟨wn, 6, l, f, u⟩ : Rn) (!(false && eqW y wn)) c) := by
        show _ = _
        skip
        simp [livS, hl]
      have HXs : Hid (Blk w.heap.size #[.string wn.copy, .int .i64 wn.version, .string wn.hold, .int .i64 wn.pull, .int .i64 wn.start, .int .i64 wn.dies, .int .i64 wn.grace, .int .i64 6, .int .i64 (wrap64 (l - 1)), .int .i64 f, .int .i64 u] 26 (w0.setCell ⟨w.heap.size, 8, none⟩ (.int .i64 (wrap64 (l - 1))))) := (HX.out.set 8 _)
      have HZs : Hid (Blk (w.heap.size + 1 + 1) #[.string ⟨#[]⟩, .int .i64 0, .string ⟨#[]⟩, .int .i64 0, .int .i64 0, .int .i64 0, .int .i64 0, .int .i64 0, .int .i64 0, .int .i64 0, .int .i64 0] 26 (w0.setCell ⟨w.heap.size, 8, none⟩ (.int .i64 (wrap64 (l - 1))))) := (HZ.out.other (by simp; omega) _)
      have hBs : Below w.heap.size w (w0.setCell ⟨w.heap.size, 8, none⟩ (.int .i64 (wrap64 (l - 1)))) := (hB0.setCell (p := ⟨w.heap.size, 8, none⟩) (Nat.le_refl _) _)
      obtain ⟨w5, HW5⟩ : ∃ w5, Hid (w5 = ((w0.setCell ⟨w.heap.size, 8, none⟩ (.int .i64 (wrap64 (l - 1))))).setCells (w.heap.size + 1 + 1) 0 [.string wn.copy, .int .i64 wn.version, .string wn.hold, .int .i64 wn.pull, .int .i64 wn.start, .int .i64 wn.dies, .int .i64 wn.grace, .int .i64 6, .int .i64 (wrap64 (l - 1)), .int .i64 f, .int .i64 u]) := ⟨_, rfl⟩
      have HR5 : Hid (w5.rangeAt (w.heap.size + 1 + 1) 0 [.string wn.copy, .int .i64 wn.version, .string wn.hold, .int .i64 wn.pull, .int .i64 wn.start, .int .i64 wn.dies, .int .i64 wn.grace, .int .i64 6, .int .i64 (wrap64 (l - 1)), .int .i64 f, .int .i64 u]) := by
        show World.rangeAt _ _ _ _
        rw [HW5.out]
        exact World.rangeAt_setCells_same _ _ _ _ HZs.out.there
      have hB5 : Below w.heap.size w w5 := by
        rw [HW5.out]
        exact below_setCells (by omega) _ _ _ hBs
      have HTZ := Hid.intro HZs.out.there
      go_wp2_with (first | (refine wpList_load_mid rfl 26 _ rfl w.heap.size 0 rfl [.string wn.copy, .int .i64 wn.version, .string wn.hold, .int .i64 wn.pull, .int .i64 wn.start, .int .i64 wn.dies, .int .i64 wn.grace, .int .i64 6, .int .i64 (wrap64 (l - 1)), .int .i64 f, .int .i64 u] _ HXs.out.rangeA Try.underlying26 rfl isz_Rn ?_) | (refine wpList_store_to rfl 26 _ _ rfl (w.heap.size + 1 + 1) 0 #[.string wn.copy, .int .i64 wn.version, .string wn.hold, .int .i64 wn.pull, .int .i64 wn.start, .int .i64 wn.dies, .int .i64 wn.grace, .int .i64 6, .int .i64 (wrap64 (l - 1)), .int .i64 f, .int .i64 u] rfl rfl HTZ.out isz_Rn (by simp [Value.oneCell']) w5 HW5.out ?_))
      exact bodyPost_ret (results_cell_tmp rfl _ _ (w.heap.size + 1 + 1) [.string wn.copy, .int .i64 wn.version, .string wn.hold, .int .i64 wn.pull, .int .i64 wn.start, .int .i64 wn.dies, .int .i64 wn.grace, .int .i64 6, .int .i64 (wrap64 (l - 1)), .int .i64 f, .int .i64 u] _ rfl HR5.out Try.underlying26 rfl isz_Rn) rfl ⟨(⟨wn, 6, wrap64 (l - 1), f, u⟩ : Rn), true, HEQ.out, rfl, hB5⟩
    have hl' : l ≤ 1 := by omega
    have HEQ : Hid ((noRn, false) = livS (⟨wn, 6, l, f, u⟩ : Rn) (!(false && eqW y wn)) c) := by
      show _ = _
      skip
      simp [livS, hl]
    clear hl
    obtain ⟨w5, HW5⟩ : ∃ w5, Hid (w5 = (w0).setCells (w.heap.size + 1 + 1) 0 [.string ⟨#[]⟩, .int .i64 0, .string ⟨#[]⟩, .int .i64 0, .int .i64 0, .int .i64 0, .int .i64 0, .int .i64 0, .int .i64 0, .int .i64 0, .int .i64 0]) := ⟨_, rfl⟩
    have HR5 : Hid (w5.rangeAt (w.heap.size + 1 + 1) 0 [.string ⟨#[]⟩, .int .i64 0, .string ⟨#[]⟩, .int .i64 0, .int .i64 0, .int .i64 0, .int .i64 0, .int .i64 0, .int .i64 0, .int .i64 0, .int .i64 0]) := by
      show World.rangeAt _ _ _ _
      rw [HW5.out]
      exact World.rangeAt_setCells_same _ _ _ _ HZ.out.there
    have hB5 : Below w.heap.size w w5 := by
      rw [HW5.out]
      exact below_setCells (by omega) _ _ _ hB0
    have HTZ := Hid.intro HZ.out.there
    go_wp2_with (first | (refine wpList_store_to rfl 26 _ _ rfl (w.heap.size + 1 + 1) 0 #[.string ⟨#[]⟩, .int .i64 0, .string ⟨#[]⟩, .int .i64 0, .int .i64 0, .int .i64 0, .int .i64 0, .int .i64 0, .int .i64 0, .int .i64 0, .int .i64 0] rfl rfl HTZ.out isz_Rn (by simp [Value.oneCell']) w5 HW5.out ?_))
    exact bodyPost_ret (results_cell_tmp rfl _ _ (w.heap.size + 1 + 1) [.string ⟨#[]⟩, .int .i64 0, .string ⟨#[]⟩, .int .i64 0, .int .i64 0, .int .i64 0, .int .i64 0, .int .i64 0, .int .i64 0, .int .i64 0, .int .i64 0] _ rfl HR5.out Try.underlying26 rfl isz_Rn) rfl ⟨noRn, false, HEQ.out, rfl, hB5⟩
  | true =>
    cases hE : eqW y wn with
    | false =>
      rw [hE] at hq
      have HE := Hid.intro hE
      clear hE
      by_cases hl : 1 < l
      · skip
        have HEQ : Hid (((⟨wn, 6, wrap64 (l - 1), f, u⟩ : Rn), true) = livS (⟨wn, 6, l, f, u⟩ : Rn) (!(true && eqW y wn)) c) := by
          show _ = _
          rw [HE.out]
          simp [livS, hl]
        have HXs : Hid (Blk w.heap.size #[.string wn.copy, .int .i64 wn.version, .string wn.hold, .int .i64 wn.pull, .int .i64 wn.start, .int .i64 wn.dies, .int .i64 wn.grace, .int .i64 6, .int .i64 (wrap64 (l - 1)), .int .i64 f, .int .i64 u] 26 (w0.setCell ⟨w.heap.size, 8, none⟩ (.int .i64 (wrap64 (l - 1))))) := (HX.out.set 8 _)
        have HZs : Hid (Blk (w.heap.size + 1 + 1) #[.string ⟨#[]⟩, .int .i64 0, .string ⟨#[]⟩, .int .i64 0, .int .i64 0, .int .i64 0, .int .i64 0, .int .i64 0, .int .i64 0, .int .i64 0, .int .i64 0] 26 (w0.setCell ⟨w.heap.size, 8, none⟩ (.int .i64 (wrap64 (l - 1))))) := (HZ.out.other (by simp; omega) _)
        have hBs : Below w.heap.size w (w0.setCell ⟨w.heap.size, 8, none⟩ (.int .i64 (wrap64 (l - 1)))) := (hB0.setCell (p := ⟨w.heap.size, 8, none⟩) (Nat.le_refl _) _)
        obtain ⟨w5, HW5⟩ : ∃ w5, Hid (w5 = ((w0.setCell ⟨w.heap.size, 8, none⟩ (.int .i64 (wrap64 (l - 1))))).setCells (w.heap.size + 1 + 1) 0 [.string wn.copy, .int .i64 wn.version, .string wn.hold, .int .i64 wn.pull, .int .i64 wn.start, .int .i64 wn.dies, .int .i64 wn.grace, .int .i64 6, .int .i64 (wrap64 (l - 1)), .int .i64 f, .int .i64 u]) := ⟨_, rfl⟩
        have HR5 : Hid (w5.rangeAt (w.heap.size + 1 + 1) 0 [.string wn.copy, .int .i64 wn.version, .string wn.hold, .int .i64 wn.pull, .int .i64 wn.start, .int .i64 wn.dies, .int .i64 wn.grace, .int .i64 6, .int .i64 (wrap64 (l - 1)), .int .i64 f, .int .i64 u]) := by
          show World.rangeAt _ _ _ _
          rw [HW5.out]
          exact World.rangeAt_setCells_same _ _ _ _ HZs.out.there
        have hB5 : Below w.heap.size w w5 := by
          rw [HW5.out]
          exact below_setCells (by omega) _ _ _ hBs
        have HTZ := Hid.intro HZs.out.there
        go_wp2_with (first | (refine wpList_load_mid rfl 26 _ rfl w.heap.size 0 rfl [.string wn.copy, .int .i64 wn.version, .string wn.hold, .int .i64 wn.pull, .int .i64 wn.start, .int .i64 wn.dies, .int .i64 wn.grace, .int .i64 6, .int .i64 (wrap64 (l - 1)), .int .i64 f, .int .i64 u] _ HXs.out.rangeA Try.underlying26 rfl isz_Rn ?_) | (refine wpList_store_to rfl 26 _ _ rfl (w.heap.size + 1 + 1) 0 #[.string wn.copy, .int .i64 wn.version, .string wn.hold, .int .i64 wn.pull, .int .i64 wn.start, .int .i64 wn.dies, .int .i64 wn.grace, .int .i64 6, .int .i64 (wrap64 (l - 1)), .int .i64 f, .int .i64 u] rfl rfl HTZ.out isz_Rn (by simp [Value.oneCell']) w5 HW5.out ?_))
        exact bodyPost_ret (results_cell_tmp rfl _ _ (w.heap.size + 1 + 1) [.string wn.copy, .int .i64 wn.version, .string wn.hold, .int .i64 wn.pull, .int .i64 wn.start, .int .i64 wn.dies, .int .i64 wn.grace, .int .i64 6, .int .i64 (wrap64 (l - 1)), .int .i64 f, .int .i64 u] _ rfl HR5.out Try.underlying26 rfl isz_Rn) rfl ⟨(⟨wn, 6, wrap64 (l - 1), f, u⟩ : Rn), true, HEQ.out, rfl, hB5⟩
      have hl' : l ≤ 1 := by omega
      have HEQ : Hid ((noRn, false) = livS (⟨wn, 6, l, f, u⟩ : Rn) (!(true && eqW y wn)) c) := by
        show _ = _
        rw [HE.out]
        simp [livS, hl]
      clear hl
      obtain ⟨w5, HW5⟩ : ∃ w5, Hid (w5 = (w0).setCells (w.heap.size + 1 + 1) 0 [.string ⟨#[]⟩, .int .i64 0, .string ⟨#[]⟩, .int .i64 0, .int .i64 0, .int .i64 0, .int .i64 0, .int .i64 0, .int .i64 0, .int .i64 0, .int .i64 0]) := ⟨_, rfl⟩
      have HR5 : Hid (w5.rangeAt (w.heap.size + 1 + 1) 0 [.string ⟨#[]⟩, .int .i64 0, .string ⟨#[]⟩, .int .i64 0, .int .i64 0, .int .i64 0, .int .i64 0, .int .i64 0, .int .i64 0, .int .i64 0, .int .i64 0]) := by
        show World.rangeAt _ _ _ _
        rw [HW5.out]
        exact World.rangeAt_setCells_same _ _ _ _ HZ.out.there
      have hB5 : Below w.heap.size w w5 := by
        rw [HW5.out]
        exact below_setCells (by omega) _ _ _ hB0
      have HTZ := Hid.intro HZ.out.there
      go_wp2_with (first | (refine wpList_store_to rfl 26 _ _ rfl (w.heap.size + 1 + 1) 0 #[.string ⟨#[]⟩, .int .i64 0, .string ⟨#[]⟩, .int .i64 0, .int .i64 0, .int .i64 0, .int .i64 0, .int .i64 0, .int .i64 0, .int .i64 0, .int .i64 0] rfl rfl HTZ.out isz_Rn (by simp [Value.oneCell']) w5 HW5.out ?_))
      exact bodyPost_ret (results_cell_tmp rfl _ _ (w.heap.size + 1 + 1) [.string ⟨#[]⟩, .int .i64 0, .string ⟨#[]⟩, .int .i64 0, .int .i64 0, .int .i64 0, .int .i64 0, .int .i64 0, .int .i64 0, .int .i64 0, .int .i64 0] _ rfl HR5.out Try.underlying26 rfl isz_Rn) rfl ⟨noRn, false, HEQ.out, rfl, hB5⟩
    | true =>
      rw [hE] at hq
      have HE := Hid.intro hE
      clear hE
      by_cases hl : 1 < l
      · skip
        have HEQ : Hid (((⟨wn, 6, wrap64 (l - 1), f, u⟩ : Rn), true) = livS (⟨wn, 6, l, f, u⟩ : Rn) (!(true && eqW y wn)) c) := by
          show _ = _
          rw [HE.out]
          simp [livS, hl]
        have HXs : Hid (Blk w.heap.size #[.string wn.copy, .int .i64 wn.version, .string wn.hold, .int .i64 wn.pull, .int .i64 wn.start, .int .i64 wn.dies, .int .i64 wn.grace, .int .i64 6, .int .i64 (wrap64 (l - 1)), .int .i64 f, .int .i64 u] 26 (w0.setCell ⟨w.heap.size, 8, none⟩ (.int .i64 (wrap64 (l - 1))))) := (HX.out.set 8 _)
        have HZs : Hid (Blk (w.heap.size + 1 + 1) #[.string ⟨#[]⟩, .int .i64 0, .string ⟨#[]⟩, .int .i64 0, .int .i64 0, .int .i64 0, .int .i64 0, .int .i64 0, .int .i64 0, .int .i64 0, .int .i64 0] 26 (w0.setCell ⟨w.heap.size, 8, none⟩ (.int .i64 (wrap64 (l - 1))))) := (HZ.out.other (by simp; omega) _)
        have hBs : Below w.heap.size w (w0.setCell ⟨w.heap.size, 8, none⟩ (.int .i64 (wrap64 (l - 1)))) := (hB0.setCell (p := ⟨w.heap.size, 8, none⟩) (Nat.le_refl _) _)
        obtain ⟨w5, HW5⟩ : ∃ w5, Hid (w5 = ((w0.setCell ⟨w.heap.size, 8, none⟩ (.int .i64 (wrap64 (l - 1))))).setCells (w.heap.size + 1 + 1) 0 [.string wn.copy, .int .i64 wn.version, .string wn.hold, .int .i64 wn.pull, .int .i64 wn.start, .int .i64 wn.dies, .int .i64 wn.grace, .int .i64 6, .int .i64 (wrap64 (l - 1)), .int .i64 f, .int .i64 u]) := ⟨_, rfl⟩
        have HR5 : Hid (w5.rangeAt (w.heap.size + 1 + 1) 0 [.string wn.copy, .int .i64 wn.version, .string wn.hold, .int .i64 wn.pull, .int .i64 wn.start, .int .i64 wn.dies, .int .i64 wn.grace, .int .i64 6, .int .i64 (wrap64 (l - 1)), .int .i64 f, .int .i64 u]) := by
          show World.rangeAt _ _ _ _
          rw [HW5.out]
          exact World.rangeAt_setCells_same _ _ _ _ HZs.out.there
        have hB5 : Below w.heap.size w w5 := by
          rw [HW5.out]
          exact below_setCells (by omega) _ _ _ hBs
        have HTZ := Hid.intro HZs.out.there
        go_wp2_with (first | (refine wpList_load_mid rfl 26 _ rfl w.heap.size 0 rfl [.string wn.copy, .int .i64 wn.version, .string wn.hold, .int .i64 wn.pull, .int .i64 wn.start, .int .i64 wn.dies, .int .i64 wn.grace, .int .i64 6, .int .i64 (wrap64 (l - 1)), .int .i64 f, .int .i64 u] _ HXs.out.rangeA Try.underlying26 rfl isz_Rn ?_) | (refine wpList_store_to rfl 26 _ _ rfl (w.heap.size + 1 + 1) 0 #[.string wn.copy, .int .i64 wn.version, .string wn.hold, .int .i64 wn.pull, .int .i64 wn.start, .int .i64 wn.dies, .int .i64 wn.grace, .int .i64 6, .int .i64 (wrap64 (l - 1)), .int .i64 f, .int .i64 u] rfl rfl HTZ.out isz_Rn (by simp [Value.oneCell']) w5 HW5.out ?_))
        exact bodyPost_ret (results_cell_tmp rfl _ _ (w.heap.size + 1 + 1) [.string wn.copy, .int .i64 wn.version, .string wn.hold, .int .i64 wn.pull, .int .i64 wn.start, .int .i64 wn.dies, .int .i64 wn.grace, .int .i64 6, .int .i64 (wrap64 (l - 1)), .int .i64 f, .int .i64 u] _ rfl HR5.out Try.underlying26 rfl isz_Rn) rfl ⟨(⟨wn, 6, wrap64 (l - 1), f, u⟩ : Rn), true, HEQ.out, rfl, hB5⟩
      have hl' : l ≤ 1 := by omega
      have HEQ : Hid ((noRn, false) = livS (⟨wn, 6, l, f, u⟩ : Rn) (!(true && eqW y wn)) c) := by
        show _ = _
        rw [HE.out]
        simp [livS, hl]
      clear hl
      obtain ⟨w5, HW5⟩ : ∃ w5, Hid (w5 = (w0).setCells (w.heap.size + 1 + 1) 0 [.string ⟨#[]⟩, .int .i64 0, .string ⟨#[]⟩, .int .i64 0, .int .i64 0, .int .i64 0, .int .i64 0, .int .i64 0, .int .i64 0, .int .i64 0, .int .i64 0]) := ⟨_, rfl⟩
      have HR5 : Hid (w5.rangeAt (w.heap.size + 1 + 1) 0 [.string ⟨#[]⟩, .int .i64 0, .string ⟨#[]⟩, .int .i64 0, .int .i64 0, .int .i64 0, .int .i64 0, .int .i64 0, .int .i64 0, .int .i64 0, .int .i64 0]) := by
        show World.rangeAt _ _ _ _
        rw [HW5.out]
        exact World.rangeAt_setCells_same _ _ _ _ HZ.out.there
      have hB5 : Below w.heap.size w w5 := by
        rw [HW5.out]
        exact below_setCells (by omega) _ _ _ hB0
      have HTZ := Hid.intro HZ.out.there
      go_wp2_with (first | (refine wpList_store_to rfl 26 _ _ rfl (w.heap.size + 1 + 1) 0 #[.string ⟨#[]⟩, .int .i64 0, .string ⟨#[]⟩, .int .i64 0, .int .i64 0, .int .i64 0, .int .i64 0, .int .i64 0, .int .i64 0, .int .i64 0, .int .i64 0] rfl rfl HTZ.out isz_Rn (by simp [Value.oneCell']) w5 HW5.out ?_))
      exact bodyPost_ret (results_cell_tmp rfl _ _ (w.heap.size + 1 + 1) [.string ⟨#[]⟩, .int .i64 0, .string ⟨#[]⟩, .int .i64 0, .int .i64 0, .int .i64 0, .int .i64 0, .int .i64 0, .int .i64 0, .int .i64 0, .int .i64 0] _ rfl HR5.out Try.underlying26 rfl isz_Rn) rfl ⟨noRn, false, HEQ.out, rfl, hB5⟩

end Go.Proofs.Ytalnkbocfhhjkaa
