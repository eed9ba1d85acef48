/-
  Wants, runs and asks in memory of their own, by the program. Made by mknw.py.
-/
import Derived.Test.YtebcocejgenadaaGreatRn
import Derived.Test.YtebcocejgenadaaGreatAks
import Derived.Test.YtebcocejgenadaaGreatBls
import Derived.Test.YtebcocejgenadaaGreatJ20
import Derived.Deep.RegionHeld3
namespace Go.Proofs.YtebcocejgenadaaGreat
open Go.RowKit

set_option maxHeartbeats 400000 in
theorem cl3_any (s : ByteArray) (w : World) (hs : s.size ≤ 1048576) :
    Calls Tryz.prog 69 #[.string s] w fun e w' => e = .returned (.string s) ∧ Below w.heap.size w w' := by
  go_enter Tryz.func69, Tryz.ntmps69
  go_wp2_with fail
  refine (Any.stringslite_Clone laysC s w (by omega)).mono ?_
  rintro e w1 ⟨rfl, hb⟩
  go_wp2_with fail
  go_ret
  exact ⟨rfl, hb⟩

set_option maxHeartbeats 2000000 in
set_option maxRecDepth 100000 in
theorem nwWnt_any (x : Wnt) (w : World) (z0 : x.copy.size ≤ 1048576) (z2 : x.hold.size ≤ 1048576) :
    Calls Tryz.prog 84 #[.agg #[.string x.copy, .int .i64 x.version, .string x.hold, .int .i64 x.pull, .int .i64 x.start, .int .i64 x.dies, .int .i64 x.grace]] w fun e w' => e = .returned (.agg #[.string x.copy, .int .i64 x.version, .string x.hold, .int .i64 x.pull, .int .i64 x.start, .int .i64 x.dies, .int .i64 x.grace]) ∧ Below w.heap.size w w' := by
  have HX0 : Blk w.heap.size #[.string x.copy, .int .i64 x.version, .string x.hold, .int .i64 x.pull, .int .i64 x.start, .int .i64 x.dies, .int .i64 x.grace] 79 (w.alloc (.cells #[.string x.copy, .int .i64 x.version, .string x.hold, .int .i64 x.pull, .int .i64 x.start, .int .i64 x.dies, .int .i64 x.grace] 79)) := Blk.alloc _ _ _
  have HZ : Hid (Blk (w.heap.size + 1) #[.string ⟨#[]⟩, .int .i64 0, .string ⟨#[]⟩, .int .i64 0, .int .i64 0, .int .i64 0, .int .i64 0] 79 ((w.alloc (.cells #[.string x.copy, .int .i64 x.version, .string x.hold, .int .i64 x.pull, .int .i64 x.start, .int .i64 x.dies, .int .i64 x.grace] 79)).alloc (.cells #[.string ⟨#[]⟩, .int .i64 0, .string ⟨#[]⟩, .int .i64 0, .int .i64 0, .int .i64 0, .int .i64 0] 79))) := by
    have := Blk.alloc (w.alloc (.cells #[.string x.copy, .int .i64 x.version, .string x.hold, .int .i64 x.pull, .int .i64 x.start, .int .i64 x.dies, .int .i64 x.grace] 79)) #[.string ⟨#[]⟩, .int .i64 0, .string ⟨#[]⟩, .int .i64 0, .int .i64 0, .int .i64 0, .int .i64 0] 79
    show Blk _ _ _ _
    simpa using this
  have hB3 : Below w.heap.size w ((w.alloc (.cells #[.string x.copy, .int .i64 x.version, .string x.hold, .int .i64 x.pull, .int .i64 x.start, .int .i64 x.dies, .int .i64 x.grace] 79)).alloc (.cells #[.string ⟨#[]⟩, .int .i64 0, .string ⟨#[]⟩, .int .i64 0, .int .i64 0, .int .i64 0, .int .i64 0] 79)) := by go_grown
  have HX : Hid (Blk w.heap.size #[.string x.copy, .int .i64 x.version, .string x.hold, .int .i64 x.pull, .int .i64 x.start, .int .i64 x.dies, .int .i64 x.grace] 79 ((w.alloc (.cells #[.string x.copy, .int .i64 x.version, .string x.hold, .int .i64 x.pull, .int .i64 x.start, .int .i64 x.dies, .int .i64 x.grace] 79)).alloc (.cells #[.string ⟨#[]⟩, .int .i64 0, .string ⟨#[]⟩, .int .i64 0, .int .i64 0, .int .i64 0, .int .i64 0] 79))) := HX0.below ((Below.refl _ _).alloc (Nat.le_refl _) _) HX0.lt
  clear HX0
  go_enter Tryz.func84, Tryz.ntmps84
  go_upto_region 1 with fail
  generalize (w.alloc (Obj.cells #[.string x.copy, .int .i64 x.version, .string x.hold, .int .i64 x.pull, .int .i64 x.start, .int .i64 x.dies, .int .i64 x.grace] 79)).alloc (Obj.cells #[.string ⟨#[]⟩, .int .i64 0, .string ⟨#[]⟩, .int .i64 0, .int .i64 0, .int .i64 0, .int .i64 0] 79) = w3 at *
  refine wp_region_held_drew (S := fun wy => Blk w.heap.size #[.string x.copy, .int .i64 x.version, .string x.hold, .int .i64 x.pull, .int .i64 x.start, .int .i64 x.dies, .int .i64 x.grace] 79 wy ∧ Blk (w.heap.size + 1) #[.string ⟨#[]⟩, .int .i64 0, .string ⟨#[]⟩, .int .i64 0, .int .i64 0, .int .i64 0, .int .i64 0] 79 wy) (by kernel_rfl) ⟨HX.out.drew, HZ.out.drew⟩ (fun hS => ?_)
  refine wpAnyH_take (i := 0) (oi := { dst := some 3, op := _, type := _, pos := _, after := _, guard := none }) (v := .pointer (some ⟨w.heap.size, 0, none⟩)) rfl (by kernel_rfl) (by kernel_rfl) (by kernel_rfl) (fun _ _ _ h => h) (Or.inl ⟨by rfl, ?_⟩) hS ?_
  · intro wy hy
    clear hy
    go_simp
  simp only [Act.put, List.setIfInBounds_toArray, List.set_cons_zero, List.set_cons_succ]
  refine wpAnyH_take (i := 1) (oi := { dst := some 4, op := _, type := _, pos := _, after := _, guard := none }) (v := .string x.copy) rfl (by kernel_rfl) (by kernel_rfl) (by kernel_rfl) (fun _ _ _ h => h) (Or.inl ⟨by rfl, ?_⟩) hS ?_
  · intro wy hy
    have h0 := hy.1.cell (o := 0) (v := .string x.copy) rfl
    clear hy
    go_simp
  simp only [Act.put, List.setIfInBounds_toArray, List.set_cons_zero, List.set_cons_succ]
  refine wpAnyH_take (i := 3) (oi := { dst := some 6, op := _, type := _, pos := _, after := _, guard := none }) (v := .pointer (some ⟨w.heap.size, 2, none⟩)) rfl (by kernel_rfl) (by kernel_rfl) (by kernel_rfl) (fun _ _ _ h => h) (Or.inl ⟨by rfl, ?_⟩) hS ?_
  · intro wy hy
    clear hy
    go_simp
  simp only [Act.put, List.setIfInBounds_toArray, List.set_cons_zero, List.set_cons_succ]
  refine wpAnyH_take (i := 4) (oi := { dst := some 7, op := _, type := _, pos := _, after := _, guard := none }) (v := .string x.hold) rfl (by kernel_rfl) (by kernel_rfl) (by kernel_rfl) (fun _ _ _ h => h) (Or.inl ⟨by rfl, ?_⟩) hS ?_
  · intro wy hy
    have h0 := hy.1.cell (o := 2) (v := .string x.hold) rfl
    clear hy
    go_simp
  simp only [Act.put, List.setIfInBounds_toArray, List.set_cons_zero, List.set_cons_succ]
  refine wpAnyH_ready (rs := [2]) (by kernel_rfl) (by simp) (AllReadyH.cons (o := { dst := some 5, op := _, type := _, pos := _, after := _, guard := none }) rfl (fun K hK => ?_) AllReadyH.nil)
  go_simp
  refine (cl3_any x.copy _ z0).mono ?_
  rintro e w4 ⟨rfl, hb4⟩
  have hB4 := hB3.trans ((((Below.refl w3.heap.size w3).drew).trans hb4).mono hB3.size)
  refine hK.out _ _ ⟨hS.1.below hb4 hS.1.lt, hS.2.below hb4 hS.2.lt⟩ (fun hS => ?_)
  clear hK K
  clear hb4
  refine wpAnyH_take (i := 6) (oi := { dst := some 9, op := _, type := _, pos := _, after := _, guard := none }) (v := .pointer (some ⟨w.heap.size, 0, none⟩)) rfl (by kernel_rfl) (by kernel_rfl) (by kernel_rfl) (fun _ _ _ h => h) (Or.inl ⟨by rfl, ?_⟩) hS ?_
  · intro wy hy
    clear hy
    go_simp
  simp only [Act.put, List.setIfInBounds_toArray, List.set_cons_zero, List.set_cons_succ]
  refine wpAnyH_ready (rs := [5]) (by kernel_rfl) (by simp) (AllReadyH.cons (o := { dst := some 8, op := _, type := _, pos := _, after := _, guard := none }) rfl (fun K hK => ?_) AllReadyH.nil)
  go_simp
  refine (cl3_any x.hold _ z2).mono ?_
  rintro e w5 ⟨rfl, hb5⟩
  have hB5 := hB4.trans (hb5.mono hB4.size)
  refine hK.out _ _ ⟨hS.1.below hb5 hS.1.lt, hS.2.below hb5 hS.2.lt⟩ (fun hS => ?_)
  clear hK K
  clear hb5
  have kk : w5.cell? ⟨w.heap.size, 0, none⟩ = some (.string x.copy) := hS.1.cell rfl
  have ff : w5.frozen? ⟨w.heap.size, 0, none⟩ = false := hS.1.frozen _
  refine wpAnyH_ready (rs := [7]) (by kernel_rfl) (by simp) (AllReadyH.cons (o := { dst := none, op := _, type := _, pos := _, after := _, guard := none }) rfl (fun K hK => ?_) AllReadyH.nil)
  go_simp
  have hX6 : Blk w.heap.size #[.string x.copy, .int .i64 x.version, .string x.hold, .int .i64 x.pull, .int .i64 x.start, .int .i64 x.dies, .int .i64 x.grace] 79 (w5.setCell ⟨w.heap.size, 0, none⟩ (.string x.copy)) := hS.1.set 0 _
  have hZ6 : Blk (w.heap.size + 1) #[.string ⟨#[]⟩, .int .i64 0, .string ⟨#[]⟩, .int .i64 0, .int .i64 0, .int .i64 0, .int .i64 0] 79 (w5.setCell ⟨w.heap.size, 0, none⟩ (.string x.copy)) := hS.2.other (by simp) _
  have hB6 : Below w.heap.size w (w5.setCell ⟨w.heap.size, 0, none⟩ (.string x.copy)) := hB5.setCell (p := ⟨w.heap.size, 0, none⟩) (Nat.le_refl _) _
  refine hK.out _ _ ⟨hX6, hZ6⟩ (fun hS => ?_)
  clear hK K kk ff hX6 hZ6
  generalize w5.setCell ⟨w.heap.size, 0, none⟩ (.string x.copy) = w6 at *
  refine wpAnyH_take (i := 8) (oi := { dst := some 10, op := _, type := _, pos := _, after := _, guard := none }) (v := .pointer (some ⟨w.heap.size, 2, none⟩)) rfl (by kernel_rfl) (by kernel_rfl) (by kernel_rfl) (fun _ _ _ h => h) (Or.inl ⟨by rfl, ?_⟩) hS ?_
  · intro wy hy
    clear hy
    go_simp
  simp only [Act.put, List.setIfInBounds_toArray, List.set_cons_zero, List.set_cons_succ]
  have kk : w6.cell? ⟨w.heap.size, 2, none⟩ = some (.string x.hold) := hS.1.cell rfl
  have ff : w6.frozen? ⟨w.heap.size, 2, none⟩ = false := hS.1.frozen _
  refine wpAnyH_ready (rs := [9]) (by kernel_rfl) (by simp) (AllReadyH.cons (o := { dst := none, op := _, type := _, pos := _, after := _, guard := none }) rfl (fun K hK => ?_) AllReadyH.nil)
  go_simp
  have hX7 : Blk w.heap.size #[.string x.copy, .int .i64 x.version, .string x.hold, .int .i64 x.pull, .int .i64 x.start, .int .i64 x.dies, .int .i64 x.grace] 79 (w6.setCell ⟨w.heap.size, 2, none⟩ (.string x.hold)) := hS.1.set 2 _
  have hZ7 : Blk (w.heap.size + 1) #[.string ⟨#[]⟩, .int .i64 0, .string ⟨#[]⟩, .int .i64 0, .int .i64 0, .int .i64 0, .int .i64 0] 79 (w6.setCell ⟨w.heap.size, 2, none⟩ (.string x.hold)) := hS.2.other (by simp) _
  have hB7 : Below w.heap.size w (w6.setCell ⟨w.heap.size, 2, none⟩ (.string x.hold)) := hB6.setCell (p := ⟨w.heap.size, 2, none⟩) (Nat.le_refl _) _
  refine hK.out _ _ ⟨hX7, hZ7⟩ (fun hS => ?_)
  clear hK K kk ff hX7 hZ7
  generalize w6.setCell ⟨w.heap.size, 2, none⟩ (.string x.hold) = w7 at *
  have HX7 := Hid.intro hS.1
  have HZ7 := Hid.intro hS.2
  refine wpAnyH_done (by kernel_rfl) ?_ _
  clear hS
  obtain ⟨w8, HW8⟩ : ∃ w8, Hid (w8 = w7.setCells (w.heap.size + 1) 0 [.string x.copy, .int .i64 x.version, .string x.hold, .int .i64 x.pull, .int .i64 x.start, .int .i64 x.dies, .int .i64 x.grace]) := ⟨_, rfl⟩
  have HR8 : Hid (w8.rangeAt (w.heap.size + 1) 0 [.string x.copy, .int .i64 x.version, .string x.hold, .int .i64 x.pull, .int .i64 x.start, .int .i64 x.dies, .int .i64 x.grace]) := by
    show World.rangeAt _ _ _ _
    rw [HW8.out]
    exact World.rangeAt_setCells_same _ _ _ _ HZ7.out.there
  have hB8 : Below w.heap.size w w8 := by
    rw [HW8.out]
    exact below_setCells (by omega) _ _ _ hB7
  have HTS := Hid.intro HZ7.out.there
  clear hB3 hB4 hB5 hB6 hB7 HX HZ
  go_wp2_with (first | (refine wpList_load_mid rfl 79 _ rfl w.heap.size 0 rfl [.string x.copy, .int .i64 x.version, .string x.hold, .int .i64 x.pull, .int .i64 x.start, .int .i64 x.dies, .int .i64 x.grace] _ HX7.out.rangeA Tryz.underlying79 rfl isz_Wnt ?_) | (refine wpList_store_to rfl 79 _ _ rfl (w.heap.size + 1) 0 #[.string x.copy, .int .i64 x.version, .string x.hold, .int .i64 x.pull, .int .i64 x.start, .int .i64 x.dies, .int .i64 x.grace] rfl rfl HTS.out isz_Wnt (by simp [Value.oneCell']) w8 HW8.out ?_))
  exact bodyPost_ret (results_cell_mid rfl _ _ (w.heap.size + 1) [.string x.copy, .int .i64 x.version, .string x.hold, .int .i64 x.pull, .int .i64 x.start, .int .i64 x.dies, .int .i64 x.grace] _ rfl HR8.out Tryz.underlying79 rfl isz_Wnt) rfl ⟨rfl, hB8⟩

set_option maxHeartbeats 2000000 in
set_option maxRecDepth 100000 in
theorem nwAks_any (x : Aks) (w : World) (z0 : x.hold.size ≤ 1048576) (z2 : x.copy.size ≤ 1048576) :
    Calls Tryz.prog 88 #[.agg #[.string x.hold, .string x.copy, .int .i64 x.first, .int .i64 x.at_]] w fun e w' => e = .returned (.agg #[.string x.hold, .string x.copy, .int .i64 x.first, .int .i64 x.at_]) ∧ Below w.heap.size w w' := by
  have HX0 : Blk w.heap.size #[.string x.hold, .string x.copy, .int .i64 x.first, .int .i64 x.at_] 76 (w.alloc (.cells #[.string x.hold, .string x.copy, .int .i64 x.first, .int .i64 x.at_] 76)) := Blk.alloc _ _ _
  have HZ : Hid (Blk (w.heap.size + 1) #[.string ⟨#[]⟩, .string ⟨#[]⟩, .int .i64 0, .int .i64 0] 76 ((w.alloc (.cells #[.string x.hold, .string x.copy, .int .i64 x.first, .int .i64 x.at_] 76)).alloc (.cells #[.string ⟨#[]⟩, .string ⟨#[]⟩, .int .i64 0, .int .i64 0] 76))) := by
    have := Blk.alloc (w.alloc (.cells #[.string x.hold, .string x.copy, .int .i64 x.first, .int .i64 x.at_] 76)) #[.string ⟨#[]⟩, .string ⟨#[]⟩, .int .i64 0, .int .i64 0] 76
    show Blk _ _ _ _
    simpa using this
  have hB3 : Below w.heap.size w ((w.alloc (.cells #[.string x.hold, .string x.copy, .int .i64 x.first, .int .i64 x.at_] 76)).alloc (.cells #[.string ⟨#[]⟩, .string ⟨#[]⟩, .int .i64 0, .int .i64 0] 76)) := by go_grown
  have HX : Hid (Blk w.heap.size #[.string x.hold, .string x.copy, .int .i64 x.first, .int .i64 x.at_] 76 ((w.alloc (.cells #[.string x.hold, .string x.copy, .int .i64 x.first, .int .i64 x.at_] 76)).alloc (.cells #[.string ⟨#[]⟩, .string ⟨#[]⟩, .int .i64 0, .int .i64 0] 76))) := HX0.below ((Below.refl _ _).alloc (Nat.le_refl _) _) HX0.lt
  clear HX0
  go_enter Tryz.func88, Tryz.ntmps88
  go_upto_region 1 with fail
  generalize (w.alloc (Obj.cells #[.string x.hold, .string x.copy, .int .i64 x.first, .int .i64 x.at_] 76)).alloc (Obj.cells #[.string ⟨#[]⟩, .string ⟨#[]⟩, .int .i64 0, .int .i64 0] 76) = w3 at *
  refine wp_region_held_drew (S := fun wy => Blk w.heap.size #[.string x.hold, .string x.copy, .int .i64 x.first, .int .i64 x.at_] 76 wy ∧ Blk (w.heap.size + 1) #[.string ⟨#[]⟩, .string ⟨#[]⟩, .int .i64 0, .int .i64 0] 76 wy) (by kernel_rfl) ⟨HX.out.drew, HZ.out.drew⟩ (fun hS => ?_)
  refine wpAnyH_take (i := 0) (oi := { dst := some 3, op := _, type := _, pos := _, after := _, guard := none }) (v := .pointer (some ⟨w.heap.size, 0, none⟩)) rfl (by kernel_rfl) (by kernel_rfl) (by kernel_rfl) (fun _ _ _ h => h) (Or.inl ⟨by rfl, ?_⟩) hS ?_
  · intro wy hy
    clear hy
    go_simp
  simp only [Act.put, List.setIfInBounds_toArray, List.set_cons_zero, List.set_cons_succ]
  refine wpAnyH_take (i := 1) (oi := { dst := some 4, op := _, type := _, pos := _, after := _, guard := none }) (v := .string x.hold) rfl (by kernel_rfl) (by kernel_rfl) (by kernel_rfl) (fun _ _ _ h => h) (Or.inl ⟨by rfl, ?_⟩) hS ?_
  · intro wy hy
    have h0 := hy.1.cell (o := 0) (v := .string x.hold) rfl
    clear hy
    go_simp
  simp only [Act.put, List.setIfInBounds_toArray, List.set_cons_zero, List.set_cons_succ]
  refine wpAnyH_take (i := 3) (oi := { dst := some 6, op := _, type := _, pos := _, after := _, guard := none }) (v := .pointer (some ⟨w.heap.size, 1, none⟩)) rfl (by kernel_rfl) (by kernel_rfl) (by kernel_rfl) (fun _ _ _ h => h) (Or.inl ⟨by rfl, ?_⟩) hS ?_
  · intro wy hy
    clear hy
    go_simp
  simp only [Act.put, List.setIfInBounds_toArray, List.set_cons_zero, List.set_cons_succ]
  refine wpAnyH_take (i := 4) (oi := { dst := some 7, op := _, type := _, pos := _, after := _, guard := none }) (v := .string x.copy) rfl (by kernel_rfl) (by kernel_rfl) (by kernel_rfl) (fun _ _ _ h => h) (Or.inl ⟨by rfl, ?_⟩) hS ?_
  · intro wy hy
    have h0 := hy.1.cell (o := 1) (v := .string x.copy) rfl
    clear hy
    go_simp
  simp only [Act.put, List.setIfInBounds_toArray, List.set_cons_zero, List.set_cons_succ]
  refine wpAnyH_ready (rs := [2]) (by kernel_rfl) (by simp) (AllReadyH.cons (o := { dst := some 5, op := _, type := _, pos := _, after := _, guard := none }) rfl (fun K hK => ?_) AllReadyH.nil)
  go_simp
  refine (cl3_any x.hold _ z0).mono ?_
  rintro e w4 ⟨rfl, hb4⟩
  have hB4 := hB3.trans ((((Below.refl w3.heap.size w3).drew).trans hb4).mono hB3.size)
  refine hK.out _ _ ⟨hS.1.below hb4 hS.1.lt, hS.2.below hb4 hS.2.lt⟩ (fun hS => ?_)
  clear hK K
  clear hb4
  refine wpAnyH_take (i := 6) (oi := { dst := some 9, op := _, type := _, pos := _, after := _, guard := none }) (v := .pointer (some ⟨w.heap.size, 0, none⟩)) rfl (by kernel_rfl) (by kernel_rfl) (by kernel_rfl) (fun _ _ _ h => h) (Or.inl ⟨by rfl, ?_⟩) hS ?_
  · intro wy hy
    clear hy
    go_simp
  simp only [Act.put, List.setIfInBounds_toArray, List.set_cons_zero, List.set_cons_succ]
  refine wpAnyH_ready (rs := [5]) (by kernel_rfl) (by simp) (AllReadyH.cons (o := { dst := some 8, op := _, type := _, pos := _, after := _, guard := none }) rfl (fun K hK => ?_) AllReadyH.nil)
  go_simp
  refine (cl3_any x.copy _ z2).mono ?_
  rintro e w5 ⟨rfl, hb5⟩
  have hB5 := hB4.trans (hb5.mono hB4.size)
  refine hK.out _ _ ⟨hS.1.below hb5 hS.1.lt, hS.2.below hb5 hS.2.lt⟩ (fun hS => ?_)
  clear hK K
  clear hb5
  have kk : w5.cell? ⟨w.heap.size, 0, none⟩ = some (.string x.hold) := hS.1.cell rfl
  have ff : w5.frozen? ⟨w.heap.size, 0, none⟩ = false := hS.1.frozen _
  refine wpAnyH_ready (rs := [7]) (by kernel_rfl) (by simp) (AllReadyH.cons (o := { dst := none, op := _, type := _, pos := _, after := _, guard := none }) rfl (fun K hK => ?_) AllReadyH.nil)
  go_simp
  have hX6 : Blk w.heap.size #[.string x.hold, .string x.copy, .int .i64 x.first, .int .i64 x.at_] 76 (w5.setCell ⟨w.heap.size, 0, none⟩ (.string x.hold)) := hS.1.set 0 _
  have hZ6 : Blk (w.heap.size + 1) #[.string ⟨#[]⟩, .string ⟨#[]⟩, .int .i64 0, .int .i64 0] 76 (w5.setCell ⟨w.heap.size, 0, none⟩ (.string x.hold)) := hS.2.other (by simp) _
  have hB6 : Below w.heap.size w (w5.setCell ⟨w.heap.size, 0, none⟩ (.string x.hold)) := hB5.setCell (p := ⟨w.heap.size, 0, none⟩) (Nat.le_refl _) _
  refine hK.out _ _ ⟨hX6, hZ6⟩ (fun hS => ?_)
  clear hK K kk ff hX6 hZ6
  generalize w5.setCell ⟨w.heap.size, 0, none⟩ (.string x.hold) = w6 at *
  refine wpAnyH_take (i := 8) (oi := { dst := some 10, op := _, type := _, pos := _, after := _, guard := none }) (v := .pointer (some ⟨w.heap.size, 1, none⟩)) rfl (by kernel_rfl) (by kernel_rfl) (by kernel_rfl) (fun _ _ _ h => h) (Or.inl ⟨by rfl, ?_⟩) hS ?_
  · intro wy hy
    clear hy
    go_simp
  simp only [Act.put, List.setIfInBounds_toArray, List.set_cons_zero, List.set_cons_succ]
  have kk : w6.cell? ⟨w.heap.size, 1, none⟩ = some (.string x.copy) := hS.1.cell rfl
  have ff : w6.frozen? ⟨w.heap.size, 1, none⟩ = false := hS.1.frozen _
  refine wpAnyH_ready (rs := [9]) (by kernel_rfl) (by simp) (AllReadyH.cons (o := { dst := none, op := _, type := _, pos := _, after := _, guard := none }) rfl (fun K hK => ?_) AllReadyH.nil)
  go_simp
  have hX7 : Blk w.heap.size #[.string x.hold, .string x.copy, .int .i64 x.first, .int .i64 x.at_] 76 (w6.setCell ⟨w.heap.size, 1, none⟩ (.string x.copy)) := hS.1.set 1 _
  have hZ7 : Blk (w.heap.size + 1) #[.string ⟨#[]⟩, .string ⟨#[]⟩, .int .i64 0, .int .i64 0] 76 (w6.setCell ⟨w.heap.size, 1, none⟩ (.string x.copy)) := hS.2.other (by simp) _
  have hB7 : Below w.heap.size w (w6.setCell ⟨w.heap.size, 1, none⟩ (.string x.copy)) := hB6.setCell (p := ⟨w.heap.size, 1, none⟩) (Nat.le_refl _) _
  refine hK.out _ _ ⟨hX7, hZ7⟩ (fun hS => ?_)
  clear hK K kk ff hX7 hZ7
  generalize w6.setCell ⟨w.heap.size, 1, none⟩ (.string x.copy) = w7 at *
  have HX7 := Hid.intro hS.1
  have HZ7 := Hid.intro hS.2
  refine wpAnyH_done (by kernel_rfl) ?_ _
  clear hS
  obtain ⟨w8, HW8⟩ : ∃ w8, Hid (w8 = w7.setCells (w.heap.size + 1) 0 [.string x.hold, .string x.copy, .int .i64 x.first, .int .i64 x.at_]) := ⟨_, rfl⟩
  have HR8 : Hid (w8.rangeAt (w.heap.size + 1) 0 [.string x.hold, .string x.copy, .int .i64 x.first, .int .i64 x.at_]) := by
    show World.rangeAt _ _ _ _
    rw [HW8.out]
    exact World.rangeAt_setCells_same _ _ _ _ HZ7.out.there
  have hB8 : Below w.heap.size w w8 := by
    rw [HW8.out]
    exact below_setCells (by omega) _ _ _ hB7
  have HTS := Hid.intro HZ7.out.there
  clear hB3 hB4 hB5 hB6 hB7 HX HZ
  go_wp2_with (first | (refine wpList_load_mid rfl 76 _ rfl w.heap.size 0 rfl [.string x.hold, .string x.copy, .int .i64 x.first, .int .i64 x.at_] _ HX7.out.rangeA Tryz.underlying76 rfl isz_Aks ?_) | (refine wpList_store_to rfl 76 _ _ rfl (w.heap.size + 1) 0 #[.string x.hold, .string x.copy, .int .i64 x.first, .int .i64 x.at_] rfl rfl HTS.out isz_Aks (by simp [Value.oneCell']) w8 HW8.out ?_))
  exact bodyPost_ret (results_cell_mid rfl _ _ (w.heap.size + 1) [.string x.hold, .string x.copy, .int .i64 x.first, .int .i64 x.at_] _ rfl HR8.out Tryz.underlying76 rfl isz_Aks) rfl ⟨rfl, hB8⟩

theorem rg7 {w : World} {b : Nat} {x : Rn} (h : w.rangeAt b 0 [.string x.want.copy, .int .i64 x.want.version, .string x.want.hold, .int .i64 x.want.pull, .int .i64 x.want.start, .int .i64 x.want.dies, .int .i64 x.want.grace, .int .i64 x.state, .int .i64 x.left, .int .i64 x.falls, .int .i64 x.until_]) : w.rangeAt b 0 [.string x.want.copy, .int .i64 x.want.version, .string x.want.hold, .int .i64 x.want.pull, .int .i64 x.want.start, .int .i64 x.want.dies, .int .i64 x.want.grace] := fun j v hj => by
  have hl : j < 7 := lt_of_some hj
  rcases (by omega : j = 0 ∨ j = 1 ∨ j = 2 ∨ j = 3 ∨ j = 4 ∨ j = 5 ∨ j = 6) with rfl | rfl | rfl | rfl | rfl | rfl | rfl <;> (cases hj; exact h _ _ rfl)

set_option maxHeartbeats 2000000 in
set_option maxRecDepth 100000 in
theorem nwRn_any (x : Rn) (w : World) (z0 : x.want.copy.size ≤ 1048576) (z2 : x.want.hold.size ≤ 1048576) :
    Calls Tryz.prog 86 #[.agg #[.string x.want.copy, .int .i64 x.want.version, .string x.want.hold, .int .i64 x.want.pull, .int .i64 x.want.start, .int .i64 x.want.dies, .int .i64 x.want.grace, .int .i64 x.state, .int .i64 x.left, .int .i64 x.falls, .int .i64 x.until_]] w fun e w' => e = .returned (.agg #[.string x.want.copy, .int .i64 x.want.version, .string x.want.hold, .int .i64 x.want.pull, .int .i64 x.want.start, .int .i64 x.want.dies, .int .i64 x.want.grace, .int .i64 x.state, .int .i64 x.left, .int .i64 x.falls, .int .i64 x.until_]) ∧ Below w.heap.size w w' := by
  have HX0 : Blk w.heap.size #[.string x.want.copy, .int .i64 x.want.version, .string x.want.hold, .int .i64 x.want.pull, .int .i64 x.want.start, .int .i64 x.want.dies, .int .i64 x.want.grace, .int .i64 x.state, .int .i64 x.left, .int .i64 x.falls, .int .i64 x.until_] 81 (w.alloc (.cells #[.string x.want.copy, .int .i64 x.want.version, .string x.want.hold, .int .i64 x.want.pull, .int .i64 x.want.start, .int .i64 x.want.dies, .int .i64 x.want.grace, .int .i64 x.state, .int .i64 x.left, .int .i64 x.falls, .int .i64 x.until_] 81)) := Blk.alloc _ _ _
  have HZ : Hid (Blk (w.heap.size + 1) #[.string ⟨#[]⟩, .int .i64 0, .string ⟨#[]⟩, .int .i64 0, .int .i64 0, .int .i64 0, .int .i64 0, .int .i64 0, .int .i64 0, .int .i64 0, .int .i64 0] 81 ((w.alloc (.cells #[.string x.want.copy, .int .i64 x.want.version, .string x.want.hold, .int .i64 x.want.pull, .int .i64 x.want.start, .int .i64 x.want.dies, .int .i64 x.want.grace, .int .i64 x.state, .int .i64 x.left, .int .i64 x.falls, .int .i64 x.until_] 81)).alloc (.cells #[.string ⟨#[]⟩, .int .i64 0, .string ⟨#[]⟩, .int .i64 0, .int .i64 0, .int .i64 0, .int .i64 0, .int .i64 0, .int .i64 0, .int .i64 0, .int .i64 0] 81))) := by
    have := Blk.alloc (w.alloc (.cells #[.string x.want.copy, .int .i64 x.want.version, .string x.want.hold, .int .i64 x.want.pull, .int .i64 x.want.start, .int .i64 x.want.dies, .int .i64 x.want.grace, .int .i64 x.state, .int .i64 x.left, .int .i64 x.falls, .int .i64 x.until_] 81)) #[.string ⟨#[]⟩, .int .i64 0, .string ⟨#[]⟩, .int .i64 0, .int .i64 0, .int .i64 0, .int .i64 0, .int .i64 0, .int .i64 0, .int .i64 0, .int .i64 0] 81
    show Blk _ _ _ _
    simpa using this
  have hB3 : Below w.heap.size w ((w.alloc (.cells #[.string x.want.copy, .int .i64 x.want.version, .string x.want.hold, .int .i64 x.want.pull, .int .i64 x.want.start, .int .i64 x.want.dies, .int .i64 x.want.grace, .int .i64 x.state, .int .i64 x.left, .int .i64 x.falls, .int .i64 x.until_] 81)).alloc (.cells #[.string ⟨#[]⟩, .int .i64 0, .string ⟨#[]⟩, .int .i64 0, .int .i64 0, .int .i64 0, .int .i64 0, .int .i64 0, .int .i64 0, .int .i64 0, .int .i64 0] 81)) := by go_grown
  have HX : Hid (Blk w.heap.size #[.string x.want.copy, .int .i64 x.want.version, .string x.want.hold, .int .i64 x.want.pull, .int .i64 x.want.start, .int .i64 x.want.dies, .int .i64 x.want.grace, .int .i64 x.state, .int .i64 x.left, .int .i64 x.falls, .int .i64 x.until_] 81 ((w.alloc (.cells #[.string x.want.copy, .int .i64 x.want.version, .string x.want.hold, .int .i64 x.want.pull, .int .i64 x.want.start, .int .i64 x.want.dies, .int .i64 x.want.grace, .int .i64 x.state, .int .i64 x.left, .int .i64 x.falls, .int .i64 x.until_] 81)).alloc (.cells #[.string ⟨#[]⟩, .int .i64 0, .string ⟨#[]⟩, .int .i64 0, .int .i64 0, .int .i64 0, .int .i64 0, .int .i64 0, .int .i64 0, .int .i64 0, .int .i64 0] 81))) := HX0.below ((Below.refl _ _).alloc (Nat.le_refl _) _) HX0.lt
  clear HX0
  go_enter Tryz.func86, Tryz.ntmps86
  go_upto_region 1 with fail
  generalize (w.alloc (Obj.cells #[.string x.want.copy, .int .i64 x.want.version, .string x.want.hold, .int .i64 x.want.pull, .int .i64 x.want.start, .int .i64 x.want.dies, .int .i64 x.want.grace, .int .i64 x.state, .int .i64 x.left, .int .i64 x.falls, .int .i64 x.until_] 81)).alloc (Obj.cells #[.string ⟨#[]⟩, .int .i64 0, .string ⟨#[]⟩, .int .i64 0, .int .i64 0, .int .i64 0, .int .i64 0, .int .i64 0, .int .i64 0, .int .i64 0, .int .i64 0] 81) = w3 at *
  go_wp2_with (refine wpList_load_mid rfl 79 _ rfl w.heap.size 0 rfl [.string x.want.copy, .int .i64 x.want.version, .string x.want.hold, .int .i64 x.want.pull, .int .i64 x.want.start, .int .i64 x.want.dies, .int .i64 x.want.grace] _ (rg7 HX.out.rangeA) Tryz.underlying79 rfl isz_Wnt ?_)
  refine (nwWnt_any x.want _ z0 z2).mono ?_
  rintro e w4 ⟨rfl, hb4⟩
  have HX4 := Hid.intro (HX.out.below hb4 HX.out.lt)
  have HZ4 := Hid.intro (HZ.out.below hb4 HZ.out.lt)
  have hB4 := hB3.trans (hb4.mono hB3.size)
  have HT4 : Hid (w4.there w.heap.size 0 7) := fun j hj => HX4.out.there j (show j < 11 by omega)
  obtain ⟨w5, HW5⟩ : ∃ w5, Hid (w5 = w4.setCells w.heap.size 0 [.string x.want.copy, .int .i64 x.want.version, .string x.want.hold, .int .i64 x.want.pull, .int .i64 x.want.start, .int .i64 x.want.dies, .int .i64 x.want.grace]) := ⟨_, rfl⟩
  have HX5 : Hid (Blk w.heap.size #[.string x.want.copy, .int .i64 x.want.version, .string x.want.hold, .int .i64 x.want.pull, .int .i64 x.want.start, .int .i64 x.want.dies, .int .i64 x.want.grace, .int .i64 x.state, .int .i64 x.left, .int .i64 x.falls, .int .i64 x.until_] 81 w5) := by
    show Blk _ _ _ _
    rw [HW5.out]
    have h := Blk.setRow [.string x.want.copy, .int .i64 x.want.version, .string x.want.hold, .int .i64 x.want.pull, .int .i64 x.want.start, .int .i64 x.want.dies, .int .i64 x.want.grace] 0 _ _ HX4.out
    exact h
  have HZ5 : Hid (Blk (w.heap.size + 1) #[.string ⟨#[]⟩, .int .i64 0, .string ⟨#[]⟩, .int .i64 0, .int .i64 0, .int .i64 0, .int .i64 0, .int .i64 0, .int .i64 0, .int .i64 0, .int .i64 0] 81 w5) := by
    show Blk _ _ _ _
    rw [HW5.out]
    exact blk_setCells_other (by omega) _ _ _ HZ4.out
  have hB5 : Below w.heap.size w w5 := by
    rw [HW5.out]
    exact below_setCells (Nat.le_refl _) _ _ _ hB4
  have HTS := Hid.intro HZ5.out.there
  obtain ⟨w8, HW8⟩ : ∃ w8, Hid (w8 = w5.setCells (w.heap.size + 1) 0 [.string x.want.copy, .int .i64 x.want.version, .string x.want.hold, .int .i64 x.want.pull, .int .i64 x.want.start, .int .i64 x.want.dies, .int .i64 x.want.grace, .int .i64 x.state, .int .i64 x.left, .int .i64 x.falls, .int .i64 x.until_]) := ⟨_, rfl⟩
  have HR8 : Hid (w8.rangeAt (w.heap.size + 1) 0 [.string x.want.copy, .int .i64 x.want.version, .string x.want.hold, .int .i64 x.want.pull, .int .i64 x.want.start, .int .i64 x.want.dies, .int .i64 x.want.grace, .int .i64 x.state, .int .i64 x.left, .int .i64 x.falls, .int .i64 x.until_]) := by
    show World.rangeAt _ _ _ _
    rw [HW8.out]
    exact World.rangeAt_setCells_same _ _ _ _ HTS.out
  have hB8 : Below w.heap.size w w8 := by
    rw [HW8.out]
    exact below_setCells (by omega) _ _ _ hB5
  clear hb4 hB3 hB4 hB5 HX HZ HX4 HZ4 HZ5
  go_wp2_with (first | (refine wpList_store_to rfl 79 _ _ rfl w.heap.size 0 #[.string x.want.copy, .int .i64 x.want.version, .string x.want.hold, .int .i64 x.want.pull, .int .i64 x.want.start, .int .i64 x.want.dies, .int .i64 x.want.grace] rfl rfl HT4.out isz_Wnt (by simp [Value.oneCell']) w5 HW5.out ?_) | (refine wpList_load_mid rfl 81 _ rfl w.heap.size 0 rfl [.string x.want.copy, .int .i64 x.want.version, .string x.want.hold, .int .i64 x.want.pull, .int .i64 x.want.start, .int .i64 x.want.dies, .int .i64 x.want.grace, .int .i64 x.state, .int .i64 x.left, .int .i64 x.falls, .int .i64 x.until_] _ HX5.out.rangeA Tryz.underlying81 rfl isz_Rn ?_) | (refine wpList_store_to rfl 81 _ _ rfl (w.heap.size + 1) 0 #[.string x.want.copy, .int .i64 x.want.version, .string x.want.hold, .int .i64 x.want.pull, .int .i64 x.want.start, .int .i64 x.want.dies, .int .i64 x.want.grace, .int .i64 x.state, .int .i64 x.left, .int .i64 x.falls, .int .i64 x.until_] rfl rfl HTS.out isz_Rn (by simp [Value.oneCell']) w8 HW8.out ?_))
  exact bodyPost_ret (results_cell_mid rfl _ _ (w.heap.size + 1) [.string x.want.copy, .int .i64 x.want.version, .string x.want.hold, .int .i64 x.want.pull, .int .i64 x.want.start, .int .i64 x.want.dies, .int .i64 x.want.grace, .int .i64 x.state, .int .i64 x.left, .int .i64 x.falls, .int .i64 x.until_] _ rfl HR8.out Tryz.underlying81 rfl isz_Rn) rfl ⟨rfl, hB8⟩

end Go.Proofs.YtebcocejgenadaaGreat
