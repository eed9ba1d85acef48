/-
  A new mate: a name and nothing else. Made by mknm.py.
-/
import Derived.Test.YtebcocejgenadaaGreatRwWnt
import Derived.Test.YtebcocejgenadaaGreatRwRn
import Derived.Test.YtebcocejgenadaaGreatRwAks
import Derived.Test.YtebcocejgenadaaGreatMtS
namespace Go.Proofs.YtebcocejgenadaaGreat
open Go.RowKit

structure Nm where
  name : ByteArray

def NmC : Make Nm := fun _ _ f x => f 0 = some (.string x.name) ∧ f 1 = some (.bool true) ∧ f 2 = some (.int .i64 0) ∧ f 3 = some (.bool false) ∧ f 4 = some (.int .i64 0) ∧ f 5 = some (.slice none 0 0) ∧ f 6 = some (.slice none 0 0) ∧ f 7 = some (.slice none 0 0) ∧ f 8 = some (.slice none 0 0) ∧ x.name.size ≤ maxLen ∧ x.name.size ≤ maxLen

theorem NmC.holds : Holds NmC 9 := by
  rintro lo lo' w w' f g x h _ _ ⟨q0, q1, q2, q3, q4, q5, q6, q7, q8, z0, z1⟩
  exact ⟨(h 0 (by omega)).trans q0, (h 1 (by omega)).trans q1, (h 2 (by omega)).trans q2, (h 3 (by omega)).trans q3, (h 4 (by omega)).trans q4, (h 5 (by omega)).trans q5, (h 6 (by omega)).trans q6, (h 7 (by omega)).trans q7, (h 8 (by omega)).trans q8, z0, z1⟩

theorem isz_Nm : (Tryz.prog.info? 41).map (·.size) = some 9 := isz_Mte
theorem info_Nm : (Tryz.prog.info? 41).map (fun i => (i.zero, i.size, i.bytes)) = some (some (.agg #[.string ⟨#[]⟩, .bool false, .int .i64 0, .bool false, .int .i64 0, .slice none 0 0, .slice none 0 0, .slice none 0 0, .slice none 0 0]), 9, 144) := info_Mte

set_option maxHeartbeats 4000000 in
set_option maxRecDepth 100000 in
theorem nwNm_any (x : Nm) (w : World) (z0 : x.name.size ≤ 1048576) (_z2 : x.name.size ≤ 1048576) :
    Calls Tryz.prog 67 #[.agg #[.string x.name, .bool true, .int .i64 0, .bool false, .int .i64 0, .slice none 0 0, .slice none 0 0, .slice none 0 0, .slice none 0 0]] w fun e w' => e = .returned (.agg #[.string x.name, .bool true, .int .i64 0, .bool false, .int .i64 0, .slice none 0 0, .slice none 0 0, .slice none 0 0, .slice none 0 0]) ∧ Below w.heap.size w w' := by
  have HKa : Blk w.heap.size #[.string x.name, .bool true, .int .i64 0, .bool false, .int .i64 0, .slice none 0 0, .slice none 0 0, .slice none 0 0, .slice none 0 0] 41 (w.alloc (.cells #[.string x.name, .bool true, .int .i64 0, .bool false, .int .i64 0, .slice none 0 0, .slice none 0 0, .slice none 0 0, .slice none 0 0] 41)) := Blk.alloc _ _ _
  have HZ2 : Hid (Blk (w.heap.size + 1) #[.string ⟨#[]⟩, .bool false, .int .i64 0, .bool false, .int .i64 0, .slice none 0 0, .slice none 0 0, .slice none 0 0, .slice none 0 0] 41 ((w.alloc (.cells #[.string x.name, .bool true, .int .i64 0, .bool false, .int .i64 0, .slice none 0 0, .slice none 0 0, .slice none 0 0, .slice none 0 0] 41)).alloc (.cells #[.string ⟨#[]⟩, .bool false, .int .i64 0, .bool false, .int .i64 0, .slice none 0 0, .slice none 0 0, .slice none 0 0, .slice none 0 0] 41))) := Hid.intro (by
    have := Blk.alloc (w.alloc (.cells #[.string x.name, .bool true, .int .i64 0, .bool false, .int .i64 0, .slice none 0 0, .slice none 0 0, .slice none 0 0, .slice none 0 0] 41)) #[.string ⟨#[]⟩, .bool false, .int .i64 0, .bool false, .int .i64 0, .slice none 0 0, .slice none 0 0, .slice none 0 0, .slice none 0 0] 41
    simpa using this)
  have HK2 : Hid (Blk w.heap.size #[.string x.name, .bool true, .int .i64 0, .bool false, .int .i64 0, .slice none 0 0, .slice none 0 0, .slice none 0 0, .slice none 0 0] 41 ((w.alloc (.cells #[.string x.name, .bool true, .int .i64 0, .bool false, .int .i64 0, .slice none 0 0, .slice none 0 0, .slice none 0 0, .slice none 0 0] 41)).alloc (.cells #[.string ⟨#[]⟩, .bool false, .int .i64 0, .bool false, .int .i64 0, .slice none 0 0, .slice none 0 0, .slice none 0 0, .slice none 0 0] 41))) := HKa.below ((Below.refl _ _).alloc (Nat.le_refl _) _) HKa.lt
  have hB2 : Below w.heap.size w ((w.alloc (.cells #[.string x.name, .bool true, .int .i64 0, .bool false, .int .i64 0, .slice none 0 0, .slice none 0 0, .slice none 0 0, .slice none 0 0] 41)).alloc (.cells #[.string ⟨#[]⟩, .bool false, .int .i64 0, .bool false, .int .i64 0, .slice none 0 0, .slice none 0 0, .slice none 0 0, .slice none 0 0] 41)) := by go_grown
  clear HKa
  go_enter Tryz.func67, Tryz.ntmps67
  go_upto_region 1 with fail
  generalize (w.alloc (Obj.cells #[.string x.name, .bool true, .int .i64 0, .bool false, .int .i64 0, .slice none 0 0, .slice none 0 0, .slice none 0 0, .slice none 0 0] 41)).alloc (Obj.cells #[.string ⟨#[]⟩, .bool false, .int .i64 0, .bool false, .int .i64 0, .slice none 0 0, .slice none 0 0, .slice none 0 0, .slice none 0 0] 41) = w2 at *
  have kc : w2.cell? ⟨w.heap.size, 0, none⟩ = some (.string x.name) := HK2.out.cell rfl
  go_wp2_with fail
  clear kc
  refine (cl3_any x.name _ z0).mono ?_
  rintro e w3 ⟨rfl, hb⟩
  have HK3 := Hid.intro (HK2.out.below hb HK2.out.lt)
  have HZ3 := Hid.intro (HZ2.out.below hb HZ2.out.lt)
  have hB3 := hB2.trans (hb.mono hB2.size)
  clear hb HK2 HZ2 hB2
  have kx : w3.cell? ⟨w.heap.size, 0, none⟩ = some (.string x.name) := HK3.out.cell rfl
  have fx : w3.frozen? ⟨w.heap.size, 0, none⟩ = false := HK3.out.frozen _
  have HK4 : Hid (Blk w.heap.size #[.string x.name, .bool true, .int .i64 0, .bool false, .int .i64 0, .slice none 0 0, .slice none 0 0, .slice none 0 0, .slice none 0 0] 41 (w3.setCell ⟨w.heap.size, 0, none⟩ (.string x.name))) := HK3.out.set 0 _
  have HZ4 : Hid (Blk (w.heap.size + 1) #[.string ⟨#[]⟩, .bool false, .int .i64 0, .bool false, .int .i64 0, .slice none 0 0, .slice none 0 0, .slice none 0 0, .slice none 0 0] 41 (w3.setCell ⟨w.heap.size, 0, none⟩ (.string x.name))) := HZ3.out.other (a := ⟨w.heap.size, 0, none⟩) (show w.heap.size + 1 ≠ w.heap.size by omega) _
  have hB4 : Below w.heap.size w (w3.setCell ⟨w.heap.size, 0, none⟩ (.string x.name)) := hB3.setCell (p := ⟨w.heap.size, 0, none⟩) (Nat.le_refl _) _
  clear HK3 HZ3 hB3
  go_upto_region 2 with fail
  clear kx fx
  generalize (w3.setCell ⟨w.heap.size, 0, none⟩ (.string x.name)) = w4 at *
  have kc : w4.cell? ⟨w.heap.size, 5, none⟩ = some (.slice none 0 0) := HK4.out.cell rfl
  go_wp2_with fail
  clear kc
  refine (eanWnt_any _ 0 _).mono ?_
  rintro e w5 ⟨rfl, hb⟩
  have HK5 := Hid.intro (HK4.out.below hb HK4.out.lt)
  have HZ5 := Hid.intro (HZ4.out.below hb HZ4.out.lt)
  have hB5 := hB4.trans (hb.mono hB4.size)
  clear hb HK4 HZ4 hB4
  have kx : w5.cell? ⟨w.heap.size, 5, none⟩ = some (.slice none 0 0) := HK5.out.cell rfl
  have fx : w5.frozen? ⟨w.heap.size, 5, none⟩ = false := HK5.out.frozen _
  have HK6 : Hid (Blk w.heap.size #[.string x.name, .bool true, .int .i64 0, .bool false, .int .i64 0, .slice none 0 0, .slice none 0 0, .slice none 0 0, .slice none 0 0] 41 (w5.setCell ⟨w.heap.size, 5, none⟩ (.slice none 0 0))) := HK5.out.set 5 _
  have HZ6 : Hid (Blk (w.heap.size + 1) #[.string ⟨#[]⟩, .bool false, .int .i64 0, .bool false, .int .i64 0, .slice none 0 0, .slice none 0 0, .slice none 0 0, .slice none 0 0] 41 (w5.setCell ⟨w.heap.size, 5, none⟩ (.slice none 0 0))) := HZ5.out.other (a := ⟨w.heap.size, 5, none⟩) (show w.heap.size + 1 ≠ w.heap.size by omega) _
  have hB6 : Below w.heap.size w (w5.setCell ⟨w.heap.size, 5, none⟩ (.slice none 0 0)) := hB5.setCell (p := ⟨w.heap.size, 5, none⟩) (Nat.le_refl _) _
  clear HK5 HZ5 hB5
  go_upto_region 3 with fail
  clear kx fx
  generalize (w5.setCell ⟨w.heap.size, 5, none⟩ (.slice none 0 0)) = w6 at *
  have kc : w6.cell? ⟨w.heap.size, 6, none⟩ = some (.slice none 0 0) := HK6.out.cell rfl
  go_wp2_with fail
  clear kc
  refine (eanRn_any _ 0 _).mono ?_
  rintro e w7 ⟨rfl, hb⟩
  have HK7 := Hid.intro (HK6.out.below hb HK6.out.lt)
  have HZ7 := Hid.intro (HZ6.out.below hb HZ6.out.lt)
  have hB7 := hB6.trans (hb.mono hB6.size)
  clear hb HK6 HZ6 hB6
  have kx : w7.cell? ⟨w.heap.size, 6, none⟩ = some (.slice none 0 0) := HK7.out.cell rfl
  have fx : w7.frozen? ⟨w.heap.size, 6, none⟩ = false := HK7.out.frozen _
  have HK8 : Hid (Blk w.heap.size #[.string x.name, .bool true, .int .i64 0, .bool false, .int .i64 0, .slice none 0 0, .slice none 0 0, .slice none 0 0, .slice none 0 0] 41 (w7.setCell ⟨w.heap.size, 6, none⟩ (.slice none 0 0))) := HK7.out.set 6 _
  have HZ8 : Hid (Blk (w.heap.size + 1) #[.string ⟨#[]⟩, .bool false, .int .i64 0, .bool false, .int .i64 0, .slice none 0 0, .slice none 0 0, .slice none 0 0, .slice none 0 0] 41 (w7.setCell ⟨w.heap.size, 6, none⟩ (.slice none 0 0))) := HZ7.out.other (a := ⟨w.heap.size, 6, none⟩) (show w.heap.size + 1 ≠ w.heap.size by omega) _
  have hB8 : Below w.heap.size w (w7.setCell ⟨w.heap.size, 6, none⟩ (.slice none 0 0)) := hB7.setCell (p := ⟨w.heap.size, 6, none⟩) (Nat.le_refl _) _
  clear HK7 HZ7 hB7
  go_upto_region 4 with fail
  clear kx fx
  generalize (w7.setCell ⟨w.heap.size, 6, none⟩ (.slice none 0 0)) = w8 at *
  have kc : w8.cell? ⟨w.heap.size, 7, none⟩ = some (.slice none 0 0) := HK8.out.cell rfl
  go_wp2_with fail
  clear kc
  refine (eanAks_any _ 0 _).mono ?_
  rintro e w9 ⟨rfl, hb⟩
  have HK9 := Hid.intro (HK8.out.below hb HK8.out.lt)
  have HZ9 := Hid.intro (HZ8.out.below hb HZ8.out.lt)
  have hB9 := hB8.trans (hb.mono hB8.size)
  clear hb HK8 HZ8 hB8
  have kx : w9.cell? ⟨w.heap.size, 7, none⟩ = some (.slice none 0 0) := HK9.out.cell rfl
  have fx : w9.frozen? ⟨w.heap.size, 7, none⟩ = false := HK9.out.frozen _
  have HK10 : Hid (Blk w.heap.size #[.string x.name, .bool true, .int .i64 0, .bool false, .int .i64 0, .slice none 0 0, .slice none 0 0, .slice none 0 0, .slice none 0 0] 41 (w9.setCell ⟨w.heap.size, 7, none⟩ (.slice none 0 0))) := HK9.out.set 7 _
  have HZ10 : Hid (Blk (w.heap.size + 1) #[.string ⟨#[]⟩, .bool false, .int .i64 0, .bool false, .int .i64 0, .slice none 0 0, .slice none 0 0, .slice none 0 0, .slice none 0 0] 41 (w9.setCell ⟨w.heap.size, 7, none⟩ (.slice none 0 0))) := HZ9.out.other (a := ⟨w.heap.size, 7, none⟩) (show w.heap.size + 1 ≠ w.heap.size by omega) _
  have hB10 : Below w.heap.size w (w9.setCell ⟨w.heap.size, 7, none⟩ (.slice none 0 0)) := hB9.setCell (p := ⟨w.heap.size, 7, none⟩) (Nat.le_refl _) _
  clear HK9 HZ9 hB9
  go_upto_region 5 with fail
  clear kx fx
  generalize (w9.setCell ⟨w.heap.size, 7, none⟩ (.slice none 0 0)) = w10 at *
  have kc : w10.cell? ⟨w.heap.size, 8, none⟩ = some (.slice none 0 0) := HK10.out.cell rfl
  go_wp2_with fail
  clear kc
  refine (eanAks_any _ 0 _).mono ?_
  rintro e w11 ⟨rfl, hb⟩
  have HK11 := Hid.intro (HK10.out.below hb HK10.out.lt)
  have HZ11 := Hid.intro (HZ10.out.below hb HZ10.out.lt)
  have hB11 := hB10.trans (hb.mono hB10.size)
  clear hb HK10 HZ10 hB10
  have kx : w11.cell? ⟨w.heap.size, 8, none⟩ = some (.slice none 0 0) := HK11.out.cell rfl
  have fx : w11.frozen? ⟨w.heap.size, 8, none⟩ = false := HK11.out.frozen _
  have HK12 : Hid (Blk w.heap.size #[.string x.name, .bool true, .int .i64 0, .bool false, .int .i64 0, .slice none 0 0, .slice none 0 0, .slice none 0 0, .slice none 0 0] 41 (w11.setCell ⟨w.heap.size, 8, none⟩ (.slice none 0 0))) := HK11.out.set 8 _
  have HZ12 : Hid (Blk (w.heap.size + 1) #[.string ⟨#[]⟩, .bool false, .int .i64 0, .bool false, .int .i64 0, .slice none 0 0, .slice none 0 0, .slice none 0 0, .slice none 0 0] 41 (w11.setCell ⟨w.heap.size, 8, none⟩ (.slice none 0 0))) := HZ11.out.other (a := ⟨w.heap.size, 8, none⟩) (show w.heap.size + 1 ≠ w.heap.size by omega) _
  have hB12 : Below w.heap.size w (w11.setCell ⟨w.heap.size, 8, none⟩ (.slice none 0 0)) := hB11.setCell (p := ⟨w.heap.size, 8, none⟩) (Nat.le_refl _) _
  clear HK11 HZ11 hB11
  go_upto_region 6 with fail
  clear kx fx
  generalize (w11.setCell ⟨w.heap.size, 8, none⟩ (.slice none 0 0)) = w12 at *
  have HTR := Hid.intro HZ12.out.there
  obtain ⟨w20, HW20⟩ : ∃ w', Hid (w' = w12.setCells (w.heap.size + 1) 0 [.string x.name, .bool true, .int .i64 0, .bool false, .int .i64 0, .slice none 0 0, .slice none 0 0, .slice none 0 0, .slice none 0 0]) := ⟨_, rfl⟩
  have HR20 : Hid (w20.rangeAt (w.heap.size + 1) 0 [.string x.name, .bool true, .int .i64 0, .bool false, .int .i64 0, .slice none 0 0, .slice none 0 0, .slice none 0 0, .slice none 0 0]) := by
    show World.rangeAt _ _ _ _
    rw [HW20.out]
    exact World.rangeAt_setCells_same _ _ _ _ HTR.out
  have hB20 : Below w.heap.size w w20 := by
    rw [HW20.out]
    exact below_setCells (by omega) _ _ _ hB12
  clear hB12 HZ12
  go_wp2_with (first | (refine wpList_load_mid rfl 41 _ rfl w.heap.size 0 rfl [.string x.name, .bool true, .int .i64 0, .bool false, .int .i64 0, .slice none 0 0, .slice none 0 0, .slice none 0 0, .slice none 0 0] _ HK12.out.rangeA Tryz.underlying41 rfl isz_Nm ?_) | (refine wpList_store_to rfl 41 _ _ rfl (w.heap.size + 1) 0 #[.string x.name, .bool true, .int .i64 0, .bool false, .int .i64 0, .slice none 0 0, .slice none 0 0, .slice none 0 0, .slice none 0 0] rfl rfl HTR.out isz_Nm (by simp [Value.oneCell']) w20 HW20.out ?_))
  exact bodyPost_ret (results_cell_mid rfl _ _ (w.heap.size + 1) [.string x.name, .bool true, .int .i64 0, .bool false, .int .i64 0, .slice none 0 0, .slice none 0 0, .slice none 0 0, .slice none 0 0] _ rfl HR20.out Tryz.underlying41 rfl isz_Nm) rfl ⟨rfl, hB20⟩

end Go.Proofs.YtebcocejgenadaaGreat
