/-
  A new world told, by the program. Made by mknwi.py.
-/
import Derived.Test.YtebcocejgenadaaGreatNwp
import Derived.Test.YtebcocejgenadaaGreatNws
import Derived.Test.YtebcocejgenadaaGreatNil
import Derived.Test.YtebcocejgenadaaGreatWo2
namespace Go.Proofs.YtebcocejgenadaaGreat
open Go.RowKit

set_option maxHeartbeats 4000000 in
set_option maxRecDepth 100000 in
theorem newLand0_any (w : World) :
    Calls Tryz.prog 65 #[.agg #[.int .i64 0, .slice none 0 0, .slice none 0 0]] w fun e w' => e = .returned (.agg #[.int .i64 0, .slice none 0 0, .slice none 0 0]) ∧ Below w.heap.size w w' := by
  have HKa : Blk w.heap.size #[.int .i64 0, .slice none 0 0, .slice none 0 0] 27 (w.alloc (.cells #[.int .i64 0, .slice none 0 0, .slice none 0 0] 27)) := Blk.alloc _ _ _
  have HZ2 : Hid (Blk (w.heap.size + 1) #[.int .i64 0, .slice none 0 0, .slice none 0 0] 27 ((w.alloc (.cells #[.int .i64 0, .slice none 0 0, .slice none 0 0] 27)).alloc (.cells #[.int .i64 0, .slice none 0 0, .slice none 0 0] 27))) := Hid.intro (by
    have := Blk.alloc (w.alloc (.cells #[.int .i64 0, .slice none 0 0, .slice none 0 0] 27)) #[.int .i64 0, .slice none 0 0, .slice none 0 0] 27
    simpa using this)
  have HK2 : Hid (Blk w.heap.size #[.int .i64 0, .slice none 0 0, .slice none 0 0] 27 ((w.alloc (.cells #[.int .i64 0, .slice none 0 0, .slice none 0 0] 27)).alloc (.cells #[.int .i64 0, .slice none 0 0, .slice none 0 0] 27))) := HKa.below ((Below.refl _ _).alloc (Nat.le_refl _) _) HKa.lt
  have hB2 : Below w.heap.size w ((w.alloc (.cells #[.int .i64 0, .slice none 0 0, .slice none 0 0] 27)).alloc (.cells #[.int .i64 0, .slice none 0 0, .slice none 0 0] 27)) := by go_grown
  clear HKa
  go_enter Tryz.func65, Tryz.ntmps65
  go_upto_region 1 with fail
  generalize (w.alloc (Obj.cells #[.int .i64 0, .slice none 0 0, .slice none 0 0] 27)).alloc (Obj.cells #[.int .i64 0, .slice none 0 0, .slice none 0 0] 27) = w2 at *
  have kc : w2.cell? ⟨w.heap.size, 1, none⟩ = some (.slice none 0 0) := HK2.out.cell rfl
  go_wp2_with fail
  clear kc
  refine (eanGrt_any _ 0 _).mono ?_
  rintro e w3 ⟨rfl, hb⟩
  have HK3 := Hid.intro (HK2.out.below hb HK2.out.lt)
  have HZ3 := Hid.intro (HZ2.out.below hb HZ2.out.lt)
  have hB3 := hB2.trans (hb.mono hB2.size)
  clear hb HK2 HZ2 hB2
  have kx : w3.cell? ⟨w.heap.size, 1, none⟩ = some (.slice none 0 0) := HK3.out.cell rfl
  have fx : w3.frozen? ⟨w.heap.size, 1, none⟩ = false := HK3.out.frozen _
  have HK4 : Hid (Blk w.heap.size #[.int .i64 0, .slice none 0 0, .slice none 0 0] 27 (w3.setCell ⟨w.heap.size, 1, none⟩ (.slice none 0 0))) := HK3.out.set 1 _
  have HZ4 : Hid (Blk (w.heap.size + 1) #[.int .i64 0, .slice none 0 0, .slice none 0 0] 27 (w3.setCell ⟨w.heap.size, 1, none⟩ (.slice none 0 0))) := HZ3.out.other (a := ⟨w.heap.size, 1, none⟩) (show w.heap.size + 1 ≠ w.heap.size by omega) _
  have hB4 : Below w.heap.size w (w3.setCell ⟨w.heap.size, 1, none⟩ (.slice none 0 0)) := hB3.setCell (p := ⟨w.heap.size, 1, none⟩) (Nat.le_refl _) _
  clear HK3 HZ3 hB3
  go_upto_region 2 with fail
  clear kx fx
  generalize (w3.setCell ⟨w.heap.size, 1, none⟩ (.slice none 0 0)) = w4 at *
  have kc : w4.cell? ⟨w.heap.size, 2, none⟩ = some (.slice none 0 0) := HK4.out.cell rfl
  go_wp2_with fail
  clear kc
  refine (eanPlm_any _ 0 _).mono ?_
  rintro e w5 ⟨rfl, hb⟩
  have HK5 := Hid.intro (HK4.out.below hb HK4.out.lt)
  have HZ5 := Hid.intro (HZ4.out.below hb HZ4.out.lt)
  have hB5 := hB4.trans (hb.mono hB4.size)
  clear hb HK4 HZ4 hB4
  have kx : w5.cell? ⟨w.heap.size, 2, none⟩ = some (.slice none 0 0) := HK5.out.cell rfl
  have fx : w5.frozen? ⟨w.heap.size, 2, none⟩ = false := HK5.out.frozen _
  have HK6 : Hid (Blk w.heap.size #[.int .i64 0, .slice none 0 0, .slice none 0 0] 27 (w5.setCell ⟨w.heap.size, 2, none⟩ (.slice none 0 0))) := HK5.out.set 2 _
  have HZ6 : Hid (Blk (w.heap.size + 1) #[.int .i64 0, .slice none 0 0, .slice none 0 0] 27 (w5.setCell ⟨w.heap.size, 2, none⟩ (.slice none 0 0))) := HZ5.out.other (a := ⟨w.heap.size, 2, none⟩) (show w.heap.size + 1 ≠ w.heap.size by omega) _
  have hB6 : Below w.heap.size w (w5.setCell ⟨w.heap.size, 2, none⟩ (.slice none 0 0)) := hB5.setCell (p := ⟨w.heap.size, 2, none⟩) (Nat.le_refl _) _
  clear HK5 HZ5 hB5
  go_upto_region 3 with fail
  clear kx fx
  generalize (w5.setCell ⟨w.heap.size, 2, none⟩ (.slice none 0 0)) = w6 at *
  have HTR := Hid.intro HZ6.out.there
  obtain ⟨w20, HW20⟩ : ∃ w', Hid (w' = w6.setCells (w.heap.size + 1) 0 [.int .i64 0, .slice none 0 0, .slice none 0 0]) := ⟨_, rfl⟩
  have HR20 : Hid (w20.rangeAt (w.heap.size + 1) 0 [.int .i64 0, .slice none 0 0, .slice none 0 0]) := by
    show World.rangeAt _ _ _ _
    rw [HW20.out]
    exact World.rangeAt_setCells_same _ _ _ _ HTR.out
  have hB20 : Below w.heap.size w w20 := by
    rw [HW20.out]
    exact below_setCells (by omega) _ _ _ hB6
  clear hB6 HZ6
  go_wp2_with (first | (refine wpList_load_mid rfl 27 _ rfl w.heap.size 0 rfl [.int .i64 0, .slice none 0 0, .slice none 0 0] _ HK6.out.rangeA Tryz.underlying27 rfl isz_Lnd ?_) | (refine wpList_store_to rfl 27 _ _ rfl (w.heap.size + 1) 0 #[.int .i64 0, .slice none 0 0, .slice none 0 0] rfl rfl HTR.out isz_Lnd (by simp [Value.oneCell']) w20 HW20.out ?_))
  exact bodyPost_ret (results_cell_mid rfl _ _ (w.heap.size + 1) [.int .i64 0, .slice none 0 0, .slice none 0 0] _ rfl HR20.out Tryz.underlying27 rfl isz_Lnd) rfl ⟨rfl, hB20⟩

theorem rng3 {w : World} {b : Nat} {s t : Value} (h : w.rangeAt b 0 [.int .i64 0, .slice none 0 0, .slice none 0 0, s, t]) : w.rangeAt b 0 [.int .i64 0, .slice none 0 0, .slice none 0 0] := fun j v hj => by
  have hl : j < 3 := lt_of_some hj
  refine h j v ?_
  show ([.int .i64 0, .slice none 0 0, .slice none 0 0] ++ [s, t])[j]? = some v
  rw [List.getElem?_append_left (by simpa using hl)]
  exact hj

set_option maxHeartbeats 4000000 in
set_option maxRecDepth 100000 in
theorem ownWorld0_any (xs : List Nm) (g q base : Nat) (w : World) (hO : w.ownsRow base 41 9 (.slice (some ⟨g, 0, none⟩) xs.length q) xs.length (rvNm xs)) (hl : xs.length ≤ 4) (hz : SzNm xs 1048576) :
    Calls Tryz.prog 54 #[.agg #[.int .i64 0, .slice none 0 0, .slice none 0 0, .slice (some ⟨g, 0, none⟩) xs.length q, .slice none 0 0]] w fun e w' => ∃ g2 q2, e = .returned (.agg #[.int .i64 0, .slice none 0 0, .slice none 0 0, .slice (some ⟨g2, 0, none⟩) xs.length q2, .slice none 0 0]) ∧ w'.ownsRow w.heap.size 41 9 (.slice (some ⟨g2, 0, none⟩) xs.length q2) xs.length (rvNm xs) ∧ Below w.heap.size w w' := by
  have HZN := Hid.intro hz
  have HKa : Blk w.heap.size #[.int .i64 0, .slice none 0 0, .slice none 0 0, .slice (some ⟨g, 0, none⟩) xs.length q, .slice none 0 0] 30 (w.alloc (.cells #[.int .i64 0, .slice none 0 0, .slice none 0 0, .slice (some ⟨g, 0, none⟩) xs.length q, .slice none 0 0] 30)) := Blk.alloc _ _ _
  have HZ2 : Hid (Blk (w.heap.size + 1) #[.int .i64 0, .slice none 0 0, .slice none 0 0, .slice none 0 0, .slice none 0 0] 30 ((w.alloc (.cells #[.int .i64 0, .slice none 0 0, .slice none 0 0, .slice (some ⟨g, 0, none⟩) xs.length q, .slice none 0 0] 30)).alloc (.cells #[.int .i64 0, .slice none 0 0, .slice none 0 0, .slice none 0 0, .slice none 0 0] 30))) := Hid.intro (by
    have := Blk.alloc (w.alloc (.cells #[.int .i64 0, .slice none 0 0, .slice none 0 0, .slice (some ⟨g, 0, none⟩) xs.length q, .slice none 0 0] 30)) #[.int .i64 0, .slice none 0 0, .slice none 0 0, .slice none 0 0, .slice none 0 0] 30
    simpa using this)
  have HK2 : Hid (Blk w.heap.size #[.int .i64 0, .slice none 0 0, .slice none 0 0, .slice (some ⟨g, 0, none⟩) xs.length q, .slice none 0 0] 30 ((w.alloc (.cells #[.int .i64 0, .slice none 0 0, .slice none 0 0, .slice (some ⟨g, 0, none⟩) xs.length q, .slice none 0 0] 30)).alloc (.cells #[.int .i64 0, .slice none 0 0, .slice none 0 0, .slice none 0 0, .slice none 0 0] 30))) := HKa.below ((Below.refl _ _).alloc (Nat.le_refl _) _) HKa.lt
  have hB2 : Below w.heap.size w ((w.alloc (.cells #[.int .i64 0, .slice none 0 0, .slice none 0 0, .slice (some ⟨g, 0, none⟩) xs.length q, .slice none 0 0] 30)).alloc (.cells #[.int .i64 0, .slice none 0 0, .slice none 0 0, .slice none 0 0, .slice none 0 0] 30)) := by go_grown
  have HO0 := Hid.intro hO
  clear HKa hO hz
  go_enter Tryz.func54, Tryz.ntmps54
  go_upto_region 1 with fail
  generalize (w.alloc (Obj.cells #[.int .i64 0, .slice none 0 0, .slice none 0 0, .slice (some ⟨g, 0, none⟩) xs.length q, .slice none 0 0] 30)).alloc (Obj.cells #[.int .i64 0, .slice none 0 0, .slice none 0 0, .slice none 0 0, .slice none 0 0] 30) = w2 at *
  have HRL := Hid.intro (rng3 HK2.out.rangeA)
  go_wp2_with (refine wpList_load_mid rfl 27 _ rfl w.heap.size 0 rfl [.int .i64 0, .slice none 0 0, .slice none 0 0] _ HRL.out Tryz.underlying27 rfl isz_Lnd ?_)
  clear HRL
  refine (newLand0_any _).mono ?_
  rintro e w3 ⟨rfl, hb⟩
  have HK3 := Hid.intro (HK2.out.below hb HK2.out.lt)
  have HZ3 := Hid.intro (HZ2.out.below hb HZ2.out.lt)
  have hB3 := hB2.trans (hb.mono hB2.size)
  clear hb HK2 HZ2 hB2
  obtain ⟨w4, HW4⟩ : ∃ w', Hid (w' = w3.setCells w.heap.size 0 [.int .i64 0, .slice none 0 0, .slice none 0 0]) := ⟨_, rfl⟩
  have HT3 : Hid (w3.there w.heap.size 0 3) := fun j hj => HK3.out.there j (by show j < 5; omega)
  have HK4 : Hid (Blk w.heap.size #[.int .i64 0, .slice none 0 0, .slice none 0 0, .slice (some ⟨g, 0, none⟩) xs.length q, .slice none 0 0] 30 w4) := by
    have := Blk.setRow [.int .i64 0, .slice none 0 0, .slice none 0 0] 0 _ _ HK3.out
    simp only [setRow, List.setIfInBounds_toArray, List.set_cons_succ, List.set_cons_zero] at this
    show Blk _ _ _ _
    rw [HW4.out]
    exact this
  have HZ4 := blk_setCells_other (show w.heap.size + 1 ≠ w.heap.size by omega) [.int .i64 0, .slice none 0 0, .slice none 0 0] 0 w3 HZ3.out
  rw [← HW4.out] at HZ4
  replace HZ4 := Hid.intro HZ4
  have hB4 : Below w.heap.size w w4 := by rw [HW4.out]; exact below_setCells (Nat.le_refl _) _ _ _ hB3
  have HO4 := Hid.intro (ownsRow_below HO0.out hB4)
  clear HK3 HZ3 HO0 hB3
  go_upto_region 2 with (refine wpList_store_to rfl 27 _ _ rfl w.heap.size 0 #[.int .i64 0, .slice none 0 0, .slice none 0 0] rfl rfl HT3.out isz_Lnd (by simp [Value.oneCell']) w4 HW4.out ?_)
  clear HT3 HW4
  have kc : w4.cell? ⟨w.heap.size, 3, none⟩ = some (.slice (some ⟨g, 0, none⟩) xs.length q) := HK4.out.cell rfl
  go_wp2_with fail
  clear kc
  refine (eaNm_any xs g 0 q base _ (rowslNm HO4.out (by omega) HZN.out) (by omega) HZN.out).mono ?_
  rintro e w5 ⟨g2, q2, rfl, ho5, hb⟩
  have hw4 : w.heap.size + 1 < w4.heap.size := HZ4.out.lt
  have HO5 : Hid (w5.ownsRow (w.heap.size + 2) 41 9 (.slice (some ⟨g2, 0, none⟩) xs.length q2) xs.length (rvNm xs)) := ownsRow_base (by omega) ho5
  have HK5 := Hid.intro (HK4.out.below hb HK4.out.lt)
  have HZ5 := Hid.intro (HZ4.out.below hb HZ4.out.lt)
  have hB5 := hB4.trans (hb.mono hB4.size)
  clear hb HK4 HZ4 HO4 hB4 ho5 hw4
  have kx : w5.cell? ⟨w.heap.size, 3, none⟩ = some (.slice (some ⟨g, 0, none⟩) xs.length q) := HK5.out.cell rfl
  have fx := HK5.out.frozen 3
  have HK6 : Hid (Blk w.heap.size #[.int .i64 0, .slice none 0 0, .slice none 0 0, .slice (some ⟨g2, 0, none⟩) xs.length q2, .slice none 0 0] 30 (w5.setCell ⟨w.heap.size, 3, none⟩ (.slice (some ⟨g2, 0, none⟩) xs.length q2))) := HK5.out.set 3 _
  have HZ6 : Hid (Blk (w.heap.size + 1) #[.int .i64 0, .slice none 0 0, .slice none 0 0, .slice none 0 0, .slice none 0 0] 30 (w5.setCell ⟨w.heap.size, 3, none⟩ (.slice (some ⟨g2, 0, none⟩) xs.length q2))) := HZ5.out.other (a := ⟨w.heap.size, 3, none⟩) (show w.heap.size + 1 ≠ w.heap.size by omega) _
  have hB6 : Below w.heap.size w (w5.setCell ⟨w.heap.size, 3, none⟩ (.slice (some ⟨g2, 0, none⟩) xs.length q2)) := hB5.setCell (p := ⟨w.heap.size, 3, none⟩) (Nat.le_refl _) _
  have HO6 : Hid ((w5.setCells w.heap.size 3 [.slice (some ⟨g2, 0, none⟩) xs.length q2]).ownsRow (w.heap.size + 2) 41 9 (.slice (some ⟨g2, 0, none⟩) xs.length q2) xs.length (rvNm xs)) := ownsRow_other HO5.out (by omega) 3
  replace HO6 : Hid ((w5.setCell ⟨w.heap.size, 3, none⟩ (.slice (some ⟨g2, 0, none⟩) xs.length q2)).ownsRow (w.heap.size + 2) 41 9 (.slice (some ⟨g2, 0, none⟩) xs.length q2) xs.length (rvNm xs)) := HO6
  clear HK5 HZ5 HO5 hB5
  go_upto_region 3 with fail
  clear kx fx
  generalize (w5.setCell ⟨w.heap.size, 3, none⟩ (.slice (some ⟨g2, 0, none⟩) xs.length q2)) = w6 at *
  have kc : w6.cell? ⟨w.heap.size, 4, none⟩ = some (.slice none 0 0) := HK6.out.cell rfl
  go_wp2_with fail
  clear kc
  refine (eanStr_any _ 0 _).mono ?_
  rintro e w7 ⟨rfl, hb⟩
  have HK7 := Hid.intro (HK6.out.below hb HK6.out.lt)
  have HZ7 := Hid.intro (HZ6.out.below hb HZ6.out.lt)
  have HO7 := Hid.intro (ownsRow_below HO6.out hb)
  have hB7 := hB6.trans (hb.mono hB6.size)
  clear hb HK6 HZ6 HO6 hB6
  have kx : w7.cell? ⟨w.heap.size, 4, none⟩ = some (.slice none 0 0) := HK7.out.cell rfl
  have fx := HK7.out.frozen 4
  have HK8 : Hid (Blk w.heap.size #[.int .i64 0, .slice none 0 0, .slice none 0 0, .slice (some ⟨g2, 0, none⟩) xs.length q2, .slice none 0 0] 30 (w7.setCell ⟨w.heap.size, 4, none⟩ (.slice none 0 0))) := HK7.out.set 4 _
  have HZ8 : Hid (Blk (w.heap.size + 1) #[.int .i64 0, .slice none 0 0, .slice none 0 0, .slice none 0 0, .slice none 0 0] 30 (w7.setCell ⟨w.heap.size, 4, none⟩ (.slice none 0 0))) := HZ7.out.other (a := ⟨w.heap.size, 4, none⟩) (show w.heap.size + 1 ≠ w.heap.size by omega) _
  have hB8 : Below w.heap.size w (w7.setCell ⟨w.heap.size, 4, none⟩ (.slice none 0 0)) := hB7.setCell (p := ⟨w.heap.size, 4, none⟩) (Nat.le_refl _) _
  have HO8 : Hid ((w7.setCells w.heap.size 4 [.slice none 0 0]).ownsRow (w.heap.size + 2) 41 9 (.slice (some ⟨g2, 0, none⟩) xs.length q2) xs.length (rvNm xs)) := ownsRow_other HO7.out (by omega) 4
  replace HO8 : Hid ((w7.setCell ⟨w.heap.size, 4, none⟩ (.slice none 0 0)).ownsRow (w.heap.size + 2) 41 9 (.slice (some ⟨g2, 0, none⟩) xs.length q2) xs.length (rvNm xs)) := HO8
  clear HK7 HZ7 HO7 hB7
  go_upto_region 4 with fail
  clear kx fx
  generalize (w7.setCell ⟨w.heap.size, 4, none⟩ (.slice none 0 0)) = w8 at *
  have HTR := Hid.intro HZ8.out.there
  obtain ⟨w20, HW20⟩ : ∃ w', Hid (w' = w8.setCells (w.heap.size + 1) 0 [.int .i64 0, .slice none 0 0, .slice none 0 0, .slice (some ⟨g2, 0, none⟩) xs.length q2, .slice none 0 0]) := ⟨_, rfl⟩
  have HR20 : Hid (w20.rangeAt (w.heap.size + 1) 0 [.int .i64 0, .slice none 0 0, .slice none 0 0, .slice (some ⟨g2, 0, none⟩) xs.length q2, .slice none 0 0]) := by
    show World.rangeAt _ _ _ _
    rw [HW20.out]
    exact World.rangeAt_setCells_same _ _ _ _ HTR.out
  have hB20 : Below w.heap.size w w20 := by
    rw [HW20.out]
    exact below_setCells (by omega) _ _ _ hB8
  have HO20 : Hid (w20.ownsRow w.heap.size 41 9 (.slice (some ⟨g2, 0, none⟩) xs.length q2) xs.length (rvNm xs)) := by
    show World.ownsRow _ _ _ _ _ _ _
    rw [HW20.out]
    exact ownsRow_base (by omega) (ownsRow_other HO8.out (by omega) 0)
  clear hB8 HZ8 HO8
  go_wp2_with (first | (refine wpList_load_mid rfl 30 _ rfl w.heap.size 0 rfl [.int .i64 0, .slice none 0 0, .slice none 0 0, .slice (some ⟨g2, 0, none⟩) xs.length q2, .slice none 0 0] _ HK8.out.rangeA Tryz.underlying30 rfl isz_Wrl ?_) | (refine wpList_store_to rfl 30 _ _ rfl (w.heap.size + 1) 0 #[.int .i64 0, .slice none 0 0, .slice none 0 0, .slice (some ⟨g2, 0, none⟩) xs.length q2, .slice none 0 0] rfl rfl HTR.out isz_Wrl (by simp [Value.oneCell']) w20 HW20.out ?_))
  exact bodyPost_ret (results_cell_mid rfl _ _ (w.heap.size + 1) [.int .i64 0, .slice none 0 0, .slice none 0 0, .slice (some ⟨g2, 0, none⟩) xs.length q2, .slice none 0 0] _ rfl HR20.out Tryz.underlying30 rfl isz_Wrl) rfl ⟨g2, q2, rfl, HO20.out, hB20⟩

set_option maxHeartbeats 4000000 in
set_option maxRecDepth 100000 in
theorem told0_any (xs : List Nm) (p g q base : Nat) (w : World) (hH : Blk p #[.int .i64 0, .slice none 0 0, .slice none 0 0, .slice (some ⟨g, 0, none⟩) xs.length q, .slice none 0 0] 56 w) (hO : w.ownsRow base 41 9 (.slice (some ⟨g, 0, none⟩) xs.length q) xs.length (rvNm xs)) (hl : xs.length ≤ 4) (hz : SzNm xs 1048576) :
    Calls Tryz.prog 30 #[.pointer (some ⟨p, 0, none⟩)] w fun e w' => ∃ g2 q2, e = .returned (.agg #[.int .i64 0, .slice none 0 0, .slice none 0 0, .slice (some ⟨g2, 0, none⟩) xs.length q2, .slice none 0 0]) ∧ w'.ownsRow w.heap.size 41 9 (.slice (some ⟨g2, 0, none⟩) xs.length q2) xs.length (rvNm xs) ∧ Below w.heap.size w w' := by
  have HZN := Hid.intro hz
  have hb1 : Below w.heap.size w (w.alloc (.cells #[.int .i64 0, .slice none 0 0, .slice none 0 0, .slice none 0 0, .slice none 0 0] 30)) := (Below.refl _ w).alloc (Nat.le_refl _) _
  have HZ1 : Hid (Blk w.heap.size #[.int .i64 0, .slice none 0 0, .slice none 0 0, .slice none 0 0, .slice none 0 0] 30 (w.alloc (.cells #[.int .i64 0, .slice none 0 0, .slice none 0 0, .slice none 0 0, .slice none 0 0] 30))) := Blk.alloc _ _ _
  have HH1 : Hid (Blk p #[.int .i64 0, .slice none 0 0, .slice none 0 0, .slice (some ⟨g, 0, none⟩) xs.length q, .slice none 0 0] 56 (w.alloc (.cells #[.int .i64 0, .slice none 0 0, .slice none 0 0, .slice none 0 0, .slice none 0 0] 30))) := hH.below hb1 hH.lt
  have HO1 := Hid.intro (ownsRow_below hO hb1)
  clear hH hO hz
  go_enter Tryz.func30, Tryz.ntmps30
  go_upto_region 1 with fail
  generalize w.alloc (Obj.cells #[.int .i64 0, .slice none 0 0, .slice none 0 0, .slice none 0 0, .slice none 0 0] 30) = w1 at *
  go_wp2_with (refine wpList_load_mid rfl 30 _ rfl p 0 rfl [.int .i64 0, .slice none 0 0, .slice none 0 0, .slice (some ⟨g, 0, none⟩) xs.length q, .slice none 0 0] _ HH1.out.rangeA Tryz.underlying30 rfl isz_Wrl ?_)
  refine (ownWorld0_any xs g q base _ HO1.out hl HZN.out).mono ?_
  rintro e w3 ⟨g2, q2, rfl, ho, hb⟩
  have HZ3 := Hid.intro (HZ1.out.below hb HZ1.out.lt)
  have hB3 := hb1.trans (hb.mono hb1.size)
  have hl1 : w.heap.size < w1.heap.size := HZ1.out.lt
  have HO3 : Hid (w3.ownsRow (w.heap.size + 1) 41 9 (.slice (some ⟨g2, 0, none⟩) xs.length q2) xs.length (rvNm xs)) := ownsRow_base (by omega) ho
  clear hb ho HH1 HO1 HZ1 hb1 hl1
  have HTR := Hid.intro HZ3.out.there
  obtain ⟨w20, HW20⟩ : ∃ w', Hid (w' = w3.setCells w.heap.size 0 [.int .i64 0, .slice none 0 0, .slice none 0 0, .slice (some ⟨g2, 0, none⟩) xs.length q2, .slice none 0 0]) := ⟨_, rfl⟩
  have HR20 : Hid (w20.rangeAt w.heap.size 0 [.int .i64 0, .slice none 0 0, .slice none 0 0, .slice (some ⟨g2, 0, none⟩) xs.length q2, .slice none 0 0]) := by
    show World.rangeAt _ _ _ _
    rw [HW20.out]
    exact World.rangeAt_setCells_same _ _ _ _ HTR.out
  have hB20 : Below w.heap.size w w20 := by
    rw [HW20.out]
    exact below_setCells (Nat.le_refl _) _ _ _ hB3
  have HO20 : Hid (w20.ownsRow w.heap.size 41 9 (.slice (some ⟨g2, 0, none⟩) xs.length q2) xs.length (rvNm xs)) := by
    show World.ownsRow _ _ _ _ _ _ _
    rw [HW20.out]
    exact ownsRow_base (by omega) (ownsRow_other HO3.out (by omega) 0)
  clear hB3 HZ3 HO3
  go_wp2_with (refine wpList_store_to rfl 30 _ _ rfl w.heap.size 0 #[.int .i64 0, .slice none 0 0, .slice none 0 0, .slice (some ⟨g2, 0, none⟩) xs.length q2, .slice none 0 0] rfl rfl HTR.out isz_Wrl (by simp [Value.oneCell']) w20 HW20.out ?_)
  exact bodyPost_ret (results_cell_mid rfl _ _ w.heap.size [.int .i64 0, .slice none 0 0, .slice none 0 0, .slice (some ⟨g2, 0, none⟩) xs.length q2, .slice none 0 0] _ rfl HR20.out Tryz.underlying30 rfl isz_Wrl) rfl ⟨g2, q2, rfl, HO20.out, hB20⟩

/-- all of the names or none -/
def okX (xs : List Nm) : List Nm := if woB (nwW xs) = true then xs else []
theorem okX_yes {xs : List Nm} (h : woB (nwW xs) = true) : okX xs = xs := by unfold okX; rw [if_pos h]
theorem okX_no {xs : List Nm} (h : woB (nwW xs) = false) : okX xs = [] := by unfold okX; rw [if_neg (by rw [h]; decide)]
theorem okX_nm (ns : List ByteArray) : okX (nmL ns) = nmL (okN ns) := by
  unfold okX okN
  split <;> rfl

set_option maxHeartbeats 400000 in
theorem nothing_any (p : Nat) (w : World) :
    Calls Tryz.prog 15 #[.pointer (some ⟨p, 0, none⟩)] w fun e w' => e = .returned (.tuple #[]) ∧ Below w.heap.size w w' := by
  go_enter Tryz.func15, Tryz.ntmps15
  go_wp2_with fail
  first | (go_end0; exact ⟨rfl, Below.refl _ _⟩) | exact bodyPost_ret (results_none rfl) rfl ⟨rfl, Below.refl _ _⟩

set_option maxHeartbeats 16000000 in
set_option maxRecDepth 100000 in
theorem behind0_any (xs : List Nm) (bb : Option Addr) (q base : Nat) (w : World) (hO : w.ownsRow base 41 9 (.slice bb xs.length q) xs.length (rvNm xs)) (hl : xs.length ≤ 4) (hz : SzNm xs 1048576) :
    Calls Tryz.prog 14 #[.agg #[.int .i64 0, .slice none 0 0, .slice none 0 0, .slice bb xs.length q, .slice none 0 0], .func (.func 15) #[] #[]] w fun e w' => ∃ b2 q2, e = .returned (.agg #[.int .i64 0, .slice none 0 0, .slice none 0 0, .slice b2 (okX xs).length q2, .slice none 0 0]) ∧ w'.ownsRow w.heap.size 41 9 (.slice b2 (okX xs).length q2) (okX xs).length (rvNm (okX xs)) ∧ Below w.heap.size w w' := by
  have HO0 := Hid.intro hO
  have HZN := Hid.intro hz
  clear hO hz
  have HPa : Blk w.heap.size #[.int .i64 0, .slice none 0 0, .slice none 0 0, .slice bb xs.length q, .slice none 0 0] 30 (w.alloc (.cells #[.int .i64 0, .slice none 0 0, .slice none 0 0, .slice bb xs.length q, .slice none 0 0] 30)) := Blk.alloc _ _ _
  have HP2 : Hid (Blk w.heap.size #[.int .i64 0, .slice none 0 0, .slice none 0 0, .slice bb xs.length q, .slice none 0 0] 30 ((w.alloc (.cells #[.int .i64 0, .slice none 0 0, .slice none 0 0, .slice bb xs.length q, .slice none 0 0] 30)).alloc (.cells #[.int .i64 0, .slice none 0 0, .slice none 0 0, .slice none 0 0, .slice none 0 0] 30))) := HPa.below ((Below.refl _ _).alloc (Nat.le_refl _) _) HPa.lt
  have HR2 : Hid (Blk (w.heap.size + 1) #[.int .i64 0, .slice none 0 0, .slice none 0 0, .slice none 0 0, .slice none 0 0] 30 ((w.alloc (.cells #[.int .i64 0, .slice none 0 0, .slice none 0 0, .slice bb xs.length q, .slice none 0 0] 30)).alloc (.cells #[.int .i64 0, .slice none 0 0, .slice none 0 0, .slice none 0 0, .slice none 0 0] 30))) := Hid.intro (by
    have := Blk.alloc (w.alloc (.cells #[.int .i64 0, .slice none 0 0, .slice none 0 0, .slice bb xs.length q, .slice none 0 0] 30)) #[.int .i64 0, .slice none 0 0, .slice none 0 0, .slice none 0 0, .slice none 0 0] 30
    simpa using this)
  have hB2 : Below w.heap.size w ((w.alloc (.cells #[.int .i64 0, .slice none 0 0, .slice none 0 0, .slice bb xs.length q, .slice none 0 0] 30)).alloc (.cells #[.int .i64 0, .slice none 0 0, .slice none 0 0, .slice none 0 0, .slice none 0 0] 30)) := by go_grown
  have HO2 : Hid (((w.alloc (.cells #[.int .i64 0, .slice none 0 0, .slice none 0 0, .slice bb xs.length q, .slice none 0 0] 30)).alloc (.cells #[.int .i64 0, .slice none 0 0, .slice none 0 0, .slice none 0 0, .slice none 0 0] 30)).ownsRow base 41 9 (.slice bb xs.length q) xs.length (rvNm xs)) := (HO0.out.alloc _).alloc _
  clear HPa
  go_enter Tryz.func14, Tryz.ntmps14
  go_upto_region 1 with fail
  generalize (w.alloc (Obj.cells #[.int .i64 0, .slice none 0 0, .slice none 0 0, .slice bb xs.length q, .slice none 0 0] 30)).alloc (Obj.cells #[.int .i64 0, .slice none 0 0, .slice none 0 0, .slice none 0 0, .slice none 0 0] 30) = w2 at *
  have HSL := Hid.intro (nw_sl (rowslNm HO2.out (by omega) HZN.out) (by omega) HZN.out)
  have CT := Hid.intro (implWorldOk_any (nwW xs) none 0 none 0 bb q none 0 _ w2 HSL.out)
  have HLN : Hid ((nwW xs).mates.length = xs.length) := by show (xs.map mk0).length = _; rw [List.length_map]
  rw [HLN.out] at CT
  clear HSL HLN
  go_wp2_with (refine wpList_load_mid rfl 30 _ rfl w.heap.size 0 (by first | rfl | (simp [go_sem]; done)) [.int .i64 0, .slice none 0 0, .slice none 0 0, .slice bb xs.length q, .slice none 0 0] _ HP2.out.rangeA Tryz.underlying30 rfl isz_Wrl ?_)
  refine CT.out.mono ?_
  rintro e w3 ⟨rfl, hb3⟩
  have HP3 := Hid.intro (HP2.out.below hb3 HP2.out.lt)
  have HR3 := Hid.intro (HR2.out.below hb3 HR2.out.lt)
  have HO3 := Hid.intro (ownsRow_below HO2.out hb3)
  have hB3 := hB2.trans (hb3.mono hB2.size)
  clear hb3 HP2 HR2 HO2 hB2 CT HO0
  cases g0 : woB (nwW xs) with
  | false =>
    have HON := Hid.intro (okX_no g0)
    clear g0
    obtain ⟨wz, HWZ⟩ : ∃ w', Hid (w' = w3.setCells (w.heap.size + 1) 0 [.int .i64 0, .slice none 0 0, .slice none 0 0, .slice none 0 0, .slice none 0 0]) := ⟨_, rfl⟩
    have HTR := Hid.intro HR3.out.there
    have HRZ : Hid (wz.rangeAt (w.heap.size + 1) 0 [.int .i64 0, .slice none 0 0, .slice none 0 0, .slice none 0 0, .slice none 0 0]) := by
      show World.rangeAt _ _ _ _
      rw [HWZ.out]
      exact World.rangeAt_setCells_same _ _ _ _ HTR.out
    have hBZ : Below w.heap.size w wz := by
      rw [HWZ.out]
      exact below_setCells (by omega) _ _ _ hB3
    go_wp2_with (refine wpList_store_to rfl 30 _ _ rfl (w.heap.size + 1) 0 #[.int .i64 0, .slice none 0 0, .slice none 0 0, .slice none 0 0, .slice none 0 0] rfl rfl HTR.out isz_Wrl (by simp [Value.oneCell']) wz HWZ.out ?_)
    exact bodyPost_ret (results_cell_mid rfl _ _ (w.heap.size + 1) [.int .i64 0, .slice none 0 0, .slice none 0 0, .slice none 0 0, .slice none 0 0] _ rfl HRZ.out Tryz.underlying30 rfl isz_Wrl) rfl ⟨none, 0, by rw [HON.out]; rfl, by rw [HON.out]; exact World.ownsRow_nil _ _ _ _, hBZ⟩
  | true =>
  have HON := Hid.intro (okX_yes g0)
  have h14 := ok_four g0
  clear g0
  obtain ⟨g, qc, eb⟩ := rowf HO3.out (fun e => by injection e with _ e2 _; omega)
  have eb1 : bb = some ⟨g, 0, none⟩ := by injection eb
  subst eb1
  clear eb
  go_upto_region 3 with fail
  refine wp_region_held_drew (S := fun wy => wy.cell? ⟨w.heap.size, 4, none⟩ = some (.slice none 0 0)) (by kernel_rfl) (HP3.out.cell rfl) (fun hS => ?_)
  have hBd : Below w.heap.size w w3.drew := hB3.drew
  have HPd : Hid (Blk w.heap.size #[.int .i64 0, .slice none 0 0, .slice none 0 0, .slice (some ⟨g, 0, none⟩) xs.length q, .slice none 0 0] 30 w3.drew) := HP3.out.drew
  have HRd : Hid (Blk (w.heap.size + 1) #[.int .i64 0, .slice none 0 0, .slice none 0 0, .slice none 0 0, .slice none 0 0] 30 w3.drew) := HR3.out.drew
  have HOd := Hid.intro HO3.out.drew
  clear HP3 HR3 HO3 hB3
  generalize w3.drew = wd at *
  have kp : wd.cell? ⟨w.heap.size, 3, none⟩ = some (.slice (some ⟨g, 0, none⟩) xs.length q) := HPd.out.cell rfl
  refine wpAnyH_take (i := 0) (oi := { dst := some 10, op := _, type := _, pos := _, after := _, guard := none }) (v := .pointer (some ⟨w.heap.size, 3, none⟩)) rfl (by kernel_rfl) (by kernel_rfl) (by kernel_rfl) (fun _ _ _ h => h) (Or.inl ⟨by rfl, ?_⟩) hS ?_
  · intro wy hy
    clear hy
    go_simp
  simp only [Act.put, List.setIfInBounds_toArray, List.set_cons_zero, List.set_cons_succ]
  refine wpAnyH_take (i := 3) (oi := { dst := some 13, op := _, type := _, pos := _, after := _, guard := none }) (v := .pointer (some ⟨w.heap.size, 4, none⟩)) rfl (by kernel_rfl) (by kernel_rfl) (by kernel_rfl) (fun _ _ _ h => h) (Or.inl ⟨by rfl, ?_⟩) hS ?_
  · intro wy hy
    clear hy
    go_simp
  simp only [Act.put, List.setIfInBounds_toArray, List.set_cons_zero, List.set_cons_succ]
  refine wpAnyH_take (i := 4) (oi := { dst := some 14, op := _, type := _, pos := _, after := _, guard := none }) (v := .slice none 0 0) rfl (by kernel_rfl) (by kernel_rfl) (by kernel_rfl) (fun _ _ _ h => h) (Or.inl ⟨by rfl, ?_⟩) hS ?_
  · intro wy hy
    have h0 := hy
    clear hy
    go_simp
  simp only [Act.put, List.setIfInBounds_toArray, List.set_cons_zero, List.set_cons_succ]
  refine wpAnyH_ready (rs := [1]) (by kernel_rfl) (by simp) (AllReadyH.cons (o := { dst := some 11, op := _, type := _, pos := _, after := _, guard := none }) rfl (fun K hK => ?_) AllReadyH.nil)
  go_simp
  refine hK.out _ _ hS (fun hS => ?_)
  clear hK K kp
  refine wpAnyH_ready (rs := [2]) (by kernel_rfl) (by simp) (AllReadyH.cons (o := { dst := some 12, op := _, type := _, pos := _, after := _, guard := none }) rfl (fun K hK => ?_) AllReadyH.nil)
  go_simp
  refine (clNm_any xs g 0 q base _ (rowslNm HOd.out (by omega) HZN.out) (by omega)).mono ?_
  rintro e w4 ⟨g3, q3, rfl, ho4, hb⟩
  have hB4 := hBd.trans (hb.mono hBd.size)
  have HP4 := Hid.intro (HPd.out.below hb HPd.out.lt)
  have HR4 := Hid.intro (HRd.out.below hb HRd.out.lt)
  have HO4 : Hid (w4.ownsRow (w.heap.size + 2) 41 9 (.slice (some ⟨g3, 0, none⟩) xs.length q3) xs.length (rvNm xs)) := ownsRow_base (show w.heap.size + 2 ≤ wd.heap.size from HRd.out.lt) ho4
  refine hK.out _ _ ((hb.cell (p := ⟨w.heap.size, 4, none⟩) HPd.out.lt).trans hS) (fun hS => ?_)
  clear hK K
  clear hb hBd HPd HRd HOd ho4
  refine wpAnyH_take (i := 6) (oi := { dst := some 16, op := _, type := _, pos := _, after := _, guard := none }) (v := .pointer (some ⟨w.heap.size, 3, none⟩)) rfl (by kernel_rfl) (by kernel_rfl) (by kernel_rfl) (fun _ _ _ h => h) (Or.inl ⟨by rfl, ?_⟩) hS ?_
  · intro wy hy
    clear hy
    go_simp
  simp only [Act.put, List.setIfInBounds_toArray, List.set_cons_zero, List.set_cons_succ]
  refine wpAnyH_ready (rs := [5]) (by kernel_rfl) (by simp) (AllReadyH.cons (o := { dst := some 15, op := _, type := _, pos := _, after := _, guard := none }) rfl (fun K hK => ?_) AllReadyH.nil)
  go_simp
  refine (clnStr_any 0 _).mono ?_
  rintro e w5 ⟨rfl, hb⟩
  have hB5 := hB4.trans (hb.mono hB4.size)
  have HP5 := Hid.intro (HP4.out.below hb HP4.out.lt)
  have HR5 := Hid.intro (HR4.out.below hb HR4.out.lt)
  have HO5 := Hid.intro (ownsRow_below HO4.out hb)
  refine hK.out _ _ ((hb.cell (p := ⟨w.heap.size, 4, none⟩) HP4.out.lt).trans hS) (fun hS => ?_)
  clear hK K
  clear hb hB4 HP4 HR4 HO4
  have kx : w5.cell? ⟨w.heap.size, 3, none⟩ = some (.slice (some ⟨g, 0, none⟩) xs.length q) := HP5.out.cell rfl
  have fx : w5.frozen? ⟨w.heap.size, 3, none⟩ = false := HP5.out.frozen _
  refine wpAnyH_ready (rs := [7]) (by kernel_rfl) (by simp) (AllReadyH.cons (o := { dst := none, op := _, type := _, pos := _, after := _, guard := none }) rfl (fun K hK => ?_) AllReadyH.nil)
  go_simp
  have HP6 : Hid (Blk w.heap.size #[.int .i64 0, .slice none 0 0, .slice none 0 0, .slice (some ⟨g3, 0, none⟩) xs.length q3, .slice none 0 0] 30 (w5.setCell ⟨w.heap.size, 3, none⟩ (.slice (some ⟨g3, 0, none⟩) xs.length q3))) := HP5.out.set 3 _
  have HR6 : Hid (Blk (w.heap.size + 1) #[.int .i64 0, .slice none 0 0, .slice none 0 0, .slice none 0 0, .slice none 0 0] 30 (w5.setCell ⟨w.heap.size, 3, none⟩ (.slice (some ⟨g3, 0, none⟩) xs.length q3))) := HR5.out.other (a := ⟨w.heap.size, 3, none⟩) (show w.heap.size + 1 ≠ w.heap.size by omega) _
  have HO6 : Hid ((w5.setCell ⟨w.heap.size, 3, none⟩ (.slice (some ⟨g3, 0, none⟩) xs.length q3)).ownsRow (w.heap.size + 2) 41 9 (.slice (some ⟨g3, 0, none⟩) xs.length q3) xs.length (rvNm xs)) := ownsRow_other (vs := [.slice (some ⟨g3, 0, none⟩) xs.length q3]) (p := w.heap.size) HO5.out (by omega) 3
  have hB6 : Below w.heap.size w (w5.setCell ⟨w.heap.size, 3, none⟩ (.slice (some ⟨g3, 0, none⟩) xs.length q3)) := hB5.setCell (p := ⟨w.heap.size, 3, none⟩) (Nat.le_refl _) _
  refine hK.out _ _ (HP6.out.cell rfl) (fun hS => ?_)
  clear hK K kx fx HP5 HR5 HO5 hB5
  generalize (w5.setCell ⟨w.heap.size, 3, none⟩ (.slice (some ⟨g3, 0, none⟩) xs.length q3)) = w6 at *
  refine wpAnyH_take (i := 8) (oi := { dst := some 17, op := _, type := _, pos := _, after := _, guard := none }) (v := .pointer (some ⟨w.heap.size, 4, none⟩)) rfl (by kernel_rfl) (by kernel_rfl) (by kernel_rfl) (fun _ _ _ h => h) (Or.inl ⟨by rfl, ?_⟩) hS ?_
  · intro wy hy
    clear hy
    go_simp
  simp only [Act.put, List.setIfInBounds_toArray, List.set_cons_zero, List.set_cons_succ]
  have kx : w6.cell? ⟨w.heap.size, 4, none⟩ = some (.slice none 0 0) := HP6.out.cell rfl
  have fx : w6.frozen? ⟨w.heap.size, 4, none⟩ = false := HP6.out.frozen _
  refine wpAnyH_ready (rs := [9]) (by kernel_rfl) (by simp) (AllReadyH.cons (o := { dst := none, op := _, type := _, pos := _, after := _, guard := none }) rfl (fun K hK => ?_) AllReadyH.nil)
  go_simp
  have HP7 : Hid (Blk w.heap.size #[.int .i64 0, .slice none 0 0, .slice none 0 0, .slice (some ⟨g3, 0, none⟩) xs.length q3, .slice none 0 0] 30 (w6.setCell ⟨w.heap.size, 4, none⟩ (.slice none 0 0))) := HP6.out.set 4 _
  have HR7 : Hid (Blk (w.heap.size + 1) #[.int .i64 0, .slice none 0 0, .slice none 0 0, .slice none 0 0, .slice none 0 0] 30 (w6.setCell ⟨w.heap.size, 4, none⟩ (.slice none 0 0))) := HR6.out.other (a := ⟨w.heap.size, 4, none⟩) (show w.heap.size + 1 ≠ w.heap.size by omega) _
  have HO7 : Hid ((w6.setCell ⟨w.heap.size, 4, none⟩ (.slice none 0 0)).ownsRow (w.heap.size + 2) 41 9 (.slice (some ⟨g3, 0, none⟩) xs.length q3) xs.length (rvNm xs)) := ownsRow_other (vs := [.slice none 0 0]) (p := w.heap.size) HO6.out (by omega) 4
  have hB7 : Below w.heap.size w (w6.setCell ⟨w.heap.size, 4, none⟩ (.slice none 0 0)) := hB6.setCell (p := ⟨w.heap.size, 4, none⟩) (Nat.le_refl _) _
  refine hK.out _ _ (HP7.out.cell rfl) (fun hS => ?_)
  clear hK K kx fx HP6 HR6 HO6 hB6
  generalize (w6.setCell ⟨w.heap.size, 4, none⟩ (.slice none 0 0)) = w7 at *
  refine wpAnyH_done (by kernel_rfl) ?_ _
  clear hS
  have hbh : Below w7.heap.size w7 (w7.alloc (Obj.cells #[.int .i64 0, .slice none 0 0, .slice none 0 0, .slice (some ⟨g3, 0, none⟩) xs.length q3, .slice none 0 0] 56)) := (Below.refl _ _).alloc (Nat.le_refl _) _
  have HH8 : Hid (Blk w7.heap.size #[.int .i64 0, .slice none 0 0, .slice none 0 0, .slice (some ⟨g3, 0, none⟩) xs.length q3, .slice none 0 0] 56 (w7.alloc (Obj.cells #[.int .i64 0, .slice none 0 0, .slice none 0 0, .slice (some ⟨g3, 0, none⟩) xs.length q3, .slice none 0 0] 56))) := Blk.alloc _ _ _
  have HR8 := Hid.intro (HR7.out.below hbh HR7.out.lt)
  have HO8 := Hid.intro (HO7.out.alloc (Obj.cells #[.int .i64 0, .slice none 0 0, .slice none 0 0, .slice (some ⟨g3, 0, none⟩) xs.length q3, .slice none 0 0] 56))
  have hB8 := hB7.trans (hbh.mono hB7.size)
  have heg : ∀ args w, (callFunc 15 args).run Tryz.prog w = .ok (.enter 15 args) w := enters_of Tryz.func15 (by kernel_rfl) rfl
  clear hbh HR7 HO7 hB7
  go_upto_region 5 with (refine wpList_load_mid rfl 30 _ rfl w.heap.size 0 (by first | rfl | (simp [go_sem]; done)) [.int .i64 0, .slice none 0 0, .slice none 0 0, .slice (some ⟨g3, 0, none⟩) xs.length q3, .slice none 0 0] _ HP7.out.rangeA Tryz.underlying30 rfl isz_Wrl ?_)
  clear HP7
  generalize (w7.alloc (Obj.cells #[.int .i64 0, .slice none 0 0, .slice none 0 0, .slice (some ⟨g3, 0, none⟩) xs.length q3, .slice none 0 0] 56)) = w8 at *
  generalize w7.heap.size = ph at *
  go_wp2_with fail
  refine (nothing_any ph _).mono ?_
  rintro e w9 ⟨rfl, hb⟩
  have HH9 := Hid.intro (HH8.out.below hb HH8.out.lt)
  have HR9 := Hid.intro (HR8.out.below hb HR8.out.lt)
  have HO9 := Hid.intro (ownsRow_below HO8.out hb)
  have hB9 := hB8.trans (hb.mono hB8.size)
  clear hb HH8 HR8 HO8 hB8 heg
  go_wp2_with fail
  refine (told0_any xs ph g3 q3 _ _ HH9.out HO9.out h14.2 HZN.out).mono ?_
  rintro e w10 ⟨g2, q2, rfl, ho, hb⟩
  have hR9l := HR9.out.lt
  have HR10 := Hid.intro (HR9.out.below hb HR9.out.lt)
  have hB10 := hB9.trans (hb.mono hB9.size)
  have HO10 : Hid (w10.ownsRow (w.heap.size + 2) 41 9 (.slice (some ⟨g2, 0, none⟩) xs.length q2) xs.length (rvNm xs)) := ownsRow_base (show w.heap.size + 2 ≤ w9.heap.size from hR9l) ho
  clear hb ho HH9 HR9 HO9 hB9 hR9l
  obtain ⟨wz, HWZ⟩ : ∃ w', Hid (w' = w10.setCells (w.heap.size + 1) 0 [.int .i64 0, .slice none 0 0, .slice none 0 0, .slice (some ⟨g2, 0, none⟩) xs.length q2, .slice none 0 0]) := ⟨_, rfl⟩
  have HTR := Hid.intro HR10.out.there
  have HRZ : Hid (wz.rangeAt (w.heap.size + 1) 0 [.int .i64 0, .slice none 0 0, .slice none 0 0, .slice (some ⟨g2, 0, none⟩) xs.length q2, .slice none 0 0]) := by
    show World.rangeAt _ _ _ _
    rw [HWZ.out]
    exact World.rangeAt_setCells_same _ _ _ _ HTR.out
  have hBZ : Below w.heap.size w wz := by
    rw [HWZ.out]
    exact below_setCells (by omega) _ _ _ hB10
  have HOZ : Hid (wz.ownsRow (w.heap.size + 2) 41 9 (.slice (some ⟨g2, 0, none⟩) xs.length q2) xs.length (rvNm xs)) := by
    show World.ownsRow _ _ _ _ _ _ _
    rw [HWZ.out]
    exact ownsRow_other HO10.out (by omega) _
  go_wp2_with (refine wpList_store_to rfl 30 _ _ rfl (w.heap.size + 1) 0 #[.int .i64 0, .slice none 0 0, .slice none 0 0, .slice (some ⟨g2, 0, none⟩) xs.length q2, .slice none 0 0] rfl rfl HTR.out isz_Wrl (by simp [Value.oneCell']) wz HWZ.out ?_)
  exact bodyPost_ret (results_cell_mid rfl _ _ (w.heap.size + 1) [.int .i64 0, .slice none 0 0, .slice none 0 0, .slice (some ⟨g2, 0, none⟩) xs.length q2, .slice none 0 0] _ rfl HRZ.out Tryz.underlying30 rfl isz_Wrl) rfl ⟨_, q2, by rw [HON.out], by rw [HON.out]; exact ownsRow_base (Nat.le_add_right _ 2) HOZ.out, hBZ⟩

end Go.Proofs.YtebcocejgenadaaGreat
