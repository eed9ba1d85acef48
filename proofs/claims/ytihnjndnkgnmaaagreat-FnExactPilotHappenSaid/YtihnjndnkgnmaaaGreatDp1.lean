import Derived.Test.YtihnjndnkgnmaaaGreatTk0
import Derived.Test.YtihnjndnkgnmaaaGreatJ8
import Derived.Test.YtihnjndnkgnmaaaGreatJ16
namespace Go.Proofs.YtihnjndnkgnmaaaGreat
open Go.RowKit

set_option maxHeartbeats 400000 in
theorem cl3_any (s : ByteArray) (w : World) (hs : s.size ≤ 1048576) :
  Calls Tryz.prog 103 #[.string s] w fun e w' => e = .returned (.string s) ∧ Below w.heap.size w w' := by
 go_enter Tryz.func103, Tryz.ntmps103
 go_wp2_with fail
 refine (Any.stringslite_Clone laysC s w (by omega)).mono ?_
 rintro e w1 ⟨rfl, hb⟩
 go_wp2_with fail
 go_ret
 exact ⟨rfl, hb⟩

set_option maxHeartbeats 2000000 in
set_option maxRecDepth 100000 in
theorem nwLik_any (x : Lik) (w : World) (z0 : x.select.size ≤ 1048576) :
  Calls Tryz.prog 108 #[.agg #[.string x.select, .int .i64 x.weight]] w fun e w' => e = .returned (.agg #[.string x.select, .int .i64 x.weight]) ∧ Below w.heap.size w w' := by
 have hB3 : Below w.heap.size w ((w.alloc (Obj.cells #[.string x.select, .int .i64 x.weight] 125)).alloc (Obj.cells #[.string ⟨#[]⟩, .int .i64 0] 125)) := by go_grown
 have h1 : Blk w.heap.size #[.string x.select, .int .i64 x.weight] 125 (w.alloc (Obj.cells #[.string x.select, .int .i64 x.weight] 125)) := Blk.alloc _ _ _
 have HX : Hid (Blk w.heap.size #[.string x.select, .int .i64 x.weight] 125 ((w.alloc (Obj.cells #[.string x.select, .int .i64 x.weight] 125)).alloc (Obj.cells #[.string ⟨#[]⟩, .int .i64 0] 125))) := h1.below ((Below.refl _ _).alloc nL _) h1.lt
 have HZ : Hid (Blk (w.heap.size + 1) #[.string ⟨#[]⟩, .int .i64 0] 125 ((w.alloc (Obj.cells #[.string x.select, .int .i64 x.weight] 125)).alloc (Obj.cells #[.string ⟨#[]⟩, .int .i64 0] 125))) := by
  have := Blk.alloc (w.alloc (Obj.cells #[.string x.select, .int .i64 x.weight] 125)) #[.string ⟨#[]⟩, .int .i64 0] 125
  show Blk _ _ _ _
  simpa using this
 clear h1
 go_enter Tryz.func108, Tryz.ntmps108
 go_upto_region 1 with fail
 generalize ((w.alloc (Obj.cells #[.string x.select, .int .i64 x.weight] 125)).alloc (Obj.cells #[.string ⟨#[]⟩, .int .i64 0] 125)) = w3 at *
 have k0 : w3.cell? ⟨w.heap.size, 0, none⟩ = some (.string x.select) := HX.out.cell rfl
 go_wp2_with fail
 refine (cl3_any x.select _ z0).mono ?_
 rintro e w4 ⟨rfl, hb4⟩
 have HX4 := iH (HX.out.below hb4 HX.out.lt)
 have HZ4 := iH (HZ.out.below hb4 HZ.out.lt)
 have hB4 := hB3.trans (hb4.mono hB3.size)
 have c0 : w4.cell? ⟨w.heap.size, 0, none⟩ = some (.string x.select) := HX4.out.cell rfl
 have f0 := HX4.out.frozen 0
 have HX5 : Hid (Blk w.heap.size #[.string x.select, .int .i64 x.weight] 125 (w4.setCell ⟨w.heap.size, 0, none⟩ (.string x.select))) := HX4.out.set 0 _
 have HZ5 : Hid (Blk (w.heap.size + 1) #[.string ⟨#[]⟩, .int .i64 0] 125 (w4.setCell ⟨w.heap.size, 0, none⟩ (.string x.select))) := HZ4.out.other (a := ⟨w.heap.size, 0, none⟩) (show w.heap.size + 1 ≠ w.heap.size by omega) _
 have hB5 : Below w.heap.size w (w4.setCell ⟨w.heap.size, 0, none⟩ (.string x.select)) := hB4.setCell (p := ⟨w.heap.size, 0, none⟩) nL _
 clear HX HZ hB3 hb4 k0
 go_upto_region 2 with fail
 clear c0 f0 HX4 HZ4 hB4
 generalize w4.setCell ⟨w.heap.size, 0, none⟩ (.string x.select) = w5 at *
 obtain ⟨w8, HW8⟩ : ∃ w8, Hid (w8 = w5.setCells (w.heap.size + 1) 0 [.string x.select, .int .i64 x.weight]) := ⟨_, rfl⟩
 have HT : Hid (w5.there (w.heap.size + 1) 0 2) := HZ5.out.there
 have HR8 : Hid (w8.rangeAt (w.heap.size + 1) 0 [.string x.select, .int .i64 x.weight]) := by
  show World.rangeAt _ _ _ _
  rw [HW8.out]
  exact World.rangeAt_setCells_same _ _ _ _ HT.out
 have hB8 : Below w.heap.size w w8 := by
  rw [HW8.out]
  exact below_setCells (by omega) _ _ _ hB5
 go_wp2_with (first | (refine wpList_load_mid rfl 125 _ rfl w.heap.size 0 rfl [.string x.select, .int .i64 x.weight] _ HX5.out.rangeA Tryz.underlying125 rfl isz_Lik ?_) | (refine wpList_store_to rfl 125 _ _ rfl (w.heap.size + 1) 0 #[.string x.select, .int .i64 x.weight] rfl rfl HT.out isz_Lik (by simp [Value.oneCell']) w8 HW8.out ?_))
 exact bodyPost_ret (results_cell_mid rfl _ _ (w.heap.size + 1) [.string x.select, .int .i64 x.weight] _ rfl HR8.out Tryz.underlying125 rfl isz_Lik) rfl ⟨rfl, hB8⟩

set_option maxHeartbeats 2000000 in
set_option maxRecDepth 100000 in
theorem nwSvc_any (x : Svc) (w : World) (z0 : x.name.size ≤ 1048576) :
  Calls Tryz.prog 69 #[.agg #[.string x.name, .int .i64 x.spare]] w fun e w' => e = .returned (.agg #[.string x.name, .int .i64 x.spare]) ∧ Below w.heap.size w w' := by
 have hB3 : Below w.heap.size w ((w.alloc (Obj.cells #[.string x.name, .int .i64 x.spare] 94)).alloc (Obj.cells #[.string ⟨#[]⟩, .int .i64 0] 94)) := by go_grown
 have h1 : Blk w.heap.size #[.string x.name, .int .i64 x.spare] 94 (w.alloc (Obj.cells #[.string x.name, .int .i64 x.spare] 94)) := Blk.alloc _ _ _
 have HX : Hid (Blk w.heap.size #[.string x.name, .int .i64 x.spare] 94 ((w.alloc (Obj.cells #[.string x.name, .int .i64 x.spare] 94)).alloc (Obj.cells #[.string ⟨#[]⟩, .int .i64 0] 94))) := h1.below ((Below.refl _ _).alloc nL _) h1.lt
 have HZ : Hid (Blk (w.heap.size + 1) #[.string ⟨#[]⟩, .int .i64 0] 94 ((w.alloc (Obj.cells #[.string x.name, .int .i64 x.spare] 94)).alloc (Obj.cells #[.string ⟨#[]⟩, .int .i64 0] 94))) := by
  have := Blk.alloc (w.alloc (Obj.cells #[.string x.name, .int .i64 x.spare] 94)) #[.string ⟨#[]⟩, .int .i64 0] 94
  show Blk _ _ _ _
  simpa using this
 clear h1
 go_enter Tryz.func69, Tryz.ntmps69
 go_upto_region 1 with fail
 generalize ((w.alloc (Obj.cells #[.string x.name, .int .i64 x.spare] 94)).alloc (Obj.cells #[.string ⟨#[]⟩, .int .i64 0] 94)) = w3 at *
 have k0 : w3.cell? ⟨w.heap.size, 0, none⟩ = some (.string x.name) := HX.out.cell rfl
 go_wp2_with fail
 refine (cl3_any x.name _ z0).mono ?_
 rintro e w4 ⟨rfl, hb4⟩
 have HX4 := iH (HX.out.below hb4 HX.out.lt)
 have HZ4 := iH (HZ.out.below hb4 HZ.out.lt)
 have hB4 := hB3.trans (hb4.mono hB3.size)
 have c0 : w4.cell? ⟨w.heap.size, 0, none⟩ = some (.string x.name) := HX4.out.cell rfl
 have f0 := HX4.out.frozen 0
 have HX5 : Hid (Blk w.heap.size #[.string x.name, .int .i64 x.spare] 94 (w4.setCell ⟨w.heap.size, 0, none⟩ (.string x.name))) := HX4.out.set 0 _
 have HZ5 : Hid (Blk (w.heap.size + 1) #[.string ⟨#[]⟩, .int .i64 0] 94 (w4.setCell ⟨w.heap.size, 0, none⟩ (.string x.name))) := HZ4.out.other (a := ⟨w.heap.size, 0, none⟩) (show w.heap.size + 1 ≠ w.heap.size by omega) _
 have hB5 : Below w.heap.size w (w4.setCell ⟨w.heap.size, 0, none⟩ (.string x.name)) := hB4.setCell (p := ⟨w.heap.size, 0, none⟩) nL _
 clear HX HZ hB3 hb4 k0
 go_upto_region 2 with fail
 clear c0 f0 HX4 HZ4 hB4
 generalize w4.setCell ⟨w.heap.size, 0, none⟩ (.string x.name) = w5 at *
 obtain ⟨w8, HW8⟩ : ∃ w8, Hid (w8 = w5.setCells (w.heap.size + 1) 0 [.string x.name, .int .i64 x.spare]) := ⟨_, rfl⟩
 have HT : Hid (w5.there (w.heap.size + 1) 0 2) := HZ5.out.there
 have HR8 : Hid (w8.rangeAt (w.heap.size + 1) 0 [.string x.name, .int .i64 x.spare]) := by
  show World.rangeAt _ _ _ _
  rw [HW8.out]
  exact World.rangeAt_setCells_same _ _ _ _ HT.out
 have hB8 : Below w.heap.size w w8 := by
  rw [HW8.out]
  exact below_setCells (by omega) _ _ _ hB5
 go_wp2_with (first | (refine wpList_load_mid rfl 94 _ rfl w.heap.size 0 rfl [.string x.name, .int .i64 x.spare] _ HX5.out.rangeA Tryz.underlying94 rfl isz_Svc ?_) | (refine wpList_store_to rfl 94 _ _ rfl (w.heap.size + 1) 0 #[.string x.name, .int .i64 x.spare] rfl rfl HT.out isz_Svc (by simp [Value.oneCell']) w8 HW8.out ?_))
 exact bodyPost_ret (results_cell_mid rfl _ _ (w.heap.size + 1) [.string x.name, .int .i64 x.spare] _ rfl HR8.out Tryz.underlying94 rfl isz_Svc) rfl ⟨rfl, hB8⟩

set_option maxHeartbeats 1000000 in
set_option maxRecDepth 100000 in
theorem clLik_any (xs : List Lik) (ad : Addr) (cap lo : Nat) (w : World) (hin : SliceC LikC 2 lo w (some ad) xs) (hsm : xs.length ≤ 1048576) :
  Calls Tryz.prog 127 #[.slice (some ad) xs.length cap] w fun e w' => ∃ g c, e = .returned (.slice (some ⟨g, 0, none⟩) xs.length c) ∧ w'.ownsRow w.heap.size 125 2 (.slice (some ⟨g, 0, none⟩) xs.length c) xs.length (rvLik xs) ∧ Below w.heap.size w w' := by
 obtain ⟨i0, hi, hz0, hz1, hz2⟩ := info_parts info_Lik
 have q22 : ∀ (w : World) (a : Option Addr) (n c n' c' : Nat), (binOp .eql 46 (.slice a n c) (.slice none n' c')).run Tryz.prog w = .ok (.bool a.isNone) w := fun w a n c n' c' => Lib.run_eql_slice_nil w _ _ a n c n' c' Tryz.underlying46
 have HS : Hid (∀ j u, (rvLik xs)[j]? = some u → w.cell? (ad.add j) = some u) := newsOLik hin ad rfl
 clear hin
 go_enter Tryz.func127, Tryz.ntmps127
 go_wp2_with (at_builtin; refine wpList_append_own _ rfl _ _ 46 rfl w.heap.size 125 i0 _ 2 24 Tryz.underlying46 hi hz0 hz1 hz2 rfl (by decide) _ _ _ rfl (World.ownsRow_made w #[] 0 nL (Nat.zero_le _) rfl) ad xs.length _ (rvLik xs) rfl (by rw [rvLik_len]) (fun j u hj => Lib.cell?_alloc_some _ (HS.out j u hj)) (rvLik_one xs) (by unfold maxLen; omega) (by omega) (by simp) ?_; intro v' w1 hown hgrow hnil)
 have hv : v' ≠ .slice none 0 0 := fun e => by have := (hnil.1 e).1; cases this
 have hown' : w1.ownsRow w.heap.size 125 2 v' xs.length (rvLik xs) := by simpa using hown
 obtain ⟨g, c, rfl⟩ := rowf hown' hv
 have HO := iH hown'
 have hB : Below w.heap.size w w1 := ((Below.refl _ w).alloc nL _).grown hgrow (by simp) (by intro k hk; cases hk; exact Nat.le_refl _)
 clear hown hgrow hnil hv hown'
 go_wp2_with fail
 go_ret
 exact ⟨g, c, rfl, HO.out, hB⟩

set_option maxHeartbeats 1000000 in
theorem clnLik_any (cap : Nat) (w : World) :
  Calls Tryz.prog 127 #[.slice none 0 cap] w fun e w' => e = .returned (.slice none 0 0) ∧ Below w.heap.size w w' := by
 have q22 : ∀ (w : World) (a : Option Addr) (n c n' c' : Nat), (binOp .eql 46 (.slice a n c) (.slice none n' c')).run Tryz.prog w = .ok (.bool a.isNone) w := fun w a n c n' c' => Lib.run_eql_slice_nil w _ _ a n c n' c' Tryz.underlying46
 go_enter Tryz.func127, Tryz.ntmps127
 go_wp2_with fail
 go_ret
 exact ⟨rfl, Below.refl _ _⟩

set_option maxHeartbeats 1000000 in
set_option maxRecDepth 100000 in
theorem eanLik_any (f : Value) (cap : Nat) (w : World) :
  Calls Tryz.prog 107 #[.slice none 0 cap, f] w fun e w' => e = .returned (.slice none 0 0) ∧ Below w.heap.size w w' := by
 go_enter Tryz.func107, Tryz.ntmps107
 go_wp2_with fail
 refine (clnLik_any cap _).mono ?_
 rintro e w1 ⟨rfl, hb⟩
 have HB := iH hb
 clear hb
 go_wp2_with fail
 go_loopw [11] (fun i wr => i = .int .i64 0 ∧ Below w.heap.size w wr) (fun i _ => 0)
 case atStart => exact ⟨rfl, HB.out⟩
 case round =>
  obtain ⟨rfl, hB⟩ := hrel
  go_wp2_with fail
  go_ret
  exact ⟨rfl, hB⟩

set_option maxHeartbeats 4000000 in
set_option maxRecDepth 100000 in
theorem eaLik_any (xs : List Lik) (ad : Addr) (cap lo : Nat) (w : World) (hin : SliceC LikC 2 lo w (some ad) xs) (hsm : xs.length ≤ 1048576) (hz : SzLik xs 1048576) :
  Calls Tryz.prog 107 #[.slice (some ad) xs.length cap, .func (.func 108) #[] #[]] w fun e w' => ∃ g q, e = .returned (.slice (some ⟨g, 0, none⟩) xs.length q) ∧ w'.ownsRow w.heap.size 125 2 (.slice (some ⟨g, 0, none⟩) xs.length q) xs.length (rvLik xs) ∧ Below w.heap.size w w' := by
 have HI := iH hin
 have HZ := iH hz
 clear hin hz
 go_enter Tryz.func107, Tryz.ntmps107
 go_wp2_with fail
 refine (clLik_any xs ad cap lo _ HI.out hsm).mono ?_
 rintro e w1 ⟨g, q, rfl, hO1, hB1⟩
 have HO1 := iH hO1
 clear hO1
 go_wp2_with fail
 go_loopw [11] (fun i wr => ∃ k : Nat, k ≤ xs.length ∧ i = .int .i64 k ∧ Hid (wr.ownsRow w.heap.size 125 2 (.slice (some ⟨g, 0, none⟩) xs.length q) xs.length (rvLik xs)) ∧ Below w.heap.size w wr) (fun i _ => xs.length - (intOf i).toNat)
 case atStart => exact ⟨0, Nat.zero_le _, rfl, HO1, hB1⟩
 case round =>
  clear HO1 hB1
  obtain ⟨k, hk, rfl, HO, hB⟩ := hrel
  by_cases hlt : k < xs.length
  ·obtain ⟨x, hx⟩ : ∃ x, xs[k]? = some x := ⟨xs[k], List.getElem?_eq_getElem hlt⟩
   have HXX := iH hx
   have Z := iH (HZ.out x (List.mem_of_getElem? hx))
   have hgl : g < wr.heap.size := (HO.out.lt g rfl).2
   have hgb : w.heap.size ≤ g := rowb HO.out
   have HRA : Hid (wr.rangeAt g (k * 2) [.string x.select, .int .i64 x.weight]) := fun j v hv => by
    have hj : j < 2 := lt_of_some hv
    have h1 := HO.out.cellAt (k * 2 + j) (by omega)
    rw [rvLik_at _ k x j hx hj] at h1
    exact h1.trans hv
   clear hx
   have hza : Blk wr.heap.size #[.string ⟨#[]⟩, .int .i64 0] 125 (wr.alloc (Obj.cells #[.string ⟨#[]⟩, .int .i64 0] 125)) := Blk.alloc _ _ _
   have HTS : Hid ((wr.alloc (Obj.cells #[.string ⟨#[]⟩, .int .i64 0] 125)).there wr.heap.size 0 2) := hza.there
   obtain ⟨w4, HW4⟩ : ∃ w4, Hid (w4 = (wr.alloc (Obj.cells #[.string ⟨#[]⟩, .int .i64 0] 125)).setCells wr.heap.size 0 [.string x.select, .int .i64 x.weight]) := ⟨_, rfl⟩
   have HK4 : Hid (Blk wr.heap.size #[.string x.select, .int .i64 x.weight] 125 w4) := by
    show Blk _ _ _ _
    rw [HW4.out]
    exact hza.setAll #[.string x.select, .int .i64 x.weight] rfl
   have hbx : Below wr.heap.size wr w4 := by
    rw [HW4.out]
    exact below_setCells nL _ _ _ ((Below.refl _ wr).alloc nL _)
   have hB4 : Below w.heap.size w w4 := hB.trans (hbx.mono hB.size)
   have HO4 := iH (ownsRow_below HO.out hbx)
   clear hza hbx HO hB
   go_upto_region 5 with (first | (refine wpList_load_mid rfl 125 _ rfl g (k * 2) (by first | rfl | (simp [go_sem]; done)) [.string x.select, .int .i64 x.weight] _ HRA.out Tryz.underlying125 rfl isz_Lik ?_) | (refine wpList_store_to rfl 125 _ _ rfl wr.heap.size 0 #[.string x.select, .int .i64 x.weight] rfl rfl HTS.out isz_Lik (by simp [Value.oneCell']) w4 HW4.out ?_))
   clear HRA HTS HW4
   go_wp2_with (first | (refine wpList_load_mid rfl 125 _ rfl wr.heap.size 0 (by first | rfl | (simp [go_sem]; done)) [.string x.select, .int .i64 x.weight] _ HK4.out.rangeA Tryz.underlying125 rfl isz_Lik ?_))
   refine (nwLik_any x _ Z.out).mono ?_
   rintro e w5 ⟨rfl, hb5⟩
   have HO5 := iH (ownsRow_below HO4.out hb5)
   have hB5 := hB4.trans (hb5.mono hB4.size)
   clear hb5 hB4 HO4 HK4
   have HT5 : Hid (w5.there g (k * 2) 2) := ownsRow_there HO5.out (by rw [rvLik_len]; omega)
   obtain ⟨w6, HW6⟩ : ∃ w6, Hid (w6 = w5.setCells g (k * 2) (rcLik x)) := ⟨_, rfl⟩
   have HO6 : Hid (w6.ownsRow w.heap.size 125 2 (.slice (some ⟨g, 0, none⟩) xs.length q) xs.length (rvLik xs)) := by
    have h := ownsRow_run (rcLik x) _ (k * 2) _ HO5.out
    rw [rvLik_same xs k x HXX.out, ← HW6.out] at h
    exact h
   have hB6 : Below w.heap.size w w6 := by
    rw [HW6.out]
    exact below_setCells hgb _ _ _ hB5
   unfold rcLik at HW6
   clear hB5 HO5
   have i0 : (0 : Int) ≤ (k : Int) := by omega
   have i1 : (k : Int) < (xs.length : Int) := by omega
   go_wp2_with (first | (refine wpList_store_to rfl 125 _ _ rfl g (k * 2) #[.string x.select, .int .i64 x.weight] (by first | rfl | (simp [go_sem]; done)) rfl HT5.out isz_Lik (by simp [Value.oneCell']) w6 HW6.out ?_))
   go_roundw
   case rel => exact ⟨k + 1, by omega, by go_num, HO6, hB6⟩
   case measure => simp [intOf]; omega
  ·have hke : k = xs.length := by omega
   subst hke
   go_wp2_with fail
   go_ret
   exact ⟨g, q, rfl, HO.out, hB⟩

theorem eachLik_any (xs : List Lik) (a : Option Addr) (cap lo : Nat) (w : World) (hin : SliceC LikC 2 lo w a xs) (hsm : xs.length ≤ 1048576) (hz : SzLik xs 1048576) :
  Calls Tryz.prog 107 #[.slice a xs.length cap, .func (.func 108) #[] #[]] w fun e w' => ∃ g q, e = .returned (.slice g xs.length q) ∧ w'.ownsRow w.heap.size 125 2 (.slice g xs.length q) xs.length (rvLik xs) ∧ Below w.heap.size w w' := by
 cases a with
 | none =>
  have h0 : xs = [] := List.length_eq_zero_iff.1 (hin.nilD rfl)
  subst h0
  refine (eanLik_any _ cap w).mono ?_
  rintro e w1 ⟨rfl, hb⟩
  exact ⟨none, 0, rfl, World.ownsRow_nil _ _ _ _, hb⟩
 | some ad =>
  refine (eaLik_any xs ad cap lo w hin hsm hz).mono ?_
  rintro e w1 ⟨g, q, rfl, hO, hb⟩
  exact ⟨some ⟨g, 0, none⟩, q, rfl, hO, hb⟩

set_option maxHeartbeats 1000000 in
set_option maxRecDepth 100000 in
theorem clSvc_any (xs : List Svc) (ad : Addr) (cap lo : Nat) (w : World) (hin : SliceC SvcC 2 lo w (some ad) xs) (hsm : xs.length ≤ 1048576) :
  Calls Tryz.prog 105 #[.slice (some ad) xs.length cap] w fun e w' => ∃ g c, e = .returned (.slice (some ⟨g, 0, none⟩) xs.length c) ∧ w'.ownsRow w.heap.size 94 2 (.slice (some ⟨g, 0, none⟩) xs.length c) xs.length (rvSvc xs) ∧ Below w.heap.size w w' := by
 obtain ⟨i0, hi, hz0, hz1, hz2⟩ := info_parts info_Svc
 have q22 : ∀ (w : World) (a : Option Addr) (n c n' c' : Nat), (binOp .eql 38 (.slice a n c) (.slice none n' c')).run Tryz.prog w = .ok (.bool a.isNone) w := fun w a n c n' c' => Lib.run_eql_slice_nil w _ _ a n c n' c' Tryz.underlying38
 have HS : Hid (∀ j u, (rvSvc xs)[j]? = some u → w.cell? (ad.add j) = some u) := newsOSvc hin ad rfl
 clear hin
 go_enter Tryz.func105, Tryz.ntmps105
 go_wp2_with (at_builtin; refine wpList_append_own _ rfl _ _ 38 rfl w.heap.size 94 i0 _ 2 24 Tryz.underlying38 hi hz0 hz1 hz2 rfl (by decide) _ _ _ rfl (World.ownsRow_made w #[] 0 nL (Nat.zero_le _) rfl) ad xs.length _ (rvSvc xs) rfl (by rw [rvSvc_len]) (fun j u hj => Lib.cell?_alloc_some _ (HS.out j u hj)) (rvSvc_one xs) (by unfold maxLen; omega) (by omega) (by simp) ?_; intro v' w1 hown hgrow hnil)
 have hv : v' ≠ .slice none 0 0 := fun e => by have := (hnil.1 e).1; cases this
 have hown' : w1.ownsRow w.heap.size 94 2 v' xs.length (rvSvc xs) := by simpa using hown
 obtain ⟨g, c, rfl⟩ := rowf hown' hv
 have HO := iH hown'
 have hB : Below w.heap.size w w1 := ((Below.refl _ w).alloc nL _).grown hgrow (by simp) (by intro k hk; cases hk; exact Nat.le_refl _)
 clear hown hgrow hnil hv hown'
 go_wp2_with fail
 go_ret
 exact ⟨g, c, rfl, HO.out, hB⟩

set_option maxHeartbeats 1000000 in
theorem clnSvc_any (cap : Nat) (w : World) :
  Calls Tryz.prog 105 #[.slice none 0 cap] w fun e w' => e = .returned (.slice none 0 0) ∧ Below w.heap.size w w' := by
 have q22 : ∀ (w : World) (a : Option Addr) (n c n' c' : Nat), (binOp .eql 38 (.slice a n c) (.slice none n' c')).run Tryz.prog w = .ok (.bool a.isNone) w := fun w a n c n' c' => Lib.run_eql_slice_nil w _ _ a n c n' c' Tryz.underlying38
 go_enter Tryz.func105, Tryz.ntmps105
 go_wp2_with fail
 go_ret
 exact ⟨rfl, Below.refl _ _⟩

set_option maxHeartbeats 1000000 in
set_option maxRecDepth 100000 in
theorem eanSvc_any (f : Value) (cap : Nat) (w : World) :
  Calls Tryz.prog 68 #[.slice none 0 cap, f] w fun e w' => e = .returned (.slice none 0 0) ∧ Below w.heap.size w w' := by
 go_enter Tryz.func68, Tryz.ntmps68
 go_wp2_with fail
 refine (clnSvc_any cap _).mono ?_
 rintro e w1 ⟨rfl, hb⟩
 have HB := iH hb
 clear hb
 go_wp2_with fail
 go_loopw [11] (fun i wr => i = .int .i64 0 ∧ Below w.heap.size w wr) (fun i _ => 0)
 case atStart => exact ⟨rfl, HB.out⟩
 case round =>
  obtain ⟨rfl, hB⟩ := hrel
  go_wp2_with fail
  go_ret
  exact ⟨rfl, hB⟩

set_option maxHeartbeats 4000000 in
set_option maxRecDepth 100000 in
theorem eaSvc_any (xs : List Svc) (ad : Addr) (cap lo : Nat) (w : World) (hin : SliceC SvcC 2 lo w (some ad) xs) (hsm : xs.length ≤ 1048576) (hz : SzSvc xs 1048576) :
  Calls Tryz.prog 68 #[.slice (some ad) xs.length cap, .func (.func 69) #[] #[]] w fun e w' => ∃ g q, e = .returned (.slice (some ⟨g, 0, none⟩) xs.length q) ∧ w'.ownsRow w.heap.size 94 2 (.slice (some ⟨g, 0, none⟩) xs.length q) xs.length (rvSvc xs) ∧ Below w.heap.size w w' := by
 have HI := iH hin
 have HZ := iH hz
 clear hin hz
 go_enter Tryz.func68, Tryz.ntmps68
 go_wp2_with fail
 refine (clSvc_any xs ad cap lo _ HI.out hsm).mono ?_
 rintro e w1 ⟨g, q, rfl, hO1, hB1⟩
 have HO1 := iH hO1
 clear hO1
 go_wp2_with fail
 go_loopw [11] (fun i wr => ∃ k : Nat, k ≤ xs.length ∧ i = .int .i64 k ∧ Hid (wr.ownsRow w.heap.size 94 2 (.slice (some ⟨g, 0, none⟩) xs.length q) xs.length (rvSvc xs)) ∧ Below w.heap.size w wr) (fun i _ => xs.length - (intOf i).toNat)
 case atStart => exact ⟨0, Nat.zero_le _, rfl, HO1, hB1⟩
 case round =>
  clear HO1 hB1
  obtain ⟨k, hk, rfl, HO, hB⟩ := hrel
  by_cases hlt : k < xs.length
  ·obtain ⟨x, hx⟩ : ∃ x, xs[k]? = some x := ⟨xs[k], List.getElem?_eq_getElem hlt⟩
   have HXX := iH hx
   have Z := iH (HZ.out x (List.mem_of_getElem? hx))
   have hgl : g < wr.heap.size := (HO.out.lt g rfl).2
   have hgb : w.heap.size ≤ g := rowb HO.out
   have HRA : Hid (wr.rangeAt g (k * 2) [.string x.name, .int .i64 x.spare]) := fun j v hv => by
    have hj : j < 2 := lt_of_some hv
    have h1 := HO.out.cellAt (k * 2 + j) (by omega)
    rw [rvSvc_at _ k x j hx hj] at h1
    exact h1.trans hv
   clear hx
   have hza : Blk wr.heap.size #[.string ⟨#[]⟩, .int .i64 0] 94 (wr.alloc (Obj.cells #[.string ⟨#[]⟩, .int .i64 0] 94)) := Blk.alloc _ _ _
   have HTS : Hid ((wr.alloc (Obj.cells #[.string ⟨#[]⟩, .int .i64 0] 94)).there wr.heap.size 0 2) := hza.there
   obtain ⟨w4, HW4⟩ : ∃ w4, Hid (w4 = (wr.alloc (Obj.cells #[.string ⟨#[]⟩, .int .i64 0] 94)).setCells wr.heap.size 0 [.string x.name, .int .i64 x.spare]) := ⟨_, rfl⟩
   have HK4 : Hid (Blk wr.heap.size #[.string x.name, .int .i64 x.spare] 94 w4) := by
    show Blk _ _ _ _
    rw [HW4.out]
    exact hza.setAll #[.string x.name, .int .i64 x.spare] rfl
   have hbx : Below wr.heap.size wr w4 := by
    rw [HW4.out]
    exact below_setCells nL _ _ _ ((Below.refl _ wr).alloc nL _)
   have hB4 : Below w.heap.size w w4 := hB.trans (hbx.mono hB.size)
   have HO4 := iH (ownsRow_below HO.out hbx)
   clear hza hbx HO hB
   go_upto_region 5 with (first | (refine wpList_load_mid rfl 94 _ rfl g (k * 2) (by first | rfl | (simp [go_sem]; done)) [.string x.name, .int .i64 x.spare] _ HRA.out Tryz.underlying94 rfl isz_Svc ?_) | (refine wpList_store_to rfl 94 _ _ rfl wr.heap.size 0 #[.string x.name, .int .i64 x.spare] rfl rfl HTS.out isz_Svc (by simp [Value.oneCell']) w4 HW4.out ?_))
   clear HRA HTS HW4
   go_wp2_with (first | (refine wpList_load_mid rfl 94 _ rfl wr.heap.size 0 (by first | rfl | (simp [go_sem]; done)) [.string x.name, .int .i64 x.spare] _ HK4.out.rangeA Tryz.underlying94 rfl isz_Svc ?_))
   refine (nwSvc_any x _ Z.out).mono ?_
   rintro e w5 ⟨rfl, hb5⟩
   have HO5 := iH (ownsRow_below HO4.out hb5)
   have hB5 := hB4.trans (hb5.mono hB4.size)
   clear hb5 hB4 HO4 HK4
   have HT5 : Hid (w5.there g (k * 2) 2) := ownsRow_there HO5.out (by rw [rvSvc_len]; omega)
   obtain ⟨w6, HW6⟩ : ∃ w6, Hid (w6 = w5.setCells g (k * 2) (rcSvc x)) := ⟨_, rfl⟩
   have HO6 : Hid (w6.ownsRow w.heap.size 94 2 (.slice (some ⟨g, 0, none⟩) xs.length q) xs.length (rvSvc xs)) := by
    have h := ownsRow_run (rcSvc x) _ (k * 2) _ HO5.out
    rw [rvSvc_same xs k x HXX.out, ← HW6.out] at h
    exact h
   have hB6 : Below w.heap.size w w6 := by
    rw [HW6.out]
    exact below_setCells hgb _ _ _ hB5
   unfold rcSvc at HW6
   clear hB5 HO5
   have i0 : (0 : Int) ≤ (k : Int) := by omega
   have i1 : (k : Int) < (xs.length : Int) := by omega
   go_wp2_with (first | (refine wpList_store_to rfl 94 _ _ rfl g (k * 2) #[.string x.name, .int .i64 x.spare] (by first | rfl | (simp [go_sem]; done)) rfl HT5.out isz_Svc (by simp [Value.oneCell']) w6 HW6.out ?_))
   go_roundw
   case rel => exact ⟨k + 1, by omega, by go_num, HO6, hB6⟩
   case measure => simp [intOf]; omega
  ·have hke : k = xs.length := by omega
   subst hke
   go_wp2_with fail
   go_ret
   exact ⟨g, q, rfl, HO.out, hB⟩

theorem eachSvc_any (xs : List Svc) (a : Option Addr) (cap lo : Nat) (w : World) (hin : SliceC SvcC 2 lo w a xs) (hsm : xs.length ≤ 1048576) (hz : SzSvc xs 1048576) :
  Calls Tryz.prog 68 #[.slice a xs.length cap, .func (.func 69) #[] #[]] w fun e w' => ∃ g q, e = .returned (.slice g xs.length q) ∧ w'.ownsRow w.heap.size 94 2 (.slice g xs.length q) xs.length (rvSvc xs) ∧ Below w.heap.size w w' := by
 cases a with
 | none =>
  have h0 : xs = [] := List.length_eq_zero_iff.1 (hin.nilD rfl)
  subst h0
  refine (eanSvc_any _ cap w).mono ?_
  rintro e w1 ⟨rfl, hb⟩
  exact ⟨none, 0, rfl, World.ownsRow_nil _ _ _ _, hb⟩
 | some ad =>
  refine (eaSvc_any xs ad cap lo w hin hsm hz).mono ?_
  rintro e w1 ⟨g, q, rfl, hO, hb⟩
  exact ⟨some ⟨g, 0, none⟩, q, rfl, hO, hb⟩

set_option maxHeartbeats 1000000 in
set_option maxRecDepth 100000 in
theorem clStr_any (xs : List ByteArray) (ad : Addr) (cap lo : Nat) (w : World) (hin : SliceC StrC 1 lo w (some ad) xs) (hsm : xs.length ≤ 1048576) :
  Calls Tryz.prog 126 #[.slice (some ad) xs.length cap] w fun e w' => ∃ g c, e = .returned (.slice (some ⟨g, 0, none⟩) xs.length c) ∧ w'.ownsRow w.heap.size 9 1 (.slice (some ⟨g, 0, none⟩) xs.length c) xs.length (rvStr xs) ∧ Below w.heap.size w w' := by
 obtain ⟨i0, hi, hz0, hz1, hz2⟩ := info_parts info_str
 have q22 : ∀ (w : World) (a : Option Addr) (n c n' c' : Nat), (binOp .eql 27 (.slice a n c) (.slice none n' c')).run Tryz.prog w = .ok (.bool a.isNone) w := fun w a n c n' c' => Lib.run_eql_slice_nil w _ _ a n c n' c' Tryz.underlying27
 have HS : Hid (∀ j u, (rvStr xs)[j]? = some u → w.cell? (ad.add j) = some u) := newsOStr hin ad rfl
 clear hin
 go_enter Tryz.func126, Tryz.ntmps126
 go_wp2_with (at_builtin; refine wpList_append_own _ rfl _ _ 27 rfl w.heap.size 9 i0 _ 1 16 Tryz.underlying27 hi hz0 hz1 hz2 rfl (by decide) _ _ _ rfl (World.ownsRow_made w #[] 0 nL (Nat.zero_le _) rfl) ad xs.length _ (rvStr xs) rfl (by rw [rvStr_len]) (fun j u hj => Lib.cell?_alloc_some _ (HS.out j u hj)) (rvStr_one xs) (by unfold maxLen; omega) (by omega) (by simp) ?_; intro v' w1 hown hgrow hnil)
 have hv : v' ≠ .slice none 0 0 := fun e => by have := (hnil.1 e).1; cases this
 have hown' : w1.ownsRow w.heap.size 9 1 v' xs.length (rvStr xs) := by simpa using hown
 obtain ⟨g, c, rfl⟩ := rowf hown' hv
 have HO := iH hown'
 have hB : Below w.heap.size w w1 := ((Below.refl _ w).alloc nL _).grown hgrow (by simp) (by intro k hk; cases hk; exact Nat.le_refl _)
 clear hown hgrow hnil hv hown'
 go_wp2_with fail
 go_ret
 exact ⟨g, c, rfl, HO.out, hB⟩

set_option maxHeartbeats 1000000 in
theorem clnStr_any (cap : Nat) (w : World) :
  Calls Tryz.prog 126 #[.slice none 0 cap] w fun e w' => e = .returned (.slice none 0 0) ∧ Below w.heap.size w w' := by
 have q22 : ∀ (w : World) (a : Option Addr) (n c n' c' : Nat), (binOp .eql 27 (.slice a n c) (.slice none n' c')).run Tryz.prog w = .ok (.bool a.isNone) w := fun w a n c n' c' => Lib.run_eql_slice_nil w _ _ a n c n' c' Tryz.underlying27
 go_enter Tryz.func126, Tryz.ntmps126
 go_wp2_with fail
 go_ret
 exact ⟨rfl, Below.refl _ _⟩

set_option maxHeartbeats 1000000 in
set_option maxRecDepth 100000 in
theorem eanStr_any (f : Value) (cap : Nat) (w : World) :
  Calls Tryz.prog 104 #[.slice none 0 cap, f] w fun e w' => e = .returned (.slice none 0 0) ∧ Below w.heap.size w w' := by
 go_enter Tryz.func104, Tryz.ntmps104
 go_wp2_with fail
 refine (clnStr_any cap _).mono ?_
 rintro e w1 ⟨rfl, hb⟩
 have HB := iH hb
 clear hb
 go_wp2_with fail
 go_loopw [11] (fun i wr => i = .int .i64 0 ∧ Below w.heap.size w wr) (fun i _ => 0)
 case atStart => exact ⟨rfl, HB.out⟩
 case round =>
  obtain ⟨rfl, hB⟩ := hrel
  go_wp2_with fail
  go_ret
  exact ⟨rfl, hB⟩

set_option maxHeartbeats 4000000 in
set_option maxRecDepth 100000 in
theorem eaStr_any (xs : List ByteArray) (ad : Addr) (cap lo : Nat) (w : World) (hin : SliceC StrC 1 lo w (some ad) xs) (hsm : xs.length ≤ 1048576) (hz : SzStr xs 1048576) :
  Calls Tryz.prog 104 #[.slice (some ad) xs.length cap, .func (.func 103) #[] #[]] w fun e w' => ∃ g q, e = .returned (.slice (some ⟨g, 0, none⟩) xs.length q) ∧ w'.ownsRow w.heap.size 9 1 (.slice (some ⟨g, 0, none⟩) xs.length q) xs.length (rvStr xs) ∧ Below w.heap.size w w' := by
 have HI := iH hin
 have HZ := iH hz
 clear hin hz
 go_enter Tryz.func104, Tryz.ntmps104
 go_wp2_with fail
 refine (clStr_any xs ad cap lo _ HI.out hsm).mono ?_
 rintro e w1 ⟨g, q, rfl, hO1, hB1⟩
 have HO1 := iH hO1
 clear hO1
 go_wp2_with fail
 go_loopw [11] (fun i wr => ∃ k : Nat, k ≤ xs.length ∧ i = .int .i64 k ∧ Hid (wr.ownsRow w.heap.size 9 1 (.slice (some ⟨g, 0, none⟩) xs.length q) xs.length (rvStr xs)) ∧ Below w.heap.size w wr) (fun i _ => xs.length - (intOf i).toNat)
 case atStart => exact ⟨0, Nat.zero_le _, rfl, HO1, hB1⟩
 case round =>
  clear HO1 hB1
  obtain ⟨k, hk, rfl, HO, hB⟩ := hrel
  by_cases hlt : k < xs.length
  ·obtain ⟨x, hx⟩ : ∃ x, xs[k]? = some x := ⟨xs[k], List.getElem?_eq_getElem hlt⟩
   have Z := iH (HZ.out x (List.mem_of_getElem? hx))
   have hgl : g < wr.heap.size := (HO.out.lt g rfl).2
   have hgb : w.heap.size ≤ g := rowb HO.out
   have HSE : Hid ((rvStr xs).set k (.string x) = rvStr xs) := by
    show _ = _
    refine List.ext_getElem? (fun j => ?_)
    by_cases e : k = j
    ·subst e
     rw [List.getElem?_set_self (by simpa using hlt), List.getElem?_map, hx]
     rfl
    ·rw [List.getElem?_set_ne e]
   have c0 : wr.cell? ⟨g, k, none⟩ = some (.string x) := by
    rw [HO.out.cellAt k (by omega), List.getElem?_map, hx]
    rfl
   clear hx
   have i0 : (0 : Int) ≤ (k : Int) := by omega
   have i1 : (k : Int) < (xs.length : Int) := by omega
   go_upto_region 5 with fail
   clear c0
   go_wp2_with fail
   refine (cl3_any x _ Z.out).mono ?_
   rintro e w5 ⟨rfl, hb5⟩
   have HO5 := iH (ownsRow_below HO.out hb5)
   have hB5 := hB.trans (hb5.mono hB.size)
   have c5 : w5.cell? ⟨g, k, none⟩ = some ((rvStr xs)[k]'(by simpa using hlt)) := (HO5.out.cellAt k (by omega)).trans (List.getElem?_eq_getElem (by simpa using hlt))
   have f5 := HO5.out.frozenAt k
   have HO6 : Hid ((w5.setCell ⟨g, k, none⟩ (.string x)).ownsRow w.heap.size 9 1 (.slice (some ⟨g, 0, none⟩) xs.length q) xs.length (rvStr xs)) := by
    have h := (HO5.out.stored k (.string x)).1
    rw [HSE.out] at h
    exact h
   have hB6 : Below w.heap.size w (w5.setCell ⟨g, k, none⟩ (.string x)) := hB5.setCell (p := ⟨g, k, none⟩) hgb _
   clear hb5 hB HO HO5 hB5
   go_wp2_with fail
   go_roundw
   case rel => exact ⟨k + 1, by omega, by go_num, HO6, hB6⟩
   case measure => simp [intOf]; omega
  ·have hke : k = xs.length := by omega
   subst hke
   go_wp2_with fail
   go_ret
   exact ⟨g, q, rfl, HO.out, hB⟩

theorem eachStr_any (xs : List ByteArray) (a : Option Addr) (cap lo : Nat) (w : World) (hin : SliceC StrC 1 lo w a xs) (hsm : xs.length ≤ 1048576) (hz : SzStr xs 1048576) :
  Calls Tryz.prog 104 #[.slice a xs.length cap, .func (.func 103) #[] #[]] w fun e w' => ∃ g q, e = .returned (.slice g xs.length q) ∧ w'.ownsRow w.heap.size 9 1 (.slice g xs.length q) xs.length (rvStr xs) ∧ Below w.heap.size w w' := by
 cases a with
 | none =>
  have h0 : xs = [] := List.length_eq_zero_iff.1 (hin.nilD rfl)
  subst h0
  refine (eanStr_any _ cap w).mono ?_
  rintro e w1 ⟨rfl, hb⟩
  exact ⟨none, 0, rfl, World.ownsRow_nil _ _ _ _, hb⟩
 | some ad =>
  refine (eaStr_any xs ad cap lo w hin hsm hz).mono ?_
  rintro e w1 ⟨g, q, rfl, hO, hb⟩
  exact ⟨some ⟨g, 0, none⟩, q, rfl, hO, hb⟩

end Go.Proofs.YtihnjndnkgnmaaaGreat
