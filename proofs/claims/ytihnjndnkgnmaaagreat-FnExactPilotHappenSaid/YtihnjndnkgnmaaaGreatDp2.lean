import Derived.Test.YtihnjndnkgnmaaaGreatJ4
import Derived.Test.YtihnjndnkgnmaaaGreatDp1
import Derived.Deep.RegionHeld3
namespace Go.Proofs.YtihnjndnkgnmaaaGreat
open Go.RowKit

theorem ownsRow_kD {base : Nat} {e : TypeId} {size : Nat} {v : Value} {n : Nat} {xs : List Value} {w : World} (h : w.ownsRow base e size v n xs) (a : Addr) (ha : a.block < base) (u : Value) : (w.setCell a u).ownsRow base e size v n xs := by
 refine ⟨h.1, ?_⟩
 rcases h.2 with h1 | ⟨g, cap, cur, h1, h2, h3, h4⟩
 ·exact .inl h1
 ·exact .inr ⟨g, cap, cur, h1, h2, (Below.heap_setCell w a u g (by omega)).trans h3, h4⟩
theorem ownsRow_ksD {base : Nat} {e : TypeId} {size : Nat} {v : Value} {n : Nat} {xs : List Value} {b : Nat} (hb : b < base) : ∀ (vs : List Value) (o : Nat) (w : World), w.ownsRow base e size v n xs → (w.setCells b o vs).ownsRow base e size v n xs
 | [], _, _, h => h
 | u :: r, o, _, h => ownsRow_ksD hb r (o + 1) _ (ownsRow_kD h ⟨b, o, none⟩ hb u)
theorem own_mono2 {base base' : Nat} {e : TypeId} {size : Nat} {v : Value} {n : Nat} {xs : List Value} {w : World} (h : w.ownsRow base e size v n xs) (hb : base' ≤ base) : w.ownsRow base' e size v n xs := by
 refine ⟨h.1, ?_⟩
 rcases h.2 with h1 | ⟨g, cap, cur, h1, h2, h3⟩
 ·exact .inl h1
 ·exact .inr ⟨g, cap, cur, h1, Nat.le_trans hb h2, h3⟩

set_option maxHeartbeats 4000000 in
set_option maxRecDepth 100000 in
theorem nwBrt_any (x : Brt) (a2 : Option Addr) (c2 lo : Nat) (w : World) (n2 : SliceC StrC 1 lo w a2 x.marks) (hl : x.marks.length ≤ 1048576) (hz : SzStr x.marks 1048576) (z0 : x.name.size ≤ 1048576) (z1 : x.zone.size ≤ 1048576) :
  Calls Tryz.prog 67 #[.agg #[.string x.name, .string x.zone, .slice a2 x.marks.length c2, .int .i64 x.room, .int .i64 x.hold, .bool x.closed]] w fun e w' => ∃ g q, e = .returned (.agg #[.string x.name, .string x.zone, .slice g x.marks.length q, .int .i64 x.room, .int .i64 x.hold, .bool x.closed]) ∧ w'.ownsRow w.heap.size 9 1 (.slice g x.marks.length q) x.marks.length (rvStr x.marks) ∧ Below w.heap.size w w' := by
 have HN2 := iH n2
 have HSZ := iH hz
 clear n2 hz
 have hB3 : Below w.heap.size w ((w.alloc (Obj.cells #[.string x.name, .string x.zone, .slice a2 x.marks.length c2, .int .i64 x.room, .int .i64 x.hold, .bool x.closed] 45)).alloc (Obj.cells #[.string ⟨#[]⟩, .string ⟨#[]⟩, .slice none 0 0, .int .i64 0, .int .i64 0, .bool false] 45)) := by go_grown
 have h1 : Blk w.heap.size #[.string x.name, .string x.zone, .slice a2 x.marks.length c2, .int .i64 x.room, .int .i64 x.hold, .bool x.closed] 45 (w.alloc (Obj.cells #[.string x.name, .string x.zone, .slice a2 x.marks.length c2, .int .i64 x.room, .int .i64 x.hold, .bool x.closed] 45)) := Blk.alloc _ _ _
 have HX : Hid (Blk w.heap.size #[.string x.name, .string x.zone, .slice a2 x.marks.length c2, .int .i64 x.room, .int .i64 x.hold, .bool x.closed] 45 ((w.alloc (Obj.cells #[.string x.name, .string x.zone, .slice a2 x.marks.length c2, .int .i64 x.room, .int .i64 x.hold, .bool x.closed] 45)).alloc (Obj.cells #[.string ⟨#[]⟩, .string ⟨#[]⟩, .slice none 0 0, .int .i64 0, .int .i64 0, .bool false] 45))) := h1.below ((Below.refl _ _).alloc nL _) h1.lt
 have HZ : Hid (Blk (w.heap.size + 1) #[.string ⟨#[]⟩, .string ⟨#[]⟩, .slice none 0 0, .int .i64 0, .int .i64 0, .bool false] 45 ((w.alloc (Obj.cells #[.string x.name, .string x.zone, .slice a2 x.marks.length c2, .int .i64 x.room, .int .i64 x.hold, .bool x.closed] 45)).alloc (Obj.cells #[.string ⟨#[]⟩, .string ⟨#[]⟩, .slice none 0 0, .int .i64 0, .int .i64 0, .bool false] 45))) := by
  have := Blk.alloc (w.alloc (Obj.cells #[.string x.name, .string x.zone, .slice a2 x.marks.length c2, .int .i64 x.room, .int .i64 x.hold, .bool x.closed] 45)) #[.string ⟨#[]⟩, .string ⟨#[]⟩, .slice none 0 0, .int .i64 0, .int .i64 0, .bool false] 45
  show Blk _ _ _ _
  simpa using this
 clear h1
 go_enter Tryz.func67, Tryz.ntmps67
 go_upto_region 1 with fail
 generalize ((w.alloc (Obj.cells #[.string x.name, .string x.zone, .slice a2 x.marks.length c2, .int .i64 x.room, .int .i64 x.hold, .bool x.closed] 45)).alloc (Obj.cells #[.string ⟨#[]⟩, .string ⟨#[]⟩, .slice none 0 0, .int .i64 0, .int .i64 0, .bool false] 45)) = w3 at *
 refine wp_region_held_drew (S := fun wy => Blk w.heap.size #[.string x.name, .string x.zone, .slice a2 x.marks.length c2, .int .i64 x.room, .int .i64 x.hold, .bool x.closed] 45 wy ∧ Blk (w.heap.size + 1) #[.string ⟨#[]⟩, .string ⟨#[]⟩, .slice none 0 0, .int .i64 0, .int .i64 0, .bool false] 45 wy) (by kernel_rfl) ⟨HX.out.drew, HZ.out.drew⟩ (fun hS => ?_)
 refine tz 0 3 (.pointer (some ⟨w.heap.size, 0, none⟩)) rfl hS ?_
 simp only [pA,pB,pC,pD]
 refine ty 1 ⟨some 4, _, _, _, _, none⟩ (.string x.name) rfl (by rfl) ?_ hS ?_
 ·intro wy hy
  have h0 := hy.1.cell (o := 0) (v := .string x.name) rfl
  clear hy
  go_simp
 simp only [pA,pB,pC,pD]
 refine tz 3 6 (.pointer (some ⟨w.heap.size, 1, none⟩)) rfl hS ?_
 simp only [pA,pB,pC,pD]
 refine ty 4 ⟨some 7, _, _, _, _, none⟩ (.string x.zone) rfl (by rfl) ?_ hS ?_
 ·intro wy hy
  have h0 := hy.1.cell (o := 1) (v := .string x.zone) rfl
  clear hy
  go_simp
 simp only [pA,pB,pC,pD]
 refine rd1 2 ⟨some 5, _, _, _, _, none⟩ rfl (fun K hK => ?_)
 go_simp
 refine (cl3_any x.name _ z0).mono ?_
 rintro e w4 ⟨rfl, hb4⟩
 have hB4 := hB3.trans ((((Below.refl w3.heap.size w3).drew).trans hb4).mono hB3.size)
 refine hK.out _ _ ⟨hS.1.below hb4 hS.1.lt, hS.2.below hb4 hS.2.lt⟩ (fun hS => ?_)
 clear hK K
 clear hb4
 refine tz 6 9 (.pointer (some ⟨w.heap.size, 0, none⟩)) rfl hS ?_
 simp only [pA,pB,pC,pD]
 refine rd1 5 ⟨some 8, _, _, _, _, none⟩ rfl (fun K hK => ?_)
 go_simp
 refine (cl3_any x.zone _ z1).mono ?_
 rintro e w5 ⟨rfl, hb5⟩
 have hB5 := hB4.trans (hb5.mono hB4.size)
 refine hK.out _ _ ⟨hS.1.below hb5 hS.1.lt, hS.2.below hb5 hS.2.lt⟩ (fun hS => ?_)
 clear hK K
 clear hb5
 have kk : w5.cell? ⟨w.heap.size, 0, none⟩ = some (.string x.name) := hS.1.cell rfl
 have ff : w5.frozen? ⟨w.heap.size, 0, none⟩ = false := hS.1.frozen _
 refine rd1 7 ⟨none, _, _, _, _, none⟩ rfl (fun K hK => ?_)
 go_simp
 have hX6 : Blk w.heap.size #[.string x.name, .string x.zone, .slice a2 x.marks.length c2, .int .i64 x.room, .int .i64 x.hold, .bool x.closed] 45 (w5.setCell ⟨w.heap.size, 0, none⟩ (.string x.name)) := hS.1.set 0 _
 have hZ6 : Blk (w.heap.size + 1) #[.string ⟨#[]⟩, .string ⟨#[]⟩, .slice none 0 0, .int .i64 0, .int .i64 0, .bool false] 45 (w5.setCell ⟨w.heap.size, 0, none⟩ (.string x.name)) := hS.2.other (by simp) _
 have hB6 : Below w.heap.size w (w5.setCell ⟨w.heap.size, 0, none⟩ (.string x.name)) := hB5.setCell (p := ⟨w.heap.size, 0, none⟩) nL _
 refine hK.out _ _ ⟨hX6, hZ6⟩ (fun hS => ?_)
 clear hK K kk ff hX6 hZ6
 generalize w5.setCell ⟨w.heap.size, 0, none⟩ (.string x.name) = w6 at *
 refine tz 8 10 (.pointer (some ⟨w.heap.size, 1, none⟩)) rfl hS ?_
 simp only [pA,pB,pC,pD]
 have kk : w6.cell? ⟨w.heap.size, 1, none⟩ = some (.string x.zone) := hS.1.cell rfl
 have ff : w6.frozen? ⟨w.heap.size, 1, none⟩ = false := hS.1.frozen _
 refine rd1 9 ⟨none, _, _, _, _, none⟩ rfl (fun K hK => ?_)
 go_simp
 have hX7 : Blk w.heap.size #[.string x.name, .string x.zone, .slice a2 x.marks.length c2, .int .i64 x.room, .int .i64 x.hold, .bool x.closed] 45 (w6.setCell ⟨w.heap.size, 1, none⟩ (.string x.zone)) := hS.1.set 1 _
 have hZ7 : Blk (w.heap.size + 1) #[.string ⟨#[]⟩, .string ⟨#[]⟩, .slice none 0 0, .int .i64 0, .int .i64 0, .bool false] 45 (w6.setCell ⟨w.heap.size, 1, none⟩ (.string x.zone)) := hS.2.other (by simp) _
 have hB7 : Below w.heap.size w (w6.setCell ⟨w.heap.size, 1, none⟩ (.string x.zone)) := hB6.setCell (p := ⟨w.heap.size, 1, none⟩) nL _
 refine hK.out _ _ ⟨hX7, hZ7⟩ (fun hS => ?_)
 clear hK K kk ff hX7 hZ7
 generalize w6.setCell ⟨w.heap.size, 1, none⟩ (.string x.zone) = w7 at *
 have HX7 := iH hS.1
 have HZ7 := iH hS.2
 refine td ?_
 clear hS
 have k2 : w7.cell? ⟨w.heap.size, 2, none⟩ = some (.slice a2 x.marks.length c2) := HX7.out.cell rfl
 go_wp2_with fail
 refine (eachStr_any x.marks a2 c2 lo _ (HN2.out.below StrC.holds hB7 nL) hl HSZ.out).mono ?_
 rintro e w8 ⟨g, q, rfl, hO8, hb8⟩
 have HO8 := iH hO8
 have HX8 := iH (HX7.out.below hb8 HX7.out.lt)
 have HZ8 := iH (HZ7.out.below hb8 HZ7.out.lt)
 have hB8 := hB7.trans (hb8.mono hB7.size)
 have hl7 : w.heap.size + 1 < w7.heap.size := HZ7.out.lt
 have c8 : w8.cell? ⟨w.heap.size, 2, none⟩ = some (.slice a2 x.marks.length c2) := HX8.out.cell rfl
 have f8 := HX8.out.frozen 2
 have HX9 : Hid (Blk w.heap.size #[.string x.name, .string x.zone, .slice g x.marks.length q, .int .i64 x.room, .int .i64 x.hold, .bool x.closed] 45 (w8.setCell ⟨w.heap.size, 2, none⟩ (.slice g x.marks.length q))) := HX8.out.set 2 _
 have HZ9 : Hid (Blk (w.heap.size + 1) #[.string ⟨#[]⟩, .string ⟨#[]⟩, .slice none 0 0, .int .i64 0, .int .i64 0, .bool false] 45 (w8.setCell ⟨w.heap.size, 2, none⟩ (.slice g x.marks.length q))) := HZ8.out.other (a := ⟨w.heap.size, 2, none⟩) (show w.heap.size + 1 ≠ w.heap.size by omega) _
 have hB9 : Below w.heap.size w (w8.setCell ⟨w.heap.size, 2, none⟩ (.slice g x.marks.length q)) := hB8.setCell (p := ⟨w.heap.size, 2, none⟩) nL _
 have HO9 : Hid ((w8.setCell ⟨w.heap.size, 2, none⟩ (.slice g x.marks.length q)).ownsRow w7.heap.size 9 1 (.slice g x.marks.length q) x.marks.length (rvStr x.marks)) := ownsRow_kD HO8.out _ (show w.heap.size < w7.heap.size by omega) _
 clear HX7 HZ7 hB7 hb8 hO8 k2
 go_upto_region 3 with fail
 clear c8 f8 HX8 HZ8 hB8 HO8
 generalize w8.setCell ⟨w.heap.size, 2, none⟩ (.slice g x.marks.length q) = w9 at *
 obtain ⟨wf, HE⟩ : ∃ wf, Hid (wf = w9.setCells (w.heap.size + 1) 0 [.string x.name, .string x.zone, .slice g x.marks.length q, .int .i64 x.room, .int .i64 x.hold, .bool x.closed]) := ⟨_, rfl⟩
 have HT : Hid (w9.there (w.heap.size + 1) 0 6) := HZ9.out.there
 have HR8 : Hid (wf.rangeAt (w.heap.size + 1) 0 [.string x.name, .string x.zone, .slice g x.marks.length q, .int .i64 x.room, .int .i64 x.hold, .bool x.closed]) := by
  show World.rangeAt _ _ _ _
  rw [HE.out]
  exact World.rangeAt_setCells_same _ _ _ _ HT.out
 have hBf : Below w.heap.size w wf := by
  rw [HE.out]
  exact below_setCells (by omega) _ _ _ hB9
 have HOf : Hid (wf.ownsRow w7.heap.size 9 1 (.slice g x.marks.length q) x.marks.length (rvStr x.marks)) := by
  show World.ownsRow _ _ _ _ _ _ _
  rw [HE.out]
  exact ownsRow_ksD hl7 _ _ _ HO9.out
 clear hB9 HZ9 HO9
 go_wp2_with (first | (refine wpList_load_mid rfl 45 _ rfl w.heap.size 0 rfl [.string x.name, .string x.zone, .slice g x.marks.length q, .int .i64 x.room, .int .i64 x.hold, .bool x.closed] _ HX9.out.rangeA Tryz.underlying45 rfl isz_Brt ?_) | (refine wpList_store_to rfl 45 _ _ rfl (w.heap.size + 1) 0 #[.string x.name, .string x.zone, .slice g x.marks.length q, .int .i64 x.room, .int .i64 x.hold, .bool x.closed] rfl rfl HT.out isz_Brt (by simp [Value.oneCell']) wf HE.out ?_))
 exact bodyPost_ret (results_cell_mid rfl _ _ (w.heap.size + 1) [.string x.name, .string x.zone, .slice g x.marks.length q, .int .i64 x.room, .int .i64 x.hold, .bool x.closed] _ rfl HR8.out Tryz.underlying45 rfl isz_Brt) rfl ⟨g, q, rfl, own_mono2 HOf.out (by omega), hBf⟩

set_option maxHeartbeats 4000000 in
set_option maxRecDepth 100000 in
theorem nwCpy_any (x : Cpy) (a2 : Option Addr) (c2 lo : Nat) (w : World) (n2 : SliceC LikC 2 lo w a2 x.likes) (hl : x.likes.length ≤ 1048576) (hz : SzLik x.likes 1048576) (z0 : x.name.size ≤ 1048576) (z1 : x.service.size ≤ 1048576) (z6 : x.select.size ≤ 1048576) (z9 : x.near.size ≤ 1048576) (z10 : x.fixed.size ≤ 1048576) (z11 : x.at_.size ≤ 1048576) :
  Calls Tryz.prog 71 #[.agg #[.string x.name, .string x.service, .int .i64 x.rank, .int .i64 x.born, .int .i64 x.room, .int .i64 x.hold, .string x.select, .slice a2 x.likes.length c2, .int .i64 x.apart, .string x.near, .string x.fixed, .string x.at_]] w fun e w' => ∃ g q, e = .returned (.agg #[.string x.name, .string x.service, .int .i64 x.rank, .int .i64 x.born, .int .i64 x.room, .int .i64 x.hold, .string x.select, .slice g x.likes.length q, .int .i64 x.apart, .string x.near, .string x.fixed, .string x.at_]) ∧ w'.ownsRow w.heap.size 125 2 (.slice g x.likes.length q) x.likes.length (rvLik x.likes) ∧ Below w.heap.size w w' := by
 have HN2 := iH n2
 have HSZ := iH hz
 clear n2 hz
 have hB3 : Below w.heap.size w ((w.alloc (Obj.cells #[.string x.name, .string x.service, .int .i64 x.rank, .int .i64 x.born, .int .i64 x.room, .int .i64 x.hold, .string x.select, .slice a2 x.likes.length c2, .int .i64 x.apart, .string x.near, .string x.fixed, .string x.at_] 48)).alloc (Obj.cells #[.string ⟨#[]⟩, .string ⟨#[]⟩, .int .i64 0, .int .i64 0, .int .i64 0, .int .i64 0, .string ⟨#[]⟩, .slice none 0 0, .int .i64 0, .string ⟨#[]⟩, .string ⟨#[]⟩, .string ⟨#[]⟩] 48)) := by go_grown
 have h1 : Blk w.heap.size #[.string x.name, .string x.service, .int .i64 x.rank, .int .i64 x.born, .int .i64 x.room, .int .i64 x.hold, .string x.select, .slice a2 x.likes.length c2, .int .i64 x.apart, .string x.near, .string x.fixed, .string x.at_] 48 (w.alloc (Obj.cells #[.string x.name, .string x.service, .int .i64 x.rank, .int .i64 x.born, .int .i64 x.room, .int .i64 x.hold, .string x.select, .slice a2 x.likes.length c2, .int .i64 x.apart, .string x.near, .string x.fixed, .string x.at_] 48)) := Blk.alloc _ _ _
 have HX : Hid (Blk w.heap.size #[.string x.name, .string x.service, .int .i64 x.rank, .int .i64 x.born, .int .i64 x.room, .int .i64 x.hold, .string x.select, .slice a2 x.likes.length c2, .int .i64 x.apart, .string x.near, .string x.fixed, .string x.at_] 48 ((w.alloc (Obj.cells #[.string x.name, .string x.service, .int .i64 x.rank, .int .i64 x.born, .int .i64 x.room, .int .i64 x.hold, .string x.select, .slice a2 x.likes.length c2, .int .i64 x.apart, .string x.near, .string x.fixed, .string x.at_] 48)).alloc (Obj.cells #[.string ⟨#[]⟩, .string ⟨#[]⟩, .int .i64 0, .int .i64 0, .int .i64 0, .int .i64 0, .string ⟨#[]⟩, .slice none 0 0, .int .i64 0, .string ⟨#[]⟩, .string ⟨#[]⟩, .string ⟨#[]⟩] 48))) := h1.below ((Below.refl _ _).alloc nL _) h1.lt
 have HZ : Hid (Blk (w.heap.size + 1) #[.string ⟨#[]⟩, .string ⟨#[]⟩, .int .i64 0, .int .i64 0, .int .i64 0, .int .i64 0, .string ⟨#[]⟩, .slice none 0 0, .int .i64 0, .string ⟨#[]⟩, .string ⟨#[]⟩, .string ⟨#[]⟩] 48 ((w.alloc (Obj.cells #[.string x.name, .string x.service, .int .i64 x.rank, .int .i64 x.born, .int .i64 x.room, .int .i64 x.hold, .string x.select, .slice a2 x.likes.length c2, .int .i64 x.apart, .string x.near, .string x.fixed, .string x.at_] 48)).alloc (Obj.cells #[.string ⟨#[]⟩, .string ⟨#[]⟩, .int .i64 0, .int .i64 0, .int .i64 0, .int .i64 0, .string ⟨#[]⟩, .slice none 0 0, .int .i64 0, .string ⟨#[]⟩, .string ⟨#[]⟩, .string ⟨#[]⟩] 48))) := by
  have := Blk.alloc (w.alloc (Obj.cells #[.string x.name, .string x.service, .int .i64 x.rank, .int .i64 x.born, .int .i64 x.room, .int .i64 x.hold, .string x.select, .slice a2 x.likes.length c2, .int .i64 x.apart, .string x.near, .string x.fixed, .string x.at_] 48)) #[.string ⟨#[]⟩, .string ⟨#[]⟩, .int .i64 0, .int .i64 0, .int .i64 0, .int .i64 0, .string ⟨#[]⟩, .slice none 0 0, .int .i64 0, .string ⟨#[]⟩, .string ⟨#[]⟩, .string ⟨#[]⟩] 48
  show Blk _ _ _ _
  simpa using this
 clear h1
 go_enter Tryz.func71, Tryz.ntmps71
 go_upto_region 1 with fail
 generalize ((w.alloc (Obj.cells #[.string x.name, .string x.service, .int .i64 x.rank, .int .i64 x.born, .int .i64 x.room, .int .i64 x.hold, .string x.select, .slice a2 x.likes.length c2, .int .i64 x.apart, .string x.near, .string x.fixed, .string x.at_] 48)).alloc (Obj.cells #[.string ⟨#[]⟩, .string ⟨#[]⟩, .int .i64 0, .int .i64 0, .int .i64 0, .int .i64 0, .string ⟨#[]⟩, .slice none 0 0, .int .i64 0, .string ⟨#[]⟩, .string ⟨#[]⟩, .string ⟨#[]⟩] 48)) = w3 at *
 have hba : Below w3.heap.size w3 (w3.alloc (Obj.cells #[.pointer (some ⟨w.heap.size, 0, none⟩), .pointer (some ⟨w.heap.size, 1, none⟩), .pointer (some ⟨w.heap.size, 6, none⟩), .pointer (some ⟨w.heap.size, 9, none⟩), .pointer (some ⟨w.heap.size, 10, none⟩), .pointer (some ⟨w.heap.size, 11, none⟩)] 144)) := (Below.refl _ _).alloc nL _
 have HP4 : Hid (Blk w3.heap.size #[.pointer (some ⟨w.heap.size, 0, none⟩), .pointer (some ⟨w.heap.size, 1, none⟩), .pointer (some ⟨w.heap.size, 6, none⟩), .pointer (some ⟨w.heap.size, 9, none⟩), .pointer (some ⟨w.heap.size, 10, none⟩), .pointer (some ⟨w.heap.size, 11, none⟩)] 144 (w3.alloc (Obj.cells #[.pointer (some ⟨w.heap.size, 0, none⟩), .pointer (some ⟨w.heap.size, 1, none⟩), .pointer (some ⟨w.heap.size, 6, none⟩), .pointer (some ⟨w.heap.size, 9, none⟩), .pointer (some ⟨w.heap.size, 10, none⟩), .pointer (some ⟨w.heap.size, 11, none⟩)] 144))) := Blk.alloc _ _ _
 have HX4 := iH (HX.out.below hba HX.out.lt)
 have HZ4 := iH (HZ.out.below hba HZ.out.lt)
 have hB4 := hB3.trans (hba.mono hB3.size)
 have hgp : w.heap.size + 1 < w3.heap.size := HZ.out.lt
 clear HX HZ hB3 hba
 go_upto_region 2 with fail
 generalize (w3.alloc (Obj.cells #[.pointer (some ⟨w.heap.size, 0, none⟩), .pointer (some ⟨w.heap.size, 1, none⟩), .pointer (some ⟨w.heap.size, 6, none⟩), .pointer (some ⟨w.heap.size, 9, none⟩), .pointer (some ⟨w.heap.size, 10, none⟩), .pointer (some ⟨w.heap.size, 11, none⟩)] 144)) = w4 at *
 generalize w3.heap.size = gp at *
 go_loopw [13] (fun i wr => ∃ k : Nat, k ≤ 6 ∧ i = .int .i64 k ∧ Hid (Blk w.heap.size #[.string x.name, .string x.service, .int .i64 x.rank, .int .i64 x.born, .int .i64 x.room, .int .i64 x.hold, .string x.select, .slice a2 x.likes.length c2, .int .i64 x.apart, .string x.near, .string x.fixed, .string x.at_] 48 wr) ∧ Hid (Blk (w.heap.size + 1) #[.string ⟨#[]⟩, .string ⟨#[]⟩, .int .i64 0, .int .i64 0, .int .i64 0, .int .i64 0, .string ⟨#[]⟩, .slice none 0 0, .int .i64 0, .string ⟨#[]⟩, .string ⟨#[]⟩, .string ⟨#[]⟩] 48 wr) ∧ Hid (Blk gp #[.pointer (some ⟨w.heap.size, 0, none⟩), .pointer (some ⟨w.heap.size, 1, none⟩), .pointer (some ⟨w.heap.size, 6, none⟩), .pointer (some ⟨w.heap.size, 9, none⟩), .pointer (some ⟨w.heap.size, 10, none⟩), .pointer (some ⟨w.heap.size, 11, none⟩)] 144 wr) ∧ Below w.heap.size w wr) (fun i _ => 6 - (intOf i).toNat)
 case atStart => exact ⟨0, by omega, rfl, HX4, HZ4, HP4, hB4⟩
 case round =>
  clear HX4 HZ4 HP4 hB4
  obtain ⟨k, hk, rfl, HX, HZ, HP, hB⟩ := hrel
  rcases (by omega : k = 0 ∨ k = 1 ∨ k = 2 ∨ k = 3 ∨ k = 4 ∨ k = 5 ∨ k = 6) with rfl | rfl | rfl | rfl | rfl | rfl | rfl
  ·have d0 : wr.cell? ⟨gp, 0, none⟩ = some (.pointer (some ⟨w.heap.size, 0, none⟩)) := HP.out.cell rfl
   have k0 : wr.cell? ⟨w.heap.size, 0, none⟩ = some (.string x.name) := HX.out.cell rfl
   go_wp2_with fail
   refine (cl3_any x.name _ z0).mono ?_
   rintro e w5 ⟨rfl, hb5⟩
   have HX5 := iH (HX.out.below hb5 HX.out.lt)
   have c5 : w5.cell? ⟨w.heap.size, 0, none⟩ = some (.string x.name) := HX5.out.cell rfl
   have f5 := HX5.out.frozen 0
   have HX6 : Hid (Blk w.heap.size #[.string x.name, .string x.service, .int .i64 x.rank, .int .i64 x.born, .int .i64 x.room, .int .i64 x.hold, .string x.select, .slice a2 x.likes.length c2, .int .i64 x.apart, .string x.near, .string x.fixed, .string x.at_] 48 (w5.setCell ⟨w.heap.size, 0, none⟩ (.string x.name))) := HX5.out.set 0 _
   have HZ6 : Hid (Blk (w.heap.size + 1) #[.string ⟨#[]⟩, .string ⟨#[]⟩, .int .i64 0, .int .i64 0, .int .i64 0, .int .i64 0, .string ⟨#[]⟩, .slice none 0 0, .int .i64 0, .string ⟨#[]⟩, .string ⟨#[]⟩, .string ⟨#[]⟩] 48 (w5.setCell ⟨w.heap.size, 0, none⟩ (.string x.name))) := (HZ.out.below hb5 HZ.out.lt).other (a := ⟨w.heap.size, 0, none⟩) (show w.heap.size + 1 ≠ w.heap.size by omega) _
   have HP6 : Hid (Blk gp #[.pointer (some ⟨w.heap.size, 0, none⟩), .pointer (some ⟨w.heap.size, 1, none⟩), .pointer (some ⟨w.heap.size, 6, none⟩), .pointer (some ⟨w.heap.size, 9, none⟩), .pointer (some ⟨w.heap.size, 10, none⟩), .pointer (some ⟨w.heap.size, 11, none⟩)] 144 (w5.setCell ⟨w.heap.size, 0, none⟩ (.string x.name))) := (HP.out.below hb5 HP.out.lt).other (a := ⟨w.heap.size, 0, none⟩) (show gp ≠ w.heap.size by omega) _
   have hB6 : Below w.heap.size w (w5.setCell ⟨w.heap.size, 0, none⟩ (.string x.name)) := (hB.trans (hb5.mono hB.size)).setCell (p := ⟨w.heap.size, 0, none⟩) nL _
   clear HX HZ HP hB hb5 d0 k0 HX5
   go_wp2_with fail
   go_roundw
   case rel => exact ⟨0 + 1, by omega, by go_num, HX6, HZ6, HP6, hB6⟩
   case measure => simp [intOf]
  ·have d0 : wr.cell? ⟨gp, 1, none⟩ = some (.pointer (some ⟨w.heap.size, 1, none⟩)) := HP.out.cell rfl
   have k0 : wr.cell? ⟨w.heap.size, 1, none⟩ = some (.string x.service) := HX.out.cell rfl
   go_wp2_with fail
   refine (cl3_any x.service _ z1).mono ?_
   rintro e w5 ⟨rfl, hb5⟩
   have HX5 := iH (HX.out.below hb5 HX.out.lt)
   have c5 : w5.cell? ⟨w.heap.size, 1, none⟩ = some (.string x.service) := HX5.out.cell rfl
   have f5 := HX5.out.frozen 1
   have HX6 : Hid (Blk w.heap.size #[.string x.name, .string x.service, .int .i64 x.rank, .int .i64 x.born, .int .i64 x.room, .int .i64 x.hold, .string x.select, .slice a2 x.likes.length c2, .int .i64 x.apart, .string x.near, .string x.fixed, .string x.at_] 48 (w5.setCell ⟨w.heap.size, 1, none⟩ (.string x.service))) := HX5.out.set 1 _
   have HZ6 : Hid (Blk (w.heap.size + 1) #[.string ⟨#[]⟩, .string ⟨#[]⟩, .int .i64 0, .int .i64 0, .int .i64 0, .int .i64 0, .string ⟨#[]⟩, .slice none 0 0, .int .i64 0, .string ⟨#[]⟩, .string ⟨#[]⟩, .string ⟨#[]⟩] 48 (w5.setCell ⟨w.heap.size, 1, none⟩ (.string x.service))) := (HZ.out.below hb5 HZ.out.lt).other (a := ⟨w.heap.size, 1, none⟩) (show w.heap.size + 1 ≠ w.heap.size by omega) _
   have HP6 : Hid (Blk gp #[.pointer (some ⟨w.heap.size, 0, none⟩), .pointer (some ⟨w.heap.size, 1, none⟩), .pointer (some ⟨w.heap.size, 6, none⟩), .pointer (some ⟨w.heap.size, 9, none⟩), .pointer (some ⟨w.heap.size, 10, none⟩), .pointer (some ⟨w.heap.size, 11, none⟩)] 144 (w5.setCell ⟨w.heap.size, 1, none⟩ (.string x.service))) := (HP.out.below hb5 HP.out.lt).other (a := ⟨w.heap.size, 1, none⟩) (show gp ≠ w.heap.size by omega) _
   have hB6 : Below w.heap.size w (w5.setCell ⟨w.heap.size, 1, none⟩ (.string x.service)) := (hB.trans (hb5.mono hB.size)).setCell (p := ⟨w.heap.size, 1, none⟩) nL _
   clear HX HZ HP hB hb5 d0 k0 HX5
   go_wp2_with fail
   go_roundw
   case rel => exact ⟨1 + 1, by omega, by go_num, HX6, HZ6, HP6, hB6⟩
   case measure => simp [intOf]
  ·have d0 : wr.cell? ⟨gp, 2, none⟩ = some (.pointer (some ⟨w.heap.size, 6, none⟩)) := HP.out.cell rfl
   have k0 : wr.cell? ⟨w.heap.size, 6, none⟩ = some (.string x.select) := HX.out.cell rfl
   go_wp2_with fail
   refine (cl3_any x.select _ z6).mono ?_
   rintro e w5 ⟨rfl, hb5⟩
   have HX5 := iH (HX.out.below hb5 HX.out.lt)
   have c5 : w5.cell? ⟨w.heap.size, 6, none⟩ = some (.string x.select) := HX5.out.cell rfl
   have f5 := HX5.out.frozen 6
   have HX6 : Hid (Blk w.heap.size #[.string x.name, .string x.service, .int .i64 x.rank, .int .i64 x.born, .int .i64 x.room, .int .i64 x.hold, .string x.select, .slice a2 x.likes.length c2, .int .i64 x.apart, .string x.near, .string x.fixed, .string x.at_] 48 (w5.setCell ⟨w.heap.size, 6, none⟩ (.string x.select))) := HX5.out.set 6 _
   have HZ6 : Hid (Blk (w.heap.size + 1) #[.string ⟨#[]⟩, .string ⟨#[]⟩, .int .i64 0, .int .i64 0, .int .i64 0, .int .i64 0, .string ⟨#[]⟩, .slice none 0 0, .int .i64 0, .string ⟨#[]⟩, .string ⟨#[]⟩, .string ⟨#[]⟩] 48 (w5.setCell ⟨w.heap.size, 6, none⟩ (.string x.select))) := (HZ.out.below hb5 HZ.out.lt).other (a := ⟨w.heap.size, 6, none⟩) (show w.heap.size + 1 ≠ w.heap.size by omega) _
   have HP6 : Hid (Blk gp #[.pointer (some ⟨w.heap.size, 0, none⟩), .pointer (some ⟨w.heap.size, 1, none⟩), .pointer (some ⟨w.heap.size, 6, none⟩), .pointer (some ⟨w.heap.size, 9, none⟩), .pointer (some ⟨w.heap.size, 10, none⟩), .pointer (some ⟨w.heap.size, 11, none⟩)] 144 (w5.setCell ⟨w.heap.size, 6, none⟩ (.string x.select))) := (HP.out.below hb5 HP.out.lt).other (a := ⟨w.heap.size, 6, none⟩) (show gp ≠ w.heap.size by omega) _
   have hB6 : Below w.heap.size w (w5.setCell ⟨w.heap.size, 6, none⟩ (.string x.select)) := (hB.trans (hb5.mono hB.size)).setCell (p := ⟨w.heap.size, 6, none⟩) nL _
   clear HX HZ HP hB hb5 d0 k0 HX5
   go_wp2_with fail
   go_roundw
   case rel => exact ⟨2 + 1, by omega, by go_num, HX6, HZ6, HP6, hB6⟩
   case measure => simp [intOf]
  ·have d0 : wr.cell? ⟨gp, 3, none⟩ = some (.pointer (some ⟨w.heap.size, 9, none⟩)) := HP.out.cell rfl
   have k0 : wr.cell? ⟨w.heap.size, 9, none⟩ = some (.string x.near) := HX.out.cell rfl
   go_wp2_with fail
   refine (cl3_any x.near _ z9).mono ?_
   rintro e w5 ⟨rfl, hb5⟩
   have HX5 := iH (HX.out.below hb5 HX.out.lt)
   have c5 : w5.cell? ⟨w.heap.size, 9, none⟩ = some (.string x.near) := HX5.out.cell rfl
   have f5 := HX5.out.frozen 9
   have HX6 : Hid (Blk w.heap.size #[.string x.name, .string x.service, .int .i64 x.rank, .int .i64 x.born, .int .i64 x.room, .int .i64 x.hold, .string x.select, .slice a2 x.likes.length c2, .int .i64 x.apart, .string x.near, .string x.fixed, .string x.at_] 48 (w5.setCell ⟨w.heap.size, 9, none⟩ (.string x.near))) := HX5.out.set 9 _
   have HZ6 : Hid (Blk (w.heap.size + 1) #[.string ⟨#[]⟩, .string ⟨#[]⟩, .int .i64 0, .int .i64 0, .int .i64 0, .int .i64 0, .string ⟨#[]⟩, .slice none 0 0, .int .i64 0, .string ⟨#[]⟩, .string ⟨#[]⟩, .string ⟨#[]⟩] 48 (w5.setCell ⟨w.heap.size, 9, none⟩ (.string x.near))) := (HZ.out.below hb5 HZ.out.lt).other (a := ⟨w.heap.size, 9, none⟩) (show w.heap.size + 1 ≠ w.heap.size by omega) _
   have HP6 : Hid (Blk gp #[.pointer (some ⟨w.heap.size, 0, none⟩), .pointer (some ⟨w.heap.size, 1, none⟩), .pointer (some ⟨w.heap.size, 6, none⟩), .pointer (some ⟨w.heap.size, 9, none⟩), .pointer (some ⟨w.heap.size, 10, none⟩), .pointer (some ⟨w.heap.size, 11, none⟩)] 144 (w5.setCell ⟨w.heap.size, 9, none⟩ (.string x.near))) := (HP.out.below hb5 HP.out.lt).other (a := ⟨w.heap.size, 9, none⟩) (show gp ≠ w.heap.size by omega) _
   have hB6 : Below w.heap.size w (w5.setCell ⟨w.heap.size, 9, none⟩ (.string x.near)) := (hB.trans (hb5.mono hB.size)).setCell (p := ⟨w.heap.size, 9, none⟩) nL _
   clear HX HZ HP hB hb5 d0 k0 HX5
   go_wp2_with fail
   go_roundw
   case rel => exact ⟨3 + 1, by omega, by go_num, HX6, HZ6, HP6, hB6⟩
   case measure => simp [intOf]
  ·have d0 : wr.cell? ⟨gp, 4, none⟩ = some (.pointer (some ⟨w.heap.size, 10, none⟩)) := HP.out.cell rfl
   have k0 : wr.cell? ⟨w.heap.size, 10, none⟩ = some (.string x.fixed) := HX.out.cell rfl
   go_wp2_with fail
   refine (cl3_any x.fixed _ z10).mono ?_
   rintro e w5 ⟨rfl, hb5⟩
   have HX5 := iH (HX.out.below hb5 HX.out.lt)
   have c5 : w5.cell? ⟨w.heap.size, 10, none⟩ = some (.string x.fixed) := HX5.out.cell rfl
   have f5 := HX5.out.frozen 10
   have HX6 : Hid (Blk w.heap.size #[.string x.name, .string x.service, .int .i64 x.rank, .int .i64 x.born, .int .i64 x.room, .int .i64 x.hold, .string x.select, .slice a2 x.likes.length c2, .int .i64 x.apart, .string x.near, .string x.fixed, .string x.at_] 48 (w5.setCell ⟨w.heap.size, 10, none⟩ (.string x.fixed))) := HX5.out.set 10 _
   have HZ6 : Hid (Blk (w.heap.size + 1) #[.string ⟨#[]⟩, .string ⟨#[]⟩, .int .i64 0, .int .i64 0, .int .i64 0, .int .i64 0, .string ⟨#[]⟩, .slice none 0 0, .int .i64 0, .string ⟨#[]⟩, .string ⟨#[]⟩, .string ⟨#[]⟩] 48 (w5.setCell ⟨w.heap.size, 10, none⟩ (.string x.fixed))) := (HZ.out.below hb5 HZ.out.lt).other (a := ⟨w.heap.size, 10, none⟩) (show w.heap.size + 1 ≠ w.heap.size by omega) _
   have HP6 : Hid (Blk gp #[.pointer (some ⟨w.heap.size, 0, none⟩), .pointer (some ⟨w.heap.size, 1, none⟩), .pointer (some ⟨w.heap.size, 6, none⟩), .pointer (some ⟨w.heap.size, 9, none⟩), .pointer (some ⟨w.heap.size, 10, none⟩), .pointer (some ⟨w.heap.size, 11, none⟩)] 144 (w5.setCell ⟨w.heap.size, 10, none⟩ (.string x.fixed))) := (HP.out.below hb5 HP.out.lt).other (a := ⟨w.heap.size, 10, none⟩) (show gp ≠ w.heap.size by omega) _
   have hB6 : Below w.heap.size w (w5.setCell ⟨w.heap.size, 10, none⟩ (.string x.fixed)) := (hB.trans (hb5.mono hB.size)).setCell (p := ⟨w.heap.size, 10, none⟩) nL _
   clear HX HZ HP hB hb5 d0 k0 HX5
   go_wp2_with fail
   go_roundw
   case rel => exact ⟨4 + 1, by omega, by go_num, HX6, HZ6, HP6, hB6⟩
   case measure => simp [intOf]
  ·have d0 : wr.cell? ⟨gp, 5, none⟩ = some (.pointer (some ⟨w.heap.size, 11, none⟩)) := HP.out.cell rfl
   have k0 : wr.cell? ⟨w.heap.size, 11, none⟩ = some (.string x.at_) := HX.out.cell rfl
   go_wp2_with fail
   refine (cl3_any x.at_ _ z11).mono ?_
   rintro e w5 ⟨rfl, hb5⟩
   have HX5 := iH (HX.out.below hb5 HX.out.lt)
   have c5 : w5.cell? ⟨w.heap.size, 11, none⟩ = some (.string x.at_) := HX5.out.cell rfl
   have f5 := HX5.out.frozen 11
   have HX6 : Hid (Blk w.heap.size #[.string x.name, .string x.service, .int .i64 x.rank, .int .i64 x.born, .int .i64 x.room, .int .i64 x.hold, .string x.select, .slice a2 x.likes.length c2, .int .i64 x.apart, .string x.near, .string x.fixed, .string x.at_] 48 (w5.setCell ⟨w.heap.size, 11, none⟩ (.string x.at_))) := HX5.out.set 11 _
   have HZ6 : Hid (Blk (w.heap.size + 1) #[.string ⟨#[]⟩, .string ⟨#[]⟩, .int .i64 0, .int .i64 0, .int .i64 0, .int .i64 0, .string ⟨#[]⟩, .slice none 0 0, .int .i64 0, .string ⟨#[]⟩, .string ⟨#[]⟩, .string ⟨#[]⟩] 48 (w5.setCell ⟨w.heap.size, 11, none⟩ (.string x.at_))) := (HZ.out.below hb5 HZ.out.lt).other (a := ⟨w.heap.size, 11, none⟩) (show w.heap.size + 1 ≠ w.heap.size by omega) _
   have HP6 : Hid (Blk gp #[.pointer (some ⟨w.heap.size, 0, none⟩), .pointer (some ⟨w.heap.size, 1, none⟩), .pointer (some ⟨w.heap.size, 6, none⟩), .pointer (some ⟨w.heap.size, 9, none⟩), .pointer (some ⟨w.heap.size, 10, none⟩), .pointer (some ⟨w.heap.size, 11, none⟩)] 144 (w5.setCell ⟨w.heap.size, 11, none⟩ (.string x.at_))) := (HP.out.below hb5 HP.out.lt).other (a := ⟨w.heap.size, 11, none⟩) (show gp ≠ w.heap.size by omega) _
   have hB6 : Below w.heap.size w (w5.setCell ⟨w.heap.size, 11, none⟩ (.string x.at_)) := (hB.trans (hb5.mono hB.size)).setCell (p := ⟨w.heap.size, 11, none⟩) nL _
   clear HX HZ HP hB hb5 d0 k0 HX5
   go_wp2_with fail
   go_roundw
   case rel => exact ⟨5 + 1, by omega, by go_num, HX6, HZ6, HP6, hB6⟩
   case measure => simp [intOf]
  ·have HX7 := HX
   have HZ7 := HZ
   have hB7 := hB
   generalize wr = w7 at *
   clear HX HZ hB HP
   have k2 : w7.cell? ⟨w.heap.size, 7, none⟩ = some (.slice a2 x.likes.length c2) := HX7.out.cell rfl
   go_wp2_with fail
   refine (eachLik_any x.likes a2 c2 lo _ (HN2.out.below LikC.holds hB7 nL) hl HSZ.out).mono ?_
   rintro e w8 ⟨g, q, rfl, hO8, hb8⟩
   have HO8 := iH hO8
   have HX8 := iH (HX7.out.below hb8 HX7.out.lt)
   have HZ8 := iH (HZ7.out.below hb8 HZ7.out.lt)
   have hB8 := hB7.trans (hb8.mono hB7.size)
   have hl7 : w.heap.size + 1 < w7.heap.size := HZ7.out.lt
   have c8 : w8.cell? ⟨w.heap.size, 7, none⟩ = some (.slice a2 x.likes.length c2) := HX8.out.cell rfl
   have f8 := HX8.out.frozen 7
   have HX9 : Hid (Blk w.heap.size #[.string x.name, .string x.service, .int .i64 x.rank, .int .i64 x.born, .int .i64 x.room, .int .i64 x.hold, .string x.select, .slice g x.likes.length q, .int .i64 x.apart, .string x.near, .string x.fixed, .string x.at_] 48 (w8.setCell ⟨w.heap.size, 7, none⟩ (.slice g x.likes.length q))) := HX8.out.set 7 _
   have HZ9 : Hid (Blk (w.heap.size + 1) #[.string ⟨#[]⟩, .string ⟨#[]⟩, .int .i64 0, .int .i64 0, .int .i64 0, .int .i64 0, .string ⟨#[]⟩, .slice none 0 0, .int .i64 0, .string ⟨#[]⟩, .string ⟨#[]⟩, .string ⟨#[]⟩] 48 (w8.setCell ⟨w.heap.size, 7, none⟩ (.slice g x.likes.length q))) := HZ8.out.other (a := ⟨w.heap.size, 7, none⟩) (show w.heap.size + 1 ≠ w.heap.size by omega) _
   have hB9 : Below w.heap.size w (w8.setCell ⟨w.heap.size, 7, none⟩ (.slice g x.likes.length q)) := hB8.setCell (p := ⟨w.heap.size, 7, none⟩) nL _
   have HO9 : Hid ((w8.setCell ⟨w.heap.size, 7, none⟩ (.slice g x.likes.length q)).ownsRow w7.heap.size 125 2 (.slice g x.likes.length q) x.likes.length (rvLik x.likes)) := ownsRow_kD HO8.out _ (show w.heap.size < w7.heap.size by omega) _
   clear HX7 HZ7 hB7 hb8 hO8 k2
   go_upto_region 7 with fail
   clear c8 f8 HX8 HZ8 hB8 HO8
   generalize w8.setCell ⟨w.heap.size, 7, none⟩ (.slice g x.likes.length q) = w9 at *
   obtain ⟨wf, HE⟩ : ∃ wf, Hid (wf = w9.setCells (w.heap.size + 1) 0 [.string x.name, .string x.service, .int .i64 x.rank, .int .i64 x.born, .int .i64 x.room, .int .i64 x.hold, .string x.select, .slice g x.likes.length q, .int .i64 x.apart, .string x.near, .string x.fixed, .string x.at_]) := ⟨_, rfl⟩
   have HT : Hid (w9.there (w.heap.size + 1) 0 12) := HZ9.out.there
   have HR8 : Hid (wf.rangeAt (w.heap.size + 1) 0 [.string x.name, .string x.service, .int .i64 x.rank, .int .i64 x.born, .int .i64 x.room, .int .i64 x.hold, .string x.select, .slice g x.likes.length q, .int .i64 x.apart, .string x.near, .string x.fixed, .string x.at_]) := by
    show World.rangeAt _ _ _ _
    rw [HE.out]
    exact World.rangeAt_setCells_same _ _ _ _ HT.out
   have hBf : Below w.heap.size w wf := by
    rw [HE.out]
    exact below_setCells (by omega) _ _ _ hB9
   have HOf : Hid (wf.ownsRow w7.heap.size 125 2 (.slice g x.likes.length q) x.likes.length (rvLik x.likes)) := by
    show World.ownsRow _ _ _ _ _ _ _
    rw [HE.out]
    exact ownsRow_ksD hl7 _ _ _ HO9.out
   clear hB9 HZ9 HO9
   go_wp2_with (first | (refine wpList_load_mid rfl 48 _ rfl w.heap.size 0 rfl [.string x.name, .string x.service, .int .i64 x.rank, .int .i64 x.born, .int .i64 x.room, .int .i64 x.hold, .string x.select, .slice g x.likes.length q, .int .i64 x.apart, .string x.near, .string x.fixed, .string x.at_] _ HX9.out.rangeA Tryz.underlying48 rfl isz_Cpy ?_) | (refine wpList_store_to rfl 48 _ _ rfl (w.heap.size + 1) 0 #[.string x.name, .string x.service, .int .i64 x.rank, .int .i64 x.born, .int .i64 x.room, .int .i64 x.hold, .string x.select, .slice g x.likes.length q, .int .i64 x.apart, .string x.near, .string x.fixed, .string x.at_] rfl rfl HT.out isz_Cpy (by simp [Value.oneCell']) wf HE.out ?_))
   exact bodyPost_ret (results_cell_mid rfl _ _ (w.heap.size + 1) [.string x.name, .string x.service, .int .i64 x.rank, .int .i64 x.born, .int .i64 x.room, .int .i64 x.hold, .string x.select, .slice g x.likes.length q, .int .i64 x.apart, .string x.near, .string x.fixed, .string x.at_] _ rfl HR8.out Tryz.underlying48 rfl isz_Cpy) rfl ⟨g, q, rfl, own_mono2 HOf.out (by omega), hBf⟩

end Go.Proofs.YtihnjndnkgnmaaaGreat
