import Derived.Test.YtihnjndnkgnmaaaGreatJ4
import Derived.Test.YtihnjndnkgnmaaaGreatJ20
import Derived.Deep.RegionHeld3
namespace Go.Proofs.YtihnjndnkgnmaaaGreat
open Go.RowKit Go.WideMaps Go.Maps

theorem placesBrt_ex (xs : List Brt) (a : Option Addr) (cap lo : Nat) (w : World) (hin : SliceC BrtC 6 lo w a xs) (hsm : xs.length ≤ 1048576) :
  Calls Tryz.prog 85 #[.slice a xs.length cap, .func (.func 86) #[] #[]] w fun e w' => ∃ m, e = .returned (.map (some m)) ∧ w'.ownsMap Tryz.prog 9 (plainElem Tryz.prog 3) m xs.length (placesTo (xs.map (·.name)) xs.length) ∧ Below w.heap.size w w' := by
 refine (placesBrt_any xs a cap lo w hin hsm).mono ?_
 rintro e w' ⟨rfl, h1, h2⟩
 exact ⟨_, rfl, h1, h2⟩

theorem placesSvc_ex (xs : List Svc) (a : Option Addr) (cap lo : Nat) (w : World) (hin : SliceC SvcC 2 lo w a xs) (hsm : xs.length ≤ 1048576) :
  Calls Tryz.prog 87 #[.slice a xs.length cap, .func (.func 88) #[] #[]] w fun e w' => ∃ m, e = .returned (.map (some m)) ∧ w'.ownsMap Tryz.prog 9 (plainElem Tryz.prog 3) m xs.length (placesTo (xs.map (·.name)) xs.length) ∧ Below w.heap.size w w' := by
 refine (placesSvc_any xs a cap lo w hin hsm).mono ?_
 rintro e w' ⟨rfl, h1, h2⟩
 exact ⟨_, rfl, h1, h2⟩

theorem placesCpy_ex (xs : List Cpy) (a : Option Addr) (cap lo : Nat) (w : World) (hin : SliceC CpyC 12 lo w a xs) (hsm : xs.length ≤ 1048576) :
  Calls Tryz.prog 89 #[.slice a xs.length cap, .func (.func 90) #[] #[]] w fun e w' => ∃ m, e = .returned (.map (some m)) ∧ w'.ownsMap Tryz.prog 9 (plainElem Tryz.prog 3) m xs.length (placesTo (xs.map (·.name)) xs.length) ∧ Below w.heap.size w w' := by
 refine (placesCpy_any xs a cap lo w hin hsm).mono ?_
 rintro e w' ⟨rfl, h1, h2⟩
 exact ⟨_, rfl, h1, h2⟩

theorem run_mapPlain {P : Program} {w : World} (t : TypeId) : (Instr.makeMap t none).run P w = .ok (.map (some w.heap.size)) (w.alloc (.map #[] 0)) := rfl

def FltIn (b : Nat) (x : Flt) (a1 : Option Addr) (c1 : Nat) (a2 : Option Addr) (c2 : Nat) (a3 : Option Addr) (c3 : Nat) (w : World) : Prop :=
 w.cell? ⟨b, 0, none⟩ = some (.bool x.pack) ∧ w.cell? ⟨b, 1, none⟩ = some (.slice a1 x.berths.length c1) ∧ w.cell? ⟨b, 2, none⟩ = some (.slice a2 x.services.length c2) ∧ w.cell? ⟨b, 3, none⟩ = some (.slice a3 x.copies.length c3)

theorem FltIn.below {b : Nat} {x : Flt} {a1 : Option Addr} {c1 : Nat} {a2 : Option Addr} {c2 : Nat} {a3 : Option Addr} {c3 : Nat} {w w' : World} {B : Nat} (h : FltIn b x a1 c1 a2 c2 a3 c3 w) (hb : Below B w w') (hB : b < B) : FltIn b x a1 c1 a2 c2 a3 c3 w' :=
 ⟨(hb.cell (p := ⟨b, 0, none⟩) hB).trans h.1, (hb.cell (p := ⟨b, 1, none⟩) hB).trans h.2.1, (hb.cell (p := ⟨b, 2, none⟩) hB).trans h.2.2.1, (hb.cell (p := ⟨b, 3, none⟩) hB).trans h.2.2.2⟩

set_option maxHeartbeats 4000000 in
set_option maxRecDepth 100000 in
theorem find_any (x : Flt) (a1 : Option Addr) (c1 : Nat) (a2 : Option Addr) (c2 : Nat) (a3 : Option Addr) (c3 : Nat) (lo : Nat) (w : World) (n1 : SliceC BrtC 6 lo w a1 x.berths) (n2 : SliceC SvcC 2 lo w a2 x.services) (n3 : SliceC CpyC 12 lo w a3 x.copies)
  (l1 : x.berths.length ≤ 1048576) (l2 : x.services.length ≤ 1048576) (l3 : x.copies.length ≤ 1048576) :
  Calls Tryz.prog 61 #[.agg #[.bool x.pack, .slice a1 x.berths.length c1, .slice a2 x.services.length c2, .slice a3 x.copies.length c3]] w fun e w' => ∃ p m1 m2 m3 m4, e = .returned (.pointer (some ⟨p, 0, none⟩)) ∧ w.heap.size ≤ p ∧ w'.rangeAt p 0 [.bool x.pack, .slice a1 x.berths.length c1, .slice a2 x.services.length c2, .slice a3 x.copies.length c3, .map (some m1), .map (some m2), .map (some m3), .map (some m4)] ∧
   w'.ownsMap Tryz.prog 9 (plainElem Tryz.prog 3) m1 x.berths.length (placesTo (x.berths.map (·.name)) x.berths.length) ∧
   w'.ownsMap Tryz.prog 9 (plainElem Tryz.prog 3) m2 x.services.length (placesTo (x.services.map (·.name)) x.services.length) ∧
   w'.ownsMap Tryz.prog 9 (plainElem Tryz.prog 3) m3 x.copies.length (placesTo (x.copies.map (·.name)) x.copies.length) ∧ w.heap.size ≤ m4 ∧ w'.heap[m4]? = some (Obj.map #[] 0) ∧ Below w.heap.size w w' := by
 have N1 : Hid (SliceC BrtC 6 lo w a1 x.berths) := n1
 have N2 : Hid (SliceC SvcC 2 lo w a2 x.services) := n2
 have N3 : Hid (SliceC CpyC 12 lo w a3 x.copies) := n3
 clear n1 n2 n3
 go_enter Tryz.func61, Tryz.ntmps61
 go_wp2_with fail
 refine wp_region_held_drew (S := FltIn w.heap.size x a1 c1 a2 c2 a3 c3) (by kernel_rfl) ⟨by simp, by simp, by simp, by simp⟩ (fun hS => ?_)
 have HB0 : Hid (Below w.heap.size w (w.alloc (Obj.cells #[.bool x.pack, .slice a1 x.berths.length c1, .slice a2 x.services.length c2, .slice a3 x.copies.length c3] 41)).drew) := by show Below _ _ _; go_grown
 generalize (w.alloc (Obj.cells #[.bool x.pack, .slice a1 x.berths.length c1, .slice a2 x.services.length c2, .slice a3 x.copies.length c3] 41)).drew = w0 at *
 refine x2 0 3 (.agg #[.bool x.pack, .slice a1 x.berths.length c1, .slice a2 x.services.length c2, .slice a3 x.copies.length c3]) rfl hS ?_
 simp only [pA,pB,pC,pD]
 refine x2 1 4 (.pointer (some ⟨w.heap.size, 1, none⟩)) rfl hS ?_
 simp only [pA,pB,pC,pD]
 refine x2 2 5 (.slice a1 x.berths.length c1) rfl hS ?_
 simp only [pA,pB,pC,pD]
 refine x2 4 7 (.pointer (some ⟨w.heap.size, 2, none⟩)) rfl hS ?_
 simp only [pA,pB,pC,pD]
 refine x2 5 8 (.slice a2 x.services.length c2) rfl hS ?_
 simp only [pA,pB,pC,pD]
 refine x2 7 10 (.pointer (some ⟨w.heap.size, 3, none⟩)) rfl hS ?_
 simp only [pA,pB,pC,pD]
 refine x2 8 11 (.slice a3 x.copies.length c3) rfl hS ?_
 simp only [pA,pB,pC,pD]
 refine wpAnyH_ready (rs := [3, 10]) (by kernel_rfl) (by simp) (AllReadyH.cons (o := ⟨some 6, _, _, _, _, none⟩) rfl (fun K hK => ?_) (AllReadyH.cons (o := ⟨some 13, _, _, _, _, none⟩) rfl (fun K hK => ?_) AllReadyH.nil))
 ·go_simp
  refine (placesBrt_ex x.berths a1 c1 lo _ (N1.out.below BrtC.holds (B := w.heap.size) HB0.out nL) l1).mono ?_
  rintro e w1 ⟨m1, rfl, ho, hb⟩
  have HO1 : Hid (w1.ownsMap Tryz.prog 9 (plainElem Tryz.prog 3) m1 x.berths.length (placesTo (x.berths.map (·.name)) x.berths.length)) := ho
  have HB1 : Hid (Below w.heap.size w w1) := HB0.out.trans (hb.mono HB0.out.size)
  refine hK.out _ _ (hS.below hb (block_lt_of_cell hS.1)) (fun hS => ?_)
  clear ho hb HB0
  clear hK K
  refine wpAnyH_ready (rs := [6, 10]) (by kernel_rfl) (by simp) (AllReadyH.cons (o := ⟨some 9, _, _, _, _, none⟩) rfl (fun K hK => ?_) (AllReadyH.cons (o := ⟨some 13, _, _, _, _, none⟩) rfl (fun K hK => ?_) AllReadyH.nil))
  ·go_simp
   refine (placesSvc_ex x.services a2 c2 lo _ (N2.out.below SvcC.holds (B := w.heap.size) HB1.out nL) l2).mono ?_
   rintro e w2 ⟨m2, rfl, ho, hb⟩
   have HO2 : Hid (w2.ownsMap Tryz.prog 9 (plainElem Tryz.prog 3) m2 x.services.length (placesTo (x.services.map (·.name)) x.services.length)) := ho
   have HB2 : Hid (Below w.heap.size w w2) := HB1.out.trans (hb.mono HB1.out.size)
   have HO1' : Hid (w2.ownsMap Tryz.prog 9 (plainElem Tryz.prog 3) m1 x.berths.length (placesTo (x.berths.map (·.name)) x.berths.length)) := ownsMap_below HO1.out hb HO1.out.lt
   clear HO1
   have HO1 := HO1'
   clear HO1'
   refine hK.out _ _ (hS.below hb (block_lt_of_cell hS.1)) (fun hS => ?_)
   clear ho hb HB1
   clear hK K
   refine wpAnyH_ready (rs := [9, 10]) (by kernel_rfl) (by simp) (AllReadyH.cons (o := ⟨some 12, _, _, _, _, none⟩) rfl (fun K hK => ?_) (AllReadyH.cons (o := ⟨some 13, _, _, _, _, none⟩) rfl (fun K hK => ?_) AllReadyH.nil))
   ·go_simp
    refine (placesCpy_ex x.copies a3 c3 lo _ (N3.out.below CpyC.holds (B := w.heap.size) HB2.out nL) l3).mono ?_
    rintro e w3 ⟨m3, rfl, ho, hb⟩
    have HO3 : Hid (w3.ownsMap Tryz.prog 9 (plainElem Tryz.prog 3) m3 x.copies.length (placesTo (x.copies.map (·.name)) x.copies.length)) := ho
    have HB3 : Hid (Below w.heap.size w w3) := HB2.out.trans (hb.mono HB2.out.size)
    have HO1' : Hid (w3.ownsMap Tryz.prog 9 (plainElem Tryz.prog 3) m1 x.berths.length (placesTo (x.berths.map (·.name)) x.berths.length)) := ownsMap_below HO1.out hb HO1.out.lt
    clear HO1
    have HO1 := HO1'
    clear HO1'
    have HO2' : Hid (w3.ownsMap Tryz.prog 9 (plainElem Tryz.prog 3) m2 x.services.length (placesTo (x.services.map (·.name)) x.services.length)) := ownsMap_below HO2.out hb HO2.out.lt
    clear HO2
    have HO2 := HO2'
    clear HO2'
    refine hK.out _ _ (hS.below hb (block_lt_of_cell hS.1)) (fun hS => ?_)
    clear ho hb HB2
    clear hK K
    refine rd1 10 ⟨some 13, _, _, _, _, none⟩ rfl (fun K hK => ?_)
    go_simp
    rw [run_mapPlain]
    simp only [Result.andThen]
    rw [Oper.upon_value]
    have hb : Below w3.heap.size w3 (w3.alloc (Obj.map #[] 0)) := (Below.refl _ _).alloc nL _
    obtain ⟨w4, hw⟩ : ∃ y, y = w3.alloc (Obj.map #[] 0) := ⟨_, rfl⟩
    have hm : w4.heap[w3.heap.size]? = some (Obj.map #[] 0) := by rw [hw]; exact heap_alloc_new w3 _
    rw [← hw] at hb ⊢
    clear hw
    obtain ⟨m4, hm4⟩ : ∃ y, y = w3.heap.size := ⟨_, rfl⟩
    have HG4 : Hid (w.heap.size ≤ m4) := by rw [hm4]; exact HB3.out.size
    have HM4 : Hid (w4.heap[m4]? = some (Obj.map #[] 0)) := by rw [hm4]; exact hm
    rw [← hm4]
    clear hm4 hm
    have HB4 : Hid (Below w.heap.size w w4) := HB3.out.trans (hb.mono HB3.out.size)
    have HO1' : Hid (w4.ownsMap Tryz.prog 9 (plainElem Tryz.prog 3) m1 x.berths.length (placesTo (x.berths.map (·.name)) x.berths.length)) := ownsMap_below HO1.out hb HO1.out.lt
    clear HO1
    have HO1 := HO1'
    clear HO1'
    have HO2' : Hid (w4.ownsMap Tryz.prog 9 (plainElem Tryz.prog 3) m2 x.services.length (placesTo (x.services.map (·.name)) x.services.length)) := ownsMap_below HO2.out hb HO2.out.lt
    clear HO2
    have HO2 := HO2'
    clear HO2'
    have HO3' : Hid (w4.ownsMap Tryz.prog 9 (plainElem Tryz.prog 3) m3 x.copies.length (placesTo (x.copies.map (·.name)) x.copies.length)) := ownsMap_below HO3.out hb HO3.out.lt
    clear HO3
    have HO3 := HO3'
    clear HO3'
    refine hK.out _ _ (hS.below hb (block_lt_of_cell hS.1)) (fun hS => ?_)
    clear hb HB3
    clear hK K
    simp only [pA,pB,pC,pD]
    refine x2 11 14 (.agg #[.bool x.pack, .slice a1 x.berths.length c1, .slice a2 x.services.length c2, .slice a3 x.copies.length c3, .map (some m1), .map (some m2), .map (some m3), .map (some m4)]) rfl hS ?_
    simp only [pA,pB,pC,pD]
    refine rd1 12 ⟨some 15, _, _, _, _, none⟩ rfl (fun K hK => ?_)
    go_simp
    have hal : Below w4.heap.size w4 (w4.alloc (Obj.cells #[.bool x.pack, .slice a1 x.berths.length c1, .slice a2 x.services.length c2, .slice a3 x.copies.length c3, .map (some m1), .map (some m2), .map (some m3), .map (some m4)] 137)) := (Below.refl _ _).alloc nL _
    have HR4 : Hid (World.rangeAt (w4.alloc (Obj.cells #[.bool x.pack, .slice a1 x.berths.length c1, .slice a2 x.services.length c2, .slice a3 x.copies.length c3, .map (some m1), .map (some m2), .map (some m3), .map (some m4)] 137)) w4.heap.size 0 [.bool x.pack, .slice a1 x.berths.length c1, .slice a2 x.services.length c2, .slice a3 x.copies.length c3, .map (some m1), .map (some m2), .map (some m3), .map (some m4)]) := range_cons (by simp) (range_cons (by simp) (range_cons (by simp) (range_cons (by simp) (range_cons (by simp) (range_cons (by simp) (range_cons (by simp) (range_cons (by simp) (range_nil _ _ _))))))))
    have HB' : Hid (Below w.heap.size w (w4.alloc (Obj.cells #[.bool x.pack, .slice a1 x.berths.length c1, .slice a2 x.services.length c2, .slice a3 x.copies.length c3, .map (some m1), .map (some m2), .map (some m3), .map (some m4)] 137))) := HB4.out.alloc HB4.out.size _
    have HM1 : Hid (World.ownsMap (w4.alloc (Obj.cells #[.bool x.pack, .slice a1 x.berths.length c1, .slice a2 x.services.length c2, .slice a3 x.copies.length c3, .map (some m1), .map (some m2), .map (some m3), .map (some m4)] 137)) Tryz.prog 9 (plainElem Tryz.prog 3) m1 x.berths.length (placesTo (x.berths.map (·.name)) x.berths.length)) := HO1.out.alloc _
    have HM2 : Hid (World.ownsMap (w4.alloc (Obj.cells #[.bool x.pack, .slice a1 x.berths.length c1, .slice a2 x.services.length c2, .slice a3 x.copies.length c3, .map (some m1), .map (some m2), .map (some m3), .map (some m4)] 137)) Tryz.prog 9 (plainElem Tryz.prog 3) m2 x.services.length (placesTo (x.services.map (·.name)) x.services.length)) := HO2.out.alloc _
    have HM3 : Hid (World.ownsMap (w4.alloc (Obj.cells #[.bool x.pack, .slice a1 x.berths.length c1, .slice a2 x.services.length c2, .slice a3 x.copies.length c3, .map (some m1), .map (some m2), .map (some m3), .map (some m4)] 137)) Tryz.prog 9 (plainElem Tryz.prog 3) m3 x.copies.length (placesTo (x.copies.map (·.name)) x.copies.length)) := HO3.out.alloc _
    have HM4n : Hid ((w4.alloc (Obj.cells #[.bool x.pack, .slice a1 x.berths.length c1, .slice a2 x.services.length c2, .slice a3 x.copies.length c3, .map (some m1), .map (some m2), .map (some m3), .map (some m4)] 137)).heap[m4]? = some (Obj.map #[] 0)) := (hal.block m4 (Array.getElem?_eq_some_iff.1 HM4.out).1).trans HM4.out
    have hle : Hid (w.heap.size ≤ w4.heap.size) := HB4.out.size
    refine hK.out _ _ (hS.below hal (block_lt_of_cell hS.1)) (fun hS => ?_)
    clear hal HB4 HO1 HO2 HO3 HM4
    generalize (w4.alloc (Obj.cells #[.bool x.pack, .slice a1 x.berths.length c1, .slice a2 x.services.length c2, .slice a3 x.copies.length c3, .map (some m1), .map (some m2), .map (some m3), .map (some m4)] 137)) = wl at *
    clear hK K
    refine x2 13 2 (.pointer (some ⟨w4.heap.size, 0, none⟩)) rfl hS ?_
    simp only [pA,pB,pC,pD]
    refine td ?_
    go_wp2_with fail
    go_ret
    exact ⟨_, m1, m2, m3, m4, rfl, hle.out, HR4.out, HM1.out, HM2.out, HM3.out, HG4.out, HM4n.out, HB'.out⟩
   ·go_simp
    rw [run_mapPlain]
    simp only [Result.andThen]
    rw [Oper.upon_value]
    have hb : Below w2.heap.size w2 (w2.alloc (Obj.map #[] 0)) := (Below.refl _ _).alloc nL _
    obtain ⟨w3, hw⟩ : ∃ y, y = w2.alloc (Obj.map #[] 0) := ⟨_, rfl⟩
    have hm : w3.heap[w2.heap.size]? = some (Obj.map #[] 0) := by rw [hw]; exact heap_alloc_new w2 _
    rw [← hw] at hb ⊢
    clear hw
    obtain ⟨m4, hm4⟩ : ∃ y, y = w2.heap.size := ⟨_, rfl⟩
    have HG4 : Hid (w.heap.size ≤ m4) := by rw [hm4]; exact HB2.out.size
    have HM4 : Hid (w3.heap[m4]? = some (Obj.map #[] 0)) := by rw [hm4]; exact hm
    rw [← hm4]
    clear hm4 hm
    have HB3 : Hid (Below w.heap.size w w3) := HB2.out.trans (hb.mono HB2.out.size)
    have HO1' : Hid (w3.ownsMap Tryz.prog 9 (plainElem Tryz.prog 3) m1 x.berths.length (placesTo (x.berths.map (·.name)) x.berths.length)) := ownsMap_below HO1.out hb HO1.out.lt
    clear HO1
    have HO1 := HO1'
    clear HO1'
    have HO2' : Hid (w3.ownsMap Tryz.prog 9 (plainElem Tryz.prog 3) m2 x.services.length (placesTo (x.services.map (·.name)) x.services.length)) := ownsMap_below HO2.out hb HO2.out.lt
    clear HO2
    have HO2 := HO2'
    clear HO2'
    refine hK.out _ _ (hS.below hb (block_lt_of_cell hS.1)) (fun hS => ?_)
    clear hb HB2
    clear hK K
    simp only [pA,pB,pC,pD]
    refine rd1 9 ⟨some 12, _, _, _, _, none⟩ rfl (fun K hK => ?_)
    go_simp
    refine (placesCpy_ex x.copies a3 c3 lo _ (N3.out.below CpyC.holds (B := w.heap.size) HB3.out nL) l3).mono ?_
    rintro e w4 ⟨m3, rfl, ho, hb⟩
    have HO3 : Hid (w4.ownsMap Tryz.prog 9 (plainElem Tryz.prog 3) m3 x.copies.length (placesTo (x.copies.map (·.name)) x.copies.length)) := ho
    have HB4 : Hid (Below w.heap.size w w4) := HB3.out.trans (hb.mono HB3.out.size)
    have HM4' : Hid (w4.heap[m4]? = some (Obj.map #[] 0)) := (hb.block m4 (Array.getElem?_eq_some_iff.1 HM4.out).1).trans HM4.out
    clear HM4
    have HM4 := HM4'
    clear HM4'
    have HO1' : Hid (w4.ownsMap Tryz.prog 9 (plainElem Tryz.prog 3) m1 x.berths.length (placesTo (x.berths.map (·.name)) x.berths.length)) := ownsMap_below HO1.out hb HO1.out.lt
    clear HO1
    have HO1 := HO1'
    clear HO1'
    have HO2' : Hid (w4.ownsMap Tryz.prog 9 (plainElem Tryz.prog 3) m2 x.services.length (placesTo (x.services.map (·.name)) x.services.length)) := ownsMap_below HO2.out hb HO2.out.lt
    clear HO2
    have HO2 := HO2'
    clear HO2'
    refine hK.out _ _ (hS.below hb (block_lt_of_cell hS.1)) (fun hS => ?_)
    clear ho hb HB3
    clear hK K
    refine x2 11 14 (.agg #[.bool x.pack, .slice a1 x.berths.length c1, .slice a2 x.services.length c2, .slice a3 x.copies.length c3, .map (some m1), .map (some m2), .map (some m3), .map (some m4)]) rfl hS ?_
    simp only [pA,pB,pC,pD]
    refine rd1 12 ⟨some 15, _, _, _, _, none⟩ rfl (fun K hK => ?_)
    go_simp
    have hal : Below w4.heap.size w4 (w4.alloc (Obj.cells #[.bool x.pack, .slice a1 x.berths.length c1, .slice a2 x.services.length c2, .slice a3 x.copies.length c3, .map (some m1), .map (some m2), .map (some m3), .map (some m4)] 137)) := (Below.refl _ _).alloc nL _
    have HR4 : Hid (World.rangeAt (w4.alloc (Obj.cells #[.bool x.pack, .slice a1 x.berths.length c1, .slice a2 x.services.length c2, .slice a3 x.copies.length c3, .map (some m1), .map (some m2), .map (some m3), .map (some m4)] 137)) w4.heap.size 0 [.bool x.pack, .slice a1 x.berths.length c1, .slice a2 x.services.length c2, .slice a3 x.copies.length c3, .map (some m1), .map (some m2), .map (some m3), .map (some m4)]) := range_cons (by simp) (range_cons (by simp) (range_cons (by simp) (range_cons (by simp) (range_cons (by simp) (range_cons (by simp) (range_cons (by simp) (range_cons (by simp) (range_nil _ _ _))))))))
    have HB' : Hid (Below w.heap.size w (w4.alloc (Obj.cells #[.bool x.pack, .slice a1 x.berths.length c1, .slice a2 x.services.length c2, .slice a3 x.copies.length c3, .map (some m1), .map (some m2), .map (some m3), .map (some m4)] 137))) := HB4.out.alloc HB4.out.size _
    have HM1 : Hid (World.ownsMap (w4.alloc (Obj.cells #[.bool x.pack, .slice a1 x.berths.length c1, .slice a2 x.services.length c2, .slice a3 x.copies.length c3, .map (some m1), .map (some m2), .map (some m3), .map (some m4)] 137)) Tryz.prog 9 (plainElem Tryz.prog 3) m1 x.berths.length (placesTo (x.berths.map (·.name)) x.berths.length)) := HO1.out.alloc _
    have HM2 : Hid (World.ownsMap (w4.alloc (Obj.cells #[.bool x.pack, .slice a1 x.berths.length c1, .slice a2 x.services.length c2, .slice a3 x.copies.length c3, .map (some m1), .map (some m2), .map (some m3), .map (some m4)] 137)) Tryz.prog 9 (plainElem Tryz.prog 3) m2 x.services.length (placesTo (x.services.map (·.name)) x.services.length)) := HO2.out.alloc _
    have HM3 : Hid (World.ownsMap (w4.alloc (Obj.cells #[.bool x.pack, .slice a1 x.berths.length c1, .slice a2 x.services.length c2, .slice a3 x.copies.length c3, .map (some m1), .map (some m2), .map (some m3), .map (some m4)] 137)) Tryz.prog 9 (plainElem Tryz.prog 3) m3 x.copies.length (placesTo (x.copies.map (·.name)) x.copies.length)) := HO3.out.alloc _
    have HM4n : Hid ((w4.alloc (Obj.cells #[.bool x.pack, .slice a1 x.berths.length c1, .slice a2 x.services.length c2, .slice a3 x.copies.length c3, .map (some m1), .map (some m2), .map (some m3), .map (some m4)] 137)).heap[m4]? = some (Obj.map #[] 0)) := (hal.block m4 (Array.getElem?_eq_some_iff.1 HM4.out).1).trans HM4.out
    have hle : Hid (w.heap.size ≤ w4.heap.size) := HB4.out.size
    refine hK.out _ _ (hS.below hal (block_lt_of_cell hS.1)) (fun hS => ?_)
    clear hal HB4 HO1 HO2 HO3 HM4
    generalize (w4.alloc (Obj.cells #[.bool x.pack, .slice a1 x.berths.length c1, .slice a2 x.services.length c2, .slice a3 x.copies.length c3, .map (some m1), .map (some m2), .map (some m3), .map (some m4)] 137)) = wl at *
    clear hK K
    refine x2 13 2 (.pointer (some ⟨w4.heap.size, 0, none⟩)) rfl hS ?_
    simp only [pA,pB,pC,pD]
    refine td ?_
    go_wp2_with fail
    go_ret
    exact ⟨_, m1, m2, m3, m4, rfl, hle.out, HR4.out, HM1.out, HM2.out, HM3.out, HG4.out, HM4n.out, HB'.out⟩
  ·go_simp
   rw [run_mapPlain]
   simp only [Result.andThen]
   rw [Oper.upon_value]
   have hb : Below w1.heap.size w1 (w1.alloc (Obj.map #[] 0)) := (Below.refl _ _).alloc nL _
   obtain ⟨w2, hw⟩ : ∃ y, y = w1.alloc (Obj.map #[] 0) := ⟨_, rfl⟩
   have hm : w2.heap[w1.heap.size]? = some (Obj.map #[] 0) := by rw [hw]; exact heap_alloc_new w1 _
   rw [← hw] at hb ⊢
   clear hw
   obtain ⟨m4, hm4⟩ : ∃ y, y = w1.heap.size := ⟨_, rfl⟩
   have HG4 : Hid (w.heap.size ≤ m4) := by rw [hm4]; exact HB1.out.size
   have HM4 : Hid (w2.heap[m4]? = some (Obj.map #[] 0)) := by rw [hm4]; exact hm
   rw [← hm4]
   clear hm4 hm
   have HB2 : Hid (Below w.heap.size w w2) := HB1.out.trans (hb.mono HB1.out.size)
   have HO1' : Hid (w2.ownsMap Tryz.prog 9 (plainElem Tryz.prog 3) m1 x.berths.length (placesTo (x.berths.map (·.name)) x.berths.length)) := ownsMap_below HO1.out hb HO1.out.lt
   clear HO1
   have HO1 := HO1'
   clear HO1'
   refine hK.out _ _ (hS.below hb (block_lt_of_cell hS.1)) (fun hS => ?_)
   clear hb HB1
   clear hK K
   simp only [pA,pB,pC,pD]
   refine rd1 6 ⟨some 9, _, _, _, _, none⟩ rfl (fun K hK => ?_)
   go_simp
   refine (placesSvc_ex x.services a2 c2 lo _ (N2.out.below SvcC.holds (B := w.heap.size) HB2.out nL) l2).mono ?_
   rintro e w3 ⟨m2, rfl, ho, hb⟩
   have HO2 : Hid (w3.ownsMap Tryz.prog 9 (plainElem Tryz.prog 3) m2 x.services.length (placesTo (x.services.map (·.name)) x.services.length)) := ho
   have HB3 : Hid (Below w.heap.size w w3) := HB2.out.trans (hb.mono HB2.out.size)
   have HM4' : Hid (w3.heap[m4]? = some (Obj.map #[] 0)) := (hb.block m4 (Array.getElem?_eq_some_iff.1 HM4.out).1).trans HM4.out
   clear HM4
   have HM4 := HM4'
   clear HM4'
   have HO1' : Hid (w3.ownsMap Tryz.prog 9 (plainElem Tryz.prog 3) m1 x.berths.length (placesTo (x.berths.map (·.name)) x.berths.length)) := ownsMap_below HO1.out hb HO1.out.lt
   clear HO1
   have HO1 := HO1'
   clear HO1'
   refine hK.out _ _ (hS.below hb (block_lt_of_cell hS.1)) (fun hS => ?_)
   clear ho hb HB2
   clear hK K
   refine rd1 9 ⟨some 12, _, _, _, _, none⟩ rfl (fun K hK => ?_)
   go_simp
   refine (placesCpy_ex x.copies a3 c3 lo _ (N3.out.below CpyC.holds (B := w.heap.size) HB3.out nL) l3).mono ?_
   rintro e w4 ⟨m3, rfl, ho, hb⟩
   have HO3 : Hid (w4.ownsMap Tryz.prog 9 (plainElem Tryz.prog 3) m3 x.copies.length (placesTo (x.copies.map (·.name)) x.copies.length)) := ho
   have HB4 : Hid (Below w.heap.size w w4) := HB3.out.trans (hb.mono HB3.out.size)
   have HM4' : Hid (w4.heap[m4]? = some (Obj.map #[] 0)) := (hb.block m4 (Array.getElem?_eq_some_iff.1 HM4.out).1).trans HM4.out
   clear HM4
   have HM4 := HM4'
   clear HM4'
   have HO1' : Hid (w4.ownsMap Tryz.prog 9 (plainElem Tryz.prog 3) m1 x.berths.length (placesTo (x.berths.map (·.name)) x.berths.length)) := ownsMap_below HO1.out hb HO1.out.lt
   clear HO1
   have HO1 := HO1'
   clear HO1'
   have HO2' : Hid (w4.ownsMap Tryz.prog 9 (plainElem Tryz.prog 3) m2 x.services.length (placesTo (x.services.map (·.name)) x.services.length)) := ownsMap_below HO2.out hb HO2.out.lt
   clear HO2
   have HO2 := HO2'
   clear HO2'
   refine hK.out _ _ (hS.below hb (block_lt_of_cell hS.1)) (fun hS => ?_)
   clear ho hb HB3
   clear hK K
   refine x2 11 14 (.agg #[.bool x.pack, .slice a1 x.berths.length c1, .slice a2 x.services.length c2, .slice a3 x.copies.length c3, .map (some m1), .map (some m2), .map (some m3), .map (some m4)]) rfl hS ?_
   simp only [pA,pB,pC,pD]
   refine rd1 12 ⟨some 15, _, _, _, _, none⟩ rfl (fun K hK => ?_)
   go_simp
   have hal : Below w4.heap.size w4 (w4.alloc (Obj.cells #[.bool x.pack, .slice a1 x.berths.length c1, .slice a2 x.services.length c2, .slice a3 x.copies.length c3, .map (some m1), .map (some m2), .map (some m3), .map (some m4)] 137)) := (Below.refl _ _).alloc nL _
   have HR4 : Hid (World.rangeAt (w4.alloc (Obj.cells #[.bool x.pack, .slice a1 x.berths.length c1, .slice a2 x.services.length c2, .slice a3 x.copies.length c3, .map (some m1), .map (some m2), .map (some m3), .map (some m4)] 137)) w4.heap.size 0 [.bool x.pack, .slice a1 x.berths.length c1, .slice a2 x.services.length c2, .slice a3 x.copies.length c3, .map (some m1), .map (some m2), .map (some m3), .map (some m4)]) := range_cons (by simp) (range_cons (by simp) (range_cons (by simp) (range_cons (by simp) (range_cons (by simp) (range_cons (by simp) (range_cons (by simp) (range_cons (by simp) (range_nil _ _ _))))))))
   have HB' : Hid (Below w.heap.size w (w4.alloc (Obj.cells #[.bool x.pack, .slice a1 x.berths.length c1, .slice a2 x.services.length c2, .slice a3 x.copies.length c3, .map (some m1), .map (some m2), .map (some m3), .map (some m4)] 137))) := HB4.out.alloc HB4.out.size _
   have HM1 : Hid (World.ownsMap (w4.alloc (Obj.cells #[.bool x.pack, .slice a1 x.berths.length c1, .slice a2 x.services.length c2, .slice a3 x.copies.length c3, .map (some m1), .map (some m2), .map (some m3), .map (some m4)] 137)) Tryz.prog 9 (plainElem Tryz.prog 3) m1 x.berths.length (placesTo (x.berths.map (·.name)) x.berths.length)) := HO1.out.alloc _
   have HM2 : Hid (World.ownsMap (w4.alloc (Obj.cells #[.bool x.pack, .slice a1 x.berths.length c1, .slice a2 x.services.length c2, .slice a3 x.copies.length c3, .map (some m1), .map (some m2), .map (some m3), .map (some m4)] 137)) Tryz.prog 9 (plainElem Tryz.prog 3) m2 x.services.length (placesTo (x.services.map (·.name)) x.services.length)) := HO2.out.alloc _
   have HM3 : Hid (World.ownsMap (w4.alloc (Obj.cells #[.bool x.pack, .slice a1 x.berths.length c1, .slice a2 x.services.length c2, .slice a3 x.copies.length c3, .map (some m1), .map (some m2), .map (some m3), .map (some m4)] 137)) Tryz.prog 9 (plainElem Tryz.prog 3) m3 x.copies.length (placesTo (x.copies.map (·.name)) x.copies.length)) := HO3.out.alloc _
   have HM4n : Hid ((w4.alloc (Obj.cells #[.bool x.pack, .slice a1 x.berths.length c1, .slice a2 x.services.length c2, .slice a3 x.copies.length c3, .map (some m1), .map (some m2), .map (some m3), .map (some m4)] 137)).heap[m4]? = some (Obj.map #[] 0)) := (hal.block m4 (Array.getElem?_eq_some_iff.1 HM4.out).1).trans HM4.out
   have hle : Hid (w.heap.size ≤ w4.heap.size) := HB4.out.size
   refine hK.out _ _ (hS.below hal (block_lt_of_cell hS.1)) (fun hS => ?_)
   clear hal HB4 HO1 HO2 HO3 HM4
   generalize (w4.alloc (Obj.cells #[.bool x.pack, .slice a1 x.berths.length c1, .slice a2 x.services.length c2, .slice a3 x.copies.length c3, .map (some m1), .map (some m2), .map (some m3), .map (some m4)] 137)) = wl at *
   clear hK K
   refine x2 13 2 (.pointer (some ⟨w4.heap.size, 0, none⟩)) rfl hS ?_
   simp only [pA,pB,pC,pD]
   refine td ?_
   go_wp2_with fail
   go_ret
   exact ⟨_, m1, m2, m3, m4, rfl, hle.out, HR4.out, HM1.out, HM2.out, HM3.out, HG4.out, HM4n.out, HB'.out⟩
 ·go_simp
  rw [run_mapPlain]
  simp only [Result.andThen]
  rw [Oper.upon_value]
  have hb : Below w0.heap.size w0 (w0.alloc (Obj.map #[] 0)) := (Below.refl _ _).alloc nL _
  obtain ⟨w1, hw⟩ : ∃ y, y = w0.alloc (Obj.map #[] 0) := ⟨_, rfl⟩
  have hm : w1.heap[w0.heap.size]? = some (Obj.map #[] 0) := by rw [hw]; exact heap_alloc_new w0 _
  rw [← hw] at hb ⊢
  clear hw
  obtain ⟨m4, hm4⟩ : ∃ y, y = w0.heap.size := ⟨_, rfl⟩
  have HG4 : Hid (w.heap.size ≤ m4) := by rw [hm4]; exact HB0.out.size
  have HM4 : Hid (w1.heap[m4]? = some (Obj.map #[] 0)) := by rw [hm4]; exact hm
  rw [← hm4]
  clear hm4 hm
  have HB1 : Hid (Below w.heap.size w w1) := HB0.out.trans (hb.mono HB0.out.size)
  refine hK.out _ _ (hS.below hb (block_lt_of_cell hS.1)) (fun hS => ?_)
  clear hb HB0
  clear hK K
  simp only [pA,pB,pC,pD]
  refine rd1 3 ⟨some 6, _, _, _, _, none⟩ rfl (fun K hK => ?_)
  go_simp
  refine (placesBrt_ex x.berths a1 c1 lo _ (N1.out.below BrtC.holds (B := w.heap.size) HB1.out nL) l1).mono ?_
  rintro e w2 ⟨m1, rfl, ho, hb⟩
  have HO1 : Hid (w2.ownsMap Tryz.prog 9 (plainElem Tryz.prog 3) m1 x.berths.length (placesTo (x.berths.map (·.name)) x.berths.length)) := ho
  have HB2 : Hid (Below w.heap.size w w2) := HB1.out.trans (hb.mono HB1.out.size)
  have HM4' : Hid (w2.heap[m4]? = some (Obj.map #[] 0)) := (hb.block m4 (Array.getElem?_eq_some_iff.1 HM4.out).1).trans HM4.out
  clear HM4
  have HM4 := HM4'
  clear HM4'
  refine hK.out _ _ (hS.below hb (block_lt_of_cell hS.1)) (fun hS => ?_)
  clear ho hb HB1
  clear hK K
  refine rd1 6 ⟨some 9, _, _, _, _, none⟩ rfl (fun K hK => ?_)
  go_simp
  refine (placesSvc_ex x.services a2 c2 lo _ (N2.out.below SvcC.holds (B := w.heap.size) HB2.out nL) l2).mono ?_
  rintro e w3 ⟨m2, rfl, ho, hb⟩
  have HO2 : Hid (w3.ownsMap Tryz.prog 9 (plainElem Tryz.prog 3) m2 x.services.length (placesTo (x.services.map (·.name)) x.services.length)) := ho
  have HB3 : Hid (Below w.heap.size w w3) := HB2.out.trans (hb.mono HB2.out.size)
  have HM4' : Hid (w3.heap[m4]? = some (Obj.map #[] 0)) := (hb.block m4 (Array.getElem?_eq_some_iff.1 HM4.out).1).trans HM4.out
  clear HM4
  have HM4 := HM4'
  clear HM4'
  have HO1' : Hid (w3.ownsMap Tryz.prog 9 (plainElem Tryz.prog 3) m1 x.berths.length (placesTo (x.berths.map (·.name)) x.berths.length)) := ownsMap_below HO1.out hb HO1.out.lt
  clear HO1
  have HO1 := HO1'
  clear HO1'
  refine hK.out _ _ (hS.below hb (block_lt_of_cell hS.1)) (fun hS => ?_)
  clear ho hb HB2
  clear hK K
  refine rd1 9 ⟨some 12, _, _, _, _, none⟩ rfl (fun K hK => ?_)
  go_simp
  refine (placesCpy_ex x.copies a3 c3 lo _ (N3.out.below CpyC.holds (B := w.heap.size) HB3.out nL) l3).mono ?_
  rintro e w4 ⟨m3, rfl, ho, hb⟩
  have HO3 : Hid (w4.ownsMap Tryz.prog 9 (plainElem Tryz.prog 3) m3 x.copies.length (placesTo (x.copies.map (·.name)) x.copies.length)) := ho
  have HB4 : Hid (Below w.heap.size w w4) := HB3.out.trans (hb.mono HB3.out.size)
  have HM4' : Hid (w4.heap[m4]? = some (Obj.map #[] 0)) := (hb.block m4 (Array.getElem?_eq_some_iff.1 HM4.out).1).trans HM4.out
  clear HM4
  have HM4 := HM4'
  clear HM4'
  have HO1' : Hid (w4.ownsMap Tryz.prog 9 (plainElem Tryz.prog 3) m1 x.berths.length (placesTo (x.berths.map (·.name)) x.berths.length)) := ownsMap_below HO1.out hb HO1.out.lt
  clear HO1
  have HO1 := HO1'
  clear HO1'
  have HO2' : Hid (w4.ownsMap Tryz.prog 9 (plainElem Tryz.prog 3) m2 x.services.length (placesTo (x.services.map (·.name)) x.services.length)) := ownsMap_below HO2.out hb HO2.out.lt
  clear HO2
  have HO2 := HO2'
  clear HO2'
  refine hK.out _ _ (hS.below hb (block_lt_of_cell hS.1)) (fun hS => ?_)
  clear ho hb HB3
  clear hK K
  refine x2 11 14 (.agg #[.bool x.pack, .slice a1 x.berths.length c1, .slice a2 x.services.length c2, .slice a3 x.copies.length c3, .map (some m1), .map (some m2), .map (some m3), .map (some m4)]) rfl hS ?_
  simp only [pA,pB,pC,pD]
  refine rd1 12 ⟨some 15, _, _, _, _, none⟩ rfl (fun K hK => ?_)
  go_simp
  have hal : Below w4.heap.size w4 (w4.alloc (Obj.cells #[.bool x.pack, .slice a1 x.berths.length c1, .slice a2 x.services.length c2, .slice a3 x.copies.length c3, .map (some m1), .map (some m2), .map (some m3), .map (some m4)] 137)) := (Below.refl _ _).alloc nL _
  have HR4 : Hid (World.rangeAt (w4.alloc (Obj.cells #[.bool x.pack, .slice a1 x.berths.length c1, .slice a2 x.services.length c2, .slice a3 x.copies.length c3, .map (some m1), .map (some m2), .map (some m3), .map (some m4)] 137)) w4.heap.size 0 [.bool x.pack, .slice a1 x.berths.length c1, .slice a2 x.services.length c2, .slice a3 x.copies.length c3, .map (some m1), .map (some m2), .map (some m3), .map (some m4)]) := range_cons (by simp) (range_cons (by simp) (range_cons (by simp) (range_cons (by simp) (range_cons (by simp) (range_cons (by simp) (range_cons (by simp) (range_cons (by simp) (range_nil _ _ _))))))))
  have HB' : Hid (Below w.heap.size w (w4.alloc (Obj.cells #[.bool x.pack, .slice a1 x.berths.length c1, .slice a2 x.services.length c2, .slice a3 x.copies.length c3, .map (some m1), .map (some m2), .map (some m3), .map (some m4)] 137))) := HB4.out.alloc HB4.out.size _
  have HM1 : Hid (World.ownsMap (w4.alloc (Obj.cells #[.bool x.pack, .slice a1 x.berths.length c1, .slice a2 x.services.length c2, .slice a3 x.copies.length c3, .map (some m1), .map (some m2), .map (some m3), .map (some m4)] 137)) Tryz.prog 9 (plainElem Tryz.prog 3) m1 x.berths.length (placesTo (x.berths.map (·.name)) x.berths.length)) := HO1.out.alloc _
  have HM2 : Hid (World.ownsMap (w4.alloc (Obj.cells #[.bool x.pack, .slice a1 x.berths.length c1, .slice a2 x.services.length c2, .slice a3 x.copies.length c3, .map (some m1), .map (some m2), .map (some m3), .map (some m4)] 137)) Tryz.prog 9 (plainElem Tryz.prog 3) m2 x.services.length (placesTo (x.services.map (·.name)) x.services.length)) := HO2.out.alloc _
  have HM3 : Hid (World.ownsMap (w4.alloc (Obj.cells #[.bool x.pack, .slice a1 x.berths.length c1, .slice a2 x.services.length c2, .slice a3 x.copies.length c3, .map (some m1), .map (some m2), .map (some m3), .map (some m4)] 137)) Tryz.prog 9 (plainElem Tryz.prog 3) m3 x.copies.length (placesTo (x.copies.map (·.name)) x.copies.length)) := HO3.out.alloc _
  have HM4n : Hid ((w4.alloc (Obj.cells #[.bool x.pack, .slice a1 x.berths.length c1, .slice a2 x.services.length c2, .slice a3 x.copies.length c3, .map (some m1), .map (some m2), .map (some m3), .map (some m4)] 137)).heap[m4]? = some (Obj.map #[] 0)) := (hal.block m4 (Array.getElem?_eq_some_iff.1 HM4.out).1).trans HM4.out
  have hle : Hid (w.heap.size ≤ w4.heap.size) := HB4.out.size
  refine hK.out _ _ (hS.below hal (block_lt_of_cell hS.1)) (fun hS => ?_)
  clear hal HB4 HO1 HO2 HO3 HM4
  generalize (w4.alloc (Obj.cells #[.bool x.pack, .slice a1 x.berths.length c1, .slice a2 x.services.length c2, .slice a3 x.copies.length c3, .map (some m1), .map (some m2), .map (some m3), .map (some m4)] 137)) = wl at *
  clear hK K
  refine x2 13 2 (.pointer (some ⟨w4.heap.size, 0, none⟩)) rfl hS ?_
  simp only [pA,pB,pC,pD]
  refine td ?_
  go_wp2_with fail
  go_ret
  exact ⟨_, m1, m2, m3, m4, rfl, hle.out, HR4.out, HM1.out, HM2.out, HM3.out, HG4.out, HM4n.out, HB'.out⟩

end Go.Proofs.YtihnjndnkgnmaaaGreat
