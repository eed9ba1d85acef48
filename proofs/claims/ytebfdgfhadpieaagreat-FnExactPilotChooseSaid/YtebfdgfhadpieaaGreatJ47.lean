import Derived.Test.YtebfdgfhadpieaaGreatChc
namespace Go.Proofs.YtebfdgfhadpieaaGreat
open Go.RowKit
section
variable {P : Program} {ops : Array Oper} {Q : Exit → Act → World → Prop} {md : Region.Mode} {S : World → Prop}
end
theorem KeepsFrom.of_cells {B : Nat} {w w' : World} {row : Option Nat} (hg : w.grownBy w' row) (hr : ∀ r, row = some r → ∃ cs ty, w.heap[r]? = some (Obj.cells cs ty)) : KeepsFrom B w w' :=
 ⟨hg.size, fun k o _ ho hc => (hg.block k (Array.getElem?_eq_some_iff.1 ho).1 (fun e => by
  obtain ⟨cs, ty, h1⟩ := hr k e.symm
  rw [ho] at h1
  cases h1
  cases hc)).trans ho⟩
theorem KeepsFrom.of_below {B : Nat} {w w' : World} (h : Below w.heap.size w w') : KeepsFrom B w w' := ⟨h.size, fun k _ _ ho _ => (h.block k (Array.getElem?_eq_some_iff.1 ho).1).trans ho⟩
end Go.Proofs.YtebfdgfhadpieaaGreat
namespace Go.Proofs.YtebfdgfhadpieaaGreat
open Go.RowKit
attribute [local go_sem] Oper.semAt_some
def bV (x : Flt) (ci : Nat) (y : Cpy) (o : Option (Nat × Brt)) : Array Value := match o with
 | none => #[.int .i64 0, .int .i64 0, .int .i64 0, .int .i64 0, .int .i64 0]
 | some z => oV x ci y z
theorem bV_size (x : Flt) (ci : Nat) (y : Cpy) (o : Option (Nat × Brt)) : (bV x ci y o).size = 5 := by cases o <;> rfl
theorem bV_one (x : Flt) (ci : Nat) (y : Cpy) (o : Option (Nat × Brt)) : (bV x ci y o).all (·.oneCell') = true := by cases o <;> simp [bV, oV, Value.oneCell']
theorem isz_OfferB {x : Flt} {ci : Nat} {y : Cpy} {o : Option (Nat × Brt)} : (Tryz.prog.info? 94).map (·.size) = some (bV x ci y o).toList.length := by
 rw [Array.length_toList, bV_size]
 exact isz_Offer
theorem KpS.setCell1 {G : Nat → Prop} {a w : World} (h : KpS G a w) {b : Nat} (hG : G b) (o : Nat) (v : Value) : KpS G a (w.setCell ⟨b, o, none⟩ v) :=
 h.trans ⟨rfl, rfl, rfl, by simp [World.setCell], fun k _ hk => Below.heap_setCell _ _ _ _ (fun e => hk (by rw [e]; exact hG))⟩
theorem KpS.setCells {G : Nat → Prop} {a : World} {b : Nat} (hG : G b) : ∀ (vs : List Value) (o : Nat) (w : World), KpS G a w → KpS G a (w.setCells b o vs)
 | [], _, _, h => h
 | _ :: vs, o, _, h => KpS.setCells hG vs (o + 1) _ (h.setCell1 hG o _)
theorem But.setCellsO {p B b : Nat} {a : World} (hb : B ≤ b) : ∀ (vs : List Value) (o : Nat) (w : World), But p B a w → But p B a (w.setCells b o vs)
 | [], _, _, h => h
 | _ :: vs, o, _, h => But.setCellsO hb vs (o + 1) _ (h.setOther hb o _)
theorem KeepsFrom.setCellsO {B b : Nat} {a : World} : ∀ (vs : List Value) (o : Nat) (w : World), KeepsFrom B a w → KeepsFrom B a (w.setCells b o vs)
 | [], _, _, h => h
 | _ :: vs, o, _, h => KeepsFrom.setCellsO vs (o + 1) _ (h.trans ((KeepsOthers.setCell _ _ _).from _))
set_option maxHeartbeats 8000000 in
set_option maxRecDepth 100000 in
theorem bestO_any (W0 : World) (lo p m1 m2 m3 m4 ci : Nat) (x : Flt) (a1 : Option Addr) (c1 : Nat) (a2 : Option Addr) (c2 : Nat) (a3 : Option Addr) (c3 : Nat) (y : Cpy) (Bf Bi Bc : Nat) (w : World) (hW : Below W0.heap.size W0 w) (hF : FoundM p m1 m2 m3 m4 0 x a1 c1 a2 c2 a3 c3 w) (hp : W0.heap.size ≤ p) (hm4 : W0.heap.size ≤ m4)
  (n1 : SliceC BrtC 6 lo W0 a1 x.berths) (n3 : SliceC CpyC 12 lo W0 a3 x.copies) (hv : validI x = true) (hy : x.copies[ci]? = some y)
  (hBf : Blk Bf #[.pointer (some ⟨p, 0, none⟩)] 49 w) (hBi : Blk Bi #[.int .i64 ((ci : Nat) : Int)] 3 w) (kf : Bf ≠ m4) (ki : Bi ≠ m4) (hBc : w.cell? ⟨Bc, 0, none⟩ = some (.pointer (some ⟨p, 0, none⟩))) (kc : Bc ≠ m4) :
  Calls Tryz.prog 45 #[.func (.func 76) #[] #[.pointer (some ⟨Bf, 0, none⟩), .pointer (some ⟨Bi, 0, none⟩)], .func (.func 43) #[] #[.pointer (some ⟨Bc, 0, none⟩)]] w fun e w' => e = .returned (.tuple #[.agg (bV x ci y (chT x ci y x.berths.length)), .bool (chT x ci y x.berths.length).isSome]) ∧ But m4 w.heap.size w w' := by
 have hb7 : Below w.heap.size w ((((w.alloc (Obj.cells #[.func (.func 43) #[] #[.pointer (some ⟨Bc, 0, none⟩)]] 95)).alloc (Obj.cells #[.int .i64 0, .int .i64 0, .int .i64 0, .int .i64 0, .int .i64 0] 94)).alloc (Obj.cells #[.int .i64 0, .int .i64 0, .int .i64 0, .int .i64 0, .int .i64 0] 94)).alloc (Obj.cells #[.bool false] 4)) := by go_grown
 have hpl := hF.2.1
 have hm1 := hF.2.2.1.lt
 have hm2 := hF.2.2.2.1.lt
 have hm3 := hF.2.2.2.2.1.lt
 have hm4w := hF.memo.lt
 have hbfl := hBf.lt
 have hbil := hBi.lt
 have hbcl := block_lt_of_cell hBc
 have hpm := hF.2.2.2.2.2.2.1
 have HB3 : Hid (Blk w.heap.size #[.func (.func 43) #[] #[.pointer (some ⟨Bc, 0, none⟩)]] 95 ((((w.alloc (Obj.cells #[.func (.func 43) #[] #[.pointer (some ⟨Bc, 0, none⟩)]] 95)).alloc (Obj.cells #[.int .i64 0, .int .i64 0, .int .i64 0, .int .i64 0, .int .i64 0] 94)).alloc (Obj.cells #[.int .i64 0, .int .i64 0, .int .i64 0, .int .i64 0, .int .i64 0] 94)).alloc (Obj.cells #[.bool false] 4))) := ((Blk.alloc w #[.func (.func 43) #[] #[.pointer (some ⟨Bc, 0, none⟩)]] 95).below (B := w.heap.size + 1) (show Below _ _ _ by go_grown) (by omega))
 have HB4 : Hid (Blk (w.heap.size + 1) #[.int .i64 0, .int .i64 0, .int .i64 0, .int .i64 0, .int .i64 0] 94 ((((w.alloc (Obj.cells #[.func (.func 43) #[] #[.pointer (some ⟨Bc, 0, none⟩)]] 95)).alloc (Obj.cells #[.int .i64 0, .int .i64 0, .int .i64 0, .int .i64 0, .int .i64 0] 94)).alloc (Obj.cells #[.int .i64 0, .int .i64 0, .int .i64 0, .int .i64 0, .int .i64 0] 94)).alloc (Obj.cells #[.bool false] 4))) := by
  have h := Blk.alloc (w.alloc (Obj.cells #[.func (.func 43) #[] #[.pointer (some ⟨Bc, 0, none⟩)]] 95)) #[.int .i64 0, .int .i64 0, .int .i64 0, .int .i64 0, .int .i64 0] 94
  rw [World.size_alloc] at h
  exact h.below (B := w.heap.size + 2) (show Below _ _ _ by go_grown) (by omega)
 have HB6 : Hid (Blk (w.heap.size + 2) #[.int .i64 0, .int .i64 0, .int .i64 0, .int .i64 0, .int .i64 0] 94 ((((w.alloc (Obj.cells #[.func (.func 43) #[] #[.pointer (some ⟨Bc, 0, none⟩)]] 95)).alloc (Obj.cells #[.int .i64 0, .int .i64 0, .int .i64 0, .int .i64 0, .int .i64 0] 94)).alloc (Obj.cells #[.int .i64 0, .int .i64 0, .int .i64 0, .int .i64 0, .int .i64 0] 94)).alloc (Obj.cells #[.bool false] 4))) := by
  have h := Blk.alloc ((w.alloc (Obj.cells #[.func (.func 43) #[] #[.pointer (some ⟨Bc, 0, none⟩)]] 95)).alloc (Obj.cells #[.int .i64 0, .int .i64 0, .int .i64 0, .int .i64 0, .int .i64 0] 94)) #[.int .i64 0, .int .i64 0, .int .i64 0, .int .i64 0, .int .i64 0] 94
  rw [World.size_alloc, World.size_alloc] at h
  exact h.below (B := w.heap.size + 3) (show Below _ _ _ by go_grown) (by omega)
 have HB7 : Hid (Blk (w.heap.size + 3) #[.bool false] 4 ((((w.alloc (Obj.cells #[.func (.func 43) #[] #[.pointer (some ⟨Bc, 0, none⟩)]] 95)).alloc (Obj.cells #[.int .i64 0, .int .i64 0, .int .i64 0, .int .i64 0, .int .i64 0] 94)).alloc (Obj.cells #[.int .i64 0, .int .i64 0, .int .i64 0, .int .i64 0, .int .i64 0] 94)).alloc (Obj.cells #[.bool false] 4))) := by
  have h := Blk.alloc (((w.alloc (Obj.cells #[.func (.func 43) #[] #[.pointer (some ⟨Bc, 0, none⟩)]] 95)).alloc (Obj.cells #[.int .i64 0, .int .i64 0, .int .i64 0, .int .i64 0, .int .i64 0] 94)).alloc (Obj.cells #[.int .i64 0, .int .i64 0, .int .i64 0, .int .i64 0, .int .i64 0] 94)) #[.bool false] 4
  rw [World.size_alloc, World.size_alloc, World.size_alloc] at h
  exact h
 have hs7 : (World.heap ((((w.alloc (Obj.cells #[.func (.func 43) #[] #[.pointer (some ⟨Bc, 0, none⟩)]] 95)).alloc (Obj.cells #[.int .i64 0, .int .i64 0, .int .i64 0, .int .i64 0, .int .i64 0] 94)).alloc (Obj.cells #[.int .i64 0, .int .i64 0, .int .i64 0, .int .i64 0, .int .i64 0] 94)).alloc (Obj.cells #[.bool false] 4))).size = w.heap.size + 4 := by simp
 have N1 := iH n1
 have N3 := iH n3
 have HV := iH hv
 have HYC := iH hy
 have HF7 := iH (hF.below hb7)
 have HBf := iH (hBf.below hb7 hBf.lt)
 have HBi := iH (hBi.below hb7 hBi.lt)
 have HBC := iH hBc
 have HPK : Hid (w.cell? ⟨p, 0, none⟩ = some (.bool x.pack)) := hF.1 0 _ rfl
 have hW7 : Below W0.heap.size W0 ((((w.alloc (Obj.cells #[.func (.func 43) #[] #[.pointer (some ⟨Bc, 0, none⟩)]] 95)).alloc (Obj.cells #[.int .i64 0, .int .i64 0, .int .i64 0, .int .i64 0, .int .i64 0] 94)).alloc (Obj.cells #[.int .i64 0, .int .i64 0, .int .i64 0, .int .i64 0, .int .i64 0] 94)).alloc (Obj.cells #[.bool false] 4)) := hW.trans (hb7.mono hW.size)
 have hWs := hW.size
 clear n1 n3 hv hy hF hBf hBi hBc hW
 refine (callsIn_wide (n := 7)).1 ?_
 refine callsIn_of_wp_marks Tryz.func45 rfl trivial ?_ rfl
 refine wpIn_wide.2 ?_
 simp only [Tryz.ntmps45, List.size_toArray, List.length_cons, List.length_nil, Nat.reduceAdd, Nat.reduceSub, Array.replicate_succ, Array.replicate_zero, List.push_toArray, List.append_toArray, List.nil_append, List.cons_append]
 go_wp2_with fail
 generalize (((w.alloc (Obj.cells #[.func (.func 43) #[] #[.pointer (some ⟨Bc, 0, none⟩)]] 95)).alloc (Obj.cells #[.int .i64 0, .int .i64 0, .int .i64 0, .int .i64 0, .int .i64 0] 94)).alloc (Obj.cells #[.int .i64 0, .int .i64 0, .int .i64 0, .int .i64 0, .int .i64 0] 94)).alloc (Obj.cells #[.bool false] 4) = w7 at *
 have hbut7 : But m4 w.heap.size w w7 := But.of_below hb7
 clear hb7
 generalize hn0 : w.heap.size = n0 at *
 obtain ⟨B4, hB4⟩ : ∃ B, B = n0 + 1 := ⟨_, rfl⟩
 obtain ⟨B6, hB6⟩ : ∃ B, B = n0 + 2 := ⟨_, rfl⟩
 obtain ⟨B7, hB7⟩ : ∃ B, B = n0 + 3 := ⟨_, rfl⟩
 obtain ⟨n7, hn7⟩ : ∃ n, n = n0 + 4 := ⟨_, rfl⟩
 rw [← hB4] at HB4
 rw [← hB6] at HB6
 rw [← hB7] at HB7
 rw [← hn7] at hs7
 rw [show n0 + 1 + 1 + 1 = B7 from by omega, show n0 + 1 + 1 = B6 from by omega, show n0 + 1 = B4 from by omega]
 have q1 : n0 < B4 := by omega
 have q2 : B4 < B6 := by omega
 have q3 : B6 < B7 := by omega
 have q4 : B7 < n7 := by omega
 have q5 : n7 ≤ w7.heap.size := by omega
 have q6 : w7.heap.size ≤ n7 := by omega
 have HN0 := iH hn0
 clear hB4 hB6 hB7 hn7 hs7 hn0
 refine wpIn_wide.1 (range_allS (n := 6) (fun k => k = B6 ∨ k = B7) m4 m4 (gf := 76) (lb := #[.pointer (some ⟨Bf, 0, none⟩), .pointer (some ⟨Bi, 0, none⟩)]) rfl (enters_of Tryz.func76 (by kernel_rfl) rfl)
  (offers_seq W0 lo p m1 m2 m3 m4 ci x a1 c1 a2 c2 a3 c3 y Bf Bi (fun k => k = B6 ∨ k = B7) w7 hW7 HF7.out hp hm4 N1.out N3.out HV.out HYC.out HBf.out HBi.out ⟨by omega, kf⟩ ⟨by omega, ki⟩ ⟨fun k hk => by omega, by omega, by omega, by omega, by omega, by omega⟩) (by omega) (by omega) (fun _ => rfl)
  (fun pre W' => Blk B6 (bV x ci y (bestL x ci y pre)) 94 W' ∧ Blk B7 #[.bool (bestL x ci y pre).isSome] 4 W' ∧ Blk n0 #[.func (.func 43) #[] #[.pointer (some ⟨Bc, 0, none⟩)]] 95 W' ∧ Blk B4 #[.int .i64 0, .int .i64 0, .int .i64 0, .int .i64 0, .int .i64 0] 94 W' ∧ But m4 n0 w W' ∧ n7 ≤ W'.heap.size) ?_ ?_ ?_
  (fun z a' W' => ∃ Bx, n7 ≤ Bx ∧ Blk Bx (oV x ci y z) 94 W' ∧ a' = { tmps := #[.func (.func 76) #[] #[.pointer (some ⟨Bf, 0, none⟩), .pointer (some ⟨Bi, 0, none⟩)], .func (.func 43) #[] #[.pointer (some ⟨Bc, 0, none⟩)], undef, .pointer (some ⟨n0, 0, none⟩), .pointer (some ⟨B4, 0, none⟩), .bool false, .pointer (some ⟨B6, 0, none⟩), .pointer (some ⟨B7, 0, none⟩), .pointer (some ⟨Bx, 0, none⟩), .func (.func 76) #[] #[.pointer (some ⟨Bf, 0, none⟩), .pointer (some ⟨Bi, 0, none⟩)], .agg (oV x ci y z), undef, undef, undef, undef, undef, undef, undef, undef, undef, undef, undef], defers := [] }) ?_ ?_ ?_ ?_)
 ·rintro s A B row ⟨h1, h2, h3, h4, h5, h6⟩ hgr hr
  have hne : ∀ k, k < n7 → some k ≠ row := fun k hk e => by have := (hr _ e.symm).1; omega
  exact ⟨h1.grown hgr (hne _ (by omega)), h2.grown hgr (hne _ (by omega)), h3.grown hgr (hne _ (by omega)), h4.grown hgr (hne _ (by omega)), h5.trans ⟨hgr.os, hgr.tape, hgr.output, hgr.size, fun k hk _ => hgr.block k (by omega) (hne k (by omega))⟩, Nat.le_trans h6 hgr.size⟩
 ·rintro s A B ⟨h1, h2, h3, h4, h5, h6⟩ hB
  exact ⟨(hB.block _ h1.lt (by omega) (by omega)).trans h1, (hB.block _ h2.lt (by omega) (by omega)).trans h2, (hB.block _ h3.lt (by omega) (by omega)).trans h3, (hB.block _ h4.lt (by omega) (by omega)).trans h4, h5.trans ⟨hB.os, hB.tape, hB.output, hB.size, fun k hk hm => hB.block k (by omega) hm hm⟩, Nat.le_trans h6 hB.size⟩
 ·exact ⟨HB6.out, HB7.out, HB3.out, HB4.out, hbut7, q5⟩
 ·rintro z a' _ A B row ⟨Bx, h1, h2, h3⟩ hgr hr
  refine ⟨Bx, h1, h2.grown hgr (fun e => ?_), h3⟩
  obtain ⟨_, o, ho, hc⟩ := hr _ e.symm
  rw [show A.heap[Bx]? = _ from h2] at ho
  cases ho
  cases hc
 ·rintro l' pre z W' K ⟨h1, h2, h3, h4, h5, h6⟩ hK
  have hKK := iH hK
  have hbl : Below W'.heap.size W' (W'.alloc (Obj.cells (oV x ci y z) 94)) := (Below.refl _ W').alloc nL _
  have HI := iH (And.intro h1 (And.intro h2 (And.intro h3 (And.intro h4 (And.intro h5 (And.intro h6 hbl))))))
  clear hK h1 h2 h3 h4 h5 hbl
  simp only [encO]
  gi_wp2_with fail
  obtain ⟨h1, h2, h3, h4, h5, h6, hbl⟩ := HI.out
  exact hKK.out _ _ (KeepsFrom.of_below hbl) (KpS.of_below hbl) ⟨h1.below hbl h1.lt, h2.below hbl h2.lt, h3.below hbl h3.lt, h4.below hbl h4.lt, h5.trans (But.of_below (hbl.mono (Nat.le_trans (by omega) h6))), Nat.le_trans h6 hbl.size⟩ ⟨W'.heap.size, h6, Blk.alloc _ _ _, rfl⟩
 ·rintro l' pre z a' W' ⟨h1, h2, h3, h4, h5, h6⟩ ⟨Bx, hBx, hbx, rfl⟩ hlt'
  have H2 := iH h2
  have H3 := iH h3
  have H4 := iH h4
  have H5 := iH h5
  have HX := iH hbx
  clear h2 h3 h4 h5 hbx
  refine wpIn_block ?_
  cases hbst : bestL x ci y pre with
  | none =>
   rw [hbst] at h1 H2
   have H1 : Hid (Blk B6 #[.int .i64 0, .int .i64 0, .int .i64 0, .int .i64 0, .int .i64 0] 94 W') := h1
   have HSN : Hid (bestL x ci y (pre ++ [z]) = some z) := by show _ = _; rw [best_snoc, hbst]; rfl
   have e7 : W'.cell? ⟨B7, 0, none⟩ = some (.bool false) := H2.out.cell rfl
   obtain ⟨SB, hSB⟩ : ∃ SB : Bool, SB = false := ⟨_, rfl⟩
   have H2' : Hid (Blk B7 #[.bool SB] 4 W') := by rw [hSB]; exact H2.out
   clear H2 hbst h1
   have H2 := H2'
   clear H2' hSB
   have hth := H1.out.there
   obtain ⟨w8, HW8⟩ : ∃ w8, Hid (w8 = W'.setCells B6 0 (oV x ci y z).toList) := ⟨_, rfl⟩
   have hb6 : Blk B6 (oV x ci y z) 94 w8 := by rw [HW8.out]; exact H1.out.setAll (oV x ci y z) (by simp)
   have hb7 : Blk B7 #[.bool SB] 4 w8 := by rw [HW8.out]; exact blk_setCells_other (by omega) _ _ _ H2.out
   have hb3 : Blk n0 #[.func (.func 43) #[] #[.pointer (some ⟨Bc, 0, none⟩)]] 95 w8 := by rw [HW8.out]; exact blk_setCells_other (by omega) _ _ _ H3.out
   have hb4 : Blk B4 #[.int .i64 0, .int .i64 0, .int .i64 0, .int .i64 0, .int .i64 0] 94 w8 := by rw [HW8.out]; exact blk_setCells_other (by omega) _ _ _ H4.out
   have hbt : But m4 n0 w w8 := by rw [HW8.out]; exact But.setCellsO (by omega) _ _ _ H5.out
   have hks : KpS (fun k => k = B6 ∨ k = B7) W' w8 := by rw [HW8.out]; exact KpS.setCells (.inl rfl) _ _ _ (KpS.refl _ _)
   have hkf : KeepsFrom w7.heap.size W' w8 := by rw [HW8.out]; exact KeepsFrom.setCellsO _ _ _ (KeepsFrom.refl _ _)
   have y0 : W'.cell? ⟨Bx, 0, none⟩ = some (.int .i64 ((z.1 : Nat) : Int)) := HX.out.cell rfl
   have y1 : W'.cell? ⟨Bx, 1, none⟩ = some (.int .i64 (n1C y z.2)) := HX.out.cell rfl
   have y2 : W'.cell? ⟨Bx, 2, none⟩ = some (.int .i64 (n2C x ci y z.2)) := HX.out.cell rfl
   have y3 : W'.cell? ⟨Bx, 3, none⟩ = some (.int .i64 (n3C x ci y z.2)) := HX.out.cell rfl
   have y4 : W'.cell? ⟨Bx, 4, none⟩ = some (.int .i64 (n4C x ci y z.2)) := HX.out.cell rfl
   have kz := hb7.cell (o := 0) rfl
   have fz := hb7.frozen 0
   have HTH := iH hth
   have HR := iH (And.intro hb6 (And.intro hb7 (And.intro hb3 (And.intro hb4 (And.intro hbt (And.intro hks hkf))))))
   clear hth hb6 hb7 hb3 hb4 hbt hks hkf
   gi_wp2_with (first | (refine wpListIn_store_toC rfl 94 _ _ rfl B6 0 (oV x ci y z) (by first | rfl | (simp [go_sem]; done)) (by first | rfl | (simp [go_sem]; done)) HTH.out isz_Offer (by simp [Value.oneCell']) w8 HW8.out ?_))
   refine ⟨fun _ h => (by cases h), ?_⟩
   gi_wp2_with (first | (refine wpListIn_store_toC rfl 94 _ _ rfl B6 0 (oV x ci y z) (by first | rfl | (simp [go_sem]; done)) (by first | rfl | (simp [go_sem]; done)) HTH.out isz_Offer (by simp [Value.oneCell']) w8 HW8.out ?_))
   clear y0 y1 y2 y3 y4 kz fz
   obtain ⟨hb6, hb7, hb3, hb4, hbt, hks, hkf⟩ := HR.out
   refine ⟨(hkf.trans ((KeepsOthers.setCell _ _ _).from _)), (hks.setCell1 (.inr rfl) 0 _), ?_⟩
   dsimp only
   rw [HSN.out]
   refine ⟨hb6.other (a := ⟨B7, 0, none⟩) (by show B6 ≠ B7; omega) _, hb7.set 0 _, hb3.other (a := ⟨B7, 0, none⟩) (by show n0 ≠ B7; omega) _, hb4.other (a := ⟨B7, 0, none⟩) (by show B4 ≠ B7; omega) _, hbt.setOther (by omega) 0 _, ?_⟩
   have h9 := hks.size
   simp [World.setCell]
   omega
  | some v =>
   rw [hbst] at h1 H2
   have H1 : Hid (Blk B6 (oV x ci y v) 94 W') := h1
   have HBST := iH hbst
   have e7 : W'.cell? ⟨B7, 0, none⟩ = some (.bool true) := H2.out.cell rfl
   have e3 : W'.cell? ⟨n0, 0, none⟩ = some (.func (.func 43) #[] #[.pointer (some ⟨Bc, 0, none⟩)]) := H3.out.cell rfl
   have z0 : W'.cell? ⟨B6, 0, none⟩ = some (.int .i64 ((v.1 : Nat) : Int)) := h1.cell rfl
   have z1 : W'.cell? ⟨B6, 1, none⟩ = some (.int .i64 (n1C y v.2)) := h1.cell rfl
   have z2 : W'.cell? ⟨B6, 2, none⟩ = some (.int .i64 (n2C x ci y v.2)) := h1.cell rfl
   have z3 : W'.cell? ⟨B6, 3, none⟩ = some (.int .i64 (n3C x ci y v.2)) := h1.cell rfl
   have z4 : W'.cell? ⟨B6, 4, none⟩ = some (.int .i64 (n4C x ci y v.2)) := h1.cell rfl
   have y0 : W'.cell? ⟨Bx, 0, none⟩ = some (.int .i64 ((z.1 : Nat) : Int)) := HX.out.cell rfl
   have y1 : W'.cell? ⟨Bx, 1, none⟩ = some (.int .i64 (n1C y z.2)) := HX.out.cell rfl
   have y2 : W'.cell? ⟨Bx, 2, none⟩ = some (.int .i64 (n2C x ci y z.2)) := HX.out.cell rfl
   have y3 : W'.cell? ⟨Bx, 3, none⟩ = some (.int .i64 (n3C x ci y z.2)) := HX.out.cell rfl
   have y4 : W'.cell? ⟨Bx, 4, none⟩ = some (.int .i64 (n4C x ci y z.2)) := HX.out.cell rfl
   have HCC : Hid (Calls Tryz.prog 43 #[.agg (oV x ci y z), .agg (oV x ci y v), .pointer (some ⟨Bc, 0, none⟩)] W' fun e w' => e = .returned (.bool (btr x ci y z.2 v.2)) ∧ Below W'.heap.size W' w') := betterF_any _ _ _ _ _ _ _ _ _ _ x.pack p Bc W' ((H5.out.cell (a := ⟨Bc, 0, none⟩) hbcl kc).trans HBC.out) ((H5.out.cell (a := ⟨p, 0, none⟩) hpl hpm).trans HPK.out)
   clear hbst h1
   gi_wp2_with fail
   refine ⟨trivial, (CallsIn.inRound l' (callsIn_wide.2 HCC.out)).mono ?_⟩
   rintro e W8 ⟨rfl, hb8⟩
   clear HCC e7 e3 z0 z1 z2 z3 z4 y0 y1 y2 y3 y4
   have K1 := iH (H1.out.below hb8 H1.out.lt)
   have K2 := iH (H2.out.below hb8 H2.out.lt)
   have K3 := iH (H3.out.below hb8 H3.out.lt)
   have K4 := iH (H4.out.below hb8 H4.out.lt)
   have K5 : Hid (But m4 n0 w W8) := H5.out.trans (But.of_below (hb8.mono (by omega)))
   have KX := iH (HX.out.below hb8 HX.out.lt)
   have k6 : n7 ≤ W8.heap.size := Nat.le_trans h6 hb8.size
   have HB8 := iH hb8
   clear H1 H2 H3 H4 H5 HX hb8
   have H1 := K1
   have H2 := K2
   have H3 := K3
   have H4 := K4
   have H5 := K5
   have HX := KX
   clear K1 K2 K3 K4 K5 KX
   cases hbt : btr x ci y z.2 v.2 with
   | false =>
    have HSN : Hid (bestL x ci y (pre ++ [z]) = some v) := by show _ = _; rw [best_snoc, HBST.out]; simp [stepC, hbt]
    clear hbt
    gi_wp2_with fail
    refine ⟨KeepsFrom.of_below HB8.out, KpS.of_below HB8.out, ?_⟩
    dsimp only
    rw [HSN.out]
    exact ⟨H1.out, H2.out, H3.out, H4.out, H5.out, k6⟩
   | true =>
    have HSN : Hid (bestL x ci y (pre ++ [z]) = some z) := by show _ = _; rw [best_snoc, HBST.out]; simp [stepC, hbt]
    obtain ⟨SB, hSB⟩ : ∃ SB : Bool, SB = (some v).isSome := ⟨_, rfl⟩
    rw [← hSB] at H2
    clear hbt hSB
    have hth := H1.out.there
    obtain ⟨w8, HW8⟩ : ∃ w8, Hid (w8 = W8.setCells B6 0 (oV x ci y z).toList) := ⟨_, rfl⟩
    have hb6 : Blk B6 (oV x ci y z) 94 w8 := by rw [HW8.out]; exact H1.out.setAll (oV x ci y z) (by simp)
    have hb7 : Blk B7 #[.bool SB] 4 w8 := by rw [HW8.out]; exact blk_setCells_other (by omega) _ _ _ H2.out
    have hb3 : Blk n0 #[.func (.func 43) #[] #[.pointer (some ⟨Bc, 0, none⟩)]] 95 w8 := by rw [HW8.out]; exact blk_setCells_other (by omega) _ _ _ H3.out
    have hb4 : Blk B4 #[.int .i64 0, .int .i64 0, .int .i64 0, .int .i64 0, .int .i64 0] 94 w8 := by rw [HW8.out]; exact blk_setCells_other (by omega) _ _ _ H4.out
    have hbt : But m4 n0 w w8 := by rw [HW8.out]; exact But.setCellsO (by omega) _ _ _ H5.out
    have hks : KpS (fun k => k = B6 ∨ k = B7) W8 w8 := by rw [HW8.out]; exact KpS.setCells (.inl rfl) _ _ _ (KpS.refl _ _)
    have hkf : KeepsFrom w7.heap.size W8 w8 := by rw [HW8.out]; exact KeepsFrom.setCellsO _ _ _ (KeepsFrom.refl _ _)
    have y0 : W8.cell? ⟨Bx, 0, none⟩ = some (.int .i64 ((z.1 : Nat) : Int)) := HX.out.cell rfl
    have y1 : W8.cell? ⟨Bx, 1, none⟩ = some (.int .i64 (n1C y z.2)) := HX.out.cell rfl
    have y2 : W8.cell? ⟨Bx, 2, none⟩ = some (.int .i64 (n2C x ci y z.2)) := HX.out.cell rfl
    have y3 : W8.cell? ⟨Bx, 3, none⟩ = some (.int .i64 (n3C x ci y z.2)) := HX.out.cell rfl
    have y4 : W8.cell? ⟨Bx, 4, none⟩ = some (.int .i64 (n4C x ci y z.2)) := HX.out.cell rfl
    have kz := hb7.cell (o := 0) rfl
    have fz := hb7.frozen 0
    have HTH := iH hth
    have HR := iH (And.intro hb6 (And.intro hb7 (And.intro hb3 (And.intro hb4 (And.intro hbt (And.intro hks hkf))))))
    clear hth hb6 hb7 hb3 hb4 hbt hks hkf
    gi_wp2_with (first | (refine wpListIn_store_toC rfl 94 _ _ rfl B6 0 (oV x ci y z) (by first | rfl | (simp [go_sem]; done)) (by first | rfl | (simp [go_sem]; done)) HTH.out isz_Offer (by simp [Value.oneCell']) w8 HW8.out ?_))
    clear y0 y1 y2 y3 y4 kz fz
    obtain ⟨hb6, hb7, hb3, hb4, hbt, hks, hkf⟩ := HR.out
    refine ⟨(KeepsFrom.of_below HB8.out).trans (hkf.trans ((KeepsOthers.setCell _ _ _).from _)), (KpS.of_below HB8.out).trans (hks.setCell1 (.inr rfl) 0 _), ?_⟩
    dsimp only
    rw [HSN.out]
    refine ⟨hb6.other (a := ⟨B7, 0, none⟩) (by show B6 ≠ B7; omega) _, hb7.set 0 _, hb3.other (a := ⟨B7, 0, none⟩) (by show n0 ≠ B7; omega) _, hb4.other (a := ⟨B7, 0, none⟩) (by show B4 ≠ B7; omega) _, hbt.setOther (by omega) 0 _, ?_⟩
    have h9 := hks.size
    simp [World.setCell]
    omega
 ·rintro D xs W' hD rfl ⟨h1, h2, h3, h4, h5, h6⟩ hK
  obtain ⟨O, hO⟩ : ∃ O, chT x ci y x.berths.length = O := ⟨_, rfl⟩
  have hO' : bestL x ci y (offT x ci y x.berths.length) = O := hO
  rw [hO'] at h1 h2
  have HO := iH hO
  have hth : W'.there B4 0 5 := h4.there
  have HS0 := iH (And.intro h1 (And.intro h2 (And.intro hth (And.intro h5 (And.intro hK h6)))))
  have hD7 : n7 ≤ D := by omega
  clear hO hO' h1 h2 h3 h4 h5 h6 hK hth hD
  go_upto_region 7 with fail
  refine wp_normal ?_
  refine wp_region_held_drew (S := fun wy => Blk B6 (bV x ci y O) 94 wy ∧ Blk B7 #[.bool O.isSome] 4 wy ∧ wy.there B4 0 5 ∧ But m4 n0 w wy ∧ wy.heap[D]? = some (.deferred (some [])) ∧ n7 ≤ wy.heap.size) (by kernel_rfl) ⟨HS0.out.1.drew, HS0.out.2.1.drew, HS0.out.2.2.1, HS0.out.2.2.2.1.drew, HS0.out.2.2.2.2.1, HS0.out.2.2.2.2.2⟩ (fun hS => ?_)
  clear HS0
  generalize W'.drew = wa at *
  refine tk 0 ⟨some 20, _, _, _, _, none⟩ (.agg (bV x ci y O).toList.toArray) rfl (yieldsIf_load_mid (by rfl) _ _ rfl B6 (0) rfl (bV x ci y O).toList _ (fun _ h => h.1.rangeA) Tryz.underlying94 rfl isz_OfferB) hS ?_
  simp only [pA,pB,pC,pD]
  refine tl 1 21 (.bool O.isSome) ⟨B7, 0, none⟩ rfl (fun wy hy => hy.2.1.cell rfl) hS ?_
  simp only [pA,pB,pC,pD]
  refine rd1 2 ⟨none, _, _, _, _, none⟩ rfl (fun K hK => ?_)
  refine wp_store_mid 94 (.tmp 4) (.tmp 20) (by rfl) B4 0 (bV x ci y O) (by rfl) (by first | rfl | simp [Act.eval]) (by rw [bV_size]; exact hS.2.2.1) (by rw [bV_size]; exact isz_Offer) (bV_one x ci y O) ?_
  have HRG : Hid ((wa.setCells B4 0 (bV x ci y O).toList).rangeAt B4 0 (bV x ci y O).toList) := World.rangeAt_setCells_same _ _ _ _ (by rw [Array.length_toList, bV_size]; exact hS.2.2.1)
  refine hK.out _ _ ⟨blk_setCells_other (by omega) _ _ _ hS.1, blk_setCells_other (by omega) _ _ _ hS.2.1, World.there_setCells hS.2.2.1 _ _ _, But.setCellsO (by omega) _ _ _ hS.2.2.2.1, (heap_setCells_other (by omega) _ _ _).trans hS.2.2.2.2.1, Nat.le_trans hS.2.2.2.2.2 (KeepsFrom.setCellsO (B := 0) _ _ _ (KeepsFrom.refl _ _)).size⟩ (fun hS => ?_)
  clear hK K
  generalize wa.setCells B4 0 (bV x ci y O).toList = wb at *
  refine tz 3 5 (.bool O.isSome) rfl hS ?_
  simp only [Act.put, List.setIfInBounds_toArray, List.set_cons_zero, List.set_cons_succ]
  have HSB := iH hS
  refine td ?_
  clear hS
  refine ⟨rfl, ?_⟩
  go_wp2_with fail
  refine ⟨by simp, .inl ⟨_, _, rfl, run_takeDeferred HSB.out.2.2.2.2.1, ?_⟩⟩
  refine ⟨_, results_cell_tmp rfl _ _ B4 (bV x ci y O).toList _ rfl (fun j v hj => (World.cell?_of_block (w := wb) (World.putObj_heap_other (by show B4 ≠ D; omega))).trans (HRG.out j v hj)) Tryz.underlying94 rfl isz_OfferB, ?_, ?_⟩
  ·rw [HO.out]
   simp
  ·rw [HN0.out]
   exact HSB.out.2.2.2.1.trans (c := wb.putObj D (.deferred none)) ⟨rfl, rfl, rfl, (grownBy_putObj' _ _ _).size, fun k hk _ => World.putObj_heap_other (by omega)⟩
end Go.Proofs.YtebfdgfhadpieaaGreat
namespace Go.Proofs.YtebfdgfhadpieaaGreat
open Go.RowKit Go.WideMaps Go.Maps
theorem name20C {s : ByteArray} (h : P.nameOk s = true) : s.size ≤ 20 := by
 unfold P.nameOk at h
 simp only [Bool.and_eq_true, decide_eq_true_eq] at h
 omega
def plC (o : Option (Nat × Brt)) : Nat := match o with
 | none => 0
 | some z => z.1
set_option maxHeartbeats 4000000 in
set_option maxRecDepth 100000 in
theorem choose_any (W0 : World) (lo p m1 m2 m3 m4 ci : Nat) (x : Flt) (a1 : Option Addr) (c1 : Nat) (a2 : Option Addr) (c2 : Nat) (a3 : Option Addr) (c3 : Nat) (y : Cpy) (w : World) (hW : Below W0.heap.size W0 w) (hF : FoundM p m1 m2 m3 m4 0 x a1 c1 a2 c2 a3 c3 w) (hp : W0.heap.size ≤ p) (hm4 : W0.heap.size ≤ m4)
  (n1 : SliceC BrtC 6 lo W0 a1 x.berths) (n3 : SliceC CpyC 12 lo W0 a3 x.copies) (hv : validI x = true) (hy : x.copies[ci]? = some y) :
  Calls Tryz.prog 19 #[.pointer (some ⟨p, 0, none⟩), .int .i64 ((ci : Nat) : Int)] w fun e w' => e = .returned (.tuple #[.int .i64 ((plC (chT x ci y x.berths.length) : Nat) : Int), .bool (chT x ci y x.berths.length).isSome]) ∧ But m4 w.heap.size w w' := by
 have N1 := iH n1
 have N3 := iH n3
 have HV := iH hv
 have HYC := iH hy
 have HF := iH hF
 have hm4w := hF.memo.lt
 have hb1 : Below w.heap.size w (w.alloc (Obj.cells #[.pointer (some ⟨p, 0, none⟩)] 49)) := by go_grown
 have HB1 : Hid (Blk w.heap.size #[.pointer (some ⟨p, 0, none⟩)] 49 (w.alloc (Obj.cells #[.pointer (some ⟨p, 0, none⟩)] 49))) := Blk.alloc _ _ _
 clear n1 n3 hv hy hF
 go_enter Tryz.func19, Tryz.ntmps19
 go_upto_region 1 with fail
 generalize w.alloc (Obj.cells #[.pointer (some ⟨p, 0, none⟩)] 49) = w1 at *
 have k0 : w1.cell? ⟨w.heap.size, 0, none⟩ = some (.pointer (some ⟨p, 0, none⟩)) := HB1.out.cell rfl
 go_wp2_with fail
 refine (offers_any p _ _).mono ?_
 rintro e w2 ⟨rfl, hw2⟩
 have hb2 : Below w1.heap.size w1 w2 := by rw [hw2]; exact ((Below.refl _ w1).alloc nL _).alloc (by simp) _
 have HX2 : Hid (Blk w1.heap.size #[.pointer (some ⟨p, 0, none⟩)] 49 w2) := by
  show Blk _ _ _ _
  rw [hw2]
  exact (Blk.alloc w1 _ _).below ((Below.refl _ _).alloc nL _) (Blk.alloc w1 _ _).lt
 have HI2 : Hid (Blk (w1.heap.size + 1) #[.int .i64 ((ci : Nat) : Int)] 3 w2) := by
  rw [hw2]
  have h := Blk.alloc (w1.alloc (Obj.cells #[.pointer (some ⟨p, 0, none⟩)] 49)) #[.int .i64 ((ci : Nat) : Int)] 3
  show Blk _ _ _ _
  simpa using h
 have HB2 := iH (HB1.out.below hb2 HB1.out.lt)
 have hB2 : Below w.heap.size w w2 := hb1.trans (hb2.mono hb1.size)
 have hw12 := hb1.size
 clear hw2 hb2 HB1 k0
 go_wp2_with fail
 refine (bestO_any W0 lo p m1 m2 m3 m4 ci x a1 c1 a2 c2 a3 c3 y w1.heap.size (w1.heap.size + 1) w.heap.size w2 (hW.trans (hB2.mono hW.size)) (HF.out.below hB2) hp hm4 N1.out N3.out HV.out HYC.out HX2.out HI2.out (by omega) (by omega) (HB2.out.cell rfl) (by omega)).mono ?_
 rintro e w3 ⟨rfl, hb3⟩
 have hB3 : But m4 w.heap.size w w3 := (But.of_below hB2).trans (hb3.mono hB2.size)
 clear hb3 HX2 HI2 HB2 hB2 hb1
 cases hO : chT x ci y x.berths.length with
 | none =>
  have HE : Hid (But m4 w.heap.size w (w3.alloc (Obj.cells #[.int .i64 0, .int .i64 0, .int .i64 0, .int .i64 0, .int .i64 0] 94))) := hB3.trans (But.of_below ((Below.refl _ w3).alloc hB3.size _))
  simp only [bV, Option.isSome_none]
  have HO := iH hO
  clear hO
  go_wp2_with fail
  exact bodyPost_ret (results_tmp2 rfl _ _ _) rfl ⟨by rw [HO.out]; rfl, HE.out⟩
 | some z =>
  have HE : Hid (But m4 w.heap.size w (w3.alloc (Obj.cells (oV x ci y z) 94))) := hB3.trans (But.of_below ((Below.refl _ w3).alloc hB3.size _))
  simp only [bV, Option.isSome_some]
  have HO := iH hO
  clear hO
  go_wp2_with fail
  exact bodyPost_ret (results_tmp2 rfl _ _ _) rfl ⟨by rw [HO.out]; rfl, HE.out⟩
set_option maxHeartbeats 4000000 in
set_option maxRecDepth 100000 in
theorem implChoose_any (x : Flt) (a1 : Option Addr) (c1 : Nat) (a2 : Option Addr) (c2 : Nat) (a3 : Option Addr) (c3 : Nat) (lo : Nat) (cn : ByteArray) (w : World) (n1 : SliceC BrtC 6 lo w a1 x.berths) (n2 : SliceC SvcC 2 lo w a2 x.services) (n3 : SliceC CpyC 12 lo w a3 x.copies)
  (l1 : x.berths.length ≤ 1048576) (l2 : x.services.length ≤ 1048576) (l3 : x.copies.length ≤ 1048576) (hcn : cn.size ≤ maxLen) :
  Calls Tryz.prog 7 #[.agg #[.bool x.pack, .slice a1 x.berths.length c1, .slice a2 x.services.length c2, .slice a3 x.copies.length c3], .string cn] w fun e w' => e = .returned (.string (chooseR x cn)) ∧ Below w.heap.size w w' := by
 have N1 := iH n1
 have N2 := iH n2
 have N3 := iH n3
 have hkc : keyOf Tryz.prog 9 (.string cn) = some (kOf cn) := keyOf_string_mk Tryz.underlying9 hcn
 clear n1 n2 n3 hcn
 go_enter Tryz.func7, Tryz.ntmps7
 go_wp2_with fail
 have e3 : Below w.heap.size w (w.alloc (Obj.cells #[.bool x.pack, .slice a1 x.berths.length c1, .slice a2 x.services.length c2, .slice a3 x.copies.length c3] 33)) := (Below.refl _ w).alloc nL _
 have HB0 := iH e3
 clear e3
 generalize (w.alloc (Obj.cells #[.bool x.pack, .slice a1 x.berths.length c1, .slice a2 x.services.length c2, .slice a3 x.copies.length c3] 33)) = w0 at *
 have M1 := iH (N1.out.below BrtC.holds HB0.out nL)
 have M3 := iH (N3.out.below CpyC.holds HB0.out nL)
 refine (findValid_any x a1 c1 a2 c2 a3 c3 lo w0 M1.out (N2.out.below SvcC.holds HB0.out nL) M3.out l1 l2 l3).mono ?_
 rintro e w1 ⟨v, rfl, hb1, hfd⟩
 have HB1 : Hid (Below w0.heap.size w0 w1) := hb1
 have HW1 : Hid (Below w.heap.size w w1) := HB0.out.trans (hb1.mono HB0.out.size)
 clear hb1
 cases hv : validI x with
 | false =>
  have HS := iH (choose_bad (cn := cn) hv)
  clear hfd hv
  go_wp2_with fail
  go_ret
  exact ⟨by rw [HS.out]; rfl, HW1.out⟩
 | true =>
  obtain ⟨p, m1, m2, m3, m4, rfl, hp, hm4, hF⟩ := hfd hv
  have HF := iH hF
  have HV := iH hv
  have O3 := iH HF.out.2.2.2.2.1
  have p6 : w1.cell? ⟨p, 6, none⟩ = some (.map (some m3)) := HF.out.1 6 _ rfl
  have HC1 : Hid (has (placesTo (cpN x) x.copies.length) (kOf cn) = (lastOf (cpN x) cn x.copies.length).isSome) := has_places _ _ _
  have HC2 : Hid ((placesTo (cpN x) x.copies.length).atKey (kOf cn) (.lit (.int .i64 0)) = .lit (.int .i64 (((lastOf (cpN x) cn x.copies.length).getD 0 : Nat) : Int))) := at_places _ _ _
  obtain ⟨_, _, _, hcN, _, _⟩ := valid_parts HV.out
  clear hF hfd hv
  have hc1 := HC1.out
  have hc2 := HC2.out
  clear HC1 HC2
  generalize placesTo (cpN x) x.copies.length = D3 at *
  cases hci : lastOf (cpN x) cn x.copies.length with
  | none =>
   have HS := iH (choose_noC hci)
   rw [hci] at hc1 hc2
   simp only [Option.isSome_none, Option.getD_none] at hc1 hc2
   clear hci hcN
   go_wp2_with (at_lookup; refine wpList_lookup_own_ok_int _ rfl _ _ 53 rfl 9 3 .i64 law_str Tryz.underlying53 Tryz.underlying3 (zero_int _) m3 _ _ rfl O3.out _ _ rfl hkc ?_; intro c hcc _; obtain rfl := lit_inj (hcc.symm.trans hc2); rw [hc1])
   go_ret
   exact ⟨by rw [HS.out]; rfl, HW1.out⟩
  | some ci =>
   obtain ⟨_, y, hy, hyn⟩ := idxC_some hcN hci
   clear hyn
   have HS := iH (choose_yes HV.out hci hy)
   have HY := iH hy
   rw [hci] at hc1 hc2
   simp only [Option.isSome_some, Option.getD_some] at hc1 hc2
   clear hci hcN hy
   go_wp2_with (at_lookup; refine wpList_lookup_own_ok_int _ rfl _ _ 53 rfl 9 3 .i64 law_str Tryz.underlying53 Tryz.underlying3 (zero_int _) m3 _ _ rfl O3.out _ _ rfl hkc ?_; intro c hcc _; obtain rfl := lit_inj (hcc.symm.trans hc2); rw [hc1])
   refine (choose_any w0 lo p m1 m2 m3 m4 ci x a1 c1 a2 c2 a3 c3 y w1 HB1.out (FoundM.of HF.out) hp hm4 M1.out M3.out HV.out HY.out).mono ?_
   rintro e w2 ⟨rfl, hb2⟩
   have HW2 : Hid (Below w.heap.size w w2) := HW1.out.trans (hb2.below HW1.out.size (Nat.le_trans HB0.out.size hm4))
   have hpm : p ≠ m4 := (FoundM.of HF.out).2.2.2.2.2.2.1
   have HP1 : Hid (w2.cell? ⟨p, 1, none⟩ = some (.slice a1 x.berths.length c1)) := (hb2.cell (a := ⟨p, 1, none⟩) HF.out.2.1 hpm).trans (HF.out.1 1 _ rfl)
   clear hb2 HF p6 O3 hc1 hc2
   cases hO : chT x ci y x.berths.length with
   | none =>
    rw [hO] at HS
    have HS' : Hid (chooseR x cn = ⟨#[]⟩) := HS.out
    simp only [plC, Option.isSome_none]
    clear hO
    go_wp2_with fail
    go_ret
    exact ⟨by rw [HS'.out]; rfl, HW2.out⟩
   | some z =>
    rw [hO] at HS
    have HS' : Hid (chooseR x cn = z.2.name) := HS.out
    obtain ⟨hz, hzl⟩ := chT_some hO
    have hn20 := name20C ((valid_more HV.out).2.2.1 z.1 z.2 hz).1
    obtain ⟨bb, bo, rfl, _, hbb, hbc⟩ := N1.out.at hz
    obtain ⟨am, cm, t0, _⟩ := hbc
    have k1 : w2.cell? ⟨bb, bo + z.1 * 6, none⟩ = some (.string z.2.name) := (HW2.out.cell (p := ⟨bb, bo + z.1 * 6, none⟩) hbb).trans t0
    have k0 : w2.cell? ⟨p, 1, none⟩ = some (.slice (some ⟨bb, bo, none⟩) x.berths.length c1) := HP1.out
    simp only [plC, Option.isSome_some]
    clear hO hz t0 hbb
    go_wp2_with fail
    refine (clone_any z.2.name _ (by omega)).mono ?_
    rintro e w3 ⟨rfl, hb3⟩
    have HB3 : Hid (Below w.heap.size w w3) := HW2.out.trans (hb3.mono HW2.out.size)
    clear hb3 k0 k1
    go_wp2_with fail
    go_ret
    exact ⟨by rw [HS'.out]; rfl, HB3.out⟩
end Go.Proofs.YtebfdgfhadpieaaGreat
