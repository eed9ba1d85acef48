/-
  What is left to do, five functions that count, by the program. Made by mksd1.py.
-/
import Derived.Test.YtfbmljdlkgiliaaGreatSd2
namespace Go.Proofs.YtfbmljdlkgiliaaGreat
open Go.RowKit

set_option maxHeartbeats 4000000 in
set_option maxRecDepth 100000 in
theorem l1_any (x : Sbk) (a1 : Option Addr) (c1 : Nat) (b2 o2 c2 : Nat) (a3 : Option Addr) (c3 : Nat) (p m n lo Bf : Nat) (w : World) (hF : FndS x a1 c1 (some ⟨b2, o2, none⟩) c2 a3 c3 p m n lo w) (hv : SVal x) (hBf : Blk Bf #[.pointer (some ⟨p, 0, none⟩)] 51 w) :
    Calls Tryz.prog 70 #[.pointer (some ⟨Bf, 0, none⟩)] w fun e w' => e = .returned (.int .i64 (((x.services.filter (fun v => v.gone)).length : Nat))) ∧ Below w.heap.size w w' := by
  have HF := Hid.intro hF
  have HV := Hid.intro hv
  have hl1 := hv.l1
  have hl2 := hv.l2
  have HSZ := Hid.intro (size_of_Scp hF.n2)
  have kf : w.cell? ⟨Bf, 0, none⟩ = some (.pointer (some ⟨p, 0, none⟩)) := hBf.cell rfl
  have kp : w.cell? ⟨p, 1, none⟩ = some (.slice a1 x.services.length c1) := hF.blk.cell rfl
  clear hF hv hBf
  go_enter Tryz.func70, Tryz.ntmps70
  go_wp2_with fail
  refine (onlySsv_any 72 #[] (fun v => v.gone) x.services a1 c1 lo _ HF.out.n1 (by omega) (fun v _ W _ => isGone_any v W) (enters_of Tryz.func72 (by kernel_rfl) rfl)).mono ?_
  rintro e w4 ⟨b, q, rfl, _, hb4⟩
  go_wp2_with fail
  go_ret
  exact ⟨rfl, hb4⟩

set_option maxHeartbeats 4000000 in
set_option maxRecDepth 100000 in
theorem l2_any (x : Sbk) (a1 : Option Addr) (c1 : Nat) (b2 o2 c2 : Nat) (a3 : Option Addr) (c3 : Nat) (p m n lo Bf : Nat) (w : World) (hF : FndS x a1 c1 (some ⟨b2, o2, none⟩) c2 a3 c3 p m n lo w) (hv : SVal x) (hBf : Blk Bf #[.pointer (some ⟨p, 0, none⟩)] 51 w) :
    Calls Tryz.prog 73 #[.pointer (some ⟨Bf, 0, none⟩)] w fun e w' => e = .returned (.int .i64 (((x.copies.filter (loB x)).length : Nat))) ∧ Below w.heap.size w w' := by
  have HF := Hid.intro hF
  have HV := Hid.intro hv
  have hl1 := hv.l1
  have hl2 := hv.l2
  have HSZ := Hid.intro (size_of_Scp hF.n2)
  have HBF := Hid.intro hBf
  clear hF hv hBf
  go_enter Tryz.func73, Tryz.ntmps73
  go_upto_region 1 with fail
  refine wp_region_held_drew (S := fun wy => FndS x a1 c1 (some ⟨b2, o2, none⟩) c2 a3 c3 p m n lo wy ∧ Blk Bf #[.pointer (some ⟨p, 0, none⟩)] 51 wy) (by kernel_rfl) ⟨HF.out.below (Below.refl _ _).drew, HBF.out.drew⟩ (fun hS => ?_)
  have hB2 : Below w.heap.size w w.drew := (Below.refl _ _).drew
  clear HF HBF
  obtain ⟨w2, HW2⟩ : ∃ w2, Hid (w2 = w.drew) := ⟨_, rfl⟩
  rw [← HW2.out] at hS hB2 ⊢
  clear HW2
  refine wpAnyH_take (i := 0) (oi := { dst := some 2, op := _, type := _, pos := _, after := _, guard := none }) (v := .pointer (some ⟨p, 0, none⟩)) rfl (by kernel_rfl) (by kernel_rfl) (by kernel_rfl) (fun _ _ _ h => h) (Or.inl ⟨by rfl, ?_⟩) hS ?_
  · intro wy hy
    have h0 : wy.cell? ⟨Bf, 0, none⟩ = some (.pointer (some ⟨p, 0, none⟩)) := hy.2.cell rfl
    clear hy
    go_simp
  simp only [Act.put, List.setIfInBounds_toArray, List.set_cons_zero, List.set_cons_succ]
  refine wpAnyH_take (i := 1) (oi := { dst := some 3, op := _, type := _, pos := _, after := _, guard := none }) (v := .pointer (some ⟨p, 0, none⟩)) rfl (by kernel_rfl) (by kernel_rfl) (by kernel_rfl) (fun _ _ _ h => h) (Or.inl ⟨by rfl, ?_⟩) hS ?_
  · intro wy hy
    clear hy
    go_simp
  simp only [Act.put, List.setIfInBounds_toArray, List.set_cons_zero, List.set_cons_succ]
  refine wpAnyH_take (i := 2) (oi := { dst := some 4, op := _, type := _, pos := _, after := _, guard := none }) (v := .pointer (some ⟨p, 0, none⟩)) rfl (by kernel_rfl) (by kernel_rfl) (by kernel_rfl) (fun _ _ _ h => h) (Or.inl ⟨by rfl, ?_⟩) hS ?_
  · intro wy hy
    clear hy
    go_simp
  simp only [Act.put, List.setIfInBounds_toArray, List.set_cons_zero, List.set_cons_succ]
  refine wpAnyH_take (i := 3) (oi := { dst := some 5, op := _, type := _, pos := _, after := _, guard := none }) (v := .pointer (some ⟨p, 2, none⟩)) rfl (by kernel_rfl) (by kernel_rfl) (by kernel_rfl) (fun _ _ _ h => h) (Or.inl ⟨by rfl, ?_⟩) hS ?_
  · intro wy hy
    clear hy
    go_simp
  simp only [Act.put, List.setIfInBounds_toArray, List.set_cons_zero, List.set_cons_succ]
  refine wpAnyH_take (i := 4) (oi := { dst := some 6, op := _, type := _, pos := _, after := _, guard := none }) (v := .slice (some ⟨b2, o2, none⟩) x.copies.length c2) rfl (by kernel_rfl) (by kernel_rfl) (by kernel_rfl) (fun _ _ _ h => h) (Or.inl ⟨by rfl, ?_⟩) hS ?_
  · intro wy hy
    have h0 : wy.cell? ⟨p, 2, none⟩ = some (.slice (some ⟨b2, o2, none⟩) x.copies.length c2) := hy.1.blk.cell rfl
    clear hy
    go_simp
  simp only [Act.put, List.setIfInBounds_toArray, List.set_cons_zero, List.set_cons_succ]
  refine wpAnyH_take (i := 5) (oi := { dst := some 7, op := _, type := _, pos := _, after := _, guard := none }) (v := .pointer (some ⟨p, 0, none⟩)) rfl (by kernel_rfl) (by kernel_rfl) (by kernel_rfl) (fun _ _ _ h => h) (Or.inl ⟨by rfl, ?_⟩) hS ?_
  · intro wy hy
    have h0 : wy.cell? ⟨Bf, 0, none⟩ = some (.pointer (some ⟨p, 0, none⟩)) := hy.2.cell rfl
    clear hy
    go_simp
  simp only [Act.put, List.setIfInBounds_toArray, List.set_cons_zero, List.set_cons_succ]
  refine wpAnyH_take (i := 6) (oi := { dst := some 8, op := _, type := _, pos := _, after := _, guard := none }) (v := .func (.func 74) #[.pointer (some ⟨p, 0, none⟩)] #[]) rfl (by kernel_rfl) (by kernel_rfl) (by kernel_rfl) (fun _ _ _ h => h) (Or.inl ⟨by rfl, ?_⟩) hS ?_
  · intro wy hy
    clear hy
    go_simp
  simp only [Act.put, List.setIfInBounds_toArray, List.set_cons_zero, List.set_cons_succ]
  refine wpAnyH_ready (rs := [7]) (by kernel_rfl) (by simp) (AllReadyH.cons (o := { dst := some 9, op := _, type := _, pos := _, after := _, guard := none }) rfl (fun K hK => ?_) AllReadyH.nil)
  go_simp
  refine (onlyScp_any 74 #[.pointer (some ⟨p, 0, none⟩)] (loB x) x.copies (some ⟨b2, o2, none⟩) c2 lo _ hS.1.n2 (by omega) (fun c hc W hW => isLeftOver_any x a1 c1 b2 o2 c2 a3 c3 p m n lo c W (hS.1.below hW) (HSZ.out c hc).1 (asc_uniq HV.out.s2)) (enters_of Tryz.func74 (by kernel_rfl) rfl)).mono ?_
  rintro e w4 ⟨b, q, rfl, _, hb4⟩
  have hB4 := hB2.trans (hb4.mono hB2.size)
  refine hK.out _ _ ⟨hS.1.below hb4, hS.2.below hb4 hS.2.lt⟩ (fun hS => ?_)
  clear hK K
  refine wpAnyH_take (i := 8) (oi := { dst := some 10, op := _, type := _, pos := _, after := _, guard := none }) (v := .int .i64 (((x.copies.filter (loB x)).length : Nat))) rfl (by kernel_rfl) (by kernel_rfl) (by kernel_rfl) (fun _ _ _ h => h) (Or.inl ⟨by rfl, ?_⟩) hS ?_
  · intro wy hy
    clear hy
    go_simp
  simp only [Act.put, List.setIfInBounds_toArray, List.set_cons_zero, List.set_cons_succ]
  refine wpAnyH_take (i := 9) (oi := { dst := some 1, op := _, type := _, pos := _, after := _, guard := none }) (v := .int .i64 (((x.copies.filter (loB x)).length : Nat))) rfl (by kernel_rfl) (by kernel_rfl) (by kernel_rfl) (fun _ _ _ h => h) (Or.inl ⟨by rfl, ?_⟩) hS ?_
  · intro wy hy
    clear hy
    go_simp
  simp only [Act.put, List.setIfInBounds_toArray, List.set_cons_zero, List.set_cons_succ]
  refine wpAnyH_done (by kernel_rfl) ?_ _
  clear hS
  go_wp2_with fail
  go_ret
  exact ⟨rfl, hB4⟩

set_option maxHeartbeats 4000000 in
set_option maxRecDepth 100000 in
theorem l3_any (x : Sbk) (a1 : Option Addr) (c1 : Nat) (b2 o2 c2 : Nat) (a3 : Option Addr) (c3 : Nat) (p m n lo Bf Bl lo2 : Nat) (al : Option Addr) (cl : Nat) (w : World) (hF : FndS x a1 c1 (some ⟨b2, o2, none⟩) c2 a3 c3 p m n lo w) (hv : SVal x) (hBf : Blk Bf #[.pointer (some ⟨p, 0, none⟩)] 51 w) (hBl : Blk Bl #[.slice al (x.copies.filter lvC).length cl] 30 w) (hal : SliceC ScpC 7 lo2 w al (x.copies.filter lvC)) :
    Calls Tryz.prog 76 #[.pointer (some ⟨Bl, 0, none⟩), .pointer (some ⟨Bf, 0, none⟩)] w fun e w' => e = .returned (.int .i64 ((((x.copies.filter lvC).filter (rpB x)).length : Nat))) ∧ Below w.heap.size w w' := by
  have HF := Hid.intro hF
  have HV := Hid.intro hv
  have hl1 := hv.l1
  have hl2 := hv.l2
  have HSZ := Hid.intro (size_of_Scp hF.n2)
  have kf : w.cell? ⟨Bf, 0, none⟩ = some (.pointer (some ⟨p, 0, none⟩)) := hBf.cell rfl
  have kl : w.cell? ⟨Bl, 0, none⟩ = some (.slice al (x.copies.filter lvC).length cl) := hBl.cell rfl
  have HAL := Hid.intro hal
  have hll : (x.copies.filter lvC).length ≤ 200 := Nat.le_trans (List.length_filter_le _ _) hl2
  clear hF hv hBf hBl hal
  go_enter Tryz.func76, Tryz.ntmps76
  go_wp2_with fail
  refine (onlyScp_any 77 #[.pointer (some ⟨p, 0, none⟩)] (rpB x) (x.copies.filter lvC) al cl lo2 _ HAL.out (by omega) (fun c hc W hW => isToBeReplaced_any x a1 c1 b2 o2 c2 a3 c3 p m n lo c W (HF.out.below hW) (HSZ.out c (List.mem_filter.1 hc).1).1 (HSZ.out c (List.mem_filter.1 hc).1).2 (asc_uniq HV.out.s2) (asc_uniqB HV.out.b2)) (enters_of Tryz.func77 (by kernel_rfl) rfl)).mono ?_
  rintro e w4 ⟨b, q, rfl, _, hb4⟩
  obtain ⟨NN, HNN⟩ : ∃ NN, Hid (((x.copies.filter lvC).filter (rpB x)).length = NN) := ⟨_, rfl⟩
  rw [HNN.out]
  go_wp2_with fail
  go_ret
  exact ⟨ret_int (by rw [HNN.out]), hb4⟩

set_option maxHeartbeats 4000000 in
set_option maxRecDepth 100000 in
theorem l4_any (x : Sbk) (a1 : Option Addr) (c1 : Nat) (b2 o2 c2 : Nat) (a3 : Option Addr) (c3 : Nat) (p m n lo Bf Bl lo2 : Nat) (al : Option Addr) (cl : Nat) (w : World) (hF : FndS x a1 c1 (some ⟨b2, o2, none⟩) c2 a3 c3 p m n lo w) (hv : SVal x) (hBf : Blk Bf #[.pointer (some ⟨p, 0, none⟩)] 51 w) (hBl : Blk Bl #[.slice al (x.copies.filter lvC).length cl] 30 w) (hal : SliceC ScpC 7 lo2 w al (x.copies.filter lvC)) :
    Calls Tryz.prog 78 #[.pointer (some ⟨Bl, 0, none⟩)] w fun e w' => e = .returned (.int .i64 ((((x.copies.filter lvC).filter nrB).length : Nat))) ∧ Below w.heap.size w w' := by
  have HF := Hid.intro hF
  have HV := Hid.intro hv
  have hl1 := hv.l1
  have hl2 := hv.l2
  have HSZ := Hid.intro (size_of_Scp hF.n2)
  have kf : w.cell? ⟨Bf, 0, none⟩ = some (.pointer (some ⟨p, 0, none⟩)) := hBf.cell rfl
  have kl : w.cell? ⟨Bl, 0, none⟩ = some (.slice al (x.copies.filter lvC).length cl) := hBl.cell rfl
  have HAL := Hid.intro hal
  have hll : (x.copies.filter lvC).length ≤ 200 := Nat.le_trans (List.length_filter_le _ _) hl2
  clear hF hv hBf hBl hal
  go_enter Tryz.func78, Tryz.ntmps78
  go_wp2_with fail
  refine (onlyScp_any 79 #[] (nrB) (x.copies.filter lvC) al cl lo2 _ HAL.out (by omega) (fun c _ W _ => notReady_any c W) (enters_of Tryz.func79 (by kernel_rfl) rfl)).mono ?_
  rintro e w4 ⟨b, q, rfl, _, hb4⟩
  obtain ⟨NN, HNN⟩ : ∃ NN, Hid (((x.copies.filter lvC).filter (nrB)).length = NN) := ⟨_, rfl⟩
  rw [HNN.out]
  go_wp2_with fail
  go_ret
  exact ⟨ret_int (by rw [HNN.out]), hb4⟩

theorem isz_fn5 : (Tryz.prog.info? 95).map (·.size) = some 5 := by kernel_rfl

/-- what is left to do: five functions, in memory -/
def LtdRes (x : Sbk) (p : Nat) (w : World) (e : Ending) (w' : World) : Prop := ∃ (Bf Bl : Nat) (al : Option Addr) (cl : Nat), e = .returned (.agg #[.func (.func 70) #[] #[.pointer (some ⟨Bf, 0, none⟩)], .func (.func 73) #[] #[.pointer (some ⟨Bf, 0, none⟩)], .func (.func 75) #[.pointer (some ⟨p, 0, none⟩)] #[], .func (.func 76) #[] #[.pointer (some ⟨Bl, 0, none⟩), .pointer (some ⟨Bf, 0, none⟩)], .func (.func 78) #[] #[.pointer (some ⟨Bl, 0, none⟩)]]) ∧ w.heap.size ≤ Bf ∧ w.heap.size ≤ Bl ∧ Blk Bf #[.pointer (some ⟨p, 0, none⟩)] 51 w' ∧ Blk Bl #[.slice al (x.copies.filter lvC).length cl] 30 w' ∧ SliceC ScpC 7 w.heap.size w' al (x.copies.filter lvC) ∧ Below w.heap.size w w'

set_option maxHeartbeats 4000000 in
set_option maxRecDepth 100000 in
theorem leftToDo_any (x : Sbk) (a1 : Option Addr) (c1 : Nat) (b2 o2 c2 : Nat) (a3 : Option Addr) (c3 : Nat) (p m n lo : Nat) (w : World) (hF : FndS x a1 c1 (some ⟨b2, o2, none⟩) c2 a3 c3 p m n lo w) (hv : SVal x) :
    Calls Tryz.prog 52 #[.pointer (some ⟨p, 0, none⟩)] w fun e w' => LtdRes x p w e w' := by
  have HF := Hid.intro hF
  have HV := Hid.intro hv
  have hl1 := hv.l1
  have hl2 := hv.l2
  have HSZ := Hid.intro (size_of_Scp hF.n2)
  have hB2 : Below w.heap.size w ((w.alloc (Obj.cells #[.pointer (some ⟨p, 0, none⟩)] 51)).alloc (Obj.cells #[.nilFunc, .nilFunc, .nilFunc, .nilFunc, .nilFunc] 95)) := by go_grown
  have HBa : Blk w.heap.size #[.pointer (some ⟨p, 0, none⟩)] 51 (w.alloc (Obj.cells #[.pointer (some ⟨p, 0, none⟩)] 51)) := Blk.alloc _ _ _
  have HBF : Hid (Blk w.heap.size #[.pointer (some ⟨p, 0, none⟩)] 51 ((w.alloc (Obj.cells #[.pointer (some ⟨p, 0, none⟩)] 51)).alloc (Obj.cells #[.nilFunc, .nilFunc, .nilFunc, .nilFunc, .nilFunc] 95))) := HBa.below ((Below.refl _ _).alloc (Nat.le_refl _) _) HBa.lt
  have HZ2 : Hid (Blk (w.heap.size + 1) #[.nilFunc, .nilFunc, .nilFunc, .nilFunc, .nilFunc] 95 ((w.alloc (Obj.cells #[.pointer (some ⟨p, 0, none⟩)] 51)).alloc (Obj.cells #[.nilFunc, .nilFunc, .nilFunc, .nilFunc, .nilFunc] 95))) := by
    have := Blk.alloc (w.alloc (Obj.cells #[.pointer (some ⟨p, 0, none⟩)] 51)) #[.nilFunc, .nilFunc, .nilFunc, .nilFunc, .nilFunc] 95
    show Blk _ _ _ _
    simpa using this
  have HF2 := Hid.intro (hF.below hB2)
  clear HBa hF hv
  go_enter Tryz.func52, Tryz.ntmps52
  go_upto_region 1 with fail
  generalize (w.alloc (Obj.cells #[.pointer (some ⟨p, 0, none⟩)] 51)).alloc (Obj.cells #[.nilFunc, .nilFunc, .nilFunc, .nilFunc, .nilFunc] 95) = w2 at *
  have hr4 : w.heap.size ≤ w.heap.size + 1 := by omega
  have hr5 : w.heap.size ≠ w.heap.size + 1 := by omega
  generalize w.heap.size + 1 = pr at *
  have kf : w2.cell? ⟨w.heap.size, 0, none⟩ = some (.pointer (some ⟨p, 0, none⟩)) := HBF.out.cell rfl
  have kp : w2.cell? ⟨p, 2, none⟩ = some (.slice (some ⟨b2, o2, none⟩) x.copies.length c2) := HF2.out.blk.cell rfl
  go_wp2_with fail
  refine (onlyScp_any 69 #[] lvC x.copies (some ⟨b2, o2, none⟩) c2 lo _ HF2.out.n2 (by omega) (fun c _ W _ => isLive_any c W) (enters_of Tryz.func69 (by kernel_rfl) rfl)).mono ?_
  rintro e w4 ⟨al, cl, rfl, ho4, hb4⟩
  have hB4 := hB2.trans (hb4.mono hB2.size)
  have HBF4 := Hid.intro (HBF.out.below hb4 HBF.out.lt)
  have HZ4 := Hid.intro (HZ2.out.below hb4 HZ2.out.lt)
  have hsz : w.heap.size ≤ w2.heap.size := hB2.size
  have hpr : pr < w2.heap.size := HZ2.out.lt
  have HAL4 : Hid (SliceC ScpC 7 w2.heap.size w4 al (x.copies.filter lvC)) := rowslScp ho4 (Nat.le_trans (List.length_filter_le _ _) (by omega)) (fun c hc => HSZ.out c (List.mem_filter.1 hc).1)
  have hs4 : w2.heap.size ≤ w4.heap.size := hb4.size
  clear ho4 hb4 hB2 HBF HZ2 HF2 kf kp HF HV HSZ
  have hbx : Below w4.heap.size w4 (w4.alloc (Obj.cells #[.slice al (x.copies.filter lvC).length cl] 30)) := by go_grown
  have HBL : Hid (Blk w4.heap.size #[.slice al (x.copies.filter lvC).length cl] 30 (w4.alloc (Obj.cells #[.slice al (x.copies.filter lvC).length cl] 30))) := Blk.alloc _ _ _
  have hB5 := hB4.trans (hbx.mono hB4.size)
  have HBF5 := Hid.intro (HBF4.out.below hbx HBF4.out.lt)
  have HZ5 := Hid.intro (HZ4.out.below hbx HZ4.out.lt)
  have HAL5 := Hid.intro (HAL4.out.below ScpC.holds hbx (Nat.le_refl _))
  clear hbx hB4 HBF4 HZ4 HAL4
  go_upto_region 2 with fail
  generalize w4.alloc (Obj.cells #[.slice al (x.copies.filter lvC).length cl] 30) = w5 at *
  generalize w4.heap.size = gl at *
  have kf : w5.cell? ⟨w.heap.size, 0, none⟩ = some (.pointer (some ⟨p, 0, none⟩)) := HBF5.out.cell rfl
  have HTS := Hid.intro HZ5.out.there
  obtain ⟨wf, HE⟩ : ∃ wf, Hid (wf = w5.setCells pr 0 [.func (.func 70) #[] #[.pointer (some ⟨w.heap.size, 0, none⟩)], .func (.func 73) #[] #[.pointer (some ⟨w.heap.size, 0, none⟩)], .func (.func 75) #[.pointer (some ⟨p, 0, none⟩)] #[], .func (.func 76) #[] #[.pointer (some ⟨gl, 0, none⟩), .pointer (some ⟨w.heap.size, 0, none⟩)], .func (.func 78) #[] #[.pointer (some ⟨gl, 0, none⟩)]]) := ⟨_, rfl⟩
  have HRf : Hid (wf.rangeAt pr 0 [.func (.func 70) #[] #[.pointer (some ⟨w.heap.size, 0, none⟩)], .func (.func 73) #[] #[.pointer (some ⟨w.heap.size, 0, none⟩)], .func (.func 75) #[.pointer (some ⟨p, 0, none⟩)] #[], .func (.func 76) #[] #[.pointer (some ⟨gl, 0, none⟩), .pointer (some ⟨w.heap.size, 0, none⟩)], .func (.func 78) #[] #[.pointer (some ⟨gl, 0, none⟩)]]) := by
    show World.rangeAt _ _ _ _
    rw [HE.out]
    exact World.rangeAt_setCells_same _ _ _ _ HTS.out
  have HBf : Hid (Below w.heap.size w wf) := by
    show Below _ _ _
    rw [HE.out]
    exact below_setCells hr4 _ _ _ hB5
  have HF9 : Hid (Blk w.heap.size #[.pointer (some ⟨p, 0, none⟩)] 51 wf) := by
    show Blk _ _ _ _
    rw [HE.out]
    exact blk_setCells_other hr5 _ _ _ HBF5.out
  have HL9 : Hid (Blk gl #[.slice al (x.copies.filter lvC).length cl] 30 wf) := by
    show Blk _ _ _ _
    rw [HE.out]
    exact blk_setCells_other (by omega) _ _ _ HBL.out
  have HAL9 : Hid (SliceC ScpC 7 w.heap.size wf al (x.copies.filter lvC)) := by
    rw [HE.out]
    exact HAL5.out.keep ScpC.holds (Keeps.setCells (by omega) _ _ _) hsz
  have hgl : w.heap.size ≤ gl := by omega
  clear hB5
  go_wp2_with (refine wpList_store_to rfl 95 _ _ rfl pr 0 #[.func (.func 70) #[] #[.pointer (some ⟨w.heap.size, 0, none⟩)], .func (.func 73) #[] #[.pointer (some ⟨w.heap.size, 0, none⟩)], .func (.func 75) #[.pointer (some ⟨p, 0, none⟩)] #[], .func (.func 76) #[] #[.pointer (some ⟨gl, 0, none⟩), .pointer (some ⟨w.heap.size, 0, none⟩)], .func (.func 78) #[] #[.pointer (some ⟨gl, 0, none⟩)]] rfl rfl HTS.out isz_fn5 (by simp [Value.oneCell']) wf HE.out ?_)
  exact bodyPost_ret (results_cell_mid rfl _ _ pr [.func (.func 70) #[] #[.pointer (some ⟨w.heap.size, 0, none⟩)], .func (.func 73) #[] #[.pointer (some ⟨w.heap.size, 0, none⟩)], .func (.func 75) #[.pointer (some ⟨p, 0, none⟩)] #[], .func (.func 76) #[] #[.pointer (some ⟨gl, 0, none⟩), .pointer (some ⟨w.heap.size, 0, none⟩)], .func (.func 78) #[] #[.pointer (some ⟨gl, 0, none⟩)]] _ rfl HRf.out Tryz.underlying95 rfl isz_fn5) rfl ⟨w.heap.size, gl, al, cl, rfl, Nat.le_refl _, hgl, HF9.out, HL9.out, HAL9.out, HBf.out⟩

end Go.Proofs.YtfbmljdlkgiliaaGreat
