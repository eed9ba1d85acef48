/-
  Ranks, and whether a book is done, by the program. Made by mksd1.py.
-/
import Derived.Test.YtfbmljdlkgiliaaGreatSd3
import Derived.Test.YtfbmljdlkgiliaaGreatSvi
import Derived.ChangeKeysEq
namespace Go.Proofs.YtfbmljdlkgiliaaGreat
open Go.RowKit

theorem isz_rk : (Tryz.prog.info? 55).map (·.size) = some 5 := by kernel_rfl

/-- the five numbers so far -/
def RkAt (r0 r1 r2 r3 r4 : Int) (g : Nat) (i : Value) (w : World) : Prop := (i = .int .i64 0 ∧ Blk g #[.int .i64 0, .int .i64 0, .int .i64 0, .int .i64 0, .int .i64 0] 55 w) ∨ (i = .int .i64 1 ∧ Blk g #[.int .i64 r0, .int .i64 0, .int .i64 0, .int .i64 0, .int .i64 0] 55 w) ∨ (i = .int .i64 2 ∧ Blk g #[.int .i64 r0, .int .i64 r1, .int .i64 0, .int .i64 0, .int .i64 0] 55 w) ∨ (i = .int .i64 3 ∧ Blk g #[.int .i64 r0, .int .i64 r1, .int .i64 r2, .int .i64 0, .int .i64 0] 55 w) ∨ (i = .int .i64 4 ∧ Blk g #[.int .i64 r0, .int .i64 r1, .int .i64 r2, .int .i64 r3, .int .i64 0] 55 w) ∨ (i = .int .i64 5 ∧ Blk g #[.int .i64 r0, .int .i64 r1, .int .i64 r2, .int .i64 r3, .int .i64 r4] 55 w)

set_option maxHeartbeats 8000000 in
set_option maxRecDepth 100000 in
theorem ranks_any (x : Sbk) (a1 : Option Addr) (c1 : Nat) (b2 o2 c2 : Nat) (a3 : Option Addr) (c3 : Nat) (p m n lo : Nat) (r0 r1 r2 r3 r4 : Int) (hr : rkP x = [r0, r1, r2, r3, r4]) (w : World) (hF : FndS x a1 c1 (some ⟨b2, o2, none⟩) c2 a3 c3 p m n lo w) (hv : SVal x) (hcap : x.copies.length ≤ c2) :
    Calls Tryz.prog 25 #[.pointer (some ⟨p, 0, none⟩)] w fun e w' => e = .returned (.agg #[.int .i64 r0, .int .i64 r1, .int .i64 r2, .int .i64 r3, .int .i64 r4]) ∧ Below w.heap.size w w' := by
  have HF := Hid.intro hF
  have HV := Hid.intro hv
  have HCAP := Hid.intro hcap
  have HR := Hid.intro hr
  have hB2 : Below w.heap.size w ((w.alloc (Obj.cells #[.int .i64 0, .int .i64 0, .int .i64 0, .int .i64 0, .int .i64 0] 55)).alloc (Obj.cells #[.int .i64 0, .int .i64 0, .int .i64 0, .int .i64 0, .int .i64 0] 55)) := by go_grown
  have HBa : Blk w.heap.size #[.int .i64 0, .int .i64 0, .int .i64 0, .int .i64 0, .int .i64 0] 55 (w.alloc (Obj.cells #[.int .i64 0, .int .i64 0, .int .i64 0, .int .i64 0, .int .i64 0] 55)) := Blk.alloc _ _ _
  have HR2 : Hid (Blk w.heap.size #[.int .i64 0, .int .i64 0, .int .i64 0, .int .i64 0, .int .i64 0] 55 ((w.alloc (Obj.cells #[.int .i64 0, .int .i64 0, .int .i64 0, .int .i64 0, .int .i64 0] 55)).alloc (Obj.cells #[.int .i64 0, .int .i64 0, .int .i64 0, .int .i64 0, .int .i64 0] 55))) := HBa.below ((Below.refl _ _).alloc (Nat.le_refl _) _) HBa.lt
  have HQ2 : Hid (Blk (w.heap.size + 1) #[.int .i64 0, .int .i64 0, .int .i64 0, .int .i64 0, .int .i64 0] 55 ((w.alloc (Obj.cells #[.int .i64 0, .int .i64 0, .int .i64 0, .int .i64 0, .int .i64 0] 55)).alloc (Obj.cells #[.int .i64 0, .int .i64 0, .int .i64 0, .int .i64 0, .int .i64 0] 55))) := by
    have := Blk.alloc (w.alloc (Obj.cells #[.int .i64 0, .int .i64 0, .int .i64 0, .int .i64 0, .int .i64 0] 55)) #[.int .i64 0, .int .i64 0, .int .i64 0, .int .i64 0, .int .i64 0] 55
    show Blk _ _ _ _
    simpa using this
  have HF2 := Hid.intro (hF.below hB2)
  clear HBa hF hv hcap hr
  go_enter Tryz.func25, Tryz.ntmps25
  go_upto_region 2 with fail
  generalize (w.alloc (Obj.cells #[.int .i64 0, .int .i64 0, .int .i64 0, .int .i64 0, .int .i64 0] 55)).alloc (Obj.cells #[.int .i64 0, .int .i64 0, .int .i64 0, .int .i64 0, .int .i64 0] 55) = w2 at *
  have hr4 : w.heap.size ≤ w.heap.size + 1 := by omega
  have hr5 : w.heap.size ≠ w.heap.size + 1 := by omega
  generalize w.heap.size + 1 = gQ at *
  go_wp2_with fail
  refine (leftToDo_any x a1 c1 b2 o2 c2 a3 c3 p m n lo _ HF2.out HV.out).mono ?_
  rintro e w3 ⟨Bf, Bl, al, cl, rfl, hf1, hl1, hf2, hl2, hal, hb3⟩
  have hq2 : gQ < w2.heap.size := HQ2.out.lt
  obtain ⟨L0, HL0⟩ : ∃ L0, Hid (w2.heap.size = L0) := ⟨_, rfl⟩
  rw [HL0.out] at hf1 hl1 hal hq2
  have HQ3 := Hid.intro (HQ2.out.below hb3 HQ2.out.lt)
  have HR3 := Hid.intro (HR2.out.below hb3 HR2.out.lt)
  have hB3 := hB2.trans (hb3.mono hB2.size)
  have H3F := Hid.intro hf2
  have H3L := Hid.intro hl2
  have H3A := Hid.intro hal
  clear hf2 hl2 hal hb3 hB2 HQ2 HR2 HF2 HL0
  go_wp2_with fail
  go_loopw [8] (fun i wr => Hid (RkAt r0 r1 r2 r3 r4 gQ i wr) ∧ Hid (Blk w.heap.size #[.int .i64 0, .int .i64 0, .int .i64 0, .int .i64 0, .int .i64 0] 55 wr) ∧ Hid (Blk Bf #[.pointer (some ⟨p, 0, none⟩)] 51 wr) ∧ Hid (Blk Bl #[.slice al (x.copies.filter lvC).length cl] 30 wr) ∧ Hid (SliceC ScpC 7 L0 wr al (x.copies.filter lvC)) ∧ Below w.heap.size w wr) (fun i _ => 5 - (intOf i).toNat)
  case atStart => exact ⟨.inl ⟨rfl, HQ3.out⟩, HR3, H3F, H3L, H3A, hB3⟩
  case round =>
    clear HQ3 HR3 H3F H3L H3A hB3
    obtain ⟨hat, HR3, H3F, H3L, H3A, hB3⟩ := hrel
    have HFW := Hid.intro (HF.out.below hB3)
    rcases hat.out with ⟨rfl, hq⟩ | ⟨rfl, hq⟩ | ⟨rfl, hq⟩ | ⟨rfl, hq⟩ | ⟨rfl, hq⟩ | ⟨rfl, hq⟩
    · have HQ := Hid.intro hq
      clear hat hq
      have hix : ∀ w, (Instr.index 95 (.agg #[.func (.func 70) #[] #[.pointer (some ⟨Bf, 0, none⟩)], .func (.func 73) #[] #[.pointer (some ⟨Bf, 0, none⟩)], .func (.func 75) #[.pointer (some ⟨p, 0, none⟩)] #[], .func (.func 76) #[] #[.pointer (some ⟨Bl, 0, none⟩), .pointer (some ⟨Bf, 0, none⟩)], .func (.func 78) #[] #[.pointer (some ⟨Bl, 0, none⟩)]]) (.int .i64 0)).run Tryz.prog w = .ok (.func (.func 70) #[] #[.pointer (some ⟨Bf, 0, none⟩)]) w := fun _ => by kernel_rfl
      have HRJ : Hid (((((x.services.filter (fun v => v.gone)).length : Nat) : Int)) = r0) := by
        have := HR.out
        unfold rkP at this
        simp only [List.cons.injEq] at this
        exact this.1
      go_wp2_with fail
      refine (l1_any x a1 c1 b2 o2 c2 a3 c3 p m n lo Bf _ HFW.out HV.out H3F.out).mono ?_
      rintro e w6 ⟨rfl, hb6⟩
      rw [HRJ.out]
      have HQ6 := Hid.intro (HQ.out.below hb6 HQ.out.lt)
      have HR6 := Hid.intro (HR3.out.below hb6 HR3.out.lt)
      have H6F := Hid.intro (H3F.out.below hb6 H3F.out.lt)
      have H6L := Hid.intro (H3L.out.below hb6 H3L.out.lt)
      have H6A := Hid.intro (H3A.out.below ScpC.holds hb6 (Nat.le_refl _))
      have hB6 := hB3.trans (hb6.mono hB3.size)
      clear hb6 HQ HR3 H3F H3L H3A hB3 HFW hix
      have kq : w6.cell? ⟨gQ, 0, none⟩ = some (.int .i64 0) := HQ6.out.cell rfl
      have fq : w6.frozen? ⟨gQ, 0, none⟩ = false := HQ6.out.frozen 0
      have HQ7 : Hid (Blk gQ #[.int .i64 r0, .int .i64 0, .int .i64 0, .int .i64 0, .int .i64 0] 55 (w6.setCell ⟨gQ, 0, none⟩ (.int .i64 r0))) := HQ6.out.set 0 (.int .i64 r0)
      have HR7 : Hid (Blk w.heap.size #[.int .i64 0, .int .i64 0, .int .i64 0, .int .i64 0, .int .i64 0] 55 (w6.setCell ⟨gQ, 0, none⟩ (.int .i64 r0))) := HR6.out.other hr5 _
      have H7F : Hid (Blk Bf #[.pointer (some ⟨p, 0, none⟩)] 51 (w6.setCell ⟨gQ, 0, none⟩ (.int .i64 r0))) := H6F.out.other (by show Bf ≠ gQ; omega) _
      have H7L : Hid (Blk Bl #[.slice al (x.copies.filter lvC).length cl] 30 (w6.setCell ⟨gQ, 0, none⟩ (.int .i64 r0))) := H6L.out.other (by show Bl ≠ gQ; omega) _
      have H7A : Hid (SliceC ScpC 7 L0 (w6.setCell ⟨gQ, 0, none⟩ (.int .i64 r0)) al (x.copies.filter lvC)) := H6A.out.keep ScpC.holds (Keeps.set (a := ⟨gQ, 0, none⟩) hq2 _) (Nat.le_refl _)
      have hB7 : Below w.heap.size w (w6.setCell ⟨gQ, 0, none⟩ (.int .i64 r0)) := hB6.setCell (p := ⟨gQ, 0, none⟩) hr4 _
      clear HQ6 HR6 H6F H6L H6A hB6
      go_wp2_with fail
      go_roundw
      case rel => exact ⟨.inr <| .inl ⟨rfl, HQ7.out⟩, HR7, H7F, H7L, H7A, hB7⟩
      case measure => simp [intOf]
    · have HQ := Hid.intro hq
      clear hat hq
      have hix : ∀ w, (Instr.index 95 (.agg #[.func (.func 70) #[] #[.pointer (some ⟨Bf, 0, none⟩)], .func (.func 73) #[] #[.pointer (some ⟨Bf, 0, none⟩)], .func (.func 75) #[.pointer (some ⟨p, 0, none⟩)] #[], .func (.func 76) #[] #[.pointer (some ⟨Bl, 0, none⟩), .pointer (some ⟨Bf, 0, none⟩)], .func (.func 78) #[] #[.pointer (some ⟨Bl, 0, none⟩)]]) (.int .i64 1)).run Tryz.prog w = .ok (.func (.func 73) #[] #[.pointer (some ⟨Bf, 0, none⟩)]) w := fun _ => by kernel_rfl
      have HRJ : Hid (((((x.copies.filter (loB x)).length : Nat) : Int)) = r1) := by
        have := HR.out
        unfold rkP at this
        simp only [List.cons.injEq] at this
        exact this.2.1
      go_wp2_with fail
      refine (l2_any x a1 c1 b2 o2 c2 a3 c3 p m n lo Bf _ HFW.out HV.out H3F.out).mono ?_
      rintro e w6 ⟨rfl, hb6⟩
      rw [HRJ.out]
      have HQ6 := Hid.intro (HQ.out.below hb6 HQ.out.lt)
      have HR6 := Hid.intro (HR3.out.below hb6 HR3.out.lt)
      have H6F := Hid.intro (H3F.out.below hb6 H3F.out.lt)
      have H6L := Hid.intro (H3L.out.below hb6 H3L.out.lt)
      have H6A := Hid.intro (H3A.out.below ScpC.holds hb6 (Nat.le_refl _))
      have hB6 := hB3.trans (hb6.mono hB3.size)
      clear hb6 HQ HR3 H3F H3L H3A hB3 HFW hix
      have kq : w6.cell? ⟨gQ, 1, none⟩ = some (.int .i64 0) := HQ6.out.cell rfl
      have fq : w6.frozen? ⟨gQ, 1, none⟩ = false := HQ6.out.frozen 1
      have HQ7 : Hid (Blk gQ #[.int .i64 r0, .int .i64 r1, .int .i64 0, .int .i64 0, .int .i64 0] 55 (w6.setCell ⟨gQ, 1, none⟩ (.int .i64 r1))) := HQ6.out.set 1 (.int .i64 r1)
      have HR7 : Hid (Blk w.heap.size #[.int .i64 0, .int .i64 0, .int .i64 0, .int .i64 0, .int .i64 0] 55 (w6.setCell ⟨gQ, 1, none⟩ (.int .i64 r1))) := HR6.out.other hr5 _
      have H7F : Hid (Blk Bf #[.pointer (some ⟨p, 0, none⟩)] 51 (w6.setCell ⟨gQ, 1, none⟩ (.int .i64 r1))) := H6F.out.other (by show Bf ≠ gQ; omega) _
      have H7L : Hid (Blk Bl #[.slice al (x.copies.filter lvC).length cl] 30 (w6.setCell ⟨gQ, 1, none⟩ (.int .i64 r1))) := H6L.out.other (by show Bl ≠ gQ; omega) _
      have H7A : Hid (SliceC ScpC 7 L0 (w6.setCell ⟨gQ, 1, none⟩ (.int .i64 r1)) al (x.copies.filter lvC)) := H6A.out.keep ScpC.holds (Keeps.set (a := ⟨gQ, 1, none⟩) hq2 _) (Nat.le_refl _)
      have hB7 : Below w.heap.size w (w6.setCell ⟨gQ, 1, none⟩ (.int .i64 r1)) := hB6.setCell (p := ⟨gQ, 1, none⟩) hr4 _
      clear HQ6 HR6 H6F H6L H6A hB6
      go_wp2_with fail
      go_roundw
      case rel => exact ⟨.inr <| .inr <| .inl ⟨rfl, HQ7.out⟩, HR7, H7F, H7L, H7A, hB7⟩
      case measure => simp [intOf]
    · have HQ := Hid.intro hq
      clear hat hq
      have hix : ∀ w, (Instr.index 95 (.agg #[.func (.func 70) #[] #[.pointer (some ⟨Bf, 0, none⟩)], .func (.func 73) #[] #[.pointer (some ⟨Bf, 0, none⟩)], .func (.func 75) #[.pointer (some ⟨p, 0, none⟩)] #[], .func (.func 76) #[] #[.pointer (some ⟨Bl, 0, none⟩), .pointer (some ⟨Bf, 0, none⟩)], .func (.func 78) #[] #[.pointer (some ⟨Bl, 0, none⟩)]]) (.int .i64 2)).run Tryz.prog w = .ok (.func (.func 75) #[.pointer (some ⟨p, 0, none⟩)] #[]) w := fun _ => by kernel_rfl
      have HRJ : Hid (((offI x x.services : Int)) = r2) := by
        have := HR.out
        unfold rkP at this
        simp only [List.cons.injEq] at this
        exact this.2.2.1
      go_wp2_with fail
      refine (offWant_any x a1 c1 b2 o2 c2 a3 c3 p m n lo _ HFW.out HV.out HCAP.out).mono ?_
      rintro e w6 ⟨rfl, hb6⟩
      rw [HRJ.out]
      have HQ6 := Hid.intro (HQ.out.below hb6 HQ.out.lt)
      have HR6 := Hid.intro (HR3.out.below hb6 HR3.out.lt)
      have H6F := Hid.intro (H3F.out.below hb6 H3F.out.lt)
      have H6L := Hid.intro (H3L.out.below hb6 H3L.out.lt)
      have H6A := Hid.intro (H3A.out.below ScpC.holds hb6 (Nat.le_refl _))
      have hB6 := hB3.trans (hb6.mono hB3.size)
      clear hb6 HQ HR3 H3F H3L H3A hB3 HFW hix
      have kq : w6.cell? ⟨gQ, 2, none⟩ = some (.int .i64 0) := HQ6.out.cell rfl
      have fq : w6.frozen? ⟨gQ, 2, none⟩ = false := HQ6.out.frozen 2
      have HQ7 : Hid (Blk gQ #[.int .i64 r0, .int .i64 r1, .int .i64 r2, .int .i64 0, .int .i64 0] 55 (w6.setCell ⟨gQ, 2, none⟩ (.int .i64 r2))) := HQ6.out.set 2 (.int .i64 r2)
      have HR7 : Hid (Blk w.heap.size #[.int .i64 0, .int .i64 0, .int .i64 0, .int .i64 0, .int .i64 0] 55 (w6.setCell ⟨gQ, 2, none⟩ (.int .i64 r2))) := HR6.out.other hr5 _
      have H7F : Hid (Blk Bf #[.pointer (some ⟨p, 0, none⟩)] 51 (w6.setCell ⟨gQ, 2, none⟩ (.int .i64 r2))) := H6F.out.other (by show Bf ≠ gQ; omega) _
      have H7L : Hid (Blk Bl #[.slice al (x.copies.filter lvC).length cl] 30 (w6.setCell ⟨gQ, 2, none⟩ (.int .i64 r2))) := H6L.out.other (by show Bl ≠ gQ; omega) _
      have H7A : Hid (SliceC ScpC 7 L0 (w6.setCell ⟨gQ, 2, none⟩ (.int .i64 r2)) al (x.copies.filter lvC)) := H6A.out.keep ScpC.holds (Keeps.set (a := ⟨gQ, 2, none⟩) hq2 _) (Nat.le_refl _)
      have hB7 : Below w.heap.size w (w6.setCell ⟨gQ, 2, none⟩ (.int .i64 r2)) := hB6.setCell (p := ⟨gQ, 2, none⟩) hr4 _
      clear HQ6 HR6 H6F H6L H6A hB6
      go_wp2_with fail
      go_roundw
      case rel => exact ⟨.inr <| .inr <| .inr <| .inl ⟨rfl, HQ7.out⟩, HR7, H7F, H7L, H7A, hB7⟩
      case measure => simp [intOf]
    · have HQ := Hid.intro hq
      clear hat hq
      have hix : ∀ w, (Instr.index 95 (.agg #[.func (.func 70) #[] #[.pointer (some ⟨Bf, 0, none⟩)], .func (.func 73) #[] #[.pointer (some ⟨Bf, 0, none⟩)], .func (.func 75) #[.pointer (some ⟨p, 0, none⟩)] #[], .func (.func 76) #[] #[.pointer (some ⟨Bl, 0, none⟩), .pointer (some ⟨Bf, 0, none⟩)], .func (.func 78) #[] #[.pointer (some ⟨Bl, 0, none⟩)]]) (.int .i64 3)).run Tryz.prog w = .ok (.func (.func 76) #[] #[.pointer (some ⟨Bl, 0, none⟩), .pointer (some ⟨Bf, 0, none⟩)]) w := fun _ => by kernel_rfl
      have HRJ : Hid ((((((x.copies.filter lvC).filter (rpB x)).length : Nat) : Int)) = r3) := by
        have := HR.out
        unfold rkP at this
        simp only [List.cons.injEq] at this
        exact this.2.2.2.1
      go_wp2_with fail
      refine (l3_any x a1 c1 b2 o2 c2 a3 c3 p m n lo Bf Bl L0 al cl _ HFW.out HV.out H3F.out H3L.out H3A.out).mono ?_
      rintro e w6 ⟨rfl, hb6⟩
      rw [HRJ.out]
      have HQ6 := Hid.intro (HQ.out.below hb6 HQ.out.lt)
      have HR6 := Hid.intro (HR3.out.below hb6 HR3.out.lt)
      have H6F := Hid.intro (H3F.out.below hb6 H3F.out.lt)
      have H6L := Hid.intro (H3L.out.below hb6 H3L.out.lt)
      have H6A := Hid.intro (H3A.out.below ScpC.holds hb6 (Nat.le_refl _))
      have hB6 := hB3.trans (hb6.mono hB3.size)
      clear hb6 HQ HR3 H3F H3L H3A hB3 HFW hix
      have kq : w6.cell? ⟨gQ, 3, none⟩ = some (.int .i64 0) := HQ6.out.cell rfl
      have fq : w6.frozen? ⟨gQ, 3, none⟩ = false := HQ6.out.frozen 3
      have HQ7 : Hid (Blk gQ #[.int .i64 r0, .int .i64 r1, .int .i64 r2, .int .i64 r3, .int .i64 0] 55 (w6.setCell ⟨gQ, 3, none⟩ (.int .i64 r3))) := HQ6.out.set 3 (.int .i64 r3)
      have HR7 : Hid (Blk w.heap.size #[.int .i64 0, .int .i64 0, .int .i64 0, .int .i64 0, .int .i64 0] 55 (w6.setCell ⟨gQ, 3, none⟩ (.int .i64 r3))) := HR6.out.other hr5 _
      have H7F : Hid (Blk Bf #[.pointer (some ⟨p, 0, none⟩)] 51 (w6.setCell ⟨gQ, 3, none⟩ (.int .i64 r3))) := H6F.out.other (by show Bf ≠ gQ; omega) _
      have H7L : Hid (Blk Bl #[.slice al (x.copies.filter lvC).length cl] 30 (w6.setCell ⟨gQ, 3, none⟩ (.int .i64 r3))) := H6L.out.other (by show Bl ≠ gQ; omega) _
      have H7A : Hid (SliceC ScpC 7 L0 (w6.setCell ⟨gQ, 3, none⟩ (.int .i64 r3)) al (x.copies.filter lvC)) := H6A.out.keep ScpC.holds (Keeps.set (a := ⟨gQ, 3, none⟩) hq2 _) (Nat.le_refl _)
      have hB7 : Below w.heap.size w (w6.setCell ⟨gQ, 3, none⟩ (.int .i64 r3)) := hB6.setCell (p := ⟨gQ, 3, none⟩) hr4 _
      clear HQ6 HR6 H6F H6L H6A hB6
      go_wp2_with fail
      go_roundw
      case rel => exact ⟨.inr <| .inr <| .inr <| .inr <| .inl ⟨rfl, HQ7.out⟩, HR7, H7F, H7L, H7A, hB7⟩
      case measure => simp [intOf]
    · have HQ := Hid.intro hq
      clear hat hq
      have hix : ∀ w, (Instr.index 95 (.agg #[.func (.func 70) #[] #[.pointer (some ⟨Bf, 0, none⟩)], .func (.func 73) #[] #[.pointer (some ⟨Bf, 0, none⟩)], .func (.func 75) #[.pointer (some ⟨p, 0, none⟩)] #[], .func (.func 76) #[] #[.pointer (some ⟨Bl, 0, none⟩), .pointer (some ⟨Bf, 0, none⟩)], .func (.func 78) #[] #[.pointer (some ⟨Bl, 0, none⟩)]]) (.int .i64 4)).run Tryz.prog w = .ok (.func (.func 78) #[] #[.pointer (some ⟨Bl, 0, none⟩)]) w := fun _ => by kernel_rfl
      have HRJ : Hid ((((((x.copies.filter lvC).filter nrB).length : Nat) : Int)) = r4) := by
        have := HR.out
        unfold rkP at this
        simp only [List.cons.injEq] at this
        exact this.2.2.2.2.1
      go_wp2_with fail
      refine (l4_any x a1 c1 b2 o2 c2 a3 c3 p m n lo Bf Bl L0 al cl _ HFW.out HV.out H3F.out H3L.out H3A.out).mono ?_
      rintro e w6 ⟨rfl, hb6⟩
      rw [HRJ.out]
      have HQ6 := Hid.intro (HQ.out.below hb6 HQ.out.lt)
      have HR6 := Hid.intro (HR3.out.below hb6 HR3.out.lt)
      have H6F := Hid.intro (H3F.out.below hb6 H3F.out.lt)
      have H6L := Hid.intro (H3L.out.below hb6 H3L.out.lt)
      have H6A := Hid.intro (H3A.out.below ScpC.holds hb6 (Nat.le_refl _))
      have hB6 := hB3.trans (hb6.mono hB3.size)
      clear hb6 HQ HR3 H3F H3L H3A hB3 HFW hix
      have kq : w6.cell? ⟨gQ, 4, none⟩ = some (.int .i64 0) := HQ6.out.cell rfl
      have fq : w6.frozen? ⟨gQ, 4, none⟩ = false := HQ6.out.frozen 4
      have HQ7 : Hid (Blk gQ #[.int .i64 r0, .int .i64 r1, .int .i64 r2, .int .i64 r3, .int .i64 r4] 55 (w6.setCell ⟨gQ, 4, none⟩ (.int .i64 r4))) := HQ6.out.set 4 (.int .i64 r4)
      have HR7 : Hid (Blk w.heap.size #[.int .i64 0, .int .i64 0, .int .i64 0, .int .i64 0, .int .i64 0] 55 (w6.setCell ⟨gQ, 4, none⟩ (.int .i64 r4))) := HR6.out.other hr5 _
      have H7F : Hid (Blk Bf #[.pointer (some ⟨p, 0, none⟩)] 51 (w6.setCell ⟨gQ, 4, none⟩ (.int .i64 r4))) := H6F.out.other (by show Bf ≠ gQ; omega) _
      have H7L : Hid (Blk Bl #[.slice al (x.copies.filter lvC).length cl] 30 (w6.setCell ⟨gQ, 4, none⟩ (.int .i64 r4))) := H6L.out.other (by show Bl ≠ gQ; omega) _
      have H7A : Hid (SliceC ScpC 7 L0 (w6.setCell ⟨gQ, 4, none⟩ (.int .i64 r4)) al (x.copies.filter lvC)) := H6A.out.keep ScpC.holds (Keeps.set (a := ⟨gQ, 4, none⟩) hq2 _) (Nat.le_refl _)
      have hB7 : Below w.heap.size w (w6.setCell ⟨gQ, 4, none⟩ (.int .i64 r4)) := hB6.setCell (p := ⟨gQ, 4, none⟩) hr4 _
      clear HQ6 HR6 H6F H6L H6A hB6
      go_wp2_with fail
      go_roundw
      case rel => exact ⟨.inr <| .inr <| .inr <| .inr <| .inr <| ⟨rfl, HQ7.out⟩, HR7, H7F, H7L, H7A, hB7⟩
      case measure => simp [intOf]
    · have HQ := Hid.intro hq
      clear hat hq
      have HTS := Hid.intro HR3.out.there
      obtain ⟨wf, HE⟩ : ∃ wf, Hid (wf = wr.setCells w.heap.size 0 [.int .i64 r0, .int .i64 r1, .int .i64 r2, .int .i64 r3, .int .i64 r4]) := ⟨_, rfl⟩
      have HRf : Hid (wf.rangeAt w.heap.size 0 [.int .i64 r0, .int .i64 r1, .int .i64 r2, .int .i64 r3, .int .i64 r4]) := by
        show World.rangeAt _ _ _ _
        rw [HE.out]
        exact World.rangeAt_setCells_same _ _ _ _ HTS.out
      have HBf : Hid (Below w.heap.size w wf) := by
        show Below _ _ _
        rw [HE.out]
        exact below_setCells (Nat.le_refl _) _ _ _ hB3
      clear HR3 H3F H3L H3A hB3 HFW
      go_wp2_with (first | (refine wpList_load_mid rfl 55 _ rfl gQ 0 rfl [.int .i64 r0, .int .i64 r1, .int .i64 r2, .int .i64 r3, .int .i64 r4] _ HQ.out.rangeA Tryz.underlying55 rfl isz_rk ?_) | (refine wpList_store_to rfl 55 _ _ rfl w.heap.size 0 #[.int .i64 r0, .int .i64 r1, .int .i64 r2, .int .i64 r3, .int .i64 r4] rfl rfl HTS.out isz_rk (by simp [Value.oneCell']) wf HE.out ?_))
      exact bodyPost_ret (results_cell_mid rfl _ _ w.heap.size [.int .i64 r0, .int .i64 r1, .int .i64 r2, .int .i64 r3, .int .i64 r4] _ rfl HRf.out Tryz.underlying55 rfl isz_rk) rfl ⟨rfl, HBf.out⟩

theorem under5 : Tryz.prog.underlying 55 = some (.array 5 3) := by kernel_rfl
theorem under_int5 : Tryz.prog.underlying 3 = some (.int .i64) := by kernel_rfl
theorem info_int5 : ∃ i, Tryz.prog.info? 3 = some i ∧ Tryz.prog.cellsOf 3 = 1 := by
  cases h : Tryz.prog.info? 3 with
  | none =>
    have : (Tryz.prog.info? 3).isSome = true := by kernel_rfl
    rw [h] at this
    cases this
  | some i => exact ⟨i, rfl, by kernel_rfl⟩

def z5B (r0 r1 r2 r3 r4 : Int) : Bool := (r0 == 0) && ((r1 == 0) && ((r2 == 0) && ((r3 == 0) && (r4 == 0))))

theorem equal5 (r0 r1 r2 r3 r4 : Int) (w : World) : (Op.equalIn 10000 55 (.agg #[.int .i64 r0, .int .i64 r1, .int .i64 r2, .int .i64 r3, .int .i64 r4]) (.agg #[.int .i64 0, .int .i64 0, .int .i64 0, .int .i64 0, .int .i64 0])).run Tryz.prog w = .ok (z5B r0 r1 r2 r3 r4) w := by
  obtain ⟨i, hi, hc⟩ := info_int5
  rw [show (10000 : Nat) = 9999 + 1 from rfl, run_equalIn_array w 9999 _ _ under5 hi, hc]
  have p0 : ∀ w, (part 3 #[.int .i64 r0, .int .i64 r1, .int .i64 r2, .int .i64 r3, .int .i64 r4] (0 * 1)).run Tryz.prog w = .ok (.int .i64 r0) w := fun _ => by kernel_rfl
  have p1 : ∀ w, (part 3 #[.int .i64 r0, .int .i64 r1, .int .i64 r2, .int .i64 r3, .int .i64 r4] (1 * 1)).run Tryz.prog w = .ok (.int .i64 r1) w := fun _ => by kernel_rfl
  have p2 : ∀ w, (part 3 #[.int .i64 r0, .int .i64 r1, .int .i64 r2, .int .i64 r3, .int .i64 r4] (2 * 1)).run Tryz.prog w = .ok (.int .i64 r2) w := fun _ => by kernel_rfl
  have p3 : ∀ w, (part 3 #[.int .i64 r0, .int .i64 r1, .int .i64 r2, .int .i64 r3, .int .i64 r4] (3 * 1)).run Tryz.prog w = .ok (.int .i64 r3) w := fun _ => by kernel_rfl
  have p4 : ∀ w, (part 3 #[.int .i64 r0, .int .i64 r1, .int .i64 r2, .int .i64 r3, .int .i64 r4] (4 * 1)).run Tryz.prog w = .ok (.int .i64 r4) w := fun _ => by kernel_rfl
  have z0 : ∀ w, (part 3 #[.int .i64 0, .int .i64 0, .int .i64 0, .int .i64 0, .int .i64 0] (0 * 1)).run Tryz.prog w = .ok (.int .i64 0) w := fun _ => by kernel_rfl
  have z1 : ∀ w, (part 3 #[.int .i64 0, .int .i64 0, .int .i64 0, .int .i64 0, .int .i64 0] (1 * 1)).run Tryz.prog w = .ok (.int .i64 0) w := fun _ => by kernel_rfl
  have z2 : ∀ w, (part 3 #[.int .i64 0, .int .i64 0, .int .i64 0, .int .i64 0, .int .i64 0] (2 * 1)).run Tryz.prog w = .ok (.int .i64 0) w := fun _ => by kernel_rfl
  have z3 : ∀ w, (part 3 #[.int .i64 0, .int .i64 0, .int .i64 0, .int .i64 0, .int .i64 0] (3 * 1)).run Tryz.prog w = .ok (.int .i64 0) w := fun _ => by kernel_rfl
  have z4 : ∀ w, (part 3 #[.int .i64 0, .int .i64 0, .int .i64 0, .int .i64 0, .int .i64 0] (4 * 1)).run Tryz.prog w = .ok (.int .i64 0) w := fun _ => by kernel_rfl
  have q : ∀ a w, (Op.equalIn 9999 3 (.int .i64 a) (.int .i64 0)).run Tryz.prog w = .ok (a == 0) w := fun a w => run_equalIn_int w 9998 _ _ _ a 0 under_int5
  rw [show List.range 5 = [0, 1, 2, 3, 4] from rfl]
  unfold z5B
  cases h0 : (r0 == 0) <;> cases h1 : (r1 == 0) <;> cases h2 : (r2 == 0) <;> cases h3 : (r3 == 0) <;> cases h4 : (r4 == 0) <;> simp only [Op.eqItems, Sem.run_bind, Sem.run_pure, p0, p1, p2, p3, p4, z0, z1, z2, z3, z4, q, h0, h1, h2, h3, h4, Result.andThen_ok, Bool.not_true, Bool.not_false, Bool.false_eq_true, if_true, if_false, Bool.and_true, Bool.and_false]

theorem z5_iff (r0 r1 r2 r3 r4 : Int) : z5B r0 r1 r2 r3 r4 = true ↔ ∀ n ∈ [r0, r1, r2, r3, r4], n = 0 := by
  unfold z5B
  simp

set_option maxHeartbeats 4000000 in
set_option maxRecDepth 100000 in
theorem implDone_any (x : Sbk) (a1 : Option Addr) (c1 : Nat) (b2 o2 c2 : Nat) (a3 : Option Addr) (c3 : Nat) (lo : Nat) (w : World) (n1 : SliceC SsvC 13 lo w a1 x.services) (n2 : SliceC ScpC 7 lo w (some ⟨b2, o2, none⟩) x.copies) (n3 : SliceC SbtC 2 lo w a3 x.berths) (hcap : x.copies.length ≤ c2) (hw : NumOk x) :
    Calls Tryz.prog 8 #[.agg #[.int .i64 x.now, .slice a1 x.services.length c1, .slice (some ⟨b2, o2, none⟩) x.copies.length c2, .slice a3 x.berths.length c3]] w fun e w' => DnRes x w e w' := by
  have HN1 := Hid.intro n1
  have HN2 := Hid.intro n2
  have HN3 := Hid.intro n3
  have HCAP := Hid.intro hcap
  have HW := Hid.intro hw
  clear n1 n2 n3 hcap hw
  have HK1 : Hid (Blk w.heap.size #[.int .i64 x.now, .slice a1 x.services.length c1, .slice (some ⟨b2, o2, none⟩) x.copies.length c2, .slice a3 x.berths.length c3] 33 (w.alloc (Obj.cells #[.int .i64 x.now, .slice a1 x.services.length c1, .slice (some ⟨b2, o2, none⟩) x.copies.length c2, .slice a3 x.berths.length c3] 33))) := Blk.alloc _ _ _
  have hB1 : Below w.heap.size w (w.alloc (Obj.cells #[.int .i64 x.now, .slice a1 x.services.length c1, .slice (some ⟨b2, o2, none⟩) x.copies.length c2, .slice a3 x.berths.length c3] 33)) := by go_grown
  go_enter Tryz.func8, Tryz.ntmps8
  go_upto_region 1 with fail
  generalize w.alloc (Obj.cells #[.int .i64 x.now, .slice a1 x.services.length c1, .slice (some ⟨b2, o2, none⟩) x.copies.length c2, .slice a3 x.berths.length c3] 33) = w1 at *
  go_wp2_with (refine wpList_load_mid rfl 33 _ rfl w.heap.size 0 rfl [.int .i64 x.now, .slice a1 x.services.length c1, .slice (some ⟨b2, o2, none⟩) x.copies.length c2, .slice a3 x.berths.length c3] _ HK1.out.rangeA Tryz.underlying33 rfl isz_Sbk ?_)
  refine (findValid_any x a1 c1 (some ⟨b2, o2, none⟩) c2 a3 c3 lo _ (HN1.out.below SsvC.holds hB1 (Nat.le_refl _)) (HN2.out.below ScpC.holds hB1 (Nat.le_refl _)) (HN3.out.below SbtC.holds hB1 (Nat.le_refl _)) HW.out).mono ?_
  rintro e w2 ⟨hr, hb2⟩
  have hB2 : Below w.heap.size w w2 := hB1.trans (hb2.mono hB1.size)
  clear hb2 hB1 HK1 HN1 HN2 HN3
  rcases hr with ⟨hn, rfl⟩ | ⟨hy, p, m, n', rfl, hF⟩
  · have HE := Hid.intro hn
    clear hn
    go_wp2_with fail
    go_ret
    exact ⟨false, rfl, ⟨fun h => (by cases h), fun h => absurd h.1 HE.out⟩, hB2⟩
  · have HV := Hid.intro hy
    have HF := Hid.intro hF
    have hl1 := hy.l1
    clear hy hF
    obtain ⟨r0, r1, r2, r3, r4, hrk⟩ : ∃ r0 r1 r2 r3 r4, rkP x = [r0, r1, r2, r3, r4] := ⟨_, _, _, _, _, rfl⟩
    have HRK := Hid.intro hrk
    clear hrk
    go_wp2_with fail
    refine (ranks_any x a1 c1 b2 o2 c2 a3 c3 p m n' lo r0 r1 r2 r3 r4 HRK.out _ HF.out HV.out HCAP.out).mono ?_
    rintro e w3 ⟨rfl, hb3⟩
    have HF3 := Hid.intro (HF.out.below hb3)
    have hB3 : Below w.heap.size w w3 := hB2.trans (hb3.mono hB2.size)
    clear hb3 hB2 HF
    have heq := fun w => equal5 r0 r1 r2 r3 r4 w
    have HZI := Hid.intro (z5_iff r0 r1 r2 r3 r4)
    generalize z5B r0 r1 r2 r3 r4 = T at *
    have kp : w3.cell? ⟨p, 1, none⟩ = some (.slice a1 x.services.length c1) := HF3.out.blk.cell rfl
    cases T with
    | false =>
      have HND : Hid (¬ DoneP x) := fun h => by
        have h2 := (done_eq HV.out).1 h.2.1
        rw [HRK.out] at h2
        have := HZI.out.2 h2
        cases this
      go_wp2_with fail
      go_ret
      exact ⟨false, rfl, ⟨fun h => (by cases h), fun h => absurd h HND.out⟩, hB3⟩
    | true =>
      have HZ : Hid (∀ n ∈ rkI (rkL x x.services), n = 0) := by
        have h2 := HZI.out.1 rfl
        rw [← HRK.out] at h2
        exact (done_eq HV.out).2 h2
      clear HZI
      go_wp2_with fail
      refine (containsF_any 27 ofB x.services a1 c1 lo _ HF3.out.n1 (by omega) (fun v hv W => isOffLoad_any v W (by obtain ⟨k, hk⟩ := List.getElem?_of_mem hv; exact svNum (HV.out.s1 k v hk))) (enters_of Tryz.func27 (by kernel_rfl) rfl)).mono ?_
      rintro e w4 ⟨rfl, hb4⟩
      have hB4 : Below w.heap.size w w4 := hB3.trans (hb4.mono hB3.size)
      clear hb4 hB3 heq
      have HFE := Hid.intro (fol_eq HV.out)
      generalize x.services.any ofB = U at *
      go_wp2_with fail
      go_ret
      refine ⟨!U, rfl, ?_, hB4⟩
      cases U with
      | false => exact ⟨fun _ => ⟨HV.out, HZ.out, HFE.out.2 rfl⟩, fun _ => rfl⟩
      | true => exact ⟨fun h => (by cases h), fun h => (by have := HFE.out.1 h.2.2; cases this)⟩

end Go.Proofs.YtfbmljdlkgiliaaGreat
