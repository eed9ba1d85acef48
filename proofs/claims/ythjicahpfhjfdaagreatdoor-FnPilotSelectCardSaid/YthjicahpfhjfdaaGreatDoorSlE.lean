/-
  A code opened; a select drawn (made by mksle.py).
-/
import Derived.Test.YthjicahpfhjfdaaGreatDoorSlD
namespace Go.Proofs.YthjicahpfhjfdaaGreatDoor
open Go.RowKit

theorem bys_alloc {xs : List Nat} {a : Option Addr} {w : World} (h : ∀ (k x : Nat), xs[k]? = some x → ∃ b o, a = some ⟨b, o, none⟩ ∧ w.cell? ⟨b, o + k, none⟩ = some (.int .u8 (x : Int)) ∧ x < 256 ∧ b < w.heap.size) (ob : Obj) : ByS w.heap.size a xs (w.alloc ob) := fun k x hk => by
  obtain ⟨b, o, e, c, l, q⟩ := h k x hk
  exact ⟨b, o, e, (World.cell?_alloc_lt _ _ _ q).trans c, l, q⟩

set_option maxHeartbeats 2000000 in
theorem open_rd (xs : List Nat) (a : Option Addr) (cap : Nat) (w : World) (hin : ∀ (k x : Nat), xs[k]? = some x → ∃ b o, a = some ⟨b, o, none⟩ ∧ w.cell? ⟨b, o + k, none⟩ = some (.int .u8 (x : Int)) ∧ x < 256 ∧ b < w.heap.size) (hl : xs.length ≤ 1048576) (hc : xs.length ≤ cap) :
    Calls Tryz.prog 13 #[.slice a xs.length cap] w fun e w' => ∃ p, e = .returned (.pointer (some ⟨p, 0, none⟩)) ∧ RdS p 0 w' ∧ w.heap.size ≤ p ∧ Below w.heap.size w w' := by
  have HI := Hid.intro hin
  clear hin
  by_cases h : xs.length ≤ 2000
  · have hi : ¬ (2000 : Int) < (xs.length : Int) := by omega
    go_enter Tryz.func13, Tryz.ntmps13
    go_wp2_with fail
    go_ret
    exact ⟨w.heap.size, rfl, ⟨xs, a, cap, bys_alloc (fun _ _ hk => HI.out _ _ hk) _, Blk.alloc _ _ _, h⟩, Nat.le_refl _, (Below.refl _ _).alloc (Nat.le_refl _) _⟩
  · have hi : (2000 : Int) < (xs.length : Int) := by omega
    have ht : (xs.take 2000).length = 2000 := by rw [List.length_take]; omega
    go_enter Tryz.func13, Tryz.ntmps13
    go_wp2_with fail
    go_ret
    refine ⟨w.heap.size, rfl, ⟨xs.take 2000, a, cap, bys_alloc (fun k x hk => ?_) _, ?_, by omega⟩, Nat.le_refl _, (Below.refl _ _).alloc (Nat.le_refl _) _⟩
    · rw [List.getElem?_take] at hk
      split at hk
      · exact HI.out _ _ hk
      · cases hk
    · rw [ht]
      exact Blk.alloc _ _ _

/-- the bytes of a code as they came in -/
def ByIn (a : Option Addr) (xs : List Nat) (w : World) : Prop := ∀ (k x : Nat), xs[k]? = some x → ∃ b o, a = some ⟨b, o, none⟩ ∧ w.cell? ⟨b, o + k, none⟩ = some (.int .u8 (x : Int)) ∧ x < 256 ∧ b < w.heap.size
theorem ByIn.below {a : Option Addr} {xs : List Nat} {w w' : World} (h : ByIn a xs w) (hb : Below w.heap.size w w') : ByIn a xs w' := fun k x hk => by
  obtain ⟨b, o, h1, h2, h3, h4⟩ := h k x hk
  exact ⟨b, o, h1, (hb.cell (p := ⟨b, o + k, none⟩) h4).trans h2, h3, Nat.lt_of_lt_of_le h4 hb.size⟩

/-- nodes drawn by a call of its own -/
def DrP (m : Nat) (W w' : World) (v : Value) : Prop := ∃ ns, NdRow w' W.heap.size v ns ∧ ns.length ≤ m ∧ Sh ns ∧ Below W.heap.size W w'

set_option maxHeartbeats 4000000 in
set_option maxRecDepth 100000 in
theorem drawPrint_any (xs : List Nat) (a : Option Addr) (cap : Nat) (w : World) (hin : ByIn a xs w) (hl : xs.length ≤ 1048576) (hc : xs.length ≤ cap) :
    Calls Tryz.prog 14 #[.slice a xs.length cap] w fun e w' => ∃ v, e = .returned (.agg #[v]) ∧ DrP 41 w w' v := by
  have hb0 : Below w.heap.size w (w.alloc (Obj.cells #[.slice none 0 0] 25)) := (Below.refl _ _).alloc (Nat.le_refl _) _
  have HI := Hid.intro (hin.below hb0)
  have HK : Hid (Blk w.heap.size #[.slice none 0 0] 25 (w.alloc (Obj.cells #[.slice none 0 0] 25))) := Blk.alloc _ _ _
  clear hin
  go_enter Tryz.func14, Tryz.ntmps14
  go_wp2_with fail
  generalize w.alloc (Obj.cells #[.slice none 0 0] 25) = w0 at *
  have hz0 := HK.out.lt
  refine (open_rd xs a cap _ HI.out hl hc).mono ?_
  rintro e w1 ⟨p, rfl, hr, hp, hb1⟩
  have hR : RdL p 0 w1 := ⟨0, Nat.le_refl _, hr⟩
  have HR := Hid.intro hR
  replace HK := Hid.intro (HK.out.below hb1 hz0)
  have hbw : Below w.heap.size w w1 := hb0.trans (hb1.mono (by omega))
  have hz1 := HK.out.lt
  have hp1 : p < w1.heap.size := HR.out.lt
  clear hr hR hb0 hb1 HI
  go_wp2_with fail
  refine (select_any p 0 _ HR.out (by omega)).mono ?_
  rintro e w2 ⟨x, rfl, ns, ⟨g, c, rfl, hg1, hg2, hg3⟩, hln, hl1, hsh, hr, hb⟩
  have HS := Hid.intro hsh
  have HN : Hid (NdRow w2 w1.heap.size (.slice (some ⟨g, 0, none⟩) ns.length c) ns) := ⟨g, c, rfl, hg1, hg2, hg3⟩
  replace hbw := hbw.trans (hb.below (by omega) (show w.heap.size ≤ p by omega))
  replace HK := Hid.intro (HK.out.bt hb hz1 (by omega))
  replace HR := Hid.intro hr
  have hz2 := HK.out.lt
  have hz12 : w1.heap.size ≤ w2.heap.size := by omega
  clear hg1 hg3 hsh hr hb
  have hba : Below w2.heap.size w2 (w2.alloc (Obj.cells #[.slice (some ⟨g, 0, none⟩) ns.length c] 25)) := (Below.refl _ _).alloc (Nat.le_refl _) _
  have HX : Hid (Blk w2.heap.size #[.slice (some ⟨g, 0, none⟩) ns.length c] 25 (w2.alloc (Obj.cells #[.slice (some ⟨g, 0, none⟩) ns.length c] 25))) := Blk.alloc _ _ _
  replace HN := Hid.intro (HN.out.up hba)
  replace HK := Hid.intro (HK.out.below hba hz2)
  replace HR := Hid.intro (HR.out.below hba HR.out.lt)
  replace hbw := hbw.trans (hba.mono (by omega))
  skip
  go_wp2_with fail
  generalize w2.alloc (Obj.cells #[.slice (some ⟨g, 0, none⟩) ns.length c] 25) = w3 at *
  have hx3 : w2.heap.size < w3.heap.size := HX.out.lt
  refine (pickL p (0 + 200) 3 _ HR.out (by omega) (by omega) (by omega)).mono ?_
  rintro e w4 ⟨v, rfl, hv, hr, hb⟩
  replace HN := Hid.intro (HN.out.bt hb (Nat.le_refl _) hp1)
  replace HK := Hid.intro (HK.out.bt hb HK.out.lt (by omega))
  replace HX := Hid.intro (HX.out.bt hb hx3 (by omega))
  replace HR := Hid.intro hr
  replace hbw := hbw.trans (hb.below (by omega) (show w.heap.size ≤ p by omega))
  have cx : w4.cell? ⟨w2.heap.size, 0, none⟩ = some (.slice (some ⟨g, 0, none⟩) ns.length c) := HX.out.cell rfl
  clear hr hb
  by_cases hv0 : v = 0
  · subst hv0
    go_wp2_with fail
    refine (spoil_any p (0 + 200 + 1) ns g c _ _ HN.out (by omega) HS.out HR.out (by omega)).mono ?_
    rintro e w5 ⟨x, rfl, ms, ⟨g5, c5, rfl, hg1, hg5, hg3⟩, hlm, hsm, hr, hb⟩
    have hz4 := HK.out.lt
    skip
    replace HN : Hid (NdRow w5 w4.heap.size (.slice (some ⟨g5, 0, none⟩) ms.length c5) ms) := ⟨g5, c5, rfl, hg1, hg5, hg3⟩
    have HSM := Hid.intro hsm
    replace hbw := hbw.trans (hb.below (by omega) (show w.heap.size ≤ p by omega))
    replace HK := Hid.intro (HK.out.bt hb hz4 (by omega))
    clear hg1 hg3 hsm hr hb cx HX
    have hbs : Below w.heap.size w (w5.setCell ⟨w.heap.size, 0, none⟩ (.slice (some ⟨g5, 0, none⟩) ms.length c5)) := hbw.trans ((Below.refl _ _).setCell (show w.heap.size ≤ (⟨w.heap.size, 0, none⟩ : Addr).block from Nat.le_refl _) _)
    have cc : (w5.setCell ⟨w.heap.size, 0, none⟩ (.slice (some ⟨g5, 0, none⟩) ms.length c5)).cell? ⟨w.heap.size, 0, none⟩ = some (.slice (some ⟨g5, 0, none⟩) ms.length c5) := (HK.out.set 0 (.slice (some ⟨g5, 0, none⟩) ms.length c5)).cell rfl
    have cf := HK.out.frozen 0
    have c0 : w5.cell? ⟨w.heap.size, 0, none⟩ = some (.slice none 0 0) := HK.out.cell rfl
    have HF : Hid (DrP 41 w (w5.setCell ⟨w.heap.size, 0, none⟩ (.slice (some ⟨g5, 0, none⟩) ms.length c5)) (.slice (some ⟨g5, 0, none⟩) ms.length c5)) := ⟨ms, (HN.out.set (by omega) 0 _).mono (by omega), by omega, HSM.out, hbs⟩
    clear hbs hbw HK HN
    go_wp2_with fail
    exact bodyPost_ret (v := .agg #[.slice (some ⟨g5, 0, none⟩) ms.length c5]) (by simp [results, Tryz.results14, go_sem, cc]) rfl ⟨_, rfl, HF.out⟩
  · have v0 : ¬ (v : Int) = 0 := by omega
    have v1 : ((v : Int) == 0) = false := by simpa using hv0
    have hbs : Below w.heap.size w (w4.setCell ⟨w.heap.size, 0, none⟩ (.slice (some ⟨g, 0, none⟩) ns.length c)) := hbw.trans ((Below.refl _ _).setCell (show w.heap.size ≤ (⟨w.heap.size, 0, none⟩ : Addr).block from Nat.le_refl _) _)
    have cc : (w4.setCell ⟨w.heap.size, 0, none⟩ (.slice (some ⟨g, 0, none⟩) ns.length c)).cell? ⟨w.heap.size, 0, none⟩ = some (.slice (some ⟨g, 0, none⟩) ns.length c) := (HK.out.set 0 (.slice (some ⟨g, 0, none⟩) ns.length c)).cell rfl
    have cf := HK.out.frozen 0
    have c0 : w4.cell? ⟨w.heap.size, 0, none⟩ = some (.slice none 0 0) := HK.out.cell rfl
    have HF : Hid (DrP 41 w (w4.setCell ⟨w.heap.size, 0, none⟩ (.slice (some ⟨g, 0, none⟩) ns.length c)) (.slice (some ⟨g, 0, none⟩) ns.length c)) := ⟨ns, (HN.out.set (by omega) 0 _).mono (by omega), by omega, HS.out, hbs⟩
    clear hbs hbw HK HN
    go_wp2_with fail
    exact bodyPost_ret (v := .agg #[.slice (some ⟨g, 0, none⟩) ns.length c]) (by simp [results, Tryz.results14, go_sem, cc]) rfl ⟨_, rfl, HF.out⟩

end Go.Proofs.YthjicahpfhjfdaaGreatDoor
