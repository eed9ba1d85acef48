/-
  Trees and selects drawn (made by mkslc.py).
-/
import Derived.Test.YthjicahpfhjfdaaGreatDoorSlB
namespace Go.Proofs.YthjicahpfhjfdaaGreatDoor
open Go.RowKit

theorem NdRow.up {w w' : World} {B : Nat} {v : Value} {ns : List P.Nd} (h : NdRow w B v ns) (hb : Below w.heap.size w w') : NdRow w' B v ns := h.below hb (Nat.le_refl _)

theorem NdRow.set {w : World} {B b : Nat} {v : Value} {ns : List P.Nd} (h : NdRow w B v ns) (hb : b < B) (o : Nat) (x : Value) : NdRow (w.setCell ⟨b, o, none⟩ x) B v ns := by
  obtain ⟨g, cap, h1, h2, h3, h4⟩ := h
  refine ⟨g, cap, h1, h2, by simpa [World.setCell] using h3, fun j u hj => ?_⟩
  exact (World.cell?_of_block (w := w) (a := ⟨g, 0 + j, none⟩) (Below.heap_setCell w ⟨b, o, none⟩ x g (fun e => by have : g = b := e; omega))).trans (h4 j u hj)

theorem parts1 {w : World} {B g c q : Nat} {ns : List P.Nd} (h : NdRow w B (.slice (some ⟨g, 0, none⟩) ns.length c) ns) (hc : w.cell? ⟨q, 0, none⟩ = some (.slice (some ⟨g, 0, none⟩) ns.length c)) : PartsAt w q [ns] := by
  intro j x hj
  match j, hj with
  | 0, hj => simp at hj; subst hj; exact ⟨_, hc, h.mono (Nat.zero_le _)⟩

theorem parts2 {w : World} {B B' g c g' c' q : Nat} {ns ns' : List P.Nd} (h : NdRow w B (.slice (some ⟨g, 0, none⟩) ns.length c) ns) (h' : NdRow w B' (.slice (some ⟨g', 0, none⟩) ns'.length c') ns') (hc : w.cell? ⟨q, 0, none⟩ = some (.slice (some ⟨g, 0, none⟩) ns.length c)) (hc' : w.cell? ⟨q, 1, none⟩ = some (.slice (some ⟨g', 0, none⟩) ns'.length c')) : PartsAt w q [ns, ns'] := by
  intro j x hj
  match j, hj with
  | 0, hj => simp at hj; subst hj; exact ⟨_, hc, h.mono (Nat.zero_le _)⟩
  | 1, hj => simp at hj; subst hj; exact ⟨_, hc', h'.mono (Nat.zero_le _)⟩

theorem DrN.more {p m n m' n' : Nat} {W w' : World} {v : Value} (h : DrN p m n W w' v) (hm : m ≤ m') (hn : n ≤ n') : DrN p m' n' W w' v := by
  obtain ⟨ns, h1, h2, h3, h4, h5, h6⟩ := h
  exact ⟨ns, h1, by omega, h3, h4, h5.mono hn, h6⟩
theorem DrN.from {p m n : Nat} {W W1 w' : World} {v : Value} (h : DrN p m n W1 w' v) (hb : Bt p W.heap.size W W1) : DrN p m n W w' v := by
  obtain ⟨ns, h1, h2, h3, h4, h5, h6⟩ := h
  exact ⟨ns, h1.mono hb.size, h2, h3, h4, h5, hb.trans (h6.mono hb.size)⟩

set_option maxHeartbeats 4000000 in
set_option maxRecDepth 100000 in
theorem draw_zero (p n : Nat) (w : World) (hR : RdL p n w) (hn : n ≤ 890000) :
    Calls Tryz.prog 45 #[.pointer (some ⟨p, 0, none⟩), .int .i64 0] w fun e w' => ∃ v, e = .returned v ∧ DrN p 1 (n + 3) w w' v := by
  have HR := Hid.intro hR
  clear hR
  go_enter Tryz.func45, Tryz.ntmps45
  go_wp2_with fail
  refine (leaf_any p n _ HR.out hn).mono ?_
  rintro e w' ⟨v, rfl, hd⟩
  go_wp2_with fail
  go_ret
  exact ⟨v, rfl, hd⟩

set_option maxHeartbeats 4000000 in
set_option maxRecDepth 100000 in
theorem draw_step (D : Int) (h0 : 0 < D) (h4 : D ≤ 4) (C m : Nat) (IH : ∀ (p n : Nat) (w : World), RdL p n w → n + C ≤ 890000 → Calls Tryz.prog 45 #[.pointer (some ⟨p, 0, none⟩), .int .i64 (D - 1)] w fun e w' => ∃ v, e = .returned v ∧ DrN p m (n + C) w w' v) (hC : 3 ≤ C) (hm : m ≤ 100) (p n : Nat) (w : World) (hR : RdL p n w) (hn : n + (2 * C + 4) ≤ 890000) :
    Calls Tryz.prog 45 #[.pointer (some ⟨p, 0, none⟩), .int .i64 D] w fun e w' => ∃ v, e = .returned v ∧ DrN p (2 * m + 1) (n + (2 * C + 4)) w w' v := by
  have HR := Hid.intro hR
  have HI := Hid.intro IH
  have n0 : ¬ D ≤ 0 := by omega
  clear hR IH
  go_enter Tryz.func45, Tryz.ntmps45
  go_wp2_with fail
  refine (pickL p n 3 _ HR.out (by omega) (by omega) (by omega)).mono ?_
  rintro e w1 ⟨v, rfl, hv, hr, hb⟩
  have HB := Hid.intro hb
  replace HR := Hid.intro hr
  clear hr hb
  by_cases hv0 : v = 0
  · subst hv0
    go_wp2_with fail
    refine (leaf_any p (n + 1) _ HR.out (by omega)).mono ?_
    rintro e w' ⟨v, rfl, hd⟩
    go_wp2_with fail
    go_ret
    exact ⟨v, rfl, (hd.from HB.out).more (by omega) (by omega)⟩
  have v0 : ¬ (v : Int) = 0 := by omega
  have v1 : ((v : Int) == 0) = false := by simpa using hv0
  clear hv0
  go_wp2_with fail
  refine (pickL p (n + 1) 3 _ HR.out (by omega) (by omega) (by omega)).mono ?_
  rintro e w2 ⟨u, rfl, hu, hr, hb⟩
  replace HB := Hid.intro (HB.out.trans (hb.mono HB.out.size))
  replace HR := Hid.intro hr
  clear hr hb v0 v1 hv
  rcases (by omega : u = 0 ∨ u = 1 ∨ u = 2) with rfl | rfl | rfl
  · go_wp2_with fail
    refine (HI.out p (n + 1 + 1) _ HR.out (by omega)).mono ?_
    rintro e w3 ⟨x, rfl, ns, ⟨g, c, rfl, hg1, hg2, hg3⟩, hl, hl1, hsh, hr, hb⟩
    have HN : Hid (NdRow w3 w2.heap.size (.slice (some ⟨g, 0, none⟩) ns.length c) ns) := ⟨g, c, rfl, hg1, hg2, hg3⟩
    have HS := Hid.intro hsh
    replace HB := Hid.intro (HB.out.trans (hb.mono HB.out.size))
    replace HR := Hid.intro hr
    have hsz := HB.out.size
    clear hg1 hg3 hsh hr hb
    have hba : Below w3.heap.size w3 (w3.alloc (Obj.cells #[.slice (some ⟨g, 0, none⟩) ns.length c] 23)) := (Below.refl _ _).alloc (Nat.le_refl _) _
    have HP : Hid (PartsAt (w3.alloc (Obj.cells #[.slice (some ⟨g, 0, none⟩) ns.length c] 23)) w3.heap.size [ns]) := parts1 (HN.out.up hba) (by simp)
    have HRA := Hid.intro (HR.out.below hba HR.out.lt)
    go_wp2_with fail
    refine (over_any 3 1 _ [ns] _ HP.out (by simp) (by simp; omega)).mono ?_
    rintro e w4 ⟨x, rfl, hn4, hb4⟩
    have hbb : Below w3.heap.size w3 w4 := hba.trans (hb4.mono hba.size)
    go_wp2_with fail
    go_ret
    refine ⟨x, rfl, [ns].flatten ++ [⟨3, ⟨#[]⟩, ⟨#[]⟩, 1⟩], hn4.mono (by have := hba.size; omega), ?_, ?_, ?_, (HRA.out.below hb4 (by have := HRA.out.lt; exact this)).mono (by omega), HB.out.trans ((Bt.of_below hbb).mono hsz)⟩
    · simp; omega
    · simp
    · simpa using HS.out.app (sh_over 3 1)
  · go_wp2_with fail
    refine (HI.out p (n + 1 + 1) _ HR.out (by omega)).mono ?_
    rintro e w3 ⟨x, rfl, ns, ⟨g, c, rfl, hg1, hg2, hg3⟩, hl, hl1, hsh, hr, hb⟩
    have HN : Hid (NdRow w3 w2.heap.size (.slice (some ⟨g, 0, none⟩) ns.length c) ns) := ⟨g, c, rfl, hg1, hg2, hg3⟩
    have HS := Hid.intro hsh
    have hp2 : p < w2.heap.size := HR.out.lt
    replace HB := Hid.intro (HB.out.trans (hb.mono HB.out.size))
    replace HR := Hid.intro hr
    have hsz := HB.out.size
    clear hg1 hg3 hsh hr hb
    go_wp2_with fail
    refine (HI.out p (n + 1 + 1 + C) _ HR.out (by omega)).mono ?_
    rintro e w4 ⟨x, rfl, ms, ⟨g2, c2, rfl, hg1, hg4, hg3⟩, hl2, hl3, hsh, hr, hb⟩
    have HN2 : Hid (NdRow w4 w3.heap.size (.slice (some ⟨g2, 0, none⟩) ms.length c2) ms) := ⟨g2, c2, rfl, hg1, hg4, hg3⟩
    replace HN := Hid.intro (HN.out.bt hb (Nat.le_refl _) hp2)
    have HS2 := Hid.intro hsh
    have hsz2 := hb.size
    replace HB := Hid.intro (HB.out.trans (hb.mono HB.out.size))
    replace HR := Hid.intro hr
    clear hg1 hg3 hsh hr hb
    have hba : Below w4.heap.size w4 (w4.alloc (Obj.cells #[.slice (some ⟨g, 0, none⟩) ns.length c, .slice (some ⟨g2, 0, none⟩) ms.length c2] 23)) := (Below.refl _ _).alloc (Nat.le_refl _) _
    have HP : Hid (PartsAt (w4.alloc (Obj.cells #[.slice (some ⟨g, 0, none⟩) ns.length c, .slice (some ⟨g2, 0, none⟩) ms.length c2] 23)) w4.heap.size [ns, ms]) := parts2 (HN.out.up hba) (HN2.out.up hba) (by simp) (by simp)
    have HRA := Hid.intro (HR.out.below hba HR.out.lt)
    go_wp2_with fail
    refine (over_any 4 2 _ [ns, ms] _ HP.out (by simp) (by simp; omega)).mono ?_
    rintro e w5 ⟨x, rfl, hn5, hb5⟩
    have hbb : Below w4.heap.size w4 w5 := hba.trans (hb5.mono hba.size)
    go_wp2_with fail
    go_ret
    refine ⟨x, rfl, [ns, ms].flatten ++ [⟨4, ⟨#[]⟩, ⟨#[]⟩, 2⟩], hn5.mono (by have := hba.size; omega), ?_, ?_, ?_, (HRA.out.below hb5 (by have := HRA.out.lt; exact this)).mono (by omega), HB.out.trans ((Bt.of_below hbb).mono (by omega))⟩
    · simp; omega
    · simp; omega
    · simpa using (HS.out.app HS2.out).app (sh_over 4 2)
  · go_wp2_with fail
    refine (HI.out p (n + 1 + 1) _ HR.out (by omega)).mono ?_
    rintro e w3 ⟨x, rfl, ns, ⟨g, c, rfl, hg1, hg2, hg3⟩, hl, hl1, hsh, hr, hb⟩
    have HN : Hid (NdRow w3 w2.heap.size (.slice (some ⟨g, 0, none⟩) ns.length c) ns) := ⟨g, c, rfl, hg1, hg2, hg3⟩
    have HS := Hid.intro hsh
    have hp2 : p < w2.heap.size := HR.out.lt
    replace HB := Hid.intro (HB.out.trans (hb.mono HB.out.size))
    replace HR := Hid.intro hr
    have hsz := HB.out.size
    clear hg1 hg3 hsh hr hb
    go_wp2_with fail
    refine (HI.out p (n + 1 + 1 + C) _ HR.out (by omega)).mono ?_
    rintro e w4 ⟨x, rfl, ms, ⟨g2, c2, rfl, hg1, hg4, hg3⟩, hl2, hl3, hsh, hr, hb⟩
    have HN2 : Hid (NdRow w4 w3.heap.size (.slice (some ⟨g2, 0, none⟩) ms.length c2) ms) := ⟨g2, c2, rfl, hg1, hg4, hg3⟩
    replace HN := Hid.intro (HN.out.bt hb (Nat.le_refl _) hp2)
    have HS2 := Hid.intro hsh
    have hsz2 := hb.size
    replace HB := Hid.intro (HB.out.trans (hb.mono HB.out.size))
    replace HR := Hid.intro hr
    clear hg1 hg3 hsh hr hb
    have hba : Below w4.heap.size w4 (w4.alloc (Obj.cells #[.slice (some ⟨g, 0, none⟩) ns.length c, .slice (some ⟨g2, 0, none⟩) ms.length c2] 23)) := (Below.refl _ _).alloc (Nat.le_refl _) _
    have HP : Hid (PartsAt (w4.alloc (Obj.cells #[.slice (some ⟨g, 0, none⟩) ns.length c, .slice (some ⟨g2, 0, none⟩) ms.length c2] 23)) w4.heap.size [ns, ms]) := parts2 (HN.out.up hba) (HN2.out.up hba) (by simp) (by simp)
    have HRA := Hid.intro (HR.out.below hba HR.out.lt)
    go_wp2_with fail
    refine (over_any 5 2 _ [ns, ms] _ HP.out (by simp) (by simp; omega)).mono ?_
    rintro e w5 ⟨x, rfl, hn5, hb5⟩
    have hbb : Below w4.heap.size w4 w5 := hba.trans (hb5.mono hba.size)
    go_wp2_with fail
    go_ret
    refine ⟨x, rfl, [ns, ms].flatten ++ [⟨5, ⟨#[]⟩, ⟨#[]⟩, 2⟩], hn5.mono (by have := hba.size; omega), ?_, ?_, ?_, (HRA.out.below hb5 (by have := HRA.out.lt; exact this)).mono (by omega), HB.out.trans ((Bt.of_below hbb).mono (by omega))⟩
    · simp; omega
    · simp; omega
    · simpa using (HS.out.app HS2.out).app (sh_over 5 2)

/-- how many reads, how many nodes -/
def rdC : Nat → Nat
  | 0 => 3
  | d + 1 => 2 * rdC d + 4
def ndC : Nat → Nat
  | 0 => 1
  | d + 1 => 2 * ndC d + 1

theorem draw_any : ∀ (d : Nat), d ≤ 4 → ∀ (p n : Nat) (w : World), RdL p n w → n + rdC d ≤ 890000 → Calls Tryz.prog 45 #[.pointer (some ⟨p, 0, none⟩), .int .i64 (d : Int)] w fun e w' => ∃ v, e = .returned v ∧ DrN p (ndC d) (n + rdC d) w w' v
  | 0, _, p, n, w, hR, hn => draw_zero p n w hR (by unfold rdC at hn; omega)
  | d + 1, hd, p, n, w, hR, hn => by
    have hb : 3 ≤ rdC d ∧ ndC d ≤ 100 := by
      rcases (by omega : d = 0 ∨ d = 1 ∨ d = 2 ∨ d = 3) with rfl | rfl | rfl | rfl <;> decide
    exact draw_step ((d + 1 : Nat) : Int) (by omega) (by omega) (rdC d) (ndC d) (fun p n w h1 h2 => by
      rw [show (((d + 1 : Nat) : Int) - 1) = (d : Int) by omega]
      exact draw_any d (by omega) p n w h1 h2) hb.1 hb.2 p n w hR hn

set_option maxHeartbeats 4000000 in
set_option maxRecDepth 100000 in
theorem select_any (p n : Nat) (w : World) (hR : RdL p n w) (hn : n ≤ 880000) :
    Calls Tryz.prog 25 #[.pointer (some ⟨p, 0, none⟩)] w fun e w' => ∃ v, e = .returned (.agg #[v]) ∧ DrN p 40 (n + 200) w w' v := by
  have hpl := hR.lt
  have hbw : Below w.heap.size w (w.alloc (Obj.cells #[.slice none 0 0] 25)) := (Below.refl _ _).alloc (Nat.le_refl _) _
  have HR := Hid.intro (hR.below hbw hpl)
  have HK : Hid (Blk w.heap.size #[.slice none 0 0] 25 (w.alloc (Obj.cells #[.slice none 0 0] 25))) := Blk.alloc _ _ _
  have HB : Hid (Bt p w.heap.size w (w.alloc (Obj.cells #[.slice none 0 0] 25))) := Bt.of_below hbw
  clear hR hbw
  go_enter Tryz.func25, Tryz.ntmps25
  go_wp2_with fail
  generalize w.alloc (Obj.cells #[.slice none 0 0] 25) = w1 at *
  have hs1 := HK.out.lt
  refine (pickL p n 12 _ HR.out (by omega) (by omega) (by omega)).mono ?_
  rintro e w2 ⟨v, rfl, hv, hr, hb⟩
  replace HK := Hid.intro (HK.out.bt hb hs1 (by omega))
  replace HB := Hid.intro (HB.out.trans (hb.mono (by omega)))
  replace HR := Hid.intro hr
  have hs2 := HK.out.lt
  clear hr hb hs1
  rcases (by omega : v = 0 ∨ v = 1 ∨ 2 ≤ v) with rfl | rfl | hv2
  · have hz : (w2.setCell ⟨w.heap.size, 0, none⟩ (.slice (some ⟨w2.heap.size, 0, none⟩) 1 1)).heap.size = w2.heap.size := by simp [World.setCell]
    have HN : Hid (NdRow ((w2.setCell ⟨w.heap.size, 0, none⟩ (.slice (some ⟨w2.heap.size, 0, none⟩) 1 1)).alloc (Obj.cells #[.int .i64 0, .string ⟨#[]⟩, .string ⟨#[]⟩, .int .i64 0] 36)) w.heap.size (.slice (some ⟨w2.heap.size, 0, none⟩) 1 1) [⟨0, ⟨#[]⟩, ⟨#[]⟩, 0⟩]) := by
      have := node_row (w2.setCell ⟨w.heap.size, 0, none⟩ (.slice (some ⟨w2.heap.size, 0, none⟩) 1 1)) ⟨0, ⟨#[]⟩, ⟨#[]⟩, 0⟩ 36 w.heap.size (by rw [hz]; omega)
      rw [hz] at this
      exact this
    have hbs : Below w.heap.size w2 (w2.setCell ⟨w.heap.size, 0, none⟩ (.slice (some ⟨w2.heap.size, 0, none⟩) 1 1)) := (Below.refl _ _).setCell (show w.heap.size ≤ (⟨w.heap.size, 0, none⟩ : Addr).block from Nat.le_refl _) _
    have hba : Below w.heap.size w2 ((w2.setCell ⟨w.heap.size, 0, none⟩ (.slice (some ⟨w2.heap.size, 0, none⟩) 1 1)).alloc (Obj.cells #[.int .i64 0, .string ⟨#[]⟩, .string ⟨#[]⟩, .int .i64 0] 36)) := hbs.alloc (by rw [hz]; omega) _
    have hba2 : Below (w2.setCell ⟨w.heap.size, 0, none⟩ (.slice (some ⟨w2.heap.size, 0, none⟩) 1 1)).heap.size (w2.setCell ⟨w.heap.size, 0, none⟩ (.slice (some ⟨w2.heap.size, 0, none⟩) 1 1)) ((w2.setCell ⟨w.heap.size, 0, none⟩ (.slice (some ⟨w2.heap.size, 0, none⟩) 1 1)).alloc (Obj.cells #[.int .i64 0, .string ⟨#[]⟩, .string ⟨#[]⟩, .int .i64 0] 36)) := (Below.refl _ _).alloc (Nat.le_refl _) _
    have cc : ((w2.setCell ⟨w.heap.size, 0, none⟩ (.slice (some ⟨w2.heap.size, 0, none⟩) 1 1)).alloc (Obj.cells #[.int .i64 0, .string ⟨#[]⟩, .string ⟨#[]⟩, .int .i64 0] 36)).cell? ⟨w.heap.size, 0, none⟩ = some (.slice (some ⟨w2.heap.size, 0, none⟩) 1 1) := ((HK.out.set 0 (.slice (some ⟨w2.heap.size, 0, none⟩) 1 1)).below hba2 (by rw [hz]; exact hs2)).cell rfl
    have cf := HK.out.frozen 0
    have c0 : w2.cell? ⟨w.heap.size, 0, none⟩ = some (.slice none 0 0) := HK.out.cell rfl
    have HRF := Hid.intro (HR.out.below hba hpl)
    have HBF : Hid (Bt p w.heap.size w ((w2.setCell ⟨w.heap.size, 0, none⟩ (.slice (some ⟨w2.heap.size, 0, none⟩) 1 1)).alloc (Obj.cells #[.int .i64 0, .string ⟨#[]⟩, .string ⟨#[]⟩, .int .i64 0] 36))) := HB.out.trans (Bt.of_below hba)
    clear hba hbs hba2 HK HR HB
    go_wp2_with fail
    refine bodyPost_ret (v := .agg #[.slice (some ⟨w2.heap.size, 0, none⟩) 1 1]) (by simp [results, Tryz.results25, go_sem, cc]) rfl ⟨_, rfl, [⟨0, ⟨#[]⟩, ⟨#[]⟩, 0⟩], HN.out, by simp, by simp, sh_over 0 0, HRF.out.mono (by omega), HBF.out⟩
  · go_wp2_with fail
    refine (leaf_any p (n + 1) _ HR.out (by omega)).mono ?_
    rintro e w3 ⟨x, rfl, ns, ⟨g, c, rfl, hg1, hg2, hg3⟩, hl, hl1, hsh, hr, hb⟩
    have HN : Hid (NdRow w3 (w.heap.size + 1) (.slice (some ⟨g, 0, none⟩) ns.length c) ns) := ⟨g, c, rfl, by omega, hg2, hg3⟩
    have HS := Hid.intro hsh
    replace HK := Hid.intro (HK.out.bt hb hs2 (by omega))
    replace HB := Hid.intro (HB.out.trans (hb.mono HB.out.size))
    replace HR := Hid.intro hr
    clear hg1 hg3 hsh hr hb
    go_wp2_with fail
    refine (pickL p (n + 1 + 3) 2 _ HR.out (by omega) (by omega) (by omega)).mono ?_
    rintro e w4 ⟨u, rfl, hu, hr, hb⟩
    replace HN := Hid.intro (HN.out.bt hb (Nat.le_refl _) (by omega))
    replace HK := Hid.intro (HK.out.bt hb HK.out.lt (by omega))
    replace HB := Hid.intro (HB.out.trans (hb.mono HB.out.size))
    replace HR := Hid.intro hr
    clear hr hb hg2 hs2
    go_wp2_with fail
    go_loopw [3, 4] (fun x i wr => ∃ (k : Nat) (ns : List P.Nd) (g c : Nat), x = .slice (some ⟨g, 0, none⟩) ns.length c ∧ i = .int .i64 (k : Int) ∧ k ≤ 21 ∧ ns.length + k ≤ 22 ∧ 1 ≤ ns.length ∧ Hid (Sh ns) ∧ Hid (NdRow wr (w.heap.size + 1) (.slice (some ⟨g, 0, none⟩) ns.length c) ns) ∧ Hid (RdL p (n + 1 + 3 + 1) wr) ∧ Hid (Bt p w.heap.size w wr) ∧ Hid (Blk w.heap.size #[.slice none 0 0] 25 wr)) (fun _ i _ => (intOf i).toNat)
    case atStart => exact ⟨20 + u, ns, g, c, rfl, by go_num, by omega, by omega, hl1, HS, HN, HR, HB, HK⟩
    case round =>
      clear HS HN HR HB HK hl hl1
      obtain ⟨k, ns, g, c, rfl, rfl, hk, hl, hl1, HS, HN, HR, HB, HK⟩ := hrel
      rcases Nat.eq_zero_or_pos k with rfl | hk0
      · skip
        have hbs : Below w.heap.size wr (wr.setCell ⟨w.heap.size, 0, none⟩ (.slice (some ⟨g, 0, none⟩) ns.length c)) := (Below.refl _ _).setCell (show w.heap.size ≤ (⟨w.heap.size, 0, none⟩ : Addr).block from Nat.le_refl _) _
        have cc : (wr.setCell ⟨w.heap.size, 0, none⟩ (.slice (some ⟨g, 0, none⟩) ns.length c)).cell? ⟨w.heap.size, 0, none⟩ = some (.slice (some ⟨g, 0, none⟩) ns.length c) := (HK.out.set 0 (.slice (some ⟨g, 0, none⟩) ns.length c)).cell rfl
        have cf := HK.out.frozen 0
        have c0 : wr.cell? ⟨w.heap.size, 0, none⟩ = some (.slice none 0 0) := HK.out.cell rfl
        have HNF : Hid (NdRow (wr.setCell ⟨w.heap.size, 0, none⟩ (.slice (some ⟨g, 0, none⟩) ns.length c)) w.heap.size (.slice (some ⟨g, 0, none⟩) ns.length c) ns) := (HN.out.set (Nat.lt_succ_self _) 0 _).mono (Nat.le_succ _)
        have HRF := Hid.intro (HR.out.below hbs hpl)
        have HBF : Hid (Bt p w.heap.size w (wr.setCell ⟨w.heap.size, 0, none⟩ (.slice (some ⟨g, 0, none⟩) ns.length c))) := HB.out.trans (Bt.of_below hbs)
        clear hbs HK HN HR HB
        go_wp2_with fail
        refine bodyPost_ret (v := .agg #[.slice (some ⟨g, 0, none⟩) ns.length c]) (by simp [results, Tryz.results25, go_sem, cc]) rfl ⟨_, rfl, ns, HNF.out, by omega, hl1, HS.out, HRF.out.mono (by omega), HBF.out⟩
      · have k0 : (0 : Int) < (k : Int) := by omega
        have hba : Below wr.heap.size wr (wr.alloc (Obj.cells #[.slice (some ⟨g, 0, none⟩) ns.length c] 23)) := (Below.refl _ _).alloc (Nat.le_refl _) _
        have HP : Hid (PartsAt (wr.alloc (Obj.cells #[.slice (some ⟨g, 0, none⟩) ns.length c] 23)) wr.heap.size [ns]) := parts1 (HN.out.up hba) (by simp)
        replace HR := Hid.intro (HR.out.below hba HR.out.lt)
        have hzl := HK.out.lt
        have hsz := HB.out.size
        replace HK := Hid.intro (HK.out.below hba hzl)
        go_wp2_with fail
        refine (over_any 3 1 _ [ns] _ HP.out (by simp) (by simp; omega)).mono ?_
        rintro e w6 ⟨x, rfl, ⟨g6, c6, rfl, hg1, hg2, hg3⟩, hb6⟩
        have hbb : Below wr.heap.size wr w6 := hba.trans (hb6.mono hba.size)
        have hw1 := hba.size
        have HN6 : Hid (NdRow w6 (w.heap.size + 1) (.slice (some ⟨g6, 0, none⟩) ([ns].flatten ++ [(⟨3, ⟨#[]⟩, ⟨#[]⟩, 1⟩ : P.Nd)]).length c6) ([ns].flatten ++ [(⟨3, ⟨#[]⟩, ⟨#[]⟩, 1⟩ : P.Nd)])) := ⟨g6, c6, rfl, by omega, hg2, hg3⟩
        replace HR := Hid.intro (HR.out.below hb6 HR.out.lt)
        replace HK := Hid.intro (HK.out.below hb6 HK.out.lt)
        replace HB := Hid.intro (HB.out.trans ((Bt.of_below hbb).mono hsz))
        have HS6 : Hid (Sh ([ns].flatten ++ [⟨3, ⟨#[]⟩, ⟨#[]⟩, 1⟩])) := by show Sh _; simpa using HS.out.app (sh_over 3 1)
        have hl6 : ([ns].flatten ++ [(⟨3, ⟨#[]⟩, ⟨#[]⟩, 1⟩ : P.Nd)]).length = ns.length + 1 := by simp
        generalize [ns].flatten ++ [(⟨3, ⟨#[]⟩, ⟨#[]⟩, 1⟩ : P.Nd)] = ms at *
        clear hg1 hg3 hb6 hbb hba HP
        go_wp2_with fail
        go_roundw
        case rel => exact ⟨k - 1, ms, g6, c6, (by rw [hl6]), by rw [show ((k - 1 : Nat) : Int) = (k : Int) - 1 by omega], by omega, by omega, by omega, HS6, HN6, HR, HB, HK⟩
        case measure => simp [intOf]; omega
  · have v0 : ¬ (v : Int) = 0 := by omega
    have v1 : ((v : Int) == 0) = false := by simpa using v0
    have v2 : ¬ (v : Int) = 1 := by omega
    have v3 : ((v : Int) == 1) = false := by simpa using v2
    go_wp2_with fail
    clear v0 v1 v2 v3 hv hv2
    refine (pickL p (n + 1) 4 _ HR.out (by omega) (by omega) (by omega)).mono ?_
    rintro e w3 ⟨u, rfl, hu, hr, hb⟩
    replace HK := Hid.intro (HK.out.bt hb HK.out.lt (by omega))
    replace HB := Hid.intro (HB.out.trans (hb.mono HB.out.size))
    replace HR := Hid.intro hr
    have hs3 := HK.out.lt
    clear hr hb hs2
    have hrd : rdC (u + 1) ≤ 108 ∧ ndC (u + 1) ≤ 31 := by
      rcases (by omega : u = 0 ∨ u = 1 ∨ u = 2 ∨ u = 3) with rfl | rfl | rfl | rfl <;> decide
    have HD := Hid.intro (draw_any (u + 1) (by omega) p (n + 1 + 1) w3 HR.out (by omega))
    rw [show ((u + 1 : Nat) : Int) = 1 + (u : Int) by omega] at HD
    go_wp2_with fail
    refine HD.out.mono ?_
    rintro e w4 ⟨x, rfl, ns, ⟨g, c, rfl, hg1, hg2, hg3⟩, hl, hl1, hsh, hr, hb⟩
    have HN : Hid (NdRow w4 (w.heap.size + 1) (.slice (some ⟨g, 0, none⟩) ns.length c) ns) := ⟨g, c, rfl, by omega, hg2, hg3⟩
    have HS := Hid.intro hsh
    replace HK := Hid.intro (HK.out.bt hb hs3 (by omega))
    replace HB := Hid.intro (HB.out.trans (hb.mono HB.out.size))
    replace HR := Hid.intro hr
    clear hg1 hg3 hsh hr hb HD hs3
    have hbs : Below w.heap.size w4 (w4.setCell ⟨w.heap.size, 0, none⟩ (.slice (some ⟨g, 0, none⟩) ns.length c)) := (Below.refl _ _).setCell (show w.heap.size ≤ (⟨w.heap.size, 0, none⟩ : Addr).block from Nat.le_refl _) _
    have cc : (w4.setCell ⟨w.heap.size, 0, none⟩ (.slice (some ⟨g, 0, none⟩) ns.length c)).cell? ⟨w.heap.size, 0, none⟩ = some (.slice (some ⟨g, 0, none⟩) ns.length c) := (HK.out.set 0 (.slice (some ⟨g, 0, none⟩) ns.length c)).cell rfl
    have cf := HK.out.frozen 0
    have c0 : w4.cell? ⟨w.heap.size, 0, none⟩ = some (.slice none 0 0) := HK.out.cell rfl
    have HNF : Hid (NdRow (w4.setCell ⟨w.heap.size, 0, none⟩ (.slice (some ⟨g, 0, none⟩) ns.length c)) w.heap.size (.slice (some ⟨g, 0, none⟩) ns.length c) ns) := (HN.out.set (Nat.lt_succ_self _) 0 _).mono (Nat.le_succ _)
    have HRF := Hid.intro (HR.out.below hbs hpl)
    have HBF : Hid (Bt p w.heap.size w (w4.setCell ⟨w.heap.size, 0, none⟩ (.slice (some ⟨g, 0, none⟩) ns.length c))) := HB.out.trans (Bt.of_below hbs)
    clear hbs HK HN HR HB
    go_wp2_with fail
    refine bodyPost_ret (v := .agg #[.slice (some ⟨g, 0, none⟩) ns.length c]) (by simp [results, Tryz.results25, go_sem, cc]) rfl ⟨_, rfl, ns, HNF.out, by omega, hl1, HS.out, HRF.out.mono (by omega), HBF.out⟩

end Go.Proofs.YthjicahpfhjfdaaGreatDoor
