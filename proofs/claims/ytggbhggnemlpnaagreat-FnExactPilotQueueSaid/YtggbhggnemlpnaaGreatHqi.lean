/-
  The queue by the program. Made by mkhqi.py.
-/
import Derived.Test.YtggbhggnemlpnaaGreatJ43
import Derived.Test.YtggbhggnemlpnaaGreatFv2
import Derived.Test.YtggbhggnemlpnaaGreatJ16
import Derived.Deep.AppendLies
namespace Go.Proofs.YtggbhggnemlpnaaGreat
open Go.RowKit
attribute [local go_sem] Oper.semAt_some

/-- names in the making: in the cell at g -/
def NmL (g base : Nat) (l : List ByteArray) (w : World) : Prop := ∃ (a : Option Addr) (q : Nat), Blk g #[.slice a l.length q] 28 w ∧ w.ownsRow base 9 1 (.slice a l.length q) l.length (stV l)

theorem NmL.grown {g base : Nat} {l : List ByteArray} {w w' : World} {row : Option Nat} (h : NmL g base l w) (hg : w.grownBy w' row) (hr : ∀ r, row = some r → ∃ ob : Obj, w.heap[r]? = some ob ∧ ob.isCells = false) : NmL g base l w' := by
  obtain ⟨a, q, h1, h2⟩ := h
  refine ⟨a, q, h1.grown hg (fun e => ?_), h2.kept hg ?_⟩
  · obtain ⟨ob, ho, hc⟩ := hr g e.symm
    rw [show w.heap[g]? = _ from h1] at ho
    cases ho
    cases hc
  · rcases h2.2 with ⟨h3, _⟩ | ⟨g2, cap, cur, h3, _, h4, _⟩
    · rw [h3]; exact .inl rfl
    · rw [h3]
      refine .inr (fun e => ?_)
      obtain ⟨ob, ho, hc⟩ := hr g2 e.symm
      rw [h4] at ho
      cases ho
      cases hc
theorem NmL.b2 {g base gw hw : Nat} {l : List ByteArray} {w w' : World} (h : NmL g base l w) (hB : B2 gw hw w w') (h1 : g ≠ gw) (h2 : g ≠ hw) (h3 : gw < base) (h4 : hw < base) : NmL g base l w' := by
  obtain ⟨a, q, k1, k2⟩ := h
  refine ⟨a, q, (hB.block _ k1.lt h1 h2).trans k1, k2.1, ?_⟩
  rcases k2.2 with hh | ⟨g', cap, cur, q1, q2, q3, q4⟩
  · exact .inl hh
  · exact .inr ⟨g', cap, cur, q1, q2, (hB.block g' (Array.getElem?_eq_some_iff.1 q3).1 (by omega) (by omega)).trans q3, q4⟩

theorem HpW.base {x : Flt} {a3 : Option Addr} {c3 : Nat} {Wb Wb' : World} {Bc hb : Nat} {lv : Value} {l : List Nat} {W : World} (h : HpW x a3 c3 Wb Bc hb lv l W) (hB : Below Wb'.heap.size Wb' Wb) : HpW x a3 c3 Wb' Bc hb lv l W := by
  have hs := hB.size
  refine ⟨hB.trans (h.bel.mono hs), h.box, h.blk, ⟨h.row.1, h.row.2.imp id (fun ⟨g9, c9, cur, h9, hb9, r⟩ => ⟨g9, c9, cur, h9, by omega, r⟩)⟩, h.n1, h.n3, by have := h.b1; omega, by have := h.b2; omega⟩
theorem HpW.own {x : Flt} {a3 : Option Addr} {c3 : Nat} {Wb : World} {Bc hb : Nat} {lv : Value} {l : List Nat} {W : World} (h : HpW x a3 c3 Wb Bc hb lv l W) : ∃ g, (∀ g', lv.ownBlock = some g' → g' = g) ∧ Wb.heap.size ≤ g ∧ g < W.heap.size := by
  rcases h.row.2 with ⟨h1, _⟩ | ⟨g, cap, cur, h1, h2, h3, _⟩
  · exact ⟨hb, (fun g' e => by rw [h1] at e; cases e), h.b1, h.blk.lt⟩
  · exact ⟨g, (fun g' e => by rw [h1] at e; cases e; rfl), h2, (Array.getElem?_eq_some_iff.1 h3).1⟩

set_option maxHeartbeats 8000000 in
set_option maxRecDepth 100000 in
theorem implQueue_any (x : Flt) (a1 : Option Addr) (c1 : Nat) (a2 : Option Addr) (c2 : Nat) (a3 : Option Addr) (c3 : Nat) (lo : Nat) (w : World) (n1 : SliceC BrtC 6 lo w a1 x.berths) (n2 : SliceC SvcC 2 lo w a2 x.services) (n3 : SliceC CpyC 12 lo w a3 x.copies)
    (l1 : x.berths.length ≤ 1048576) (l2 : x.services.length ≤ 1048576) (l3 : x.copies.length ≤ 1048576) :
    Calls Tryz.prog 8 #[.agg #[.bool x.pack, .slice a1 x.berths.length c1, .slice a2 x.services.length c2, .slice a3 x.copies.length c3]] w fun e w' => ∃ a cap, e = .returned (.slice a (queL x).length cap) ∧ SliceC StrC 1 (w.heap.size + 1) w' a (queL x) ∧ Below w.heap.size w w' := by
  obtain ⟨i0, hi, hz0, hz1, hz2⟩ := info_parts info_str
  have N1 := Hid.intro n1
  have N2 := Hid.intro n2
  have N3 := Hid.intro n3
  clear n1 n2 n3
  refine (callsIn_wide (n := 7)).1 ?_
  refine callsIn_of_wp_marks Tryz.func8 rfl trivial ?_ rfl
  refine wpIn_wide.2 ?_
  simp only [Tryz.ntmps8, List.size_toArray, List.length_cons, List.length_nil, Nat.reduceAdd, Nat.reduceSub, Array.replicate_succ, Array.replicate_zero, List.push_toArray, List.append_toArray, List.nil_append, List.cons_append]
  go_wp2_with fail
  have hb0 : Below w.heap.size w (w.alloc (Obj.cells #[.bool x.pack, .slice a1 x.berths.length c1, .slice a2 x.services.length c2, .slice a3 x.copies.length c3] 34)) := (Below.refl _ w).alloc (Nat.le_refl _) _
  have hx0 : Blk w.heap.size #[.bool x.pack, .slice a1 x.berths.length c1, .slice a2 x.services.length c2, .slice a3 x.copies.length c3] 34 (w.alloc (Obj.cells #[.bool x.pack, .slice a1 x.berths.length c1, .slice a2 x.services.length c2, .slice a3 x.copies.length c3] 34)) := Blk.alloc _ _ _
  refine (findValid_any x a1 c1 a2 c2 a3 c3 lo _ (N1.out.below BrtC.holds hb0 (Nat.le_refl _)) (N2.out.below SvcC.holds hb0 (Nat.le_refl _)) (N3.out.below CpyC.holds hb0 (Nat.le_refl _)) l1 l2 l3).mono ?_
  rintro e w1 ⟨v, rfl, hb1, hfd⟩
  have HB1 : Hid (Below w.heap.size w w1) := hb0.trans (hb1.mono (by simp))
  have HX1 := Hid.intro (hx0.below hb1 hx0.lt)
  have hz1' : w.heap.size + 1 ≤ w1.heap.size := by
    have := hb1.size
    simpa using this
  clear hb0 hb1 hx0
  cases hv : validI x with
  | false =>
    have HE : Hid (queL x = []) := by show _ = _; unfold queL; rw [if_neg (by rw [hv]; decide)]
    clear hfd hv
    go_wp2_with fail
    refine ⟨_, results_tmp rfl _ _ _, none, 0, by rw [HE.out]; rfl, by rw [HE.out]; exact SliceC.nil, HB1.out⟩
  | true =>
    obtain ⟨p, m1, m2, m3, m4, rfl, _, _, hF⟩ := hfd hv
    obtain ⟨_, h60, _, hasc, _, _⟩ := valid_parts hv
    have HQE : Hid (queL x = (qTo x x.copies.length).map (nmQ x)) := by show _ = _; unfold queL; rw [if_pos hv]
    have HNM : Hid (∀ (i : Nat) (c : Cpy), x.copies[i]? = some c → c.name.size ≤ 20) := fun i c h => name_20 (copy_name hv h)
    have p3 : w1.cell? ⟨p, 3, none⟩ = some (.slice a3 x.copies.length c3) := hF.1 3 _ rfl
    have hpl := block_lt_of_cell p3
    have M3 := Hid.intro (N3.out.below CpyC.holds HB1.out (Nat.le_refl _))
    have HASC := Hid.intro hasc
    have HO := Hid.intro (ltQ x hasc)
    have HPC := Hid.intro p3
    clear hF hfd hv hasc p3
    go_upto_region 5 with fail
    have hb5 : Below w1.heap.size w1 (w1.alloc (Obj.cells #[.slice none 0 0] 28)) := by go_grown
    have HL5 : Hid (Blk w1.heap.size #[.slice none 0 0] 28 (w1.alloc (Obj.cells #[.slice none 0 0] 28))) := Blk.alloc _ _ _
    generalize w1.alloc (Obj.cells #[.slice none 0 0] 28) = w5 at *
    have h15 : w1.heap.size < w5.heap.size := HL5.out.lt
    go_wp2_with fail
    refine (queue_any x a3 c3 lo p _ (M3.out.below CpyC.holds hb5 (Nat.le_refl _)) ((hb5.cell (p := ⟨p, 3, none⟩) hpl).trans HPC.out) HASC.out (by omega)).mono ?_
    rintro e w6 ⟨Bc, hb, lv, l, rfl, hH, hHe, hPe⟩
    obtain ⟨g, hgo, hg1, hg2⟩ := hH.own
    have HL6 := Hid.intro (HL5.out.below hH.bel HL5.out.lt)
    have k1 := hH.blk.lt
    have k2 := hH.box.lt
    have k3 := hH.b1
    have k4 := hH.b2
    have hs6 := hH.bel.size
    have HHe := Hid.intro hHe
    have HPe := Hid.intro hPe
    have HGo := Hid.intro hgo
    have HH6 := Hid.intro (hH.base hb5)
    clear hH hHe hPe hgo HL5
    go_wp2_with fail
    refine (all_any hb _).mono ?_
    rintro e w7 ⟨rfl, hw7⟩
    have hb7 : Below w6.heap.size w6 w7 := by rw [hw7]; go_grown
    have HA7 : Hid (Blk w6.heap.size #[.pointer (some ⟨hb, 0, none⟩)] 59 w7) := by rw [hw7]; exact Blk.alloc _ _ _
    have HL7 := Hid.intro (HL6.out.below hb7 HL6.out.lt)
    have HH7 := Hid.intro (HH6.out.below hb7)
    have hs7 : w6.heap.size < w7.heap.size := HA7.out.lt
    have HB7 : Hid (Below w1.heap.size w1 w7) := HH7.out.bel
    clear hw7 hb7 HH6 HL6
    generalize hnb : w1.heap.size = nb at *
    generalize hBa : w6.heap.size = Ba at *
    have HNB := Hid.intro hnb
    clear hBa hb5
    go_wp2_with fail
    refine wpIn_wide.1 (range_allQ (n := 6) (fun k => k = nb) g hb (gf := 64) (lb := #[.pointer (some ⟨Ba, 0, none⟩)]) rfl (enters_of Tryz.func64 (by kernel_rfl) rfl)
      (all_seq x a3 c3 w1 Bc hb Ba (cfQ x) HO.out (fun k => k = nb) w7.heap.size lv l g w7 (cmpQ_any x a3 c3 lo w1 Bc M3.out) HH7.out HHe.out (fun b hb9 => wtTo_lt (HPe.out.subset hb9)) (by have h1 := HPe.out.length_eq; have h2 := wtTo_len x x.copies.length; omega) HGo.out HA7.out (by rw [hnb]; omega) (fun k e => by rw [hnb]; exact Nat.le_of_eq e.symm) (by omega) (by omega) (by omega) (by omega) (by omega) (by omega) (by omega) (by omega) (by omega) (by omega)) (by omega) (by omega) (fun _ => rfl)
      (fun pre W' => NmL nb w7.heap.size (pre.map (fun c => nmQ x c.1)) W' ∧ Below nb w1 W' ∧ w7.heap.size ≤ W'.heap.size) ?_ ?_ ?_
      (fun c a' _ => a' = { tmps := #[.agg #[.bool x.pack, .slice a1 x.berths.length c1, .slice a2 x.services.length c2, .slice a3 x.copies.length c3], .pointer (some ⟨w.heap.size, 0, none⟩), .slice none 0 0, .pointer (some ⟨p, 0, none⟩), .bool true, .pointer (some ⟨nb, 0, none⟩), .int .i64 ((c.1 : Nat) : Int), .tuple #[.pointer (some ⟨p, 0, none⟩), .bool true], .agg #[.bool x.pack, .slice a1 x.berths.length c1, .slice a2 x.services.length c2, .slice a3 x.copies.length c3], .tuple #[.pointer (some ⟨p, 0, none⟩), .bool true], .pointer (some ⟨p, 0, none⟩), .bool true, .bool true, .bool false, .pointer (some ⟨p, 0, none⟩), .pointer (some ⟨hb, 0, none⟩), .func (.func 64) #[] #[.pointer (some ⟨Ba, 0, none⟩)], .int .i64 ((c.1 : Nat) : Int), undef, undef, undef, undef, undef, undef, undef, undef, undef, undef, undef], defers := [] }) ?_ ?_ ?_ ?_)
    · rintro s A B row ⟨h1, h2, h3⟩ hgr hr
      exact ⟨h1.grown hgr (fun r e => (hr r e).2), h2.grown hgr (by have := h2.size; omega) (fun k e => by have := (hr k e).1; omega), Nat.le_trans h3 hgr.size⟩
    · rintro s A B ⟨h1, h2, h3⟩ hB
      exact ⟨h1.b2 hB (by omega) (by omega) (by omega) (by omega), h2.trans ⟨hB.os, hB.tape, hB.output, hB.size, fun k hk => hB.block k (by have := h2.size; omega) (by omega) (by omega)⟩, Nat.le_trans h3 hB.size⟩
    · exact ⟨⟨none, 0, HL7.out, World.ownsRow_nil _ _ _ _⟩, HB7.out, Nat.le_refl _⟩
    · exact fun c a' _ A B row h _ _ => h
    · rintro l' pre c W' K hI hK
      have hKK := Hid.intro hK
      have HI := Hid.intro hI
      clear hK hI
      simp only [plEnc]
      gi_wp2_with fail
      exact hKK.out _ _ (KeepsFrom.of_below (Below.refl _ _)) (KpQ.refl _ _ _) HI.out rfl
    · rintro l' pre c a' W' ⟨⟨a, cap, hL, hO⟩, h3, h4⟩ rfl hlt'
      rw [List.length_map] at hL hO
      obtain ⟨d, hd⟩ : ∃ d, x.copies[c.1]? = some d := ⟨x.copies[c.1], List.getElem?_eq_getElem c.2⟩
      obtain ⟨cb, co, ea, _, hcb, hcc⟩ := M3.out.at hd
      subst ea
      obtain ⟨la, lc, hrg⟩ := rngCpy hcc
      have HQ0 : Hid (w1.cell? ⟨cb, co + c.1 * 12, none⟩ = some (.string d.name)) := hrg 0 _ rfl
      have HX3 : Hid (w1.cell? ⟨w.heap.size, 3, none⟩ = some (.slice (some ⟨cb, co, none⟩) x.copies.length c3)) := HX1.out.cell rfl
      have HCB : Hid (cb < nb) := by show _ < _; rw [← hnb]; exact hcb
      have HDN := Hid.intro (HNM.out _ _ hd)
      have hll : l.length ≤ 60 := by have h1 := HPe.out.length_eq; have h2 := wtTo_len x x.copies.length; omega
      have HSN : Hid ((pre ++ [c]).map (fun c => nmQ x c.1) = pre.map (fun c => nmQ x c.1) ++ [d.name]) := by show _ = _; simp [nmQ_at hd]
      generalize hes : pre.map (fun c => nmQ x c.1) = es at *
      have hel : es.length = pre.length := by rw [← hes]; simp
      rw [← hel] at hL hO hlt'
      clear hes hel hd hcb hcc hrg
      have HLX := Hid.intro (And.intro hL h3)
      have HO7 := Hid.intro hO
      clear hL hO h3
      refine wpIn_block ?_
      refine wpIn_until (S := fun wy => Blk nb #[.slice a es.length cap] 28 wy ∧ Below nb w1 wy) 10 (by kernel_rfl) (by kernel_rfl) ⟨HLX.out.1.drew, HLX.out.2.drew⟩ (fun hS => ?_)
      refine wpAnyU_take (i := 0) (oi := { dst := some 18, op := _, type := _, pos := _, after := _, guard := none }) (v := .slice a es.length cap) rfl (by kernel_rfl) (by kernel_rfl) (by kernel_rfl) (by kernel_rfl) (fun _ _ _ h => by cases h.1) (Or.inl ⟨by rfl, ?_⟩) hS ?_
      · intro wy hy
        have h0 : wy.cell? ⟨nb, 0, none⟩ = some (.slice a es.length cap) := hy.1.cell rfl
        clear hy
        go_simp
      simp only [Act.put, List.setIfInBounds_toArray, List.set_cons_zero, List.set_cons_succ]
      refine wpAnyU_take (i := 1) (oi := { dst := some 19, op := _, type := _, pos := _, after := _, guard := none }) (v := .pointer (some ⟨w.heap.size, 3, none⟩)) rfl (by kernel_rfl) (by kernel_rfl) (by kernel_rfl) (by kernel_rfl) (fun _ _ _ h => by cases h.1) (Or.inl ⟨by rfl, ?_⟩) hS ?_
      · intro wy hy
        clear hy
        go_simp
      simp only [Act.put, List.setIfInBounds_toArray, List.set_cons_zero, List.set_cons_succ]
      refine wpAnyU_take (i := 2) (oi := { dst := some 20, op := _, type := _, pos := _, after := _, guard := none }) (v := .slice (some ⟨cb, co, none⟩) x.copies.length c3) rfl (by kernel_rfl) (by kernel_rfl) (by kernel_rfl) (by kernel_rfl) (fun _ _ _ h => by cases h.1) (Or.inl ⟨by rfl, ?_⟩) hS ?_
      · intro wy hy
        have h0 : wy.cell? ⟨w.heap.size, 3, none⟩ = some (.slice (some ⟨cb, co, none⟩) x.copies.length c3) := (hy.2.cell (p := ⟨w.heap.size, 3, none⟩) (by show w.heap.size < nb; omega)).trans HX3.out
        clear hy
        go_simp
      simp only [Act.put, List.setIfInBounds_toArray, List.set_cons_zero, List.set_cons_succ]
      refine wpAnyU_take (i := 3) (oi := { dst := some 21, op := _, type := _, pos := _, after := _, guard := none }) (v := .int .i64 ((c.1 : Nat) : Int)) rfl (by kernel_rfl) (by kernel_rfl) (by kernel_rfl) (by kernel_rfl) (fun _ _ _ h => by cases h.1) (Or.inl ⟨by rfl, ?_⟩) hS ?_
      · intro wy hy
        clear hy
        go_simp
      simp only [Act.put, List.setIfInBounds_toArray, List.set_cons_zero, List.set_cons_succ]
      refine wpAnyU_take (i := 4) (oi := { dst := some 22, op := _, type := _, pos := _, after := _, guard := none }) (v := .pointer (some ⟨cb, co + c.1 * 12, none⟩)) rfl (by kernel_rfl) (by kernel_rfl) (by kernel_rfl) (by kernel_rfl) (fun _ _ _ h => by cases h.1) (Or.inl ⟨by rfl, ?_⟩) hS ?_
      · intro wy hy
        have h0 := c.2
        clear hy
        go_simp
      simp only [Act.put, List.setIfInBounds_toArray, List.set_cons_zero, List.set_cons_succ]
      refine wpAnyU_take (i := 5) (oi := { dst := some 23, op := _, type := _, pos := _, after := _, guard := none }) (v := .pointer (some ⟨cb, co + c.1 * 12, none⟩)) rfl (by kernel_rfl) (by kernel_rfl) (by kernel_rfl) (by kernel_rfl) (fun _ _ _ h => by cases h.1) (Or.inl ⟨by rfl, ?_⟩) hS ?_
      · intro wy hy
        clear hy
        go_simp
      simp only [Act.put, List.setIfInBounds_toArray, List.set_cons_zero, List.set_cons_succ]
      refine wpAnyU_take (i := 6) (oi := { dst := some 24, op := _, type := _, pos := _, after := _, guard := none }) (v := .string d.name) rfl (by kernel_rfl) (by kernel_rfl) (by kernel_rfl) (by kernel_rfl) (fun _ _ _ h => by cases h.1) (Or.inl ⟨by rfl, ?_⟩) hS ?_
      · intro wy hy
        have h0 : wy.cell? ⟨cb, co + c.1 * 12, none⟩ = some (.string d.name) := (hy.2.cell (p := ⟨cb, co + c.1 * 12, none⟩) HCB.out).trans HQ0.out
        clear hy
        go_simp
      simp only [Act.put, List.setIfInBounds_toArray, List.set_cons_zero, List.set_cons_succ]
      refine wpAnyU_ready (rs := [7]) (by kernel_rfl) (by simp) (AllReadyU.cons (o := { dst := some 25, op := _, type := _, pos := _, after := _, guard := none }) rfl (fun KK hKK => ?_) AllReadyU.nil)
      go_simp
      refine (clone_any d.name _ (by have := HDN.out; omega)).mono ?_
      rintro e w3 ⟨rfl, hb3⟩
      have HB3 : Hid (Below W'.heap.size W' w3) := (Below.refl _ _).drew.trans hb3
      refine hKK.out _ _ ⟨hS.1.below hb3 hS.1.lt, hS.2.trans (hb3.mono (by have := hS.2.size; omega))⟩ (fun hS => ?_)
      clear hKK KK hb3 HLX
      refine wpAnyU_ready (rs := [8]) (by kernel_rfl) (by simp) (AllReadyU.cons (o := { dst := some 26, op := _, type := _, pos := _, after := _, guard := none }) rfl (fun KK hKK => ?_) AllReadyU.nil)
      go_simp
      have HNW : Hid (Blk w3.heap.size #[.string d.name] 9 (w3.alloc (Obj.cells #[.string d.name] 9))) := Blk.alloc _ _ _
      have hb4 : Below w3.heap.size w3 (w3.alloc (Obj.cells #[.string d.name] 9)) := (Below.refl _ _).alloc (Nat.le_refl _) _
      have HB4 : Hid (Below W'.heap.size W' (w3.alloc (Obj.cells #[.string d.name] 9))) := HB3.out.trans (hb4.mono HB3.out.size)
      refine hKK.out _ _ ⟨hS.1.below hb4 hS.1.lt, hS.2.trans (hb4.mono (by have := hS.2.size; omega))⟩ (fun hS => ?_)
      clear hKK KK HB3 hb4
      generalize w3.alloc (Obj.cells #[.string d.name] 9) = w4 at *
      generalize w3.heap.size = gn at *
      have HO4 := Hid.intro (ownsRow_below HO7.out HB4.out)
      have hs4 : w7.heap.size ≤ w4.heap.size := Nat.le_trans h4 HB4.out.size
      refine wpAnyU_ready (rs := [9]) (by kernel_rfl) (by simp) (AllReadyU.cons (o := { dst := some 27, op := _, type := _, pos := _, after := _, guard := none }) rfl (fun KK hKK => ?_) AllReadyU.nil)
      refine step_append_lies _ rfl (.tmp 18) (.tmp 26) 28 rfl w7.heap.size 9 i0 _ 1 16 Tryz.underlying28 hi hz0 hz1 hz2 rfl (by decide) _ es.length _ rfl HO4.out ⟨gn, 0, none⟩ 1 1 [.string d.name] rfl rfl (oneS (HNW.out.cell rfl)) (by intro u hu; rw [List.mem_singleton.1 hu]; rfl) (by omega) (by unfold maxLen; omega) (by omega) hs4 _ rfl ?_
      intro g2 cap2 w5 hown hgrow hto hgl
      have hrw : ∀ r, (Value.slice a es.length cap).ownBlock = some r → w7.heap.size ≤ r ∧ ∃ cs, w4.heap[r]? = some (Obj.cells cs 9) := fun r e => by
        rcases HO4.out.2 with ⟨h9, _⟩ | ⟨g9, c9, cur, h9, hb9, hg9, _⟩
        · rw [h9] at e; cases e
        · rw [h9] at e; cases e; exact ⟨hb9, cur, hg9⟩
      have hLx : Blk nb #[.slice a es.length cap] 28 w5 := hS.1.grown hgrow (fun e => by have := (hrw _ e.symm).1; omega)
      have hBx : Below nb w1 w5 := hS.2.grown hgrow (by omega) (fun r e => by have := (hrw r e).1; omega)
      have HK5 : Hid (KpQ (fun k => k = nb) w7.heap.size W' w5) := (KpQ.of_below HB4.out h4).grown hgrow hs4 (fun r e => .inl (hrw r e).1)
      have HF5 : Hid (KeepsFrom w7.heap.size W' w5) := (KeepsFrom.of_below HB4.out).trans (KeepsFrom.of_cells hgrow (fun r e => by obtain ⟨_, cs, h9⟩ := hrw r e; exact ⟨cs, _, h9⟩))
      have hs5 : w7.heap.size ≤ w5.heap.size := Nat.le_trans hs4 hgrow.size
      have HOW := Hid.intro hown
      have hg2 : nb ≠ g2 := fun e => by
        rcases hown.2 with ⟨h9, _⟩ | ⟨g9, c9, cur, h9, hb9, hg9, _⟩
        · cases h9
        · cases h9; omega
      refine hKK.out _ _ ⟨hLx, hBx⟩ (fun hS => ?_)
      clear hKK KK hrw hown
      simp only [Act.put, List.setIfInBounds_toArray, List.set_cons_zero, List.set_cons_succ]
      have kz := hLx.cell (o := 0) rfl
      have fz := hLx.frozen 0
      refine wpAnyU_ready (rs := [10]) (by kernel_rfl) (by simp) (AllReadyU.last (o := { dst := none, op := _, type := _, pos := _, after := _, guard := none }) rfl (fun KK hKK => ?_))
      go_simp
      clear kz fz
      have HLf := Hid.intro (hLx.set 0 (.slice (some ⟨g2, 0, none⟩) (es.length + 1) cap2))
      refine hKK.out _ _ (wpAnyU_done (by kernel_rfl) ?_ _)
      clear hKK KK
      refine ⟨rfl, ?_⟩
      refine ⟨HF5.out.trans ((KeepsOthers.setCell _ _ _).from _), HK5.out.grown (grownBy_setCell' _ _ _) hs5 (fun r e => by cases e; exact .inr rfl), ?_, hBx.setCell (p := ⟨nb, 0, none⟩) (Nat.le_refl _) _, by simp [World.setCell]; exact hs5⟩
      rw [HSN.out]
      refine ⟨some ⟨g2, 0, none⟩, cap2, by simpa using HLf.out, ?_⟩
      rw [show stV (es ++ [d.name]) = stV es ++ [.string d.name] from List.map_append]
      simp only [List.length_append, List.length_cons, List.length_nil]
      exact HOW.out.kept (grownBy_setCell' _ _ _) (.inr (fun e => hg2 (by cases e; rfl)))
    · rintro D xs W' hD ⟨hcame, hpw⟩ ⟨⟨a, cap, hL, hO⟩, h3, h4⟩ hK
      have HE : Hid (queL x = xs.map (fun c => nmQ x c.1)) := by
        show _ = _
        rw [HQE.out, ← qTo_one HO.out (hcame.trans HPe.out) hpw, List.map_map]
        rfl
      have hsm := queL_small x
      rw [HE.out] at hsm
      generalize xs.map (fun c => nmQ x c.1) = es at *
      have k0 := hL.cell (o := 0) rfl
      have HO9 := Hid.intro hO
      have HD := Hid.intro hK
      clear hL hO hK hpw hcame
      go_wp2_with fail
      refine ⟨by simp, .inl ⟨_, _, rfl, run_takeDeferred HD.out, ?_⟩⟩
      refine ⟨_, results_tmp rfl _ _ _, a, cap, by rw [HE.out]; rfl, ?_, HB1.out.trans ((h3.mono (by omega)).trans ((Below.refl _ W').grown (grownBy_putObj' W' D _) (by have := h3.size; have := HB1.out.size; omega) (fun k e => by cases e; have := HB1.out.size; omega)))⟩
      have hO := HO9.out.kept (grownBy_putObj' W' D (.deferred none)) (by
        rcases HO9.out.2 with ⟨h9, _⟩ | ⟨g9, c9, cur, h9, hb9, hg9, _⟩
        · rw [h9]; exact .inl rfl
        · rw [h9]
          refine .inr (fun e => ?_)
          cases e
          rw [HD.out] at hg9
          cases hg9)
      obtain ⟨av, cv, ev, hsv⟩ := row_strs hO (fun s hs => by have := hsm.2.2 s hs; unfold maxLen; omega) (by unfold maxLen; omega)
      cases ev
      rw [HE.out]
      exact hsv.keep StrC.holds (Keeps.refl _ _) (by omega)

end Go.Proofs.YtggbhggnemlpnaaGreat
