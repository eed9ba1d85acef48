/-
  The harm of copies that go, by the specification: the whole. Made by mkhrs.py.
-/
import Derived.Test.YtggbhggnemlpnaaGreatJ44
import Derived.Test.YtggbhggnemlpnaaGreatSp3
import Derived.Test.YtggbhggnemlpnaaGreatEqv
namespace Go.Proofs.YtggbhggnemlpnaaGreat
open Go.RowKit Go.WideMaps Go.Maps

theorem KnownC.next {x : Flt} {gone : List ByteArray} {k : Nat} {s : ByteArray} (h : KnownC x gone k) (hs : gone[k]? = some s) (h0 : ¬ idxC x.copies s < 0) : KnownC x gone (k + 1) := by
  intro j g hj hg
  by_cases e : j = k
  · subst e
    rw [hs] at hg
    cases hg
    omega
  · exact h j g (by omega) hg

set_option maxHeartbeats 4000000 in
set_option maxRecDepth 100000 in
theorem specHarm_any (x : Flt) (a1 : Option Addr) (c1 : Nat) (a2 : Option Addr) (c2 : Nat) (a3 : Option Addr) (c3 : Nat) (lo : Nat) (gone : List ByteArray) (ga : Option Addr) (gc lo2 : Nat) (w : World) (n1 : SliceC BrtC 6 lo w a1 x.berths) (n2 : SliceC SvcC 2 lo w a2 x.services) (n3 : SliceC CpyC 12 lo w a3 x.copies) (hg : SliceC StrC 1 lo2 w ga gone) (hsm : gone.length ≤ 1048576)
    (l1 : x.berths.length ≤ 1048576) (l2 : x.services.length ≤ 1048576) (l3 : x.copies.length ≤ 1048576) :
    Calls Tryz.prog 15 #[.agg #[.bool x.pack, .slice a1 x.berths.length c1, .slice a2 x.services.length c2, .slice a3 x.copies.length c3], .slice ga gone.length gc] w fun e w' => HrmA x gone w e w' := by
  have N1 := Hid.intro n1
  have N2 := Hid.intro n2
  have N3 := Hid.intro n3
  have HG := Hid.intro hg
  have HE := Hid.intro (valid_eq x l3)
  clear n1 n2 n3 hg
  have hb1 : Below w.heap.size w (w.alloc (Obj.cells #[.bool x.pack, .slice a1 x.berths.length c1, .slice a2 x.services.length c2, .slice a3 x.copies.length c3] 34)) := by go_grown
  have HF1 : Hid (FltIn w.heap.size x a1 c1 a2 c2 a3 c3 (w.alloc (Obj.cells #[.bool x.pack, .slice a1 x.berths.length c1, .slice a2 x.services.length c2, .slice a3 x.copies.length c3] 34))) := ⟨by simp, by simp, by simp, by simp⟩
  have hs1 : (w.alloc (Obj.cells #[.bool x.pack, .slice a1 x.berths.length c1, .slice a2 x.services.length c2, .slice a3 x.copies.length c3] 34)).heap.size = w.heap.size + 1 := by simp
  go_enter Tryz.func15, Tryz.ntmps15
  go_upto_region 1 with fail
  generalize w.alloc (Obj.cells #[.bool x.pack, .slice a1 x.berths.length c1, .slice a2 x.services.length c2, .slice a3 x.copies.length c3] 34) = w1 at *
  have HS1 := Hid.intro hs1
  clear hs1
  go_wp2_with fail
  go_loopw [5] (fun i wr => ∃ k : Nat, k ≤ gone.length ∧ i = .int .i64 k ∧ Hid (KnownC x gone k) ∧ Below w1.heap.size w1 wr) (fun i _ => gone.length - (intOf i).toNat)
  case atStart => exact ⟨0, Nat.zero_le _, rfl, fun j g h _ => absurd h (Nat.not_lt_zero _), Below.refl _ _⟩
  case round =>
    obtain ⟨k, hkk, rfl, HK, hB⟩ := hrel
    have hBw : Below w.heap.size w wr := hb1.trans (hB.mono hb1.size)
    have HFr := Hid.intro (HF1.out.below hB (by have h8 := HS1.out; omega))
    have HZr : Hid (w.heap.size + 1 ≤ wr.heap.size) := by have h8 := HS1.out; have h9 := hB.size; show _ ≤ _; omega
    by_cases hlt : k < gone.length
    case neg =>
      have hke : k = gone.length := by omega
      subst hke
      obtain ⟨f0, f1, f2, f3⟩ := HFr.out
      go_wp2_with fail
      refine (specValid_any x a1 c1 a2 c2 a3 c3 lo _ (N1.out.below BrtC.holds hBw (Nat.le_refl _)) (N2.out.below SvcC.holds hBw (Nat.le_refl _)) (N3.out.below CpyC.holds hBw (Nat.le_refl _)) l1 l2 l3).mono ?_
      rintro e w4 ⟨rfl, hb4⟩
      have hB4 : Below w.heap.size w w4 := hBw.trans (hb4.mono hBw.size)
      have HF4 := Hid.intro (HFr.out.below hb4 (block_lt_of_cell f0))
      have HZ4 : Hid (w.heap.size + 1 ≤ w4.heap.size) := Nat.le_trans HZr.out hb4.size
      clear hb4 f0 f1 f2 f3 hB hBw
      obtain ⟨f0, f1, f2, f3⟩ := HF4.out
      cases hv : validS x with
      | false =>
        have HV : Hid (validI x = false) := HE.out.trans hv
        have HA : Hid (HrmIs x gone []) := ⟨fun h => absurd (HV.out.symm.trans h.1) (by decide), fun _ => rfl⟩
        have HO : Hid ((w4.alloc (Obj.cells #[] 3)).ownsRow (w.heap.size + 1) 3 1 (.slice (some ⟨w4.heap.size, 0, none⟩) 0 0) 0 []) := World.ownsRow_made w4 #[] 0 HZ4.out (Nat.zero_le _) rfl
        have hB5 : Below w.heap.size w (w4.alloc (Obj.cells #[] 3)) := hB4.alloc hB4.size _
        clear hv
        go_wp2_with fail
        go_ret
        exact ⟨some ⟨w4.heap.size, 0, none⟩, 0, [], rfl, HA.out, HO.out, hB5⟩
      | true =>
        have HV : Hid (validI x = true) := HE.out.trans hv
        have hl60 : x.copies.length ≤ 60 := (valid_parts HV.out).2.1
        clear hv
        go_wp2_with fail
        refine (l6Harm_any x a1 c1 a2 c2 a3 c3 lo gone ga gc lo2 _ (N3.out.below CpyC.holds hB4 (Nat.le_refl _)) (HG.out.below StrC.holds hB4 (Nat.le_refl _)) hsm hl60 HK.out).mono ?_
        rintro e w5 ⟨g, q, rfl, ho5, hb5⟩
        have hB5 : Below w.heap.size w w5 := hB4.trans (hb5.mono hB4.size)
        have HLE : Hid ((srtD (gone.map (rnkO x))).length = gone.length) := by show _ = _; rw [srtD_len, List.length_map]
        have HA : Hid (HrmIs x gone (srtD (gone.map (rnkO x)))) := ⟨fun _ => rfl, fun h => absurd ⟨HV.out, HK.out⟩ h⟩
        have HO5 := Hid.intro (own_mono ho5 (base' := w.heap.size + 1) (by have h9 := HZ4.out; omega))
        clear ho5 hb5
        go_wp2_with fail
        go_ret
        exact ⟨some ⟨g, 0, none⟩, q, srtD (gone.map (rnkO x)), by rw [HLE.out]; rfl, HA.out, by rw [HLE.out]; exact HO5.out, hB5⟩
    obtain ⟨s, hs⟩ : ∃ s, gone[k]? = some s := ⟨gone[k], List.getElem?_eq_getElem hlt⟩
    obtain ⟨bg, og, rfl, _, hbg, hcs, _⟩ := HG.out.at hs
    have HST : Hid (∀ wy, Below w.heap.size w wy → wy.cell? ⟨bg, og + k, none⟩ = some (.string s)) := fun wy hy => (hy.cell (p := ⟨bg, og + k, none⟩) hbg).trans (by simpa using hcs)
    have HSK := Hid.intro hs
    clear hcs hs
    go_upto_region 4 with fail
    refine wp_region_held_drew (S := fun wy => FltIn w.heap.size x a1 c1 a2 c2 a3 c3 wy ∧ Below w.heap.size w wy) (by kernel_rfl) ⟨HFr.out.drewH, hBw.drew⟩ (fun hS => ?_)
    replace hB := hB.drew
    clear hBw HFr HZr
    generalize wr.drew = wa at *
    refine wpAnyH_take (i := 0) (oi := { dst := some 12, op := _, type := _, pos := _, after := _, guard := none }) (v := .agg #[.bool x.pack, .slice a1 x.berths.length c1, .slice a2 x.services.length c2, .slice a3 x.copies.length c3]) rfl (by kernel_rfl) (by kernel_rfl) (by kernel_rfl) (fun _ _ _ h => h) (Or.inl ⟨by rfl, ?_⟩) hS ?_
    · intro wy hy
      obtain ⟨⟨y0, y1, y2, y3⟩, _⟩ := id hy
      clear hy
      go_simp
    simp only [Act.put, List.setIfInBounds_toArray, List.set_cons_zero, List.set_cons_succ]
    refine wpAnyH_take (i := 1) (oi := { dst := some 13, op := _, type := _, pos := _, after := _, guard := none }) (v := .slice (some ⟨bg, og, none⟩) gone.length gc) rfl (by kernel_rfl) (by kernel_rfl) (by kernel_rfl) (fun _ _ _ h => h) (Or.inl ⟨by rfl, ?_⟩) hS ?_
    · intro wy hy
      clear hy
      go_simp
    simp only [Act.put, List.setIfInBounds_toArray, List.set_cons_zero, List.set_cons_succ]
    refine wpAnyH_take (i := 2) (oi := { dst := some 14, op := _, type := _, pos := _, after := _, guard := none }) (v := .int .i64 k) rfl (by kernel_rfl) (by kernel_rfl) (by kernel_rfl) (fun _ _ _ h => h) (Or.inl ⟨by rfl, ?_⟩) hS ?_
    · intro wy hy
      clear hy
      go_simp
    simp only [Act.put, List.setIfInBounds_toArray, List.set_cons_zero, List.set_cons_succ]
    refine wpAnyH_take (i := 3) (oi := { dst := some 15, op := _, type := _, pos := _, after := _, guard := none }) (v := .pointer (some ⟨bg, og + k, none⟩)) rfl (by kernel_rfl) (by kernel_rfl) (by kernel_rfl) (fun _ _ _ h => h) (Or.inl ⟨by rfl, ?_⟩) hS ?_
    · intro wy hy
      clear hy
      (go_simp; try omega)
    simp only [Act.put, List.setIfInBounds_toArray, List.set_cons_zero, List.set_cons_succ]
    refine wpAnyH_take (i := 4) (oi := { dst := some 16, op := _, type := _, pos := _, after := _, guard := none }) (v := .string s) rfl (by kernel_rfl) (by kernel_rfl) (by kernel_rfl) (fun _ _ _ h => h) (Or.inl ⟨by rfl, ?_⟩) hS ?_
    · intro wy hy
      have h0 := HST.out wy hy.2
      clear hy
      go_simp
    simp only [Act.put, List.setIfInBounds_toArray, List.set_cons_zero, List.set_cons_succ]
    refine wpAnyH_ready (rs := [5]) (by kernel_rfl) (by simp) (AllReadyH.cons (o := { dst := some 17, op := _, type := _, pos := _, after := _, guard := none }) rfl (fun K hK => ?_) AllReadyH.nil)
    go_simp
    refine (l2Copy_any x a1 c1 a2 c2 a3 c3 lo s _ (N3.out.below CpyC.holds hS.2 (Nat.le_refl _)) (by omega)).mono ?_
    rintro e wb ⟨rfl, hbb⟩
    have hB7 : Below w1.heap.size w1 wb := hB.trans (hbb.mono hB.size)
    clear hB
    refine hK.out _ _ ⟨hS.1.below hbb (by have h9 := hS.2.size; have h8 := block_lt_of_cell hS.1.1; omega), hS.2.trans (hbb.mono hS.2.size)⟩ (fun hS => ?_)
    clear hK K
    have hBw : Below w.heap.size w wb := hS.2
    have HZb : Hid (w.heap.size + 1 ≤ wb.heap.size) := by have h8 := HS1.out; have h9 := hB7.size; show _ ≤ _; omega
    by_cases h0 : idxC x.copies s < 0
    · have HA : Hid (HrmIs x gone []) := ⟨fun h => absurd (h.2 k s hlt HSK.out) (by omega), fun _ => rfl⟩
      refine wpAnyH_take (i := 6) (oi := { dst := some 18, op := _, type := _, pos := _, after := _, guard := none }) (v := .bool true) rfl (by kernel_rfl) (by kernel_rfl) (by kernel_rfl) (fun _ _ _ h => h) (Or.inl ⟨by rfl, ?_⟩) hS ?_
      · intro wy hy
        clear hy
        go_simp
      simp only [Act.put, List.setIfInBounds_toArray, List.set_cons_zero, List.set_cons_succ]
      refine wpAnyH_done (by kernel_rfl) ?_ _
      clear hS
      have HO : Hid ((wb.alloc (Obj.cells #[] 3)).ownsRow (w.heap.size + 1) 3 1 (.slice (some ⟨wb.heap.size, 0, none⟩) 0 0) 0 []) := World.ownsRow_made wb #[] 0 HZb.out (Nat.zero_le _) rfl
      have hB5 : Below w.heap.size w (wb.alloc (Obj.cells #[] 3)) := hBw.alloc hBw.size _
      clear h0
      go_wp2_with fail
      go_ret
      exact ⟨some ⟨wb.heap.size, 0, none⟩, 0, [], rfl, HA.out, HO.out, hB5⟩
    · have HK2 := Hid.intro (HK.out.next HSK.out h0)
      have h0' : 0 ≤ idxC x.copies s := by omega
      refine wpAnyH_take (i := 6) (oi := { dst := some 18, op := _, type := _, pos := _, after := _, guard := none }) (v := .bool false) rfl (by kernel_rfl) (by kernel_rfl) (by kernel_rfl) (fun _ _ _ h => h) (Or.inl ⟨by rfl, ?_⟩) hS ?_
      · intro wy hy
        clear hy
        go_simp
      simp only [Act.put, List.setIfInBounds_toArray, List.set_cons_zero, List.set_cons_succ]
      refine wpAnyH_done (by kernel_rfl) ?_ _
      clear hS
      clear h0 h0'
      go_wp2_with fail
      go_roundw
      case rel => exact ⟨k + 1, by omega, by go_num, HK2, hB7⟩
      case measure => simp [intOf]; omega

end Go.Proofs.YtggbhggnemlpnaaGreat
