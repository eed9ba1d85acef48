/-
  MateNewWorld by the specification. Made by mknws.py.
-/
import Derived.Test.YtebcocejgenadaaGreatNwp
import Derived.Test.YtebcocejgenadaaGreatWo3
namespace Go.Proofs.YtebcocejgenadaaGreat
open Go.RowKit

theorem cell_setCell_ne {w : World} {a b : Addr} {v : Value} (h : b.block = a.block → False) : (w.setCell a v).cell? b = w.cell? b := World.cell?_of_block (w := w) (Below.heap_setCell w a v b.block h)

theorem heap_setCells_ne {p g : Nat} (h : g ≠ p) : ∀ (vs : List Value) (o : Nat) (w : World), (w.setCells p o vs).heap[g]? = w.heap[g]?
  | [], _, _ => rfl
  | v :: vs, o, w => (heap_setCells_ne h vs (o + 1) (w.setCell ⟨p, o, none⟩ v)).trans (Below.heap_setCell w ⟨p, o, none⟩ v g h)

theorem ownsRow_other {base n p : Nat} {w : World} {e : TypeId} {s : Nat} {cs vs : List Value} {v : Value} (h : w.ownsRow base e s v n cs) (hp : p < base) (o : Nat) : (w.setCells p o vs).ownsRow base e s v n cs := by
  rcases h.2 with ⟨h1, h2⟩ | ⟨g', cap', cur, h1, h2, h3⟩
  · subst h1
    exact ⟨h.1, .inl ⟨rfl, h2⟩⟩
  · exact ⟨h.1, .inr ⟨g', cap', cur, h1, h2, (heap_setCells_ne (by omega) vs o w).trans h3.1, h3.2⟩⟩

theorem ownsRow_base {base base' n : Nat} {w : World} {e : TypeId} {s : Nat} {cs : List Value} {v : Value} (hb : base' ≤ base) (h : w.ownsRow base e s v n cs) : w.ownsRow base' e s v n cs := by
  rcases h.2 with ⟨h1, h2⟩ | ⟨g', cap', cur, h1, h2, h3⟩
  · exact ⟨h.1, .inl ⟨h1, h2⟩⟩
  · exact ⟨h.1, .inr ⟨g', cap', cur, h1, by omega, h3⟩⟩

set_option maxHeartbeats 16000000 in
set_option maxRecDepth 100000 in
theorem specNew_any (ns : List ByteArray) (a0 : Option Addr) (c0 lo : Nat) (w : World) (hin : SliceC StrC 1 lo w a0 ns) (hsm : wS ByteArray.size ns ≤ 1048576) :
    Calls Tryz.prog 5 #[.slice a0 ns.length c0] w fun e w' => ∃ bb q, e = .returned (.agg #[.int .i64 0, .slice none 0 0, .slice none 0 0, .slice bb (okN ns).length q, .slice none 0 0]) ∧ w'.ownsRow w.heap.size 41 9 (.slice bb (okN ns).length q) (okN ns).length (rvNm (nmL (okN ns))) ∧ Below w.heap.size w w' := by
  obtain ⟨i0, hi, hz0, hz1, hz2⟩ := info_parts info_Nm
  have HI := Hid.intro hin
  have HZN := Hid.intro (sz_names hsm hin)
  have hl : ns.length ≤ 1048576 := Nat.le_trans wS_len hsm
  clear hin hsm
  have HZa : Blk w.heap.size #[.int .i64 0, .slice none 0 0, .slice none 0 0, .slice none 0 0, .slice none 0 0] 30 (w.alloc (.cells #[.int .i64 0, .slice none 0 0, .slice none 0 0, .slice none 0 0, .slice none 0 0] 30)) := Blk.alloc _ _ _
  have HZ2 : Hid (Blk w.heap.size #[.int .i64 0, .slice none 0 0, .slice none 0 0, .slice none 0 0, .slice none 0 0] 30 ((w.alloc (.cells #[.int .i64 0, .slice none 0 0, .slice none 0 0, .slice none 0 0, .slice none 0 0] 30)).alloc (.cells #[.int .i64 0, .slice none 0 0, .slice none 0 0, .slice none 0 0, .slice none 0 0] 30))) := HZa.below ((Below.refl _ _).alloc (Nat.le_refl _) _) HZa.lt
  have HP2 : Hid (Blk (w.heap.size + 1) #[.int .i64 0, .slice none 0 0, .slice none 0 0, .slice none 0 0, .slice none 0 0] 30 ((w.alloc (.cells #[.int .i64 0, .slice none 0 0, .slice none 0 0, .slice none 0 0, .slice none 0 0] 30)).alloc (.cells #[.int .i64 0, .slice none 0 0, .slice none 0 0, .slice none 0 0, .slice none 0 0] 30))) := Hid.intro (by
    have := Blk.alloc (w.alloc (.cells #[.int .i64 0, .slice none 0 0, .slice none 0 0, .slice none 0 0, .slice none 0 0] 30)) #[.int .i64 0, .slice none 0 0, .slice none 0 0, .slice none 0 0, .slice none 0 0] 30
    simpa using this)
  have hB2 : Below w.heap.size w ((w.alloc (.cells #[.int .i64 0, .slice none 0 0, .slice none 0 0, .slice none 0 0, .slice none 0 0] 30)).alloc (.cells #[.int .i64 0, .slice none 0 0, .slice none 0 0, .slice none 0 0, .slice none 0 0] 30)) := by go_grown
  clear HZa
  go_enter Tryz.func5, Tryz.ntmps5
  go_upto_region 2 with fail
  generalize (w.alloc (Obj.cells #[.int .i64 0, .slice none 0 0, .slice none 0 0, .slice none 0 0, .slice none 0 0] 30)).alloc (Obj.cells #[.int .i64 0, .slice none 0 0, .slice none 0 0, .slice none 0 0, .slice none 0 0] 30) = w2 at *
  go_wp2_with fail
  go_loopw [4] (fun i wr => ∃ (k : Nat) (bb : Option Addr) (q : Nat), k ≤ ns.length ∧ i = .int .i64 k ∧ Hid (Blk (w.heap.size + 1) #[.int .i64 0, .slice none 0 0, .slice none 0 0, .slice bb k q, .slice none 0 0] 30 wr) ∧ Hid (Blk w.heap.size #[.int .i64 0, .slice none 0 0, .slice none 0 0, .slice none 0 0, .slice none 0 0] 30 wr) ∧ Hid (wr.ownsRow (w.heap.size + 2) 41 9 (.slice bb k q) k (rvNm ((nmL ns).take k))) ∧ Below w.heap.size w wr) (fun i _ => ns.length - (intOf i).toNat)
  case atStart => exact ⟨0, none, 0, Nat.zero_le _, rfl, HP2, HZ2, World.ownsRow_nil _ _ _ _, hB2⟩
  case round =>
    clear HP2 HZ2 hB2
    obtain ⟨k, bb, q, hk, rfl, HP, HZ, HO, hB⟩ := hrel
    by_cases hlt : k < ns.length
    case neg =>
      have hke : k = ns.length := by omega
      subst hke
      have HO5 : Hid (wr.ownsRow (w.heap.size + 2) 41 9 (.slice bb (nmL ns).length q) (nmL ns).length (rvNm (nmL ns))) := by
        show World.ownsRow _ _ _ _ _ _ _
        have h := HO.out
        rw [List.take_of_length_le (by rw [nmL_len]; omega)] at h
        rw [nmL_len]
        exact h
      have HSL := Hid.intro (nw_sl (rowslNm HO5.out (by rw [nmL_len]; exact hl) HZN.out) (by rw [nmL_len]; exact hl) HZN.out)
      have CT := Hid.intro (specWorldOk_any (nwW (nmL ns)) none 0 none 0 bb q none 0 _ wr HSL.out)
      have HLN : Hid ((nwW (nmL ns)).mates.length = ns.length) := by show ((nmL ns).map mk0).length = _; rw [List.length_map, nmL_len]
      rw [HLN.out] at CT
      go_wp2_with (refine wpList_load_mid rfl 30 _ rfl (w.heap.size + 1) 0 (by first | rfl | (simp [go_sem]; done)) [.int .i64 0, .slice none 0 0, .slice none 0 0, .slice bb ns.length q, .slice none 0 0] _ HP.out.rangeA Tryz.underlying30 rfl isz_Wrl ?_)
      refine CT.out.mono ?_
      rintro e w4 ⟨rfl, hb4⟩
      have HP4 := Hid.intro (HP.out.below hb4 HP.out.lt)
      have HZ4 := Hid.intro (HZ.out.below hb4 HZ.out.lt)
      have HO4 := Hid.intro (ownsRow_below HO5.out hb4)
      have hB4 := hB.trans (hb4.mono hB.size)
      clear hb4 HP HZ HO HO5 hB CT HSL
      cases g0 : woB (nwW (nmL ns)) with
      | false =>
        have HON := Hid.intro (okN_no g0)
        clear g0
        obtain ⟨w5, HW5⟩ : ∃ w', Hid (w' = w4.setCells w.heap.size 0 [.int .i64 0, .slice none 0 0, .slice none 0 0, .slice none 0 0, .slice none 0 0]) := ⟨_, rfl⟩
        have HTR := Hid.intro HZ4.out.there
        have HR5 : Hid (w5.rangeAt w.heap.size 0 [.int .i64 0, .slice none 0 0, .slice none 0 0, .slice none 0 0, .slice none 0 0]) := by
          show World.rangeAt _ _ _ _
          rw [HW5.out]
          exact World.rangeAt_setCells_same _ _ _ _ HTR.out
        have hB5 : Below w.heap.size w w5 := by
          rw [HW5.out]
          exact below_setCells (Nat.le_refl _) _ _ _ hB4
        go_wp2_with (first | (refine wpList_store_to rfl 30 _ _ rfl w.heap.size 0 #[.int .i64 0, .slice none 0 0, .slice none 0 0, .slice none 0 0, .slice none 0 0] rfl rfl HTR.out isz_Wrl (by simp [Value.oneCell']) w5 HW5.out ?_))
        exact bodyPost_ret (results_cell_mid rfl _ _ w.heap.size [.int .i64 0, .slice none 0 0, .slice none 0 0, .slice none 0 0, .slice none 0 0] _ rfl HR5.out Tryz.underlying30 rfl isz_Wrl) rfl ⟨none, 0, by rw [HON.out]; rfl, by rw [HON.out]; exact World.ownsRow_nil _ _ _ _, hB5⟩
      | true =>
        have HON := Hid.intro (okN_yes g0)
        clear g0
        obtain ⟨w5, HW5⟩ : ∃ w', Hid (w' = w4.setCells w.heap.size 0 [.int .i64 0, .slice none 0 0, .slice none 0 0, .slice bb ns.length q, .slice none 0 0]) := ⟨_, rfl⟩
        have HTR := Hid.intro HZ4.out.there
        have HR5 : Hid (w5.rangeAt w.heap.size 0 [.int .i64 0, .slice none 0 0, .slice none 0 0, .slice bb ns.length q, .slice none 0 0]) := by
          show World.rangeAt _ _ _ _
          rw [HW5.out]
          exact World.rangeAt_setCells_same _ _ _ _ HTR.out
        have hB5 : Below w.heap.size w w5 := by
          rw [HW5.out]
          exact below_setCells (Nat.le_refl _) _ _ _ hB4
        have HO6 : Hid (w5.ownsRow (w.heap.size + 2) 41 9 (.slice bb (nmL ns).length q) (nmL ns).length (rvNm (nmL ns))) := by
          show World.ownsRow _ _ _ _ _ _ _
          rw [HW5.out]
          exact ownsRow_other HO4.out (by omega) _
        go_wp2_with (first | (refine wpList_load_mid rfl 30 _ rfl (w.heap.size + 1) 0 (by first | rfl | (simp [go_sem]; done)) [.int .i64 0, .slice none 0 0, .slice none 0 0, .slice bb ns.length q, .slice none 0 0] _ HP4.out.rangeA Tryz.underlying30 rfl isz_Wrl ?_) | (refine wpList_store_to rfl 30 _ _ rfl w.heap.size 0 #[.int .i64 0, .slice none 0 0, .slice none 0 0, .slice bb ns.length q, .slice none 0 0] rfl rfl HTR.out isz_Wrl (by simp [Value.oneCell']) w5 HW5.out ?_))
        exact bodyPost_ret (results_cell_mid rfl _ _ w.heap.size [.int .i64 0, .slice none 0 0, .slice none 0 0, .slice bb ns.length q, .slice none 0 0] _ rfl HR5.out Tryz.underlying30 rfl isz_Wrl) rfl ⟨bb, q, by rw [HON.out], by rw [HON.out]; have h := ownsRow_base (Nat.le_add_right w.heap.size 2) HO6.out; rw [nmL_len] at h; exact h, hB5⟩
    obtain ⟨n, hn⟩ : ∃ n, ns[k]? = some n := ⟨ns[k], List.getElem?_eq_getElem hlt⟩
    obtain ⟨b0, o0, e0, _, hb0, hc0⟩ := HI.out.at hn
    subst e0
    have hcn : w.cell? ⟨b0, o0 + k, none⟩ = some (.string n) := by have := hc0.1; simpa using this
    have HCN : Hid (wr.drew.cell? ⟨b0, o0 + k, none⟩ = some (.string n)) := (hB.cell (p := ⟨b0, o0 + k, none⟩) hb0).trans hcn
    have HST := Hid.intro (nm_step hn)
    clear hn hc0 hcn
    have i1 : (k : Int) < (ns.length : Int) := by omega
    have i2 : (0 : Int) ≤ (k : Int) := by omega
    go_upto_region 5 with fail
    refine wp_region_held_drew (S := fun wy => wy.cell? ⟨b0, o0 + k, none⟩ = some (.string n)) (by kernel_rfl) HCN.out (fun hS => ?_)
    have hBd : Below w.heap.size w wr.drew := hB.drew
    have HPd : Hid (Blk (w.heap.size + 1) #[.int .i64 0, .slice none 0 0, .slice none 0 0, .slice bb k q, .slice none 0 0] 30 wr.drew) := HP.out.drew
    have HZd : Hid (Blk w.heap.size #[.int .i64 0, .slice none 0 0, .slice none 0 0, .slice none 0 0, .slice none 0 0] 30 wr.drew) := HZ.out.drew
    have HOd := Hid.intro HO.out.drew
    clear HP HZ HO hB HCN
    generalize wr.drew = wd at *
    refine wpAnyH_take (i := 0) (oi := { dst := some 12, op := _, type := _, pos := _, after := _, guard := none }) (v := .pointer (some ⟨w.heap.size + 1, 3, none⟩)) rfl (by kernel_rfl) (by kernel_rfl) (by kernel_rfl) (fun _ _ _ h => h) (Or.inl ⟨by rfl, ?_⟩) hS ?_
    · intro wy hy
      clear hy
      go_simp
    simp only [Act.put, List.setIfInBounds_toArray, List.set_cons_zero, List.set_cons_succ]
    refine wpAnyH_take (i := 2) (oi := { dst := some 14, op := _, type := _, pos := _, after := _, guard := none }) (v := .slice (some ⟨b0, o0, none⟩) ns.length c0) rfl (by kernel_rfl) (by kernel_rfl) (by kernel_rfl) (fun _ _ _ h => h) (Or.inl ⟨by rfl, ?_⟩) hS ?_
    · intro wy hy
      clear hy
      go_simp
    simp only [Act.put, List.setIfInBounds_toArray, List.set_cons_zero, List.set_cons_succ]
    refine wpAnyH_take (i := 3) (oi := { dst := some 15, op := _, type := _, pos := _, after := _, guard := none }) (v := .int .i64 (k : Int)) rfl (by kernel_rfl) (by kernel_rfl) (by kernel_rfl) (fun _ _ _ h => h) (Or.inl ⟨by rfl, ?_⟩) hS ?_
    · intro wy hy
      clear hy
      go_simp
    simp only [Act.put, List.setIfInBounds_toArray, List.set_cons_zero, List.set_cons_succ]
    refine wpAnyH_take (i := 4) (oi := { dst := some 16, op := _, type := _, pos := _, after := _, guard := none }) (v := .pointer (some ⟨b0, o0 + k, none⟩)) rfl (by kernel_rfl) (by kernel_rfl) (by kernel_rfl) (fun _ _ _ h => h) (Or.inl ⟨by rfl, ?_⟩) hS ?_
    · intro wy hy
      clear hy
      first | (go_simp; done) | (go_simp; intro hh; omega) | (go_simp; omega)
    simp only [Act.put, List.setIfInBounds_toArray, List.set_cons_zero, List.set_cons_succ]
    refine wpAnyH_take (i := 5) (oi := { dst := some 17, op := _, type := _, pos := _, after := _, guard := none }) (v := .string n) rfl (by kernel_rfl) (by kernel_rfl) (by kernel_rfl) (fun _ _ _ h => h) (Or.inl ⟨by rfl, ?_⟩) hS ?_
    · intro wy hy
      have h0 := hy
      clear hy
      go_simp
    simp only [Act.put, List.setIfInBounds_toArray, List.set_cons_zero, List.set_cons_succ]
    refine wpAnyH_take (i := 6) (oi := { dst := some 18, op := _, type := _, pos := _, after := _, guard := none }) (v := .agg #[.string n, .bool true, .int .i64 0, .bool false, .int .i64 0, .slice none 0 0, .slice none 0 0, .slice none 0 0, .slice none 0 0]) rfl (by kernel_rfl) (by kernel_rfl) (by kernel_rfl) (fun _ _ _ h => h) (Or.inl ⟨by rfl, ?_⟩) hS ?_
    · intro wy hy
      clear hy
      go_simp
    simp only [Act.put, List.setIfInBounds_toArray, List.set_cons_zero, List.set_cons_succ]
    have kp : wd.cell? ⟨w.heap.size + 1, 3, none⟩ = some (.slice bb k q) := HPd.out.cell rfl
    refine wpAnyH_ready (rs := [1, 7]) (by kernel_rfl) (by simp) (AllReadyH.cons (o := { dst := some 13, op := _, type := _, pos := _, after := _, guard := none }) rfl (fun K hK => ?_) (AllReadyH.cons (o := { dst := some 19, op := _, type := _, pos := _, after := _, guard := none }) rfl (fun K hK => ?_) AllReadyH.nil))
    · go_simp
      refine hK.out _ _ hS (fun hS => ?_)
      clear hK K
      refine wpAnyH_ready (rs := [7]) (by kernel_rfl) (by simp) (AllReadyH.cons (o := { dst := some 19, op := _, type := _, pos := _, after := _, guard := none }) rfl (fun K hK => ?_) AllReadyH.nil)
      go_simp
      have hbA : Below wd.heap.size wd (wd.alloc (Obj.cells #[.string n, .bool true, .int .i64 0, .bool false, .int .i64 0, .slice none 0 0, .slice none 0 0, .slice none 0 0, .slice none 0 0] 41)) := (Below.refl _ _).alloc (Nat.le_refl _) _
      have HPA := Hid.intro (HPd.out.below hbA HPd.out.lt)
      have HZA := Hid.intro (HZd.out.below hbA HZd.out.lt)
      have HOA := Hid.intro (HOd.out.alloc (Obj.cells #[.string n, .bool true, .int .i64 0, .bool false, .int .i64 0, .slice none 0 0, .slice none 0 0, .slice none 0 0, .slice none 0 0] 41))
      have HNA : Hid (Blk wd.heap.size #[.string n, .bool true, .int .i64 0, .bool false, .int .i64 0, .slice none 0 0, .slice none 0 0, .slice none 0 0, .slice none 0 0] 41 (wd.alloc (Obj.cells #[.string n, .bool true, .int .i64 0, .bool false, .int .i64 0, .slice none 0 0, .slice none 0 0, .slice none 0 0, .slice none 0 0] 41))) := Blk.alloc _ _ _
      have hBA := hBd.trans (hbA.mono hBd.size)
      have hb0w : b0 < wd.heap.size := Nat.lt_of_lt_of_le hb0 hBd.size
      have HSA : Hid ((wd.alloc (Obj.cells #[.string n, .bool true, .int .i64 0, .bool false, .int .i64 0, .slice none 0 0, .slice none 0 0, .slice none 0 0, .slice none 0 0] 41)).cell? ⟨b0, o0 + k, none⟩ = some (.string n)) := (hbA.cell (p := ⟨b0, o0 + k, none⟩) hb0w).trans hS
      refine hK.out _ _ HSA.out (fun hS => ?_)
      clear hK K kp
      clear hbA HPd HZd HOd hBd
      have hwA : w.heap.size + 1 < (wd.alloc (Obj.cells #[.string n, .bool true, .int .i64 0, .bool false, .int .i64 0, .slice none 0 0, .slice none 0 0, .slice none 0 0, .slice none 0 0] 41)).heap.size := HPA.out.lt
      generalize (wd.alloc (Obj.cells #[.string n, .bool true, .int .i64 0, .bool false, .int .i64 0, .slice none 0 0, .slice none 0 0, .slice none 0 0, .slice none 0 0] 41)) = wa at *
      generalize wd.heap.size = gn at *
      refine wpAnyH_ready (rs := [8]) (by kernel_rfl) (by simp) (AllReadyH.cons (o := { dst := some 20, op := _, type := _, pos := _, after := _, guard := none }) rfl (fun K hK => ?_) AllReadyH.nil)
      rw [if_pos (by rfl)]
      refine wp_append_ownN (.tmp 13) (.tmp 19) 28 (by rfl) (w.heap.size + 2) 41 i0 _ 9 144 Tryz.underlying28 hi hz0 hz1 hz2 rfl (by decide) _ k _ (by rfl) HOA.out ⟨gn, 0, none⟩ 1 1 (rcNm ⟨n⟩) (by rfl) rfl (fun j u hj => by rw [Addr.add_mid]; exact HNA.out.rangeA j u hj) (fun u hu => rvNm_one [⟨n⟩] u (by simp only [rvNm, List.append_nil]; exact hu)) (by unfold maxLen; omega) (by omega) (by omega) ?_
      intro v' w8 hown hgrow hnil
      have hv : v' ≠ .slice none 0 0 := (fun e => by have h9 := (hnil.1 e).2; cases h9)
      obtain ⟨g8, q8, rfl⟩ := rowf hown hv
      have HO8 : Hid (w8.ownsRow (w.heap.size + 2) 41 9 (.slice (some ⟨g8, 0, none⟩) (k + 1) q8) (k + 1) (rvNm ((nmL ns).take (k + 1)))) := by
        show World.ownsRow _ _ _ _ _ _ _
        rw [HST.out, rvNm_app]
        simp only [rvNm, List.append_nil]
        exact hown
      have hbg := (Below.refl (w.heap.size + 2) wa).grown hgrow (by omega) (own_blkN HOA.out)
      have HP8 := Hid.intro (HPA.out.below hbg (by omega))
      have HZ8 := Hid.intro (HZA.out.below hbg (by omega))
      have hB8 := hBA.trans (hbg.mono (by omega))
      have HS8 : Hid (w8.cell? ⟨b0, o0 + k, none⟩ = some (.string n)) := (hbg.cell (p := ⟨b0, o0 + k, none⟩) (show b0 < w.heap.size + 2 by omega)).trans HSA.out
      refine hK.out _ _ HS8.out (fun hS => ?_)
      clear hK K hown hgrow hnil hv hbg HPA HZA HOA hBA HNA HSA
      have k3 : w8.cell? ⟨w.heap.size + 1, 3, none⟩ = some (.slice bb k q) := HP8.out.cell rfl
      have f3 : w8.frozen? ⟨w.heap.size + 1, 3, none⟩ = false := HP8.out.frozen _
      refine wpAnyH_take (i := 9) (oi := { dst := some 21, op := _, type := _, pos := _, after := _, guard := none }) (v := .pointer (some ⟨w.heap.size + 1, 3, none⟩)) rfl (by kernel_rfl) (by kernel_rfl) (by kernel_rfl) (fun _ _ _ h => h) (Or.inl ⟨by rfl, ?_⟩) hS ?_
      · intro wy hy
        clear hy
        go_simp
      simp only [Act.put, List.setIfInBounds_toArray, List.set_cons_zero, List.set_cons_succ]
      refine wpAnyH_ready (rs := [10]) (by kernel_rfl) (by simp) (AllReadyH.cons (o := { dst := none, op := _, type := _, pos := _, after := _, guard := none }) rfl (fun K hK => ?_) AllReadyH.nil)
      go_simp
      have HP9 : Hid (Blk (w.heap.size + 1) #[.int .i64 0, .slice none 0 0, .slice none 0 0, .slice (some ⟨g8, 0, none⟩) (k + 1) q8, .slice none 0 0] 30 (w8.setCell ⟨w.heap.size + 1, 3, none⟩ (.slice (some ⟨g8, 0, none⟩) (k + 1) q8))) := HP8.out.set 3 _
      have HZ9 : Hid (Blk w.heap.size #[.int .i64 0, .slice none 0 0, .slice none 0 0, .slice none 0 0, .slice none 0 0] 30 (w8.setCell ⟨w.heap.size + 1, 3, none⟩ (.slice (some ⟨g8, 0, none⟩) (k + 1) q8))) := HZ8.out.other (a := ⟨w.heap.size + 1, 3, none⟩) (show w.heap.size ≠ w.heap.size + 1 by omega) _
      have HO9 : Hid ((w8.setCell ⟨w.heap.size + 1, 3, none⟩ (.slice (some ⟨g8, 0, none⟩) (k + 1) q8)).ownsRow (w.heap.size + 2) 41 9 (.slice (some ⟨g8, 0, none⟩) (k + 1) q8) (k + 1) (rvNm ((nmL ns).take (k + 1)))) := ownsRow_other (vs := [.slice (some ⟨g8, 0, none⟩) (k + 1) q8]) (p := w.heap.size + 1) HO8.out (by omega) 3
      have hB9 : Below w.heap.size w (w8.setCell ⟨w.heap.size + 1, 3, none⟩ (.slice (some ⟨g8, 0, none⟩) (k + 1) q8)) := hB8.setCell (p := ⟨w.heap.size + 1, 3, none⟩) (Nat.le_succ _) _
      refine hK.out _ _ ((cell_setCell_ne (a := ⟨w.heap.size + 1, 3, none⟩) (b := ⟨b0, o0 + k, none⟩) (fun h => by have h2 : b0 = w.heap.size + 1 := h; omega)).trans hS) (fun hS => ?_)
      clear hK K hS k3 f3 HP8 HZ8 HO8 hB8
      generalize (w8.setCell ⟨w.heap.size + 1, 3, none⟩ (.slice (some ⟨g8, 0, none⟩) (k + 1) q8)) = w9 at *
      refine wpAnyH_done (by kernel_rfl) ?_ _
      go_wp2_with fail
      go_roundw
      case rel => exact ⟨k + 1, _, q8, by omega, by go_num, HP9, HZ9, HO9, hB9⟩
      case measure => simp [intOf]; omega
    · go_simp
      have hbA : Below wd.heap.size wd (wd.alloc (Obj.cells #[.string n, .bool true, .int .i64 0, .bool false, .int .i64 0, .slice none 0 0, .slice none 0 0, .slice none 0 0, .slice none 0 0] 41)) := (Below.refl _ _).alloc (Nat.le_refl _) _
      have HPA := Hid.intro (HPd.out.below hbA HPd.out.lt)
      have HZA := Hid.intro (HZd.out.below hbA HZd.out.lt)
      have HOA := Hid.intro (HOd.out.alloc (Obj.cells #[.string n, .bool true, .int .i64 0, .bool false, .int .i64 0, .slice none 0 0, .slice none 0 0, .slice none 0 0, .slice none 0 0] 41))
      have HNA : Hid (Blk wd.heap.size #[.string n, .bool true, .int .i64 0, .bool false, .int .i64 0, .slice none 0 0, .slice none 0 0, .slice none 0 0, .slice none 0 0] 41 (wd.alloc (Obj.cells #[.string n, .bool true, .int .i64 0, .bool false, .int .i64 0, .slice none 0 0, .slice none 0 0, .slice none 0 0, .slice none 0 0] 41))) := Blk.alloc _ _ _
      have hBA := hBd.trans (hbA.mono hBd.size)
      have hb0w : b0 < wd.heap.size := Nat.lt_of_lt_of_le hb0 hBd.size
      have HSA : Hid ((wd.alloc (Obj.cells #[.string n, .bool true, .int .i64 0, .bool false, .int .i64 0, .slice none 0 0, .slice none 0 0, .slice none 0 0, .slice none 0 0] 41)).cell? ⟨b0, o0 + k, none⟩ = some (.string n)) := (hbA.cell (p := ⟨b0, o0 + k, none⟩) hb0w).trans hS
      refine hK.out _ _ HSA.out (fun hS => ?_)
      clear hK K
      have kp2 : (wd.alloc (Obj.cells #[.string n, .bool true, .int .i64 0, .bool false, .int .i64 0, .slice none 0 0, .slice none 0 0, .slice none 0 0, .slice none 0 0] 41)).cell? ⟨w.heap.size + 1, 3, none⟩ = some (.slice bb k q) := HPA.out.cell rfl
      refine wpAnyH_ready (rs := [1]) (by kernel_rfl) (by simp) (AllReadyH.cons (o := { dst := some 13, op := _, type := _, pos := _, after := _, guard := none }) rfl (fun K hK => ?_) AllReadyH.nil)
      go_simp
      refine hK.out _ _ hS (fun hS => ?_)
      clear hK K kp kp2
      clear hbA HPd HZd HOd hBd
      have hwA : w.heap.size + 1 < (wd.alloc (Obj.cells #[.string n, .bool true, .int .i64 0, .bool false, .int .i64 0, .slice none 0 0, .slice none 0 0, .slice none 0 0, .slice none 0 0] 41)).heap.size := HPA.out.lt
      generalize (wd.alloc (Obj.cells #[.string n, .bool true, .int .i64 0, .bool false, .int .i64 0, .slice none 0 0, .slice none 0 0, .slice none 0 0, .slice none 0 0] 41)) = wa at *
      generalize wd.heap.size = gn at *
      refine wpAnyH_ready (rs := [8]) (by kernel_rfl) (by simp) (AllReadyH.cons (o := { dst := some 20, op := _, type := _, pos := _, after := _, guard := none }) rfl (fun K hK => ?_) AllReadyH.nil)
      rw [if_pos (by rfl)]
      refine wp_append_ownN (.tmp 13) (.tmp 19) 28 (by rfl) (w.heap.size + 2) 41 i0 _ 9 144 Tryz.underlying28 hi hz0 hz1 hz2 rfl (by decide) _ k _ (by rfl) HOA.out ⟨gn, 0, none⟩ 1 1 (rcNm ⟨n⟩) (by rfl) rfl (fun j u hj => by rw [Addr.add_mid]; exact HNA.out.rangeA j u hj) (fun u hu => rvNm_one [⟨n⟩] u (by simp only [rvNm, List.append_nil]; exact hu)) (by unfold maxLen; omega) (by omega) (by omega) ?_
      intro v' w8 hown hgrow hnil
      have hv : v' ≠ .slice none 0 0 := (fun e => by have h9 := (hnil.1 e).2; cases h9)
      obtain ⟨g8, q8, rfl⟩ := rowf hown hv
      have HO8 : Hid (w8.ownsRow (w.heap.size + 2) 41 9 (.slice (some ⟨g8, 0, none⟩) (k + 1) q8) (k + 1) (rvNm ((nmL ns).take (k + 1)))) := by
        show World.ownsRow _ _ _ _ _ _ _
        rw [HST.out, rvNm_app]
        simp only [rvNm, List.append_nil]
        exact hown
      have hbg := (Below.refl (w.heap.size + 2) wa).grown hgrow (by omega) (own_blkN HOA.out)
      have HP8 := Hid.intro (HPA.out.below hbg (by omega))
      have HZ8 := Hid.intro (HZA.out.below hbg (by omega))
      have hB8 := hBA.trans (hbg.mono (by omega))
      have HS8 : Hid (w8.cell? ⟨b0, o0 + k, none⟩ = some (.string n)) := (hbg.cell (p := ⟨b0, o0 + k, none⟩) (show b0 < w.heap.size + 2 by omega)).trans HSA.out
      refine hK.out _ _ HS8.out (fun hS => ?_)
      clear hK K hown hgrow hnil hv hbg HPA HZA HOA hBA HNA HSA
      have k3 : w8.cell? ⟨w.heap.size + 1, 3, none⟩ = some (.slice bb k q) := HP8.out.cell rfl
      have f3 : w8.frozen? ⟨w.heap.size + 1, 3, none⟩ = false := HP8.out.frozen _
      refine wpAnyH_take (i := 9) (oi := { dst := some 21, op := _, type := _, pos := _, after := _, guard := none }) (v := .pointer (some ⟨w.heap.size + 1, 3, none⟩)) rfl (by kernel_rfl) (by kernel_rfl) (by kernel_rfl) (fun _ _ _ h => h) (Or.inl ⟨by rfl, ?_⟩) hS ?_
      · intro wy hy
        clear hy
        go_simp
      simp only [Act.put, List.setIfInBounds_toArray, List.set_cons_zero, List.set_cons_succ]
      refine wpAnyH_ready (rs := [10]) (by kernel_rfl) (by simp) (AllReadyH.cons (o := { dst := none, op := _, type := _, pos := _, after := _, guard := none }) rfl (fun K hK => ?_) AllReadyH.nil)
      go_simp
      have HP9 : Hid (Blk (w.heap.size + 1) #[.int .i64 0, .slice none 0 0, .slice none 0 0, .slice (some ⟨g8, 0, none⟩) (k + 1) q8, .slice none 0 0] 30 (w8.setCell ⟨w.heap.size + 1, 3, none⟩ (.slice (some ⟨g8, 0, none⟩) (k + 1) q8))) := HP8.out.set 3 _
      have HZ9 : Hid (Blk w.heap.size #[.int .i64 0, .slice none 0 0, .slice none 0 0, .slice none 0 0, .slice none 0 0] 30 (w8.setCell ⟨w.heap.size + 1, 3, none⟩ (.slice (some ⟨g8, 0, none⟩) (k + 1) q8))) := HZ8.out.other (a := ⟨w.heap.size + 1, 3, none⟩) (show w.heap.size ≠ w.heap.size + 1 by omega) _
      have HO9 : Hid ((w8.setCell ⟨w.heap.size + 1, 3, none⟩ (.slice (some ⟨g8, 0, none⟩) (k + 1) q8)).ownsRow (w.heap.size + 2) 41 9 (.slice (some ⟨g8, 0, none⟩) (k + 1) q8) (k + 1) (rvNm ((nmL ns).take (k + 1)))) := ownsRow_other (vs := [.slice (some ⟨g8, 0, none⟩) (k + 1) q8]) (p := w.heap.size + 1) HO8.out (by omega) 3
      have hB9 : Below w.heap.size w (w8.setCell ⟨w.heap.size + 1, 3, none⟩ (.slice (some ⟨g8, 0, none⟩) (k + 1) q8)) := hB8.setCell (p := ⟨w.heap.size + 1, 3, none⟩) (Nat.le_succ _) _
      refine hK.out _ _ ((cell_setCell_ne (a := ⟨w.heap.size + 1, 3, none⟩) (b := ⟨b0, o0 + k, none⟩) (fun h => by have h2 : b0 = w.heap.size + 1 := h; omega)).trans hS) (fun hS => ?_)
      clear hK K hS k3 f3 HP8 HZ8 HO8 hB8
      generalize (w8.setCell ⟨w.heap.size + 1, 3, none⟩ (.slice (some ⟨g8, 0, none⟩) (k + 1) q8)) = w9 at *
      refine wpAnyH_done (by kernel_rfl) ?_ _
      go_wp2_with fail
      go_roundw
      case rel => exact ⟨k + 1, _, q8, by omega, by go_num, HP9, HZ9, HO9, hB9⟩
      case measure => simp [intOf]; omega

end Go.Proofs.YtebcocejgenadaaGreat
