/-
  MateNewWorld by the program. Made by mknwj.py.
-/
import Derived.Test.YtebcocejgenadaaGreatNwi
namespace Go.Proofs.YtebcocejgenadaaGreat
open Go.RowKit

set_option maxHeartbeats 16000000 in
set_option maxRecDepth 100000 in
theorem implNew_any (ns : List ByteArray) (a0 : Option Addr) (c0 lo : Nat) (w : World) (hin : SliceC StrC 1 lo w a0 ns) (hsm : wS ByteArray.size ns ≤ 1048576) :
    Calls Tryz.prog 7 #[.slice a0 ns.length c0] w fun e w' => ∃ bb q, e = .returned (.agg #[.int .i64 0, .slice none 0 0, .slice none 0 0, .slice bb (okN ns).length q, .slice none 0 0]) ∧ w'.ownsRow w.heap.size 41 9 (.slice bb (okN ns).length q) (okN ns).length (rvNm (nmL (okN ns))) ∧ Below w.heap.size w w' := by
  obtain ⟨i0, hi, hz0, hz1, hz2⟩ := info_parts info_Nm
  have HI := Hid.intro hin
  have HZN := Hid.intro (sz_names hsm hin)
  have hl : ns.length ≤ 1048576 := Nat.le_trans wS_len hsm
  clear hin hsm
  have HR1 : Hid (Blk w.heap.size #[.int .i64 0, .slice none 0 0, .slice none 0 0, .slice none 0 0, .slice none 0 0] 30 (w.alloc (.cells #[.int .i64 0, .slice none 0 0, .slice none 0 0, .slice none 0 0, .slice none 0 0] 30))) := Blk.alloc _ _ _
  have hB1 : Below w.heap.size w (w.alloc (.cells #[.int .i64 0, .slice none 0 0, .slice none 0 0, .slice none 0 0, .slice none 0 0] 30)) := (Below.refl _ w).alloc (Nat.le_refl _) _
  go_enter Tryz.func7, Tryz.ntmps7
  go_upto_region 1 with fail
  have hs1 : (World.heap (w.alloc (.cells #[.int .i64 0, .slice none 0 0, .slice none 0 0, .slice none 0 0, .slice none 0 0] 30))).size = w.heap.size + 1 := by simp
  generalize w.alloc (Obj.cells #[.int .i64 0, .slice none 0 0, .slice none 0 0, .slice none 0 0, .slice none 0 0] 30) = w1 at *
  by_cases h4 : ns.length ≤ 4
  case neg =>
    have h4' : (4 : Int) < ns.length := by omega
    have HON := Hid.intro (okN_no (no_many (xs := nmL ns) (by rw [nmL_len]; exact h4)))
    clear h4
    obtain ⟨wz, HWZ⟩ : ∃ w', Hid (w' = w1.setCells w.heap.size 0 [.int .i64 0, .slice none 0 0, .slice none 0 0, .slice none 0 0, .slice none 0 0]) := ⟨_, rfl⟩
    have HTR := Hid.intro HR1.out.there
    have HRZ : Hid (wz.rangeAt w.heap.size 0 [.int .i64 0, .slice none 0 0, .slice none 0 0, .slice none 0 0, .slice none 0 0]) := by
      show World.rangeAt _ _ _ _
      rw [HWZ.out]
      exact World.rangeAt_setCells_same _ _ _ _ HTR.out
    have hBZ : Below w.heap.size w wz := by
      rw [HWZ.out]
      exact below_setCells (Nat.le_refl _) _ _ _ hB1
    go_wp2_with (refine wpList_store_to rfl 30 _ _ rfl w.heap.size 0 #[.int .i64 0, .slice none 0 0, .slice none 0 0, .slice none 0 0, .slice none 0 0] rfl rfl HTR.out isz_Wrl (by simp [Value.oneCell']) wz HWZ.out ?_)
    exact bodyPost_ret (results_cell_mid rfl _ _ w.heap.size [.int .i64 0, .slice none 0 0, .slice none 0 0, .slice none 0 0, .slice none 0 0] _ rfl HRZ.out Tryz.underlying30 rfl isz_Wrl) rfl ⟨none, 0, by rw [HON.out]; rfl, by rw [HON.out]; exact World.ownsRow_nil _ _ _ _, hBZ⟩
  have h4' : (ns.length : Int) ≤ 4 := by omega
  have hb2 : Below w1.heap.size w1 (w1.alloc (.cells #[.int .i64 0, .slice none 0 0, .slice none 0 0, .slice none 0 0, .slice none 0 0] 30)) := (Below.refl _ _).alloc (Nat.le_refl _) _
  have HP2 : Hid (Blk (w.heap.size + 1) #[.int .i64 0, .slice none 0 0, .slice none 0 0, .slice none 0 0, .slice none 0 0] 30 (w1.alloc (.cells #[.int .i64 0, .slice none 0 0, .slice none 0 0, .slice none 0 0, .slice none 0 0] 30))) := Hid.intro (by rw [← hs1]; exact Blk.alloc _ _ _)
  have HR2 := Hid.intro (HR1.out.below hb2 HR1.out.lt)
  have hB2 := hB1.trans (hb2.mono hB1.size)
  clear hb2 HR1 hB1
  go_upto_region 4 with fail
  generalize w1.alloc (Obj.cells #[.int .i64 0, .slice none 0 0, .slice none 0 0, .slice none 0 0, .slice none 0 0] 30) = w2 at *
  clear hs1
  go_wp2_with fail
  clear h4'
  go_loopw [12] (fun i wr => ∃ (k : Nat) (bb : Option Addr) (q : Nat), k ≤ ns.length ∧ i = .int .i64 k ∧ Hid (Blk (w.heap.size + 1) #[.int .i64 0, .slice none 0 0, .slice none 0 0, .slice bb k q, .slice none 0 0] 30 wr) ∧ Hid (Blk w.heap.size #[.int .i64 0, .slice none 0 0, .slice none 0 0, .slice none 0 0, .slice none 0 0] 30 wr) ∧ Hid (wr.ownsRow (w.heap.size + 2) 41 9 (.slice bb k q) k (rvNm ((nmL ns).take k))) ∧ Below w.heap.size w wr) (fun i _ => ns.length - (intOf i).toNat)
  case atStart => exact ⟨0, none, 0, Nat.zero_le _, rfl, HP2, HR2, World.ownsRow_nil _ _ _ _, hB2⟩
  case round =>
    clear HP2 HR2 hB2
    obtain ⟨k, bb, q, hk, rfl, HP, HR, HO, hB⟩ := hrel
    by_cases hlt : k < ns.length
    case neg =>
      have hke : k = ns.length := by omega
      subst hke
      have HO5 : Hid (wr.ownsRow (w.heap.size + 2) 41 9 (.slice bb (nmL ns).length q) (nmL ns).length (rvNm (nmL ns))) := by
        show World.ownsRow _ _ _ _ _ _ _
        have h := HO.out
        rw [List.take_of_length_le (by rw [nmL_len]; omega)] at h
        rw [nmL_len]
        exact h
      have CT := Hid.intro (behind0_any (nmL ns) bb q _ wr HO5.out (by rw [nmL_len]; exact h4) HZN.out)
      rw [nmL_len, okX_nm, nmL_len] at CT
      go_wp2_with (refine wpList_load_mid rfl 30 _ rfl (w.heap.size + 1) 0 (by first | rfl | (simp [go_sem]; done)) [.int .i64 0, .slice none 0 0, .slice none 0 0, .slice bb ns.length q, .slice none 0 0] _ HP.out.rangeA Tryz.underlying30 rfl isz_Wrl ?_)
      refine CT.out.mono ?_
      rintro e w4 ⟨b2, q2, rfl, ho4, hb4⟩
      have hRl := HR.out.lt
      have HR4 := Hid.intro (HR.out.below hb4 HR.out.lt)
      have HO4 : Hid (w4.ownsRow (w.heap.size + 1) 41 9 (.slice b2 (okN ns).length q2) (okN ns).length (rvNm (nmL (okN ns)))) := ownsRow_base hRl ho4
      have hB4 := hB.trans (hb4.mono hB.size)
      clear hb4 ho4 HP HR HO HO5 hB CT hRl
      obtain ⟨wz, HWZ⟩ : ∃ w', Hid (w' = w4.setCells w.heap.size 0 [.int .i64 0, .slice none 0 0, .slice none 0 0, .slice b2 (okN ns).length q2, .slice none 0 0]) := ⟨_, rfl⟩
      have HTR := Hid.intro HR4.out.there
      have HRZ : Hid (wz.rangeAt w.heap.size 0 [.int .i64 0, .slice none 0 0, .slice none 0 0, .slice b2 (okN ns).length q2, .slice none 0 0]) := by
        show World.rangeAt _ _ _ _
        rw [HWZ.out]
        exact World.rangeAt_setCells_same _ _ _ _ HTR.out
      have hBZ : Below w.heap.size w wz := by
        rw [HWZ.out]
        exact below_setCells (Nat.le_refl _) _ _ _ hB4
      have HOZ : Hid (wz.ownsRow (w.heap.size + 1) 41 9 (.slice b2 (okN ns).length q2) (okN ns).length (rvNm (nmL (okN ns)))) := by
        show World.ownsRow _ _ _ _ _ _ _
        rw [HWZ.out]
        exact ownsRow_other HO4.out (Nat.lt_succ_self _) _
      go_wp2_with (refine wpList_store_to rfl 30 _ _ rfl w.heap.size 0 #[.int .i64 0, .slice none 0 0, .slice none 0 0, .slice b2 (okN ns).length q2, .slice none 0 0] rfl rfl HTR.out isz_Wrl (by simp [Value.oneCell']) wz HWZ.out ?_)
      exact bodyPost_ret (results_cell_mid rfl _ _ w.heap.size [.int .i64 0, .slice none 0 0, .slice none 0 0, .slice b2 (okN ns).length q2, .slice none 0 0] _ rfl HRZ.out Tryz.underlying30 rfl isz_Wrl) rfl ⟨b2, q2, rfl, ownsRow_base (Nat.le_succ _) HOZ.out, hBZ⟩
    obtain ⟨n, hn⟩ : ∃ n, ns[k]? = some n := ⟨ns[k], List.getElem?_eq_getElem hlt⟩
    obtain ⟨b0, o0, e0, _, hb0, hc0⟩ := HI.out.at hn
    subst e0
    have hcn : w.cell? ⟨b0, o0 + k, none⟩ = some (.string n) := by have := hc0.1; simpa using this
    have hcr : wr.cell? ⟨b0, o0 + k, none⟩ = some (.string n) := (hB.cell (p := ⟨b0, o0 + k, none⟩) hb0).trans hcn
    have HST := Hid.intro (nm_step hn)
    clear hn hc0 hcn
    have k3 : wr.cell? ⟨w.heap.size + 1, 3, none⟩ = some (.slice bb k q) := HP.out.cell rfl
    have hbA : Below wr.heap.size wr (wr.alloc (Obj.cells #[.string n, .bool true, .int .i64 0, .bool false, .int .i64 0, .slice none 0 0, .slice none 0 0, .slice none 0 0, .slice none 0 0] 41)) := (Below.refl _ _).alloc (Nat.le_refl _) _
    have HPA := Hid.intro (HP.out.below hbA HP.out.lt)
    have HRA := Hid.intro (HR.out.below hbA HR.out.lt)
    have HOA := Hid.intro (HO.out.alloc (Obj.cells #[.string n, .bool true, .int .i64 0, .bool false, .int .i64 0, .slice none 0 0, .slice none 0 0, .slice none 0 0, .slice none 0 0] 41))
    have HNA : Hid (Blk wr.heap.size #[.string n, .bool true, .int .i64 0, .bool false, .int .i64 0, .slice none 0 0, .slice none 0 0, .slice none 0 0, .slice none 0 0] 41 (wr.alloc (Obj.cells #[.string n, .bool true, .int .i64 0, .bool false, .int .i64 0, .slice none 0 0, .slice none 0 0, .slice none 0 0, .slice none 0 0] 41))) := Blk.alloc _ _ _
    have hBA := hB.trans (hbA.mono hB.size)
    have hwA : w.heap.size + 1 < wr.heap.size := HP.out.lt
    clear HP HR HO hB hbA
    go_wp2_with (at_builtin; refine wpList_append_own _ rfl _ _ 28 rfl (w.heap.size + 2) 41 i0 _ 9 144 Tryz.underlying28 hi hz0 hz1 hz2 rfl (by decide) _ k _ rfl HOA.out ⟨wr.heap.size, 0, none⟩ 1 1 (rcNm ⟨n⟩) rfl rfl (fun j u hj => by rw [Addr.add_mid]; exact HNA.out.rangeA j u hj) (fun u hu => rvNm_one [⟨n⟩] u (by simp only [rvNm, List.append_nil]; exact hu)) (by unfold maxLen; omega) (by omega) (by simp; omega) ?_; intro v' w8 hown8 hgrow8 hnil8; have hv8 : v' ≠ .slice none 0 0 := (fun e => by have h9 := (hnil8.1 e).2; cases h9); obtain ⟨g8, q8, rfl⟩ := rowf hown8 hv8; have hp8 := HPA.out.grown hgrow8 (fun e => by have h9 := own_blkN HOA.out _ e.symm; omega); have kk : w8.cell? ⟨w.heap.size + 1, 3, none⟩ = some (.slice bb k q) := hp8.cell rfl; have ff : w8.frozen? ⟨w.heap.size + 1, 3, none⟩ = false := hp8.frozen _)
    have HO8 : Hid (w8.ownsRow (w.heap.size + 2) 41 9 (.slice (some ⟨g8, 0, none⟩) (k + 1) q8) (k + 1) (rvNm ((nmL ns).take (k + 1)))) := by
      show World.ownsRow _ _ _ _ _ _ _
      rw [HST.out, rvNm_app]
      simp only [rvNm, List.append_nil]
      exact hown8
    have hbg := (Below.refl (w.heap.size + 2) (wr.alloc (Obj.cells #[.string n, .bool true, .int .i64 0, .bool false, .int .i64 0, .slice none 0 0, .slice none 0 0, .slice none 0 0, .slice none 0 0] 41))).grown hgrow8 (by simp; omega) (own_blkN HOA.out)
    have HR8 := Hid.intro (HRA.out.below hbg (by omega))
    have hB8 := hBA.trans (hbg.mono (by omega))
    have HP9 : Hid (Blk (w.heap.size + 1) #[.int .i64 0, .slice none 0 0, .slice none 0 0, .slice (some ⟨g8, 0, none⟩) (k + 1) q8, .slice none 0 0] 30 (w8.setCell ⟨w.heap.size + 1, 3, none⟩ (.slice (some ⟨g8, 0, none⟩) (k + 1) q8))) := hp8.set 3 _
    have HR9 : Hid (Blk w.heap.size #[.int .i64 0, .slice none 0 0, .slice none 0 0, .slice none 0 0, .slice none 0 0] 30 (w8.setCell ⟨w.heap.size + 1, 3, none⟩ (.slice (some ⟨g8, 0, none⟩) (k + 1) q8))) := HR8.out.other (a := ⟨w.heap.size + 1, 3, none⟩) (show w.heap.size ≠ w.heap.size + 1 by omega) _
    have HO9 : Hid ((w8.setCell ⟨w.heap.size + 1, 3, none⟩ (.slice (some ⟨g8, 0, none⟩) (k + 1) q8)).ownsRow (w.heap.size + 2) 41 9 (.slice (some ⟨g8, 0, none⟩) (k + 1) q8) (k + 1) (rvNm ((nmL ns).take (k + 1)))) := ownsRow_other (vs := [.slice (some ⟨g8, 0, none⟩) (k + 1) q8]) (p := w.heap.size + 1) HO8.out (by omega) 3
    have hB9 : Below w.heap.size w (w8.setCell ⟨w.heap.size + 1, 3, none⟩ (.slice (some ⟨g8, 0, none⟩) (k + 1) q8)) := hB8.setCell (p := ⟨w.heap.size + 1, 3, none⟩) (Nat.le_succ _) _
    clear hown8 hgrow8 hnil8 hv8 hbg HPA HRA HOA HNA hBA HO8 HR8 hB8 hp8 kk ff
    go_wp2_with fail
    go_roundw
    case rel => exact ⟨k + 1, _, q8, by omega, by go_num, HP9, HR9, HO9, hB9⟩
    case measure => simp [intOf]; omega

end Go.Proofs.YtebcocejgenadaaGreat
