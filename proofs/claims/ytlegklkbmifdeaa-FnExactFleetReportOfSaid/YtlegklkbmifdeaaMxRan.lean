/-
  Reports marked, and the marks looked up. Made by mkmxran.py.
-/
import Derived.Test.YtlegklkbmifdeaaRan
import Derived.Test.YtlegklkbmifdeaaMrk
import Derived.Deep.RegionHeld3
namespace Go.Proofs.Ytlegklkbmifdeaa
open Go.RowKit

/-- the mark of a cell -/
def mvRan (k t : Nat) : Value := if t % 3 = 0 then .string (mtOf (k + t)) else .int .i64 ((k + t : Nat) : Int)

/-- the first n cells hold the marks from k on -/
def MkdCRan (w : World) (b o n k : Nat) : Prop := ∀ t, t < n → w.cell? ⟨b, o + t, none⟩ = some (mvRan k t)

theorem MkdCRan.below {w w' : World} {b o n k : Nat} (h : MkdCRan w b o n k) (hb : Below w.heap.size w w') : MkdCRan w' b o n k :=
  fun t ht => (hb.cell (p := ⟨b, o + t, none⟩) (block_lt_of_cell (h t ht))).trans (h t ht)

theorem MkdCRan.set {w : World} {b o n k p : Nat} {u v : Value} (h : MkdCRan w b o n k) (hp : p = o + n) (c : w.cell? ⟨b, p, none⟩ = some u) (hv : v = mvRan k n) : MkdCRan (w.setCell ⟨b, p, none⟩ v) b o (n + 1) k := by
  subst hp hv
  intro t ht
  by_cases e : t = n
  · subst e
    exact World.cell?_setCell_same _ _ _ c
  · rw [World.cell?_setCell_other _ _ _ _ (fun h => by injection h with _ h _; omega)]
    exact h t (by omega)

theorem mvRan_s {k t : Nat} (h : t % 3 = 0) : mvRan k t = .string (mtOf (k + t)) := if_pos h
theorem mvRan_i {k t : Nat} (h : ¬ (t % 3 = 0)) : mvRan k t = .int .i64 ((k + t : Nat) : Int) := if_neg h

/-- n runs hold the marks from k on -/
def MkdRRan (w : World) (a : Option Addr) (n k : Nat) : Prop := n = 0 ∨ ∃ b o, a = some ⟨b, o, none⟩ ∧ MkdCRan w b o (n * 3) k

theorem MkdRRan.below {w w' : World} {a : Option Addr} {n k : Nat} (h : MkdRRan w a n k) (hb : Below w.heap.size w w') : MkdRRan w' a n k := by
  rcases h with h | ⟨b, o, e, h⟩
  · exact .inl h
  · exact .inr ⟨b, o, e, h.below hb⟩

set_option maxHeartbeats 8000000 in
set_option maxRecDepth 100000 in
theorem markRanV_any (xs : List Ran) (a : Option Addr) (cap lo : Nat) (k : Nat) (wx ws w : World) (hin : SliceC RanC 3 lo wx a xs) (hlo : 0 < lo) (hm : Mkd lo wx ws w) (h0 : 0 < k) (h1 : k + xs.length * 3 ≤ 1073741824) :
    Calls Try.prog 29 #[.slice a xs.length cap, .int .i64 k] w fun e w' => e = .returned (.int .i64 ((k + xs.length * 3 : Nat) : Int)) ∧ MkdRRan w' a xs.length k ∧ Mkd lo wx ws w' := by
  have HI := Hid.intro hin
  have HM := Hid.intro hm
  clear hin hm
  go_enter Try.func29, Try.ntmps29
  go_wp2_with fail
  go_loopw [1, 5] (fun v i wr => ∃ j : Nat, j ≤ xs.length ∧ i = .int .i64 j ∧ v = .int .i64 ((k + j * 3 : Nat) : Int) ∧ Hid (MkdRRan wr a j k) ∧ Hid (Mkd lo wx ws wr)) (fun _ i _ => xs.length - (intOf i).toNat)
  case atStart => exact ⟨0, Nat.zero_le _, rfl, by simp, .inl rfl, HM⟩
  case round =>
    clear HM
    obtain ⟨j, hj, rfl, rfl, hV, hM⟩ := hrel
    by_cases hlt : j < xs.length
    · obtain ⟨x, hx⟩ : ∃ x, xs[j]? = some x := ⟨xs[j], List.getElem?_eq_getElem hlt⟩
      obtain ⟨b, o, rfl, hb0, hbl, hc⟩ := HI.out.at hx
      obtain ⟨q0, q1, q2, _⟩ := hc
      simp only [Nat.add_zero] at q0
      have hne : xs ≠ [] := fun e => by rw [e] at hlt; exact absurd hlt (Nat.not_lt_zero _)
      have HFZ : Hid (∀ p, wx.frozen? ⟨b, p, none⟩ = false) := HI.out.frz hne hlo
      have i0 : (0 : Int) ≤ (j : Int) := by omega
      have i1 : (j : Int) < (xs.length : Int) := by omega
      have C0 : Hid (MkdCRan wr b o (j * 3) k) := by
        rcases hV.out with h | ⟨b', o', e, h⟩
        · intro t ht; omega
        · cases e; exact h
      have hkb : k + j * 3 + 3 ≤ 1073741824 := by omega
      have Q0 := Hid.intro q0
      have Q1 := Hid.intro q1
      have Q2 := Hid.intro q2
      clear hx hne hV q0 q1 q2
      obtain ⟨y0, hy0⟩ : ∃ y : Nat, y = k + j * 3 := ⟨_, rfl⟩
      have HY0 := Hid.intro hy0
      have hs0 : ((k + j * 3 : Nat) : Int) = (y0 : Int) := by rw [hy0]
      rw [hs0]
      clear hs0
      have hyl : y0 + 3 ≤ 1073741824 := by omega
      have hyp : 0 < y0 := by omega
      clear hy0
      go_wp2_with fail
      refine (markText_any y0 _ (by omega) (by omega)).mono ?_
      rintro e wa0 ⟨rfl, hb0⟩
      have Ma0 := Hid.intro (hM.out.below hb0)
      have Ca0 := Hid.intro (C0.out.below hb0)
      clear hb0 hM C0
      obtain ⟨u0, d0⟩ := Ma0.out.so b (o + j * 3) _ Q0.out
      have g0 := (Ma0.out.fz b (o + j * 3) hbl).trans (HFZ.out (o + j * 3))
      have Mb0 := Hid.intro (Ma0.out.set hb0 Q0.out rfl (.string (mtOf y0)))
      have Cb0 : Hid (MkdCRan (wa0.setCell ⟨b, o + j * 3, none⟩ (.string (mtOf y0))) b o (j * 3 + 1) k) := Ca0.out.set (n := j * 3) (by omega) d0 (by rw [mvRan_s (by omega), HY0.out])
      go_upto_region 5 with fail
      clear d0 g0 Ma0 Ca0
      generalize wa0.setCell ⟨b, o + j * 3, none⟩ (.string (mtOf y0)) = wb0 at *
      go_upto_region 6 with fail
      obtain ⟨y1, hy1⟩ : ∃ y : Nat, y = y0 + 1 := ⟨_, rfl⟩
      have hs1 : ((y0 : Int) + 1) = (y1 : Int) := by omega
      rw [hs1]
      have HY1 : Hid (y1 = k + j * 3 + 1) := by have := HY0.out; show _ = _; omega
      have hyl1 : y1 + 2 ≤ 1073741824 := by omega
      have hyp1 : 0 < y1 := by omega
      clear hs1 hy1
      obtain ⟨u1, d1⟩ := Mb0.out.so b (o + j * 3 + 1) _ Q1.out
      have g1 := (Mb0.out.fz b (o + j * 3 + 1) hbl).trans (HFZ.out (o + j * 3 + 1))
      have Mb1 := Hid.intro (Mb0.out.set hb0 Q1.out rfl (.int .i64 (y1 : Int)))
      have Cb1 : Hid (MkdCRan (wb0.setCell ⟨b, o + j * 3 + 1, none⟩ (.int .i64 (y1 : Int))) b o (j * 3 + 1 + 1) k) := Cb0.out.set (n := j * 3 + 1) (by omega) d1 (by rw [mvRan_i (by omega), HY1.out, Nat.add_assoc])
      go_upto_region 7 with fail
      clear d1 g1 Mb0 Cb0
      generalize wb0.setCell ⟨b, o + j * 3 + 1, none⟩ (.int .i64 (y1 : Int)) = wb1 at *
      go_upto_region 8 with fail
      obtain ⟨y2, hy2⟩ : ∃ y : Nat, y = y1 + 1 := ⟨_, rfl⟩
      have hs2 : ((y1 : Int) + 1) = (y2 : Int) := by omega
      rw [hs2]
      have HY2 : Hid (y2 = k + j * 3 + 2) := by have := HY1.out; show _ = _; omega
      have hyl2 : y2 + 1 ≤ 1073741824 := by omega
      have hyp2 : 0 < y2 := by omega
      clear hs2 hy2
      obtain ⟨u2, d2⟩ := Mb1.out.so b (o + j * 3 + 2) _ Q2.out
      have g2 := (Mb1.out.fz b (o + j * 3 + 2) hbl).trans (HFZ.out (o + j * 3 + 2))
      have Mb2 := Hid.intro (Mb1.out.set hb0 Q2.out rfl (.int .i64 (y2 : Int)))
      have Cb2 : Hid (MkdCRan (wb1.setCell ⟨b, o + j * 3 + 2, none⟩ (.int .i64 (y2 : Int))) b o (j * 3 + 2 + 1) k) := Cb1.out.set (n := j * 3 + 2) (by omega) d2 (by rw [mvRan_i (by omega), HY2.out, Nat.add_assoc])
      go_upto_region 9 with fail
      clear d2 g2 Mb1 Cb1
      generalize wb1.setCell ⟨b, o + j * 3 + 2, none⟩ (.int .i64 (y2 : Int)) = wb2 at *
      have HR : Hid (MkdRRan wb2 (some ⟨b, o, none⟩) (j + 1) k) := .inr ⟨b, o, rfl, by
        have h := Cb2.out
        rw [show j * 3 + 2 + 1 = (j + 1) * 3 by omega] at h
        exact h⟩
      have hend : ((y2 : Int) + 1) = ((k + (j + 1) * 3 : Nat) : Int) := by have := HY2.out; omega
      go_wp2_with fail
      go_roundw
      case rel => exact ⟨j + 1, by omega, by go_num, by first | rw [hend] | go_num, HR, Mb2⟩
      case measure => simp [intOf]; omega
    · have hje : j = xs.length := by omega
      subst hje
      go_wp2_with fail
      go_ret
      exact ⟨rfl, hV.out, hM.out⟩

set_option maxHeartbeats 8000000 in
set_option maxRecDepth 100000 in
theorem heldRanS_any (a : Option Addr) (n cap k : Nat) (w : World) (hin : MkdRRan w a n k) (h0 : 0 < k) (h1 : k + n * 3 ≤ 1073741824) :
    Calls Try.prog 30 #[.slice a n cap, .int .i64 k] w fun e w' => e = .returned (.int .i64 ((k + n * 3 : Nat) : Int)) ∧ Below w.heap.size w w' := by
  have HI := Hid.intro hin
  clear hin
  go_enter Try.func30, Try.ntmps30
  go_wp2_with fail
  go_loopw [1, 5] (fun v i wr => ∃ j : Nat, j ≤ n ∧ i = .int .i64 j ∧ v = .int .i64 ((k + j * 3 : Nat) : Int) ∧ Hid (Below w.heap.size w wr)) (fun _ i _ => n - (intOf i).toNat)
  case atStart => exact ⟨0, Nat.zero_le _, rfl, by simp, Below.refl _ _⟩
  case round =>
    obtain ⟨j, hj, rfl, rfl, hB⟩ := hrel
    by_cases hlt : j < n
    · have hM := HI.out.below hB.out
      obtain ⟨b, o, rfl, hc⟩ : ∃ b o, a = some ⟨b, o, none⟩ ∧ MkdCRan wr b o (n * 3) k := by
        rcases hM with h | h
        · omega
        · exact h
      have HC := Hid.intro hc
      have i0 : (0 : Int) ≤ (j : Int) := by omega
      have i1 : (j : Int) < (n : Int) := by omega
      have hkb : k + j * 3 + 3 ≤ 1073741824 := by omega
      have hbl : b < wr.heap.size := block_lt_of_cell (hc (j * 3) (by omega))
      clear hc hM
      obtain ⟨y0, hy0⟩ : ∃ y : Nat, y = k + j * 3 := ⟨_, rfl⟩
      have HY0 := Hid.intro hy0
      have hs0 : ((k + j * 3 : Nat) : Int) = (y0 : Int) := by rw [hy0]
      rw [hs0]
      have hyl0 : y0 + 3 ≤ 1073741824 := by omega
      have hyp0 : 0 < y0 := by omega
      clear hy0 hs0
      have c0 : wr.cell? ⟨b, o + j * 3, none⟩ = some (.string (mtOf y0)) := by
        have h := HC.out (j * 3) (by omega)
        rw [mvRan_s (by omega)] at h
        have e := HY0.out
        rw [e, show o + j * 3 = o + (j * 3) by omega]
        exact h
      have HCC := Hid.intro c0
      go_upto_region 4 with fail
      refine wp_region_held_drew (S := fun wy => wy.cell? ⟨b, o + j * 3, none⟩ = some (.string (mtOf y0))) (by kernel_rfl) (by simpa using c0) (fun hS => ?_)
      refine wpAnyH_take (i := 0) (oi := { dst := some 12, op := _, type := _, pos := _, after := _, guard := none }) (v := .slice (some ⟨b, o, none⟩) n cap) rfl (by kernel_rfl) (by kernel_rfl) (by kernel_rfl) (fun _ _ _ h => h) (Or.inl ⟨by rfl, ?_⟩) hS ?_
      · intro wy hy
        clear hy
        go_simp
      simp only [Act.put, List.setIfInBounds_toArray, List.set_cons_zero, List.set_cons_succ]
      refine wpAnyH_take (i := 1) (oi := { dst := some 13, op := _, type := _, pos := _, after := _, guard := none }) (v := .int .i64 (j : Int)) rfl (by kernel_rfl) (by kernel_rfl) (by kernel_rfl) (fun _ _ _ h => h) (Or.inl ⟨by rfl, ?_⟩) hS ?_
      · intro wy hy
        clear hy
        go_simp
      simp only [Act.put, List.setIfInBounds_toArray, List.set_cons_zero, List.set_cons_succ]
      refine wpAnyH_take (i := 2) (oi := { dst := some 14, op := _, type := _, pos := _, after := _, guard := none }) (v := .pointer (some ⟨b, o + j * 3, none⟩)) rfl (by kernel_rfl) (by kernel_rfl) (by kernel_rfl) (fun _ _ _ h => h) (Or.inl ⟨by rfl, ?_⟩) hS ?_
      · intro wy hy
        clear hy
        first | (go_simp; done) | (go_simp; intro hh; omega)
      simp only [Act.put, List.setIfInBounds_toArray, List.set_cons_zero, List.set_cons_succ]
      refine wpAnyH_take (i := 3) (oi := { dst := some 15, op := _, type := _, pos := _, after := _, guard := none }) (v := .pointer (some ⟨b, o + j * 3, none⟩)) rfl (by kernel_rfl) (by kernel_rfl) (by kernel_rfl) (fun _ _ _ h => h) (Or.inl ⟨by rfl, ?_⟩) hS ?_
      · intro wy hy
        clear hy
        go_simp
      simp only [Act.put, List.setIfInBounds_toArray, List.set_cons_zero, List.set_cons_succ]
      refine wpAnyH_take (i := 4) (oi := { dst := some 16, op := _, type := _, pos := _, after := _, guard := none }) (v := .string (mtOf y0)) rfl (by kernel_rfl) (by kernel_rfl) (by kernel_rfl) (fun _ _ _ h => h) (Or.inl ⟨by rfl, ?_⟩) hS ?_
      · intro wy hy
        have h0 := hy
        clear hy
        go_simp
      simp only [Act.put, List.setIfInBounds_toArray, List.set_cons_zero, List.set_cons_succ]
      refine wpAnyH_take (i := 5) (oi := { dst := some 17, op := _, type := _, pos := _, after := _, guard := none }) (v := .int .i64 (y0 : Int)) rfl (by kernel_rfl) (by kernel_rfl) (by kernel_rfl) (fun _ _ _ h => h) (Or.inl ⟨by rfl, ?_⟩) hS ?_
      · intro wy hy
        clear hy
        go_simp
      simp only [Act.put, List.setIfInBounds_toArray, List.set_cons_zero, List.set_cons_succ]
      refine wpAnyH_ready (rs := [6]) (by kernel_rfl) (by simp) (AllReadyH.cons (o := { dst := some 18, op := _, type := _, pos := _, after := _, guard := none }) rfl (fun K hK => ?_) AllReadyH.nil)
      go_simp
      refine (markText_any y0 _ (by omega) (by omega)).mono ?_
      rintro e wm0 ⟨rfl, hb1⟩
      have hd : Below wr.heap.size wr wm0 := (Below.refl _ wr).drew.trans hb1
      have HBm0 : Hid (Below w.heap.size w wm0) := hB.out.trans (hd.mono hB.out.size)
      have HCm0 := Hid.intro (HC.out.below hd)
      refine hK.out _ _ ((hd.cell (p := ⟨b, o + j * 3, none⟩) (block_lt_of_cell c0)).trans HCC.out) (fun hS => ?_)
      clear hK K
      clear hb1 hd HCC c0 hB HC
      refine wpAnyH_take (i := 7) (oi := { dst := some 19, op := _, type := _, pos := _, after := _, guard := none }) (v := .bool false) rfl (by kernel_rfl) (by kernel_rfl) (by kernel_rfl) (fun _ _ _ h => h) (Or.inl ⟨by rfl, ?_⟩) hS ?_
      · intro wy hy
        clear hy
        go_simp
      simp only [Act.put, List.setIfInBounds_toArray, List.set_cons_zero, List.set_cons_succ]
      refine wpAnyH_done (by kernel_rfl) ?_ _
      clear hS
      go_upto_region 7 with fail
      obtain ⟨y1, hy1⟩ : ∃ y : Nat, y = y0 + 1 := ⟨_, rfl⟩
      have hs1 : ((y0 : Int) + 1) = (y1 : Int) := by omega
      rw [hs1]
      have HY1 : Hid (y1 = k + j * 3 + 1) := by have := HY0.out; show _ = _; omega
      have hyl1 : y1 + 2 ≤ 1073741824 := by omega
      have hyp1 : 0 < y1 := by omega
      clear hs1 hy1
      have c1 : wm0.cell? ⟨b, o + j * 3 + 1, none⟩ = some (.int .i64 (y1 : Int)) := by
        have h := HCm0.out (j * 3 + 1) (by omega)
        rw [mvRan_i (by omega)] at h
        have e := HY1.out
        rw [e, Nat.add_assoc k, show o + j * 3 + 1 = o + (j * 3 + 1) by omega]
        exact h
      go_upto_region 10 with fail
      clear c1
      obtain ⟨y2, hy2⟩ : ∃ y : Nat, y = y1 + 1 := ⟨_, rfl⟩
      have hs2 : ((y1 : Int) + 1) = (y2 : Int) := by omega
      rw [hs2]
      have HY2 : Hid (y2 = k + j * 3 + 2) := by have := HY1.out; show _ = _; omega
      have hyl2 : y2 + 1 ≤ 1073741824 := by omega
      have hyp2 : 0 < y2 := by omega
      clear hs2 hy2
      have c2 : wm0.cell? ⟨b, o + j * 3 + 2, none⟩ = some (.int .i64 (y2 : Int)) := by
        have h := HCm0.out (j * 3 + 2) (by omega)
        rw [mvRan_i (by omega)] at h
        have e := HY2.out
        rw [e, Nat.add_assoc k, show o + j * 3 + 2 = o + (j * 3 + 2) by omega]
        exact h
      have hend : ((y2 : Int) + 1) = ((k + (j + 1) * 3 : Nat) : Int) := by have := HY2.out; omega
      go_wp2_with fail
      go_roundw
      case rel => exact ⟨j + 1, by omega, by go_num, by first | rw [hend] | go_num, HBm0⟩
      case measure => simp [intOf]; omega
    · have hje : j = n := by omega
      subst hje
      go_wp2_with fail
      go_ret
      exact ⟨rfl, hB.out⟩

end Go.Proofs.Ytlegklkbmifdeaa
