import Derived.Test.YtlangcodelcncaaGreatWnt
import Derived.Test.YtlangcodelcncaaGreatJ44
import Derived.Deep.RegionHeld3
namespace Go.Proofs.YtlangcodelcncaaGreat
open Go.RowKit

def mvWnt (k t : Nat) : Value := if t % 7 = 0 ∨ t % 7 = 2 then .string (mtOf (k + t)) else .int .i64 ((k + t : Nat) : Int)

def MkdCWnt (w : World) (b o n k : Nat) : Prop := ∀ t, t < n → w.cell? ⟨b, o + t, none⟩ = some (mvWnt k t)

theorem MkdCWnt.below {w w' : World} {b o n k : Nat} (h : MkdCWnt w b o n k) (hb : Below w.heap.size w w') : MkdCWnt w' b o n k :=
  fun t ht => (hb.cell (p := ⟨b, o + t, none⟩) (block_lt_of_cell (h t ht))).trans (h t ht)

theorem MkdCWnt.set {w : World} {b o n k p : Nat} {u v : Value} (h : MkdCWnt w b o n k) (hp : p = o + n) (c : w.cell? ⟨b, p, none⟩ = some u) (hv : v = mvWnt k n) : MkdCWnt (w.setCell ⟨b, p, none⟩ v) b o (n + 1) k := by
  subst hp hv
  intro t ht
  by_cases e : t = n
  · subst e
    exact World.cell?_setCell_same _ _ _ c
  · rw [World.cell?_setCell_other _ _ _ _ (fun h => by injection h with _ h _; omega)]
    exact h t (by omega)

theorem mvWnt_s {k t : Nat} (h : t % 7 = 0 ∨ t % 7 = 2) : mvWnt k t = .string (mtOf (k + t)) := if_pos h
theorem mvWnt_i {k t : Nat} (h : ¬ (t % 7 = 0 ∨ t % 7 = 2)) : mvWnt k t = .int .i64 ((k + t : Nat) : Int) := if_neg h

def MkdRWnt (w : World) (a : Option Addr) (n k : Nat) : Prop := n = 0 ∨ ∃ b o, a = some ⟨b, o, none⟩ ∧ MkdCWnt w b o (n * 7) k

theorem MkdRWnt.below {w w' : World} {a : Option Addr} {n k : Nat} (h : MkdRWnt w a n k) (hb : Below w.heap.size w w') : MkdRWnt w' a n k := by
  rcases h with h | ⟨b, o, e, h⟩
  · exact .inl h
  · exact .inr ⟨b, o, e, h.below hb⟩

set_option maxHeartbeats 8000000 in
set_option maxRecDepth 100000 in
theorem markWntV_any (xs : List Wnt) (a : Option Addr) (cap lo : Nat) (k : Nat) (wx ws w : World) (hin : SliceC WntC 7 lo wx a xs) (hlo : 0 < lo) (hm : Mkd lo wx ws w) (h0 : 0 < k) (h1 : k + xs.length * 7 ≤ 1073741824) :
    Calls Tryz.prog 40 #[.slice a xs.length cap, .int .i64 k] w fun e w' => e = .returned (.int .i64 ((k + xs.length * 7 : Nat) : Int)) ∧ MkdRWnt w' a xs.length k ∧ Mkd lo wx ws w' := by
  have HI := Hid.intro hin
  have HM := Hid.intro hm
  clear hin hm
  go_enter Tryz.func40, Tryz.ntmps40
  go_wp2_with fail
  go_loopw [1, 5] (fun v i wr => ∃ j : Nat, j ≤ xs.length ∧ i = .int .i64 j ∧ v = .int .i64 ((k + j * 7 : Nat) : Int) ∧ Hid (MkdRWnt wr a j k) ∧ Hid (Mkd lo wx ws wr)) (fun _ i _ => xs.length - (intOf i).toNat)
  case atStart => exact ⟨0, Nat.zero_le _, rfl, by simp, .inl rfl, HM⟩
  case round =>
    clear HM
    obtain ⟨j, hj, rfl, rfl, hV, hM⟩ := hrel
    by_cases hlt : j < xs.length
    · obtain ⟨x, hx⟩ : ∃ x, xs[j]? = some x := ⟨xs[j], List.getElem?_eq_getElem hlt⟩
      obtain ⟨b, o, rfl, hb0, hbl, hc⟩ := HI.out.at hx
      obtain ⟨q0, q1, q2, q3, q4, q5, q6, _, _⟩ := hc
      simp only [Nat.add_zero] at q0
      have hne : xs ≠ [] := fun e => by rw [e] at hlt; exact absurd hlt (Nat.not_lt_zero _)
      have HFZ : Hid (∀ p, wx.frozen? ⟨b, p, none⟩ = false) := HI.out.frz hne hlo
      have i0 : (0 : Int) ≤ (j : Int) := by omega
      have i1 : (j : Int) < (xs.length : Int) := by omega
      have C0 : Hid (MkdCWnt wr b o (j * 7) k) := by
        rcases hV.out with h | ⟨b', o', e, h⟩
        · intro t ht; omega
        · cases e; exact h
      have hkb : k + j * 7 + 7 ≤ 1073741824 := by omega
      have Q0 := Hid.intro q0
      have Q1 := Hid.intro q1
      have Q2 := Hid.intro q2
      have Q3 := Hid.intro q3
      have Q4 := Hid.intro q4
      have Q5 := Hid.intro q5
      have Q6 := Hid.intro q6
      clear hx hne hV q0 q1 q2 q3 q4 q5 q6
      obtain ⟨y0, hy0⟩ : ∃ y : Nat, y = k + j * 7 := ⟨_, rfl⟩
      have HY0 := Hid.intro hy0
      have hs0 : ((k + j * 7 : Nat) : Int) = (y0 : Int) := by rw [hy0]
      rw [hs0]
      clear hs0
      have hyl : y0 + 7 ≤ 1073741824 := by omega
      have hyp : 0 < y0 := by omega
      clear hy0
      go_wp2_with fail
      refine (markText_any y0 _ (by omega) (by omega)).mono ?_
      rintro e wa0 ⟨rfl, hb0⟩
      have Ma0 := Hid.intro (hM.out.below hb0)
      have Ca0 := Hid.intro (C0.out.below hb0)
      clear hb0 hM C0
      obtain ⟨u0, d0⟩ := Ma0.out.so b (o + j * 7) _ Q0.out
      have g0 := (Ma0.out.fz b (o + j * 7) hbl).trans (HFZ.out (o + j * 7))
      have Mb0 := Hid.intro (Ma0.out.set hb0 Q0.out rfl (.string (mtOf y0)))
      have Cb0 : Hid (MkdCWnt (wa0.setCell ⟨b, o + j * 7, none⟩ (.string (mtOf y0))) b o (j * 7 + 1) k) := Ca0.out.set (n := j * 7) (by omega) d0 (by rw [mvWnt_s (by omega), HY0.out])
      go_upto_region 5 with fail
      clear d0 g0 Ma0 Ca0
      generalize wa0.setCell ⟨b, o + j * 7, none⟩ (.string (mtOf y0)) = wb0 at *
      go_upto_region 6 with fail
      obtain ⟨y1, hy1⟩ : ∃ y : Nat, y = y0 + 1 := ⟨_, rfl⟩
      have hs1 : ((y0 : Int) + 1) = (y1 : Int) := by omega
      rw [hs1]
      have HY1 : Hid (y1 = k + j * 7 + 1) := by have := HY0.out; show _ = _; omega
      have hyl1 : y1 + 6 ≤ 1073741824 := by omega
      have hyp1 : 0 < y1 := by omega
      clear hs1 hy1
      obtain ⟨u1, d1⟩ := Mb0.out.so b (o + j * 7 + 1) _ Q1.out
      have g1 := (Mb0.out.fz b (o + j * 7 + 1) hbl).trans (HFZ.out (o + j * 7 + 1))
      have Mb1 := Hid.intro (Mb0.out.set hb0 Q1.out rfl (.int .i64 (y1 : Int)))
      have Cb1 : Hid (MkdCWnt (wb0.setCell ⟨b, o + j * 7 + 1, none⟩ (.int .i64 (y1 : Int))) b o (j * 7 + 1 + 1) k) := Cb0.out.set (n := j * 7 + 1) (by omega) d1 (by rw [mvWnt_i (by omega), HY1.out, Nat.add_assoc])
      go_upto_region 7 with fail
      clear d1 g1 Mb0 Cb0
      generalize wb0.setCell ⟨b, o + j * 7 + 1, none⟩ (.int .i64 (y1 : Int)) = wb1 at *
      go_upto_region 8 with fail
      obtain ⟨y2, hy2⟩ : ∃ y : Nat, y = y1 + 1 := ⟨_, rfl⟩
      have hs2 : ((y1 : Int) + 1) = (y2 : Int) := by omega
      rw [hs2]
      have HY2 : Hid (y2 = k + j * 7 + 2) := by have := HY1.out; show _ = _; omega
      have hyl2 : y2 + 5 ≤ 1073741824 := by omega
      have hyp2 : 0 < y2 := by omega
      clear hs2 hy2
      go_wp2_with fail
      refine (markText_any y2 _ (by omega) (by omega)).mono ?_
      rintro e wa2 ⟨rfl, hb2⟩
      have Ma2 := Hid.intro (Mb1.out.below hb2)
      have Ca2 := Hid.intro (Cb1.out.below hb2)
      clear hb2 Mb1 Cb1
      obtain ⟨u2, d2⟩ := Ma2.out.so b (o + j * 7 + 2) _ Q2.out
      have g2 := (Ma2.out.fz b (o + j * 7 + 2) hbl).trans (HFZ.out (o + j * 7 + 2))
      have Mb2 := Hid.intro (Ma2.out.set hb0 Q2.out rfl (.string (mtOf y2)))
      have Cb2 : Hid (MkdCWnt (wa2.setCell ⟨b, o + j * 7 + 2, none⟩ (.string (mtOf y2))) b o (j * 7 + 2 + 1) k) := Ca2.out.set (n := j * 7 + 2) (by omega) d2 (by rw [mvWnt_s (by omega), HY2.out, Nat.add_assoc])
      go_upto_region 9 with fail
      clear d2 g2 Ma2 Ca2
      generalize wa2.setCell ⟨b, o + j * 7 + 2, none⟩ (.string (mtOf y2)) = wb2 at *
      go_upto_region 10 with fail
      obtain ⟨y3, hy3⟩ : ∃ y : Nat, y = y2 + 1 := ⟨_, rfl⟩
      have hs3 : ((y2 : Int) + 1) = (y3 : Int) := by omega
      rw [hs3]
      have HY3 : Hid (y3 = k + j * 7 + 3) := by have := HY2.out; show _ = _; omega
      have hyl3 : y3 + 4 ≤ 1073741824 := by omega
      have hyp3 : 0 < y3 := by omega
      clear hs3 hy3
      obtain ⟨u3, d3⟩ := Mb2.out.so b (o + j * 7 + 3) _ Q3.out
      have g3 := (Mb2.out.fz b (o + j * 7 + 3) hbl).trans (HFZ.out (o + j * 7 + 3))
      have Mb3 := Hid.intro (Mb2.out.set hb0 Q3.out rfl (.int .i64 (y3 : Int)))
      have Cb3 : Hid (MkdCWnt (wb2.setCell ⟨b, o + j * 7 + 3, none⟩ (.int .i64 (y3 : Int))) b o (j * 7 + 3 + 1) k) := Cb2.out.set (n := j * 7 + 3) (by omega) d3 (by rw [mvWnt_i (by omega), HY3.out, Nat.add_assoc])
      go_upto_region 11 with fail
      clear d3 g3 Mb2 Cb2
      generalize wb2.setCell ⟨b, o + j * 7 + 3, none⟩ (.int .i64 (y3 : Int)) = wb3 at *
      go_upto_region 12 with fail
      obtain ⟨y4, hy4⟩ : ∃ y : Nat, y = y3 + 1 := ⟨_, rfl⟩
      have hs4 : ((y3 : Int) + 1) = (y4 : Int) := by omega
      rw [hs4]
      have HY4 : Hid (y4 = k + j * 7 + 4) := by have := HY3.out; show _ = _; omega
      have hyl4 : y4 + 3 ≤ 1073741824 := by omega
      have hyp4 : 0 < y4 := by omega
      clear hs4 hy4
      obtain ⟨u4, d4⟩ := Mb3.out.so b (o + j * 7 + 4) _ Q4.out
      have g4 := (Mb3.out.fz b (o + j * 7 + 4) hbl).trans (HFZ.out (o + j * 7 + 4))
      have Mb4 := Hid.intro (Mb3.out.set hb0 Q4.out rfl (.int .i64 (y4 : Int)))
      have Cb4 : Hid (MkdCWnt (wb3.setCell ⟨b, o + j * 7 + 4, none⟩ (.int .i64 (y4 : Int))) b o (j * 7 + 4 + 1) k) := Cb3.out.set (n := j * 7 + 4) (by omega) d4 (by rw [mvWnt_i (by omega), HY4.out, Nat.add_assoc])
      go_upto_region 13 with fail
      clear d4 g4 Mb3 Cb3
      generalize wb3.setCell ⟨b, o + j * 7 + 4, none⟩ (.int .i64 (y4 : Int)) = wb4 at *
      go_upto_region 14 with fail
      obtain ⟨y5, hy5⟩ : ∃ y : Nat, y = y4 + 1 := ⟨_, rfl⟩
      have hs5 : ((y4 : Int) + 1) = (y5 : Int) := by omega
      rw [hs5]
      have HY5 : Hid (y5 = k + j * 7 + 5) := by have := HY4.out; show _ = _; omega
      have hyl5 : y5 + 2 ≤ 1073741824 := by omega
      have hyp5 : 0 < y5 := by omega
      clear hs5 hy5
      obtain ⟨u5, d5⟩ := Mb4.out.so b (o + j * 7 + 5) _ Q5.out
      have g5 := (Mb4.out.fz b (o + j * 7 + 5) hbl).trans (HFZ.out (o + j * 7 + 5))
      have Mb5 := Hid.intro (Mb4.out.set hb0 Q5.out rfl (.int .i64 (y5 : Int)))
      have Cb5 : Hid (MkdCWnt (wb4.setCell ⟨b, o + j * 7 + 5, none⟩ (.int .i64 (y5 : Int))) b o (j * 7 + 5 + 1) k) := Cb4.out.set (n := j * 7 + 5) (by omega) d5 (by rw [mvWnt_i (by omega), HY5.out, Nat.add_assoc])
      go_upto_region 15 with fail
      clear d5 g5 Mb4 Cb4
      generalize wb4.setCell ⟨b, o + j * 7 + 5, none⟩ (.int .i64 (y5 : Int)) = wb5 at *
      go_upto_region 16 with fail
      obtain ⟨y6, hy6⟩ : ∃ y : Nat, y = y5 + 1 := ⟨_, rfl⟩
      have hs6 : ((y5 : Int) + 1) = (y6 : Int) := by omega
      rw [hs6]
      have HY6 : Hid (y6 = k + j * 7 + 6) := by have := HY5.out; show _ = _; omega
      have hyl6 : y6 + 1 ≤ 1073741824 := by omega
      have hyp6 : 0 < y6 := by omega
      clear hs6 hy6
      obtain ⟨u6, d6⟩ := Mb5.out.so b (o + j * 7 + 6) _ Q6.out
      have g6 := (Mb5.out.fz b (o + j * 7 + 6) hbl).trans (HFZ.out (o + j * 7 + 6))
      have Mb6 := Hid.intro (Mb5.out.set hb0 Q6.out rfl (.int .i64 (y6 : Int)))
      have Cb6 : Hid (MkdCWnt (wb5.setCell ⟨b, o + j * 7 + 6, none⟩ (.int .i64 (y6 : Int))) b o (j * 7 + 6 + 1) k) := Cb5.out.set (n := j * 7 + 6) (by omega) d6 (by rw [mvWnt_i (by omega), HY6.out, Nat.add_assoc])
      go_upto_region 17 with fail
      clear d6 g6 Mb5 Cb5
      generalize wb5.setCell ⟨b, o + j * 7 + 6, none⟩ (.int .i64 (y6 : Int)) = wb6 at *
      have HR : Hid (MkdRWnt wb6 (some ⟨b, o, none⟩) (j + 1) k) := .inr ⟨b, o, rfl, by
        have h := Cb6.out
        rw [show j * 7 + 6 + 1 = (j + 1) * 7 by omega] at h
        exact h⟩
      have hend : ((y6 : Int) + 1) = ((k + (j + 1) * 7 : Nat) : Int) := by have := HY6.out; omega
      go_wp2_with fail
      go_roundw
      case rel => exact ⟨j + 1, by omega, by go_num, by first | rw [hend] | go_num, HR, Mb6⟩
      case measure => simp [intOf]; omega
    · have hje : j = xs.length := by omega
      subst hje
      go_wp2_with fail
      go_ret
      exact ⟨rfl, hV.out, hM.out⟩

set_option maxHeartbeats 8000000 in
set_option maxRecDepth 100000 in
theorem heldWntS_any (a : Option Addr) (n cap k : Nat) (w : World) (hin : MkdRWnt w a n k) (h0 : 0 < k) (h1 : k + n * 7 ≤ 1073741824) :
    Calls Tryz.prog 43 #[.slice a n cap, .int .i64 k] w fun e w' => e = .returned (.int .i64 ((k + n * 7 : Nat) : Int)) ∧ Below w.heap.size w w' := by
  have HI := Hid.intro hin
  clear hin
  go_enter Tryz.func43, Tryz.ntmps43
  go_wp2_with fail
  go_loopw [1, 5] (fun v i wr => ∃ j : Nat, j ≤ n ∧ i = .int .i64 j ∧ v = .int .i64 ((k + j * 7 : Nat) : Int) ∧ Hid (Below w.heap.size w wr)) (fun _ i _ => n - (intOf i).toNat)
  case atStart => exact ⟨0, Nat.zero_le _, rfl, by simp, Below.refl _ _⟩
  case round =>
    obtain ⟨j, hj, rfl, rfl, hB⟩ := hrel
    by_cases hlt : j < n
    · have hM := HI.out.below hB.out
      obtain ⟨b, o, rfl, hc⟩ : ∃ b o, a = some ⟨b, o, none⟩ ∧ MkdCWnt wr b o (n * 7) k := by
        rcases hM with h | h
        · omega
        · exact h
      have HC := Hid.intro hc
      have i0 : (0 : Int) ≤ (j : Int) := by omega
      have i1 : (j : Int) < (n : Int) := by omega
      have hkb : k + j * 7 + 7 ≤ 1073741824 := by omega
      have hbl : b < wr.heap.size := block_lt_of_cell (hc (j * 7) (by omega))
      clear hc hM
      obtain ⟨y0, hy0⟩ : ∃ y : Nat, y = k + j * 7 := ⟨_, rfl⟩
      have HY0 := Hid.intro hy0
      have hs0 : ((k + j * 7 : Nat) : Int) = (y0 : Int) := by rw [hy0]
      rw [hs0]
      have hyl0 : y0 + 7 ≤ 1073741824 := by omega
      have hyp0 : 0 < y0 := by omega
      clear hy0 hs0
      have c0 : wr.cell? ⟨b, o + j * 7, none⟩ = some (.string (mtOf y0)) := by
        have h := HC.out (j * 7) (by omega)
        rw [mvWnt_s (by omega)] at h
        have e := HY0.out
        rw [e, show o + j * 7 = o + (j * 7) by omega]
        exact h
      have HCC := Hid.intro c0
      go_upto_region 4 with fail
      refine wp_region_held_drew (S := fun wy => wy.cell? ⟨b, o + j * 7, none⟩ = some (.string (mtOf y0))) (by kernel_rfl) (by simpa using c0) (fun hS => ?_)
      refine wpAnyH_take (i := 0) (oi := ⟨some 12, _, _, _, _, none⟩) (v := .slice (some ⟨b, o, none⟩) n cap) rfl (by kernel_rfl) (by kernel_rfl) (by kernel_rfl) (fun _ _ _ h => h) (Or.inl ⟨by rfl, ?_⟩) hS ?_
      · intro wy hy
        clear hy
        go_simp
      simp only [Act.put, List.setIfInBounds_toArray, List.set_cons_zero, List.set_cons_succ]
      refine wpAnyH_take (i := 1) (oi := ⟨some 13, _, _, _, _, none⟩) (v := .int .i64 (j : Int)) rfl (by kernel_rfl) (by kernel_rfl) (by kernel_rfl) (fun _ _ _ h => h) (Or.inl ⟨by rfl, ?_⟩) hS ?_
      · intro wy hy
        clear hy
        go_simp
      simp only [Act.put, List.setIfInBounds_toArray, List.set_cons_zero, List.set_cons_succ]
      refine wpAnyH_take (i := 2) (oi := ⟨some 14, _, _, _, _, none⟩) (v := .pointer (some ⟨b, o + j * 7, none⟩)) rfl (by kernel_rfl) (by kernel_rfl) (by kernel_rfl) (fun _ _ _ h => h) (Or.inl ⟨by rfl, ?_⟩) hS ?_
      · intro wy hy
        clear hy
        first | (go_simp; done) | (go_simp; intro hh; omega)
      simp only [Act.put, List.setIfInBounds_toArray, List.set_cons_zero, List.set_cons_succ]
      refine wpAnyH_take (i := 3) (oi := ⟨some 15, _, _, _, _, none⟩) (v := .pointer (some ⟨b, o + j * 7, none⟩)) rfl (by kernel_rfl) (by kernel_rfl) (by kernel_rfl) (fun _ _ _ h => h) (Or.inl ⟨by rfl, ?_⟩) hS ?_
      · intro wy hy
        clear hy
        go_simp
      simp only [Act.put, List.setIfInBounds_toArray, List.set_cons_zero, List.set_cons_succ]
      refine wpAnyH_take (i := 4) (oi := ⟨some 16, _, _, _, _, none⟩) (v := .string (mtOf y0)) rfl (by kernel_rfl) (by kernel_rfl) (by kernel_rfl) (fun _ _ _ h => h) (Or.inl ⟨by rfl, ?_⟩) hS ?_
      · intro wy hy
        have h0 := hy
        clear hy
        go_simp
      simp only [Act.put, List.setIfInBounds_toArray, List.set_cons_zero, List.set_cons_succ]
      refine wpAnyH_take (i := 5) (oi := ⟨some 17, _, _, _, _, none⟩) (v := .int .i64 (y0 : Int)) rfl (by kernel_rfl) (by kernel_rfl) (by kernel_rfl) (fun _ _ _ h => h) (Or.inl ⟨by rfl, ?_⟩) hS ?_
      · intro wy hy
        clear hy
        go_simp
      simp only [Act.put, List.setIfInBounds_toArray, List.set_cons_zero, List.set_cons_succ]
      refine wpAnyH_ready (rs := [6]) (by kernel_rfl) (by simp) (AllReadyH.cons (o := ⟨some 18, _, _, _, _, none⟩) rfl (fun K hK => ?_) AllReadyH.nil)
      go_simp
      refine (markText_any y0 _ (by omega) (by omega)).mono ?_
      rintro e wm0 ⟨rfl, hb1⟩
      have hd : Below wr.heap.size wr wm0 := (Below.refl _ wr).drew.trans hb1
      have HBm0 : Hid (Below w.heap.size w wm0) := hB.out.trans (hd.mono hB.out.size)
      have HCm0 := Hid.intro (HC.out.below hd)
      refine hK.out _ _ ((hd.cell (p := ⟨b, o + j * 7, none⟩) (block_lt_of_cell c0)).trans HCC.out) (fun hS => ?_)
      clear hK K
      clear hb1 hd HCC c0 hB HC
      refine wpAnyH_take (i := 7) (oi := ⟨some 19, _, _, _, _, none⟩) (v := .bool false) rfl (by kernel_rfl) (by kernel_rfl) (by kernel_rfl) (fun _ _ _ h => h) (Or.inl ⟨by rfl, ?_⟩) hS ?_
      · intro wy hy
        clear hy
        go_simp
      simp only [Act.put, List.setIfInBounds_toArray, List.set_cons_zero, List.set_cons_succ]
      refine wpAnyH_done (by kernel_rfl) ?_ _
      clear hS
      go_upto_region 7 with fail
      obtain ⟨y1, hy1⟩ : ∃ y : Nat, y = y0 + 1 := ⟨_, rfl⟩
      have hs1 : ((y0 : Int) + 1) = (y1 : Int) := by omega
      rw [hs1]
      have HY1 : Hid (y1 = k + j * 7 + 1) := by have := HY0.out; show _ = _; omega
      have hyl1 : y1 + 6 ≤ 1073741824 := by omega
      have hyp1 : 0 < y1 := by omega
      clear hs1 hy1
      have c1 : wm0.cell? ⟨b, o + j * 7 + 1, none⟩ = some (.int .i64 (y1 : Int)) := by
        have h := HCm0.out (j * 7 + 1) (by omega)
        rw [mvWnt_i (by omega)] at h
        have e := HY1.out
        rw [e, Nat.add_assoc k, show o + j * 7 + 1 = o + (j * 7 + 1) by omega]
        exact h
      go_upto_region 10 with fail
      clear c1
      obtain ⟨y2, hy2⟩ : ∃ y : Nat, y = y1 + 1 := ⟨_, rfl⟩
      have hs2 : ((y1 : Int) + 1) = (y2 : Int) := by omega
      rw [hs2]
      have HY2 : Hid (y2 = k + j * 7 + 2) := by have := HY1.out; show _ = _; omega
      have hyl2 : y2 + 5 ≤ 1073741824 := by omega
      have hyp2 : 0 < y2 := by omega
      clear hs2 hy2
      have c2 : wm0.cell? ⟨b, o + j * 7 + 2, none⟩ = some (.string (mtOf y2)) := by
        have h := HCm0.out (j * 7 + 2) (by omega)
        rw [mvWnt_s (by omega)] at h
        have e := HY2.out
        rw [e, Nat.add_assoc k, show o + j * 7 + 2 = o + (j * 7 + 2) by omega]
        exact h
      have HCC := Hid.intro c2
      go_upto_region 10 with fail
      refine wp_region_held_drew (S := fun wy => wy.cell? ⟨b, o + j * 7 + 2, none⟩ = some (.string (mtOf y2))) (by kernel_rfl) (by simpa using c2) (fun hS => ?_)
      refine wpAnyH_take (i := 0) (oi := ⟨some 31, _, _, _, _, none⟩) (v := .slice (some ⟨b, o, none⟩) n cap) rfl (by kernel_rfl) (by kernel_rfl) (by kernel_rfl) (fun _ _ _ h => h) (Or.inl ⟨by rfl, ?_⟩) hS ?_
      · intro wy hy
        clear hy
        go_simp
      simp only [Act.put, List.setIfInBounds_toArray, List.set_cons_zero, List.set_cons_succ]
      refine wpAnyH_take (i := 1) (oi := ⟨some 32, _, _, _, _, none⟩) (v := .int .i64 (j : Int)) rfl (by kernel_rfl) (by kernel_rfl) (by kernel_rfl) (fun _ _ _ h => h) (Or.inl ⟨by rfl, ?_⟩) hS ?_
      · intro wy hy
        clear hy
        go_simp
      simp only [Act.put, List.setIfInBounds_toArray, List.set_cons_zero, List.set_cons_succ]
      refine wpAnyH_take (i := 2) (oi := ⟨some 33, _, _, _, _, none⟩) (v := .pointer (some ⟨b, o + j * 7, none⟩)) rfl (by kernel_rfl) (by kernel_rfl) (by kernel_rfl) (fun _ _ _ h => h) (Or.inl ⟨by rfl, ?_⟩) hS ?_
      · intro wy hy
        clear hy
        first | (go_simp; done) | (go_simp; intro hh; omega)
      simp only [Act.put, List.setIfInBounds_toArray, List.set_cons_zero, List.set_cons_succ]
      refine wpAnyH_take (i := 3) (oi := ⟨some 34, _, _, _, _, none⟩) (v := .pointer (some ⟨b, o + j * 7 + 2, none⟩)) rfl (by kernel_rfl) (by kernel_rfl) (by kernel_rfl) (fun _ _ _ h => h) (Or.inl ⟨by rfl, ?_⟩) hS ?_
      · intro wy hy
        clear hy
        go_simp
      simp only [Act.put, List.setIfInBounds_toArray, List.set_cons_zero, List.set_cons_succ]
      refine wpAnyH_take (i := 4) (oi := ⟨some 35, _, _, _, _, none⟩) (v := .string (mtOf y2)) rfl (by kernel_rfl) (by kernel_rfl) (by kernel_rfl) (fun _ _ _ h => h) (Or.inl ⟨by rfl, ?_⟩) hS ?_
      · intro wy hy
        have h0 := hy
        clear hy
        go_simp
      simp only [Act.put, List.setIfInBounds_toArray, List.set_cons_zero, List.set_cons_succ]
      refine wpAnyH_take (i := 5) (oi := ⟨some 36, _, _, _, _, none⟩) (v := .int .i64 (y2 : Int)) rfl (by kernel_rfl) (by kernel_rfl) (by kernel_rfl) (fun _ _ _ h => h) (Or.inl ⟨by rfl, ?_⟩) hS ?_
      · intro wy hy
        clear hy
        go_simp
      simp only [Act.put, List.setIfInBounds_toArray, List.set_cons_zero, List.set_cons_succ]
      refine wpAnyH_ready (rs := [6]) (by kernel_rfl) (by simp) (AllReadyH.cons (o := ⟨some 37, _, _, _, _, none⟩) rfl (fun K hK => ?_) AllReadyH.nil)
      go_simp
      refine (markText_any y2 _ (by omega) (by omega)).mono ?_
      rintro e wm2 ⟨rfl, hb1⟩
      have hd : Below wm0.heap.size wm0 wm2 := (Below.refl _ wm0).drew.trans hb1
      have HBm2 : Hid (Below w.heap.size w wm2) := HBm0.out.trans (hd.mono HBm0.out.size)
      have HCm2 := Hid.intro (HCm0.out.below hd)
      refine hK.out _ _ ((hd.cell (p := ⟨b, o + j * 7 + 2, none⟩) (block_lt_of_cell c2)).trans HCC.out) (fun hS => ?_)
      clear hK K
      clear hb1 hd HCC c2 HBm0 HCm0
      refine wpAnyH_take (i := 7) (oi := ⟨some 38, _, _, _, _, none⟩) (v := .bool false) rfl (by kernel_rfl) (by kernel_rfl) (by kernel_rfl) (fun _ _ _ h => h) (Or.inl ⟨by rfl, ?_⟩) hS ?_
      · intro wy hy
        clear hy
        go_simp
      simp only [Act.put, List.setIfInBounds_toArray, List.set_cons_zero, List.set_cons_succ]
      refine wpAnyH_done (by kernel_rfl) ?_ _
      clear hS
      go_upto_region 13 with fail
      obtain ⟨y3, hy3⟩ : ∃ y : Nat, y = y2 + 1 := ⟨_, rfl⟩
      have hs3 : ((y2 : Int) + 1) = (y3 : Int) := by omega
      rw [hs3]
      have HY3 : Hid (y3 = k + j * 7 + 3) := by have := HY2.out; show _ = _; omega
      have hyl3 : y3 + 4 ≤ 1073741824 := by omega
      have hyp3 : 0 < y3 := by omega
      clear hs3 hy3
      have c3 : wm2.cell? ⟨b, o + j * 7 + 3, none⟩ = some (.int .i64 (y3 : Int)) := by
        have h := HCm2.out (j * 7 + 3) (by omega)
        rw [mvWnt_i (by omega)] at h
        have e := HY3.out
        rw [e, Nat.add_assoc k, show o + j * 7 + 3 = o + (j * 7 + 3) by omega]
        exact h
      go_upto_region 16 with fail
      clear c3
      obtain ⟨y4, hy4⟩ : ∃ y : Nat, y = y3 + 1 := ⟨_, rfl⟩
      have hs4 : ((y3 : Int) + 1) = (y4 : Int) := by omega
      rw [hs4]
      have HY4 : Hid (y4 = k + j * 7 + 4) := by have := HY3.out; show _ = _; omega
      have hyl4 : y4 + 3 ≤ 1073741824 := by omega
      have hyp4 : 0 < y4 := by omega
      clear hs4 hy4
      have c4 : wm2.cell? ⟨b, o + j * 7 + 4, none⟩ = some (.int .i64 (y4 : Int)) := by
        have h := HCm2.out (j * 7 + 4) (by omega)
        rw [mvWnt_i (by omega)] at h
        have e := HY4.out
        rw [e, Nat.add_assoc k, show o + j * 7 + 4 = o + (j * 7 + 4) by omega]
        exact h
      go_upto_region 19 with fail
      clear c4
      obtain ⟨y5, hy5⟩ : ∃ y : Nat, y = y4 + 1 := ⟨_, rfl⟩
      have hs5 : ((y4 : Int) + 1) = (y5 : Int) := by omega
      rw [hs5]
      have HY5 : Hid (y5 = k + j * 7 + 5) := by have := HY4.out; show _ = _; omega
      have hyl5 : y5 + 2 ≤ 1073741824 := by omega
      have hyp5 : 0 < y5 := by omega
      clear hs5 hy5
      have c5 : wm2.cell? ⟨b, o + j * 7 + 5, none⟩ = some (.int .i64 (y5 : Int)) := by
        have h := HCm2.out (j * 7 + 5) (by omega)
        rw [mvWnt_i (by omega)] at h
        have e := HY5.out
        rw [e, Nat.add_assoc k, show o + j * 7 + 5 = o + (j * 7 + 5) by omega]
        exact h
      go_upto_region 22 with fail
      clear c5
      obtain ⟨y6, hy6⟩ : ∃ y : Nat, y = y5 + 1 := ⟨_, rfl⟩
      have hs6 : ((y5 : Int) + 1) = (y6 : Int) := by omega
      rw [hs6]
      have HY6 : Hid (y6 = k + j * 7 + 6) := by have := HY5.out; show _ = _; omega
      have hyl6 : y6 + 1 ≤ 1073741824 := by omega
      have hyp6 : 0 < y6 := by omega
      clear hs6 hy6
      have c6 : wm2.cell? ⟨b, o + j * 7 + 6, none⟩ = some (.int .i64 (y6 : Int)) := by
        have h := HCm2.out (j * 7 + 6) (by omega)
        rw [mvWnt_i (by omega)] at h
        have e := HY6.out
        rw [e, Nat.add_assoc k, show o + j * 7 + 6 = o + (j * 7 + 6) by omega]
        exact h
      have hend : ((y6 : Int) + 1) = ((k + (j + 1) * 7 : Nat) : Int) := by have := HY6.out; omega
      go_wp2_with fail
      go_roundw
      case rel => exact ⟨j + 1, by omega, by go_num, by first | rw [hend] | go_num, HBm2⟩
      case measure => simp [intOf]; omega
    · have hje : j = n := by omega
      subst hje
      go_wp2_with fail
      go_ret
      exact ⟨rfl, hB.out⟩

end Go.Proofs.YtlangcodelcncaaGreat
