/-
  Runs marked, and the marks looked up. Made by mkmw4.py.
-/
import Derived.Test.YtlegklkbmifdeaaAks
import Derived.Test.YtlegklkbmifdeaaMrk
import Derived.Deep.RegionHeld3
namespace Go.Proofs.Ytlegklkbmifdeaa
open Go.RowKit

/-- the mark of a cell -/
def mvAks (k t : Nat) : Value := if t % 4 = 0 ∨ t % 4 = 1 then .string (mtOf (k + t)) else .int .i64 ((k + t : Nat) : Int)

/-- the first n cells hold the marks from k on -/
def MkdCAks (w : World) (b o n k : Nat) : Prop := ∀ t, t < n → w.cell? ⟨b, o + t, none⟩ = some (mvAks k t)

theorem MkdCAks.below {w w' : World} {b o n k : Nat} (h : MkdCAks w b o n k) (hb : Below w.heap.size w w') : MkdCAks w' b o n k :=
  fun t ht => (hb.cell (p := ⟨b, o + t, none⟩) (block_lt_of_cell (h t ht))).trans (h t ht)

theorem MkdCAks.set {w : World} {b o n k p : Nat} {u v : Value} (h : MkdCAks w b o n k) (hp : p = o + n) (c : w.cell? ⟨b, p, none⟩ = some u) (hv : v = mvAks k n) : MkdCAks (w.setCell ⟨b, p, none⟩ v) b o (n + 1) k := by
  subst hp hv
  intro t ht
  by_cases e : t = n
  · subst e
    exact World.cell?_setCell_same _ _ _ c
  · rw [World.cell?_setCell_other _ _ _ _ (fun h => by injection h with _ h _; omega)]
    exact h t (by omega)

theorem mvAks_s {k t : Nat} (h : t % 4 = 0 ∨ t % 4 = 1) : mvAks k t = .string (mtOf (k + t)) := if_pos h
theorem mvAks_i {k t : Nat} (h : ¬ (t % 4 = 0 ∨ t % 4 = 1)) : mvAks k t = .int .i64 ((k + t : Nat) : Int) := if_neg h

/-- n runs hold the marks from k on -/
def MkdRAks (w : World) (a : Option Addr) (n k : Nat) : Prop := n = 0 ∨ ∃ b o, a = some ⟨b, o, none⟩ ∧ MkdCAks w b o (n * 4) k

theorem MkdRAks.below {w w' : World} {a : Option Addr} {n k : Nat} (h : MkdRAks w a n k) (hb : Below w.heap.size w w') : MkdRAks w' a n k := by
  rcases h with h | ⟨b, o, e, h⟩
  · exact .inl h
  · exact .inr ⟨b, o, e, h.below hb⟩

set_option maxHeartbeats 8000000 in
set_option maxRecDepth 100000 in
theorem markAksV_any (xs : List Aks) (a : Option Addr) (cap lo : Nat) (k : Nat) (wx ws w : World) (hin : SliceC AksC 4 lo wx a xs) (hlo : 0 < lo) (hm : Mkd lo wx ws w) (h0 : 0 < k) (h1 : k + xs.length * 4 ≤ 1073741824) :
    Calls Try.prog 28 #[.slice a xs.length cap, .int .i64 k] w fun e w' => e = .returned (.int .i64 ((k + xs.length * 4 : Nat) : Int)) ∧ MkdRAks w' a xs.length k ∧ Mkd lo wx ws w' := by
  have HI := Hid.intro hin
  have HM := Hid.intro hm
  clear hin hm
  go_enter Try.func28, Try.ntmps28
  go_wp2_with fail
  go_loopw [1, 5] (fun v i wr => ∃ j : Nat, j ≤ xs.length ∧ i = .int .i64 j ∧ v = .int .i64 ((k + j * 4 : Nat) : Int) ∧ Hid (MkdRAks wr a j k) ∧ Hid (Mkd lo wx ws wr)) (fun _ i _ => xs.length - (intOf i).toNat)
  case atStart => exact ⟨0, Nat.zero_le _, rfl, by simp, .inl rfl, HM⟩
  case round =>
    clear HM
    obtain ⟨j, hj, rfl, rfl, hV, hM⟩ := hrel
    by_cases hlt : j < xs.length
    · obtain ⟨x, hx⟩ : ∃ x, xs[j]? = some x := ⟨xs[j], List.getElem?_eq_getElem hlt⟩
      obtain ⟨b, o, rfl, hb0, hbl, hc⟩ := HI.out.at hx
      obtain ⟨q0, q1, q2, q3, _, _⟩ := hc
      simp only [Nat.add_zero] at q0
      have hne : xs ≠ [] := fun e => by rw [e] at hlt; exact absurd hlt (Nat.not_lt_zero _)
      have HFZ : Hid (∀ p, wx.frozen? ⟨b, p, none⟩ = false) := HI.out.frz hne hlo
      have i0 : (0 : Int) ≤ (j : Int) := by omega
      have i1 : (j : Int) < (xs.length : Int) := by omega
      have C0 : Hid (MkdCAks wr b o (j * 4) k) := by
        rcases hV.out with h | ⟨b', o', e, h⟩
        · intro t ht; omega
        · cases e; exact h
      have hkb : k + j * 4 + 4 ≤ 1073741824 := by omega
      have Q0 := Hid.intro q0
      have Q1 := Hid.intro q1
      have Q2 := Hid.intro q2
      have Q3 := Hid.intro q3
      clear hx hne hV q0 q1 q2 q3
      obtain ⟨y0, hy0⟩ : ∃ y : Nat, y = k + j * 4 := ⟨_, rfl⟩
      have HY0 := Hid.intro hy0
      have hs0 : ((k + j * 4 : Nat) : Int) = (y0 : Int) := by rw [hy0]
      rw [hs0]
      clear hs0
      have hyl : y0 + 4 ≤ 1073741824 := by omega
      have hyp : 0 < y0 := by omega
      clear hy0
      go_wp2_with fail
      refine (markText_any y0 _ (by omega) (by omega)).mono ?_
      rintro e wa0 ⟨rfl, hb0⟩
      have Ma0 := Hid.intro (hM.out.below hb0)
      have Ca0 := Hid.intro (C0.out.below hb0)
      clear hb0 hM C0
      obtain ⟨u0, d0⟩ := Ma0.out.so b (o + j * 4) _ Q0.out
      have g0 := (Ma0.out.fz b (o + j * 4) hbl).trans (HFZ.out (o + j * 4))
      have Mb0 := Hid.intro (Ma0.out.set hb0 Q0.out rfl (.string (mtOf y0)))
      have Cb0 : Hid (MkdCAks (wa0.setCell ⟨b, o + j * 4, none⟩ (.string (mtOf y0))) b o (j * 4 + 1) k) := Ca0.out.set (n := j * 4) (by omega) d0 (by rw [mvAks_s (by omega), HY0.out])
      go_upto_region 5 with fail
      clear d0 g0 Ma0 Ca0
      generalize wa0.setCell ⟨b, o + j * 4, none⟩ (.string (mtOf y0)) = wb0 at *
      go_upto_region 6 with fail
      obtain ⟨y1, hy1⟩ : ∃ y : Nat, y = y0 + 1 := ⟨_, rfl⟩
      have hs1 : ((y0 : Int) + 1) = (y1 : Int) := by omega
      rw [hs1]
      have HY1 : Hid (y1 = k + j * 4 + 1) := by have := HY0.out; show _ = _; omega
      have hyl1 : y1 + 3 ≤ 1073741824 := by omega
      have hyp1 : 0 < y1 := by omega
      clear hs1 hy1
      go_wp2_with fail
      refine (markText_any y1 _ (by omega) (by omega)).mono ?_
      rintro e wa1 ⟨rfl, hb1⟩
      have Ma1 := Hid.intro (Mb0.out.below hb1)
      have Ca1 := Hid.intro (Cb0.out.below hb1)
      clear hb1 Mb0 Cb0
      obtain ⟨u1, d1⟩ := Ma1.out.so b (o + j * 4 + 1) _ Q1.out
      have g1 := (Ma1.out.fz b (o + j * 4 + 1) hbl).trans (HFZ.out (o + j * 4 + 1))
      have Mb1 := Hid.intro (Ma1.out.set hb0 Q1.out rfl (.string (mtOf y1)))
      have Cb1 : Hid (MkdCAks (wa1.setCell ⟨b, o + j * 4 + 1, none⟩ (.string (mtOf y1))) b o (j * 4 + 1 + 1) k) := Ca1.out.set (n := j * 4 + 1) (by omega) d1 (by rw [mvAks_s (by omega), HY1.out, Nat.add_assoc])
      go_upto_region 7 with fail
      clear d1 g1 Ma1 Ca1
      generalize wa1.setCell ⟨b, o + j * 4 + 1, none⟩ (.string (mtOf y1)) = wb1 at *
      go_upto_region 8 with fail
      obtain ⟨y2, hy2⟩ : ∃ y : Nat, y = y1 + 1 := ⟨_, rfl⟩
      have hs2 : ((y1 : Int) + 1) = (y2 : Int) := by omega
      rw [hs2]
      have HY2 : Hid (y2 = k + j * 4 + 2) := by have := HY1.out; show _ = _; omega
      have hyl2 : y2 + 2 ≤ 1073741824 := by omega
      have hyp2 : 0 < y2 := by omega
      clear hs2 hy2
      obtain ⟨u2, d2⟩ := Mb1.out.so b (o + j * 4 + 2) _ Q2.out
      have g2 := (Mb1.out.fz b (o + j * 4 + 2) hbl).trans (HFZ.out (o + j * 4 + 2))
      have Mb2 := Hid.intro (Mb1.out.set hb0 Q2.out rfl (.int .i64 (y2 : Int)))
      have Cb2 : Hid (MkdCAks (wb1.setCell ⟨b, o + j * 4 + 2, none⟩ (.int .i64 (y2 : Int))) b o (j * 4 + 2 + 1) k) := Cb1.out.set (n := j * 4 + 2) (by omega) d2 (by rw [mvAks_i (by omega), HY2.out, Nat.add_assoc])
      go_upto_region 9 with fail
      clear d2 g2 Mb1 Cb1
      generalize wb1.setCell ⟨b, o + j * 4 + 2, none⟩ (.int .i64 (y2 : Int)) = wb2 at *
      go_upto_region 10 with fail
      obtain ⟨y3, hy3⟩ : ∃ y : Nat, y = y2 + 1 := ⟨_, rfl⟩
      have hs3 : ((y2 : Int) + 1) = (y3 : Int) := by omega
      rw [hs3]
      have HY3 : Hid (y3 = k + j * 4 + 3) := by have := HY2.out; show _ = _; omega
      have hyl3 : y3 + 1 ≤ 1073741824 := by omega
      have hyp3 : 0 < y3 := by omega
      clear hs3 hy3
      obtain ⟨u3, d3⟩ := Mb2.out.so b (o + j * 4 + 3) _ Q3.out
      have g3 := (Mb2.out.fz b (o + j * 4 + 3) hbl).trans (HFZ.out (o + j * 4 + 3))
      have Mb3 := Hid.intro (Mb2.out.set hb0 Q3.out rfl (.int .i64 (y3 : Int)))
      have Cb3 : Hid (MkdCAks (wb2.setCell ⟨b, o + j * 4 + 3, none⟩ (.int .i64 (y3 : Int))) b o (j * 4 + 3 + 1) k) := Cb2.out.set (n := j * 4 + 3) (by omega) d3 (by rw [mvAks_i (by omega), HY3.out, Nat.add_assoc])
      go_upto_region 11 with fail
      clear d3 g3 Mb2 Cb2
      generalize wb2.setCell ⟨b, o + j * 4 + 3, none⟩ (.int .i64 (y3 : Int)) = wb3 at *
      have HR : Hid (MkdRAks wb3 (some ⟨b, o, none⟩) (j + 1) k) := .inr ⟨b, o, rfl, by
        have h := Cb3.out
        rw [show j * 4 + 3 + 1 = (j + 1) * 4 by omega] at h
        exact h⟩
      have hend : ((y3 : Int) + 1) = ((k + (j + 1) * 4 : Nat) : Int) := by have := HY3.out; omega
      go_wp2_with fail
      go_roundw
      case rel => exact ⟨j + 1, by omega, by go_num, by first | rw [hend] | go_num, HR, Mb3⟩
      case measure => simp [intOf]; omega
    · have hje : j = xs.length := by omega
      subst hje
      go_wp2_with fail
      go_ret
      exact ⟨rfl, hV.out, hM.out⟩

end Go.Proofs.Ytlegklkbmifdeaa
