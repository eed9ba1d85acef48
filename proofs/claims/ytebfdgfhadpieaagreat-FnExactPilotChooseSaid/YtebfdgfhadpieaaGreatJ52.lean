import Derived.Test.YtebfdgfhadpieaaGreatJ47
import Derived.Test.YtebfdgfhadpieaaGreatChs
import Derived.ProofKit
import Derived.OpenShut
import Derived.Deep.Slices
namespace Go.Proofs.YtebfdgfhadpieaaGreat
open Go.RowKit Go.WideMaps Go.Maps
def TwoIn (b b0 : Nat) (x : Flt) (a1 : Option Addr) (c1 : Nat) (a2 : Option Addr) (c2 : Nat) (a3 : Option Addr) (c3 : Nat) (d1 : Option Addr) (e1 : Nat) (d2 : Option Addr) (e2 : Nat) (d3 : Option Addr) (e3 : Nat) (w : World) : Prop :=
 FltIn b x a1 c1 a2 c2 a3 c3 w ∧ FltIn b0 x d1 e1 d2 e2 d3 e3 w
theorem len_b {x : Flt} (h : wFlt x ≤ 1048576) : x.berths.length ≤ 1048576 := by have := wS_len (f := wBrt) (xs := x.berths); unfold wFlt at h; omega
theorem len_s {x : Flt} (h : wFlt x ≤ 1048576) : x.services.length ≤ 1048576 := by have := wS_len (f := wSvc) (xs := x.services); unfold wFlt at h; omega
theorem len_c {x : Flt} (h : wFlt x ≤ 1048576) : x.copies.length ≤ 1048576 := by have := wS_len (f := wCpy) (xs := x.copies); unfold wFlt at h; omega
set_option maxHeartbeats 2000000 in
set_option maxRecDepth 100000 in
theorem law_any (x : Flt) (a1 : Option Addr) (c1 : Nat) (a2 : Option Addr) (c2 : Nat) (a3 : Option Addr) (c3 : Nat) (lo : Nat) (s : ByteArray) (w : World) (n1 : SliceC BrtC 6 lo w a1 x.berths) (n2 : SliceC SvcC 2 lo w a2 x.services) (n3 : SliceC CpyC 12 lo w a3 x.copies) (hsl : s.size ≤ maxLen) :
  Calls Tryz.prog 3 #[.agg #[.bool x.pack, .slice a1 x.berths.length c1, .slice a2 x.services.length c2, .slice a3 x.copies.length c3], .string s] w fun e w' => e = .returned (.bool true) ∧ Below w.heap.size w w' := by
 have N1 : Hid (SliceC BrtC 6 lo w a1 x.berths) := n1
 have N2 : Hid (SliceC SvcC 2 lo w a2 x.services) := n2
 have N3 : Hid (SliceC CpyC 12 lo w a3 x.copies) := n3
 have HSL : Hid (s.size ≤ maxLen) := hsl
 unfold maxLen at hsl
 clear n1 n2 n3
 by_cases hbig : (1048576 : Int) < s.size
 ·go_enter Tryz.func3, Tryz.ntmps3
  go_wp2_with fail
  go_ret
  exact ⟨rfl, by go_grown⟩
 go_enter Tryz.func3, Tryz.ntmps3
 go_wp2_with fail
 refine (szFlt_any x a1 c1 a2 c2 a3 c3 lo 1048576 _ (N1.out.below BrtC.holds (B := w.heap.size) (by go_grown) nL) (N2.out.below SvcC.holds (B := w.heap.size) (by go_grown) nL) (N3.out.below CpyC.holds (B := w.heap.size) (by go_grown) nL) (by omega) (by omega)).mono ?_
 rintro e w1 ⟨rfl, hb1⟩
 have HF1 : Hid (FltIn w.heap.size x a1 c1 a2 c2 a3 c3 w1) := FltIn.below (b := w.heap.size) ⟨by simp, by simp, by simp, by simp⟩ hb1 (by simp)
 have HB1 : Hid (Below w.heap.size w w1) := (show Below w.heap.size w _ by go_grown).trans (hb1.mono (by simp))
 clear hb1
 by_cases hz' : ¬ ((wFlt x : Nat) : Int) ≤ 1048576
 ·have hz := hz'
  rw [szR_neg hz]
  go_wp2_with fail
  go_ret
  exact ⟨rfl, HB1.out⟩
 have hz := Classical.not_not.1 hz'
 clear hz'
 rw [szR_pos hz]
 have hwx : wFlt x ≤ 1048576 := by omega
 have HM : Hid (wFlt x ≤ 1048576) := hwx
 have hz0 : (0 : Int) ≤ 1048576 - (wFlt x : Nat) := by omega
 clear hwx hz
 generalize hR : (1048576 : Int) - (wFlt x : Nat) = R at *
 clear hR
 obtain ⟨f0, f1, f2, f3⟩ := HF1.out
 go_wp2_with fail
 refine (toFlt_any x a1 c1 a2 c2 a3 c3 lo _ (N1.out.below BrtC.holds (B := w.heap.size) HB1.out nL) (N2.out.below SvcC.holds (B := w.heap.size) HB1.out nL) (N3.out.below CpyC.holds (B := w.heap.size) HB1.out nL) HM.out).mono ?_
 rintro e w2 ⟨g1, g2, g3, rfl, q1, q2, q3, hb2⟩
 have HF2 : Hid (FltIn w.heap.size x a1 c1 a2 c2 a3 c3 w2) := HF1.out.below hb2 (block_lt_of_cell f0)
 have HB2 : Hid (Below w.heap.size w w2) := HB1.out.trans (hb2.mono HB1.out.size)
 have Q1 : Hid (SliceC BrtC 6 w1.heap.size w2 (some ⟨g1, 0, none⟩) x.berths) := q1
 have Q2 : Hid (SliceC SvcC 2 w1.heap.size w2 (some ⟨g2, 0, none⟩) x.services) := q2
 have Q3 : Hid (SliceC CpyC 12 w1.heap.size w2 (some ⟨g3, 0, none⟩) x.copies) := q3
 clear hb2 q1 q2 q3 f0 f1 f2 f3 HF1 HB1
 go_wp2_with fail
 refine (specChoose_any x (some ⟨g1, 0, none⟩) x.berths.length (some ⟨g2, 0, none⟩) x.services.length (some ⟨g3, 0, none⟩) x.copies.length w1.heap.size s _ Q1.out Q2.out Q3.out (len_b HM.out) (len_s HM.out) (len_c HM.out)).mono ?_
 rintro e w3 ⟨rfl, hb3⟩
 have HF3 : Hid (FltIn w.heap.size x a1 c1 a2 c2 a3 c3 w3) := HF2.out.below hb3 (block_lt_of_cell HF2.out.1)
 have HB3 : Hid (Below w.heap.size w w3) := HB2.out.trans (hb3.mono HB2.out.size)
 clear hb3 Q1 Q2 Q3 HF2 HB2
 obtain ⟨f0, f1, f2, f3⟩ := HF3.out
 go_wp2_with fail
 refine (toFlt_any x a1 c1 a2 c2 a3 c3 lo _ (N1.out.below BrtC.holds (B := w.heap.size) HB3.out nL) (N2.out.below SvcC.holds (B := w.heap.size) HB3.out nL) (N3.out.below CpyC.holds (B := w.heap.size) HB3.out nL) HM.out).mono ?_
 rintro e w4 ⟨g1, g2, g3, rfl, q1, q2, q3, hb4⟩
 have HF4 : Hid (FltIn w.heap.size x a1 c1 a2 c2 a3 c3 w4) := HF3.out.below hb4 (block_lt_of_cell f0)
 have HB4 : Hid (Below w.heap.size w w4) := HB3.out.trans (hb4.mono HB3.out.size)
 have Q1 : Hid (SliceC BrtC 6 w3.heap.size w4 (some ⟨g1, 0, none⟩) x.berths) := q1
 have Q2 : Hid (SliceC SvcC 2 w3.heap.size w4 (some ⟨g2, 0, none⟩) x.services) := q2
 have Q3 : Hid (SliceC CpyC 12 w3.heap.size w4 (some ⟨g3, 0, none⟩) x.copies) := q3
 clear hb4 q1 q2 q3 f0 f1 f2 f3 HF3 HB3
 go_wp2_with fail
 refine (implChoose_any x (some ⟨g1, 0, none⟩) x.berths.length (some ⟨g2, 0, none⟩) x.services.length (some ⟨g3, 0, none⟩) x.copies.length w3.heap.size s _ (Q1.out.below BrtC.holds (B := w4.heap.size) (by go_grown) nL) (Q2.out.below SvcC.holds (B := w4.heap.size) (by go_grown) nL) (Q3.out.below CpyC.holds (B := w4.heap.size) (by go_grown) nL) (len_b HM.out) (len_s HM.out) (len_c HM.out) HSL.out).mono ?_
 rintro e w5 ⟨rfl, hb5⟩
 have hz4 : w.heap.size < w4.heap.size := block_lt_of_cell HF4.out.1
 have hb45 : Below w4.heap.size w4 w5 := (show Below w4.heap.size w4 _ by go_grown).trans (hb5.mono (by simp))
 have HX5 : Hid (FltIn w4.heap.size x (some ⟨g1, 0, none⟩) x.berths.length (some ⟨g2, 0, none⟩) x.services.length (some ⟨g3, 0, none⟩) x.copies.length w5) := FltIn.below (b := w4.heap.size) ⟨by simp, by simp, by simp, by simp⟩ hb5 (by simp)
 have HF5 : Hid (FltIn w.heap.size x a1 c1 a2 c2 a3 c3 w5) := HF4.out.below hb45 hz4
 have HB5 : Hid (Below w.heap.size w w5) := HB4.out.trans (hb45.mono (by omega))
 have Q1' : Hid (SliceC BrtC 6 w3.heap.size w5 (some ⟨g1, 0, none⟩) x.berths) := Q1.out.below BrtC.holds hb45 nL
 have Q2' : Hid (SliceC SvcC 2 w3.heap.size w5 (some ⟨g2, 0, none⟩) x.services) := Q2.out.below SvcC.holds hb45 nL
 have Q3' : Hid (SliceC CpyC 12 w3.heap.size w5 (some ⟨g3, 0, none⟩) x.copies) := Q3.out.below CpyC.holds hb45 nL
 clear hb5 hb45 HF4 HB4 Q1 Q2 Q3
 generalize chooseR x s = U at *
 go_wp2_with fail
 refine wp_region_held_drew (S := TwoIn w.heap.size w4.heap.size x a1 c1 a2 c2 a3 c3 (some ⟨g1, 0, none⟩) x.berths.length (some ⟨g2, 0, none⟩) x.services.length (some ⟨g3, 0, none⟩) x.copies.length) (by kernel_rfl) ⟨HF5.out, HX5.out⟩ (fun hS => ?_)
 refine ty 0 ⟨some 29, _, _, _, _, none⟩ (.agg #[.bool x.pack, .slice (some ⟨g1, 0, none⟩) x.berths.length x.berths.length, .slice (some ⟨g2, 0, none⟩) x.services.length x.services.length, .slice (some ⟨g3, 0, none⟩) x.copies.length x.copies.length]) rfl (by rfl) ?_ hS ?_
 ·intro wy hy
  obtain ⟨⟨y0, y1, y2, y3⟩, v0, v1, v2, v3⟩ := hy
  go_simp
 simp only [pA,pB,pC,pD]
 refine ty 1 ⟨some 30, _, _, _, _, none⟩ (.agg #[.bool x.pack, .slice a1 x.berths.length c1, .slice a2 x.services.length c2, .slice a3 x.copies.length c3]) rfl (by rfl) ?_ hS ?_
 ·intro wy hy
  obtain ⟨⟨y0, y1, y2, y3⟩, v0, v1, v2, v3⟩ := hy
  go_simp
 simp only [pA,pB,pC,pD]
 refine rd1 2 ⟨some 31, _, _, _, _, none⟩ rfl (fun K hK => ?_)
 go_simp
 have hd : Below w.heap.size w w5.drew := HB5.out.drew
 refine (toFlt_any x a1 c1 a2 c2 a3 c3 lo _ (N1.out.below BrtC.holds (B := w.heap.size) hd nL) (N2.out.below SvcC.holds (B := w.heap.size) hd nL) (N3.out.below CpyC.holds (B := w.heap.size) hd nL) HM.out).mono ?_
 rintro e w6 ⟨h1, h2, h3, rfl, q1, q2, q3, hb6⟩
 have hd5 : Below w5.heap.size w5 w6 := (Below.refl _ w5).drew.trans hb6
 have HB6 : Hid (Below w.heap.size w w6) := HB5.out.trans (hd5.mono HB5.out.size)
 have P1 : Hid (SliceC BrtC 6 w5.drew.heap.size w6 (some ⟨h1, 0, none⟩) x.berths) := q1
 have P2 : Hid (SliceC SvcC 2 w5.drew.heap.size w6 (some ⟨h2, 0, none⟩) x.services) := q2
 have P3 : Hid (SliceC CpyC 12 w5.drew.heap.size w6 (some ⟨h3, 0, none⟩) x.copies) := q3
 have Q1 : Hid (SliceC BrtC 6 w3.heap.size w6 (some ⟨g1, 0, none⟩) x.berths) := Q1'.out.below BrtC.holds hd5 nL
 have Q2 : Hid (SliceC SvcC 2 w3.heap.size w6 (some ⟨g2, 0, none⟩) x.services) := Q2'.out.below SvcC.holds hd5 nL
 have Q3 : Hid (SliceC CpyC 12 w3.heap.size w6 (some ⟨g3, 0, none⟩) x.copies) := Q3'.out.below CpyC.holds hd5 nL
 refine hK.out _ _ ⟨HF5.out.below hd5 (block_lt_of_cell HF5.out.1), HX5.out.below hd5 (block_lt_of_cell HX5.out.1)⟩ (fun hS => ?_)
 clear q1 q2 q3 hb6 hd5 hd Q1' Q2' Q3'
 clear hK K
 refine rd1 3 ⟨some 32, _, _, _, _, none⟩ rfl (fun K hK => ?_)
 go_simp
 refine (eqFlt_any x (some ⟨g1, 0, none⟩) x.berths.length (some ⟨g2, 0, none⟩) x.services.length (some ⟨g3, 0, none⟩) x.copies.length (some ⟨h1, 0, none⟩) x.berths.length (some ⟨h2, 0, none⟩) x.services.length (some ⟨h3, 0, none⟩) x.copies.length w3.heap.size w5.drew.heap.size _ Q1.out Q2.out Q3.out P1.out P2.out P3.out HM.out).mono ?_
 rintro e w7 ⟨rfl, hb7⟩
 have HB7 : Hid (Below w.heap.size w w7) := HB6.out.trans (hb7.mono HB6.out.size)
 refine hK.out _ _ ⟨hS.1.below hb7 (block_lt_of_cell hS.1.1), hS.2.below hb7 (block_lt_of_cell hS.2.1)⟩ (fun hS => ?_)
 clear hK K
 refine ty 4 ⟨some 33, _, _, _, _, none⟩ (.bool false) rfl (by rfl) ?_ hS ?_
 ·intro wy hy
  obtain ⟨⟨y0, y1, y2, y3⟩, v0, v1, v2, v3⟩ := hy
  go_simp
 simp only [pA,pB,pC,pD]
 refine td ?_
 go_wp2_with fail
 go_ret
 exact ⟨rfl, HB7.out⟩
end Go.Proofs.YtebfdgfhadpieaaGreat
namespace Go.Proofs.YtebfdgfhadpieaaGreat
open Go.RowKit
theorem list_of {α : Type} {p : Nat → α → Prop} : ∀ (len : Nat), (∀ i, i < len → ∃ x, p i x) → ∃ l : List α, l.length = len ∧ ∀ i x, l[i]? = some x → p i x
 | 0, _ => ⟨[], rfl, fun i x h => by simp at h⟩
 | n + 1, h => by
  obtain ⟨l, hl, hp⟩ := list_of n (fun i hi => h i (by omega))
  obtain ⟨x, hx⟩ := h n (by omega)
  refine ⟨l ++ [x], by simp [hl], fun i y hy => ?_⟩
  by_cases hi : i < l.length
  ·rw [List.getElem?_append_left hi] at hy
   exact hp i y hy
  ·have hie : i = l.length := by have := lt_of_some hy; simp at this; omega
   subst hie
   simp at hy
   subst hy
   rw [hl]
   exact hx
section
variable {H : Type} {enc : TypeId × Value → H} {w : World} {base : Nat} {spare : Nat → Bool} {held : Bool}
theorem open_rows {α : Type} {C : Make α} {n : Nat} {a : Addr} {len : Nat} (hC : Holds C n) (hn : 0 < n) (hl : len ≤ maxLen)
  (h : ∀ i, i < len → ∃ x, ∃ cs : List Value, cs.length = n ∧ (∀ j, j < n → w.cell? ((a.add (i * n)).add j) = cs[j]?) ∧ C 0 w (fun j => cs[j]?) x) : ∃ xs, xs.length = len ∧ SliceC C n 0 w (some a) xs := by
 obtain ⟨xs, hx, hp⟩ := list_of len h
 refine ⟨xs, hx, by omega, ?_⟩
 by_cases h0 : len = 0
 ·left
  exact List.length_eq_zero_iff.1 (by omega)
 ·right
  obtain ⟨b, o, spot⟩ := a
  obtain ⟨x0, hx0⟩ : ∃ x, xs[0]? = some x := ⟨xs[0], List.getElem?_eq_getElem (by omega)⟩
  obtain ⟨cs, hcl, hcell, _⟩ := hp 0 x0 hx0
  have hc0 := hcell 0 hn
  rw [List.getElem?_eq_getElem (by omega)] at hc0
  have hspot : spot = none := by simpa [Addr.add] using World.cell?_spot hc0
  subst hspot
  have key : ∀ x y, ((⟨b, o, none⟩ : Addr).add x).add y = ⟨b, o + x + y, none⟩ := fun x y => by cases x <;> cases y <;> simp [Addr.add]
  refine ⟨b, o, rfl, ⟨Nat.zero_le _, fun h => absurd h (Nat.lt_irrefl 0)⟩, ?_, fun j x hj => ?_⟩
  ·rw [key] at hc0
   exact block_lt_of_cell hc0
  ·obtain ⟨cs', _, hcell', hC'⟩ := hp j x hj
   exact hC 0 0 w w _ _ x (fun i hi => by rw [← hcell' i hi, key]) (Keeps.refl _ _) nL hC'
theorem field_of {P : Program} {n : Nat} {cs : List Value} {fs : Array Field} {xs : List (DataW H × List MemPlace)} (hlen : xs.length = fs.size)
  (hf : ∀ (i : Nat) (f : Field), fs[i]? = some f → DataW.trod enc P w base spare held n f.type ((cs.drop f.offset).take (P.cellsOf f.type)) = xs[i]?) (i : Nat) (f : Field) (hi : fs[i]? = some f) :
  ∃ y, DataW.trod enc P w base spare held n f.type ((cs.drop f.offset).take (P.cellsOf f.type)) = some y := by
 have hlt : i < xs.length := by
  rcases Nat.lt_or_ge i fs.size with h | h
  ·omega
  ·rw [Array.getElem?_eq_none h] at hi; cases hi
 exact ⟨xs[i], (hf i f hi).trans (List.getElem?_eq_getElem hlt)⟩
theorem c1_int : Tryz.prog.cellsOf 3 = 1 := by kernel_rfl
theorem c1_str : Tryz.prog.cellsOf 9 = 1 := by kernel_rfl
theorem c1_bool : Tryz.prog.cellsOf 4 = 1 := by kernel_rfl
theorem c1_sStr : Tryz.prog.cellsOf 59 = 1 := by kernel_rfl
theorem c1_sLik : Tryz.prog.cellsOf 71 = 1 := by kernel_rfl
theorem cn_Lik : Tryz.prog.cellsOf 140 = 2 := by kernel_rfl
theorem c1_sSvc : Tryz.prog.cellsOf 23 = 1 := by kernel_rfl
theorem cn_Svc : Tryz.prog.cellsOf 69 = 2 := by kernel_rfl
theorem c1_sBrt : Tryz.prog.cellsOf 22 = 1 := by kernel_rfl
theorem cn_Brt : Tryz.prog.cellsOf 66 = 6 := by kernel_rfl
theorem c1_sCpy : Tryz.prog.cellsOf 24 = 1 := by kernel_rfl
theorem cn_Cpy : Tryz.prog.cellsOf 73 = 12 := by kernel_rfl
theorem cn_Flt : Tryz.prog.cellsOf 26 = 4 := by kernel_rfl
theorem list2 {cs : List Value} (h : cs.length = 2) : ∃ c0 c1, cs = [c0, c1] := by
 match cs, h with
 | [c0, c1], _ => exact ⟨_, _, rfl⟩
theorem list4 {cs : List Value} (h : cs.length = 4) : ∃ c0 c1 c2 c3, cs = [c0, c1, c2, c3] := by
 match cs, h with
 | [c0, c1, c2, c3], _ => exact ⟨_, _, _, _, rfl⟩
theorem list6 {cs : List Value} (h : cs.length = 6) : ∃ c0 c1 c2 c3 c4 c5, cs = [c0, c1, c2, c3, c4, c5] := by
 match cs, h with
 | [c0, c1, c2, c3, c4, c5], _ => exact ⟨_, _, _, _, _, _, rfl⟩
theorem list12 {cs : List Value} (h : cs.length = 12) : ∃ c0 c1 c2 c3 c4 c5 c6 c7 c8 c9 c10 c11, cs = [c0, c1, c2, c3, c4, c5, c6, c7, c8, c9, c10, c11] := by
 match cs, h with
 | [c0, c1, c2, c3, c4, c5, c6, c7, c8, c9, c10, c11], _ => exact ⟨_, _, _, _, _, _, _, _, _, _, _, _, rfl⟩
theorem parts2 {P : Program} {t : TypeId} {f0 f1 : Field} {fuel : Nat} {cs : List Value} {x : DataW H × List MemPlace} (ht : P.underlying t = some (.struct #[f0, f1])) (h : DataW.trod enc P w base spare held fuel t cs = some x) :
  cs.length = P.cellsOf t ∧ ∃ n, (∃ y, DataW.trod enc P w base spare held n f0.type ((cs.drop f0.offset).take (P.cellsOf f0.type)) = some y) ∧ (∃ y, DataW.trod enc P w base spare held n f1.type ((cs.drop f1.offset).take (P.cellsOf f1.type)) = some y) := by
 obtain ⟨xs, n, _, _, hl, hlen, hf⟩ := DataW.trod_struct ht h
 exact ⟨hl, n, field_of hlen hf 0 f0 rfl, field_of hlen hf 1 f1 rfl⟩
theorem parts4 {P : Program} {t : TypeId} {f0 f1 f2 f3 : Field} {fuel : Nat} {cs : List Value} {x : DataW H × List MemPlace} (ht : P.underlying t = some (.struct #[f0, f1, f2, f3])) (h : DataW.trod enc P w base spare held fuel t cs = some x) :
  cs.length = P.cellsOf t ∧ ∃ n, (∃ y, DataW.trod enc P w base spare held n f0.type ((cs.drop f0.offset).take (P.cellsOf f0.type)) = some y) ∧ (∃ y, DataW.trod enc P w base spare held n f1.type ((cs.drop f1.offset).take (P.cellsOf f1.type)) = some y) ∧ (∃ y, DataW.trod enc P w base spare held n f2.type ((cs.drop f2.offset).take (P.cellsOf f2.type)) = some y) ∧ (∃ y, DataW.trod enc P w base spare held n f3.type ((cs.drop f3.offset).take (P.cellsOf f3.type)) = some y) := by
 obtain ⟨xs, n, _, _, hl, hlen, hf⟩ := DataW.trod_struct ht h
 exact ⟨hl, n, field_of hlen hf 0 f0 rfl, field_of hlen hf 1 f1 rfl, field_of hlen hf 2 f2 rfl, field_of hlen hf 3 f3 rfl⟩
theorem parts6 {P : Program} {t : TypeId} {f0 f1 f2 f3 f4 f5 : Field} {fuel : Nat} {cs : List Value} {x : DataW H × List MemPlace} (ht : P.underlying t = some (.struct #[f0, f1, f2, f3, f4, f5])) (h : DataW.trod enc P w base spare held fuel t cs = some x) :
  cs.length = P.cellsOf t ∧ ∃ n, (∃ y, DataW.trod enc P w base spare held n f0.type ((cs.drop f0.offset).take (P.cellsOf f0.type)) = some y) ∧ (∃ y, DataW.trod enc P w base spare held n f1.type ((cs.drop f1.offset).take (P.cellsOf f1.type)) = some y) ∧ (∃ y, DataW.trod enc P w base spare held n f2.type ((cs.drop f2.offset).take (P.cellsOf f2.type)) = some y) ∧ (∃ y, DataW.trod enc P w base spare held n f3.type ((cs.drop f3.offset).take (P.cellsOf f3.type)) = some y) ∧ (∃ y, DataW.trod enc P w base spare held n f4.type ((cs.drop f4.offset).take (P.cellsOf f4.type)) = some y) ∧ (∃ y, DataW.trod enc P w base spare held n f5.type ((cs.drop f5.offset).take (P.cellsOf f5.type)) = some y) := by
 obtain ⟨xs, n, _, _, hl, hlen, hf⟩ := DataW.trod_struct ht h
 exact ⟨hl, n, field_of hlen hf 0 f0 rfl, field_of hlen hf 1 f1 rfl, field_of hlen hf 2 f2 rfl, field_of hlen hf 3 f3 rfl, field_of hlen hf 4 f4 rfl, field_of hlen hf 5 f5 rfl⟩
theorem parts12 {P : Program} {t : TypeId} {f0 f1 f2 f3 f4 f5 f6 f7 f8 f9 f10 f11 : Field} {fuel : Nat} {cs : List Value} {x : DataW H × List MemPlace} (ht : P.underlying t = some (.struct #[f0, f1, f2, f3, f4, f5, f6, f7, f8, f9, f10, f11])) (h : DataW.trod enc P w base spare held fuel t cs = some x) :
  cs.length = P.cellsOf t ∧ ∃ n, (∃ y, DataW.trod enc P w base spare held n f0.type ((cs.drop f0.offset).take (P.cellsOf f0.type)) = some y) ∧ (∃ y, DataW.trod enc P w base spare held n f1.type ((cs.drop f1.offset).take (P.cellsOf f1.type)) = some y) ∧ (∃ y, DataW.trod enc P w base spare held n f2.type ((cs.drop f2.offset).take (P.cellsOf f2.type)) = some y) ∧ (∃ y, DataW.trod enc P w base spare held n f3.type ((cs.drop f3.offset).take (P.cellsOf f3.type)) = some y) ∧ (∃ y, DataW.trod enc P w base spare held n f4.type ((cs.drop f4.offset).take (P.cellsOf f4.type)) = some y) ∧ (∃ y, DataW.trod enc P w base spare held n f5.type ((cs.drop f5.offset).take (P.cellsOf f5.type)) = some y) ∧ (∃ y, DataW.trod enc P w base spare held n f6.type ((cs.drop f6.offset).take (P.cellsOf f6.type)) = some y) ∧ (∃ y, DataW.trod enc P w base spare held n f7.type ((cs.drop f7.offset).take (P.cellsOf f7.type)) = some y) ∧ (∃ y, DataW.trod enc P w base spare held n f8.type ((cs.drop f8.offset).take (P.cellsOf f8.type)) = some y) ∧ (∃ y, DataW.trod enc P w base spare held n f9.type ((cs.drop f9.offset).take (P.cellsOf f9.type)) = some y) ∧ (∃ y, DataW.trod enc P w base spare held n f10.type ((cs.drop f10.offset).take (P.cellsOf f10.type)) = some y) ∧ (∃ y, DataW.trod enc P w base spare held n f11.type ((cs.drop f11.offset).take (P.cellsOf f11.type)) = some y) := by
 obtain ⟨xs, n, _, _, hl, hlen, hf⟩ := DataW.trod_struct ht h
 exact ⟨hl, n, field_of hlen hf 0 f0 rfl, field_of hlen hf 1 f1 rfl, field_of hlen hf 2 f2 rfl, field_of hlen hf 3 f3 rfl, field_of hlen hf 4 f4 rfl, field_of hlen hf 5 f5 rfl, field_of hlen hf 6 f6 rfl, field_of hlen hf 7 f7 rfl, field_of hlen hf 8 f8 rfl, field_of hlen hf 9 f9 rfl, field_of hlen hf 10 f10 rfl, field_of hlen hf 11 f11 rfl⟩
theorem open_StrS {fuel : Nat} {cs : List Value} {y : DataW H × List MemPlace} (h : DataW.trod enc Tryz.prog w base spare held fuel 59 cs = some y) : ∃ a xs cap, cs = [.slice a xs.length cap] ∧ SliceC StrC 1 0 w a xs := by
 rcases Go.Deep.open_slice Tryz.underlying59 h with ⟨hc, _⟩ | ⟨a, len, cap, m, n', D, Pl, hc, _, hl, hcm, hm, _, hall⟩
 ·exact ⟨none, [], 0, hc, SliceC.nil⟩
 ·rw [c1_str] at hall
  have hlm : len ≤ m := by rw [hm]; split <;> omega
  obtain ⟨xs, hx, hs⟩ := open_rows (C := StrC) (n := 1) (a := a) (len := len) StrC.holds (by omega) (by omega) (fun i hi => by
   obtain ⟨cs', h1, h2⟩ := hall i (by omega)
   obtain ⟨_, hl', hcell⟩ := World.cells?_some h1
   obtain ⟨s, rfl, _, hs⟩ := DataW.trod_string Tryz.underlying9 h2
   exact ⟨s, [.string s], rfl, hcell, rfl, hs⟩)
  subst hx
  exact ⟨some a, xs, cap, hc, hs⟩
theorem open_Lik {fuel : Nat} {cs : List Value} {y : DataW H × List MemPlace} (h : DataW.trod enc Tryz.prog w base spare held fuel 140 cs = some y) : cs.length = 2 ∧ ∃ x : Lik, LikC 0 w (fun j => cs[j]?) x := by
 obtain ⟨hl, n, HP⟩ := parts2 Tryz.underlying140 h
 rw [cn_Lik] at hl
 refine ⟨hl, ?_⟩
 obtain ⟨c0, c1, rfl⟩ := list2 hl
 obtain ⟨⟨_, h0⟩, ⟨_, h1⟩⟩ := HP
 simp only [c1_int, c1_str] at h0 h1
 obtain ⟨v0, e0, _, s0⟩ := DataW.trod_string Tryz.underlying9 h0
 obtain ⟨v1, e1, _, _⟩ := DataW.trod_int Tryz.underlying3 h1
 simp at e0 e1
 subst e0 e1
 exact ⟨⟨v0, v1⟩, rfl, rfl, s0⟩
theorem open_LikS {fuel : Nat} {cs : List Value} {y : DataW H × List MemPlace} (h : DataW.trod enc Tryz.prog w base spare held fuel 71 cs = some y) : ∃ a xs cap, cs = [.slice a xs.length cap] ∧ SliceC LikC 2 0 w a xs := by
 rcases Go.Deep.open_slice Tryz.underlying71 h with ⟨hc, _⟩ | ⟨a, len, cap, m, n', D, Pl, hc, _, hl, hcm, hm, _, hall⟩
 ·exact ⟨none, [], 0, hc, SliceC.nil⟩
 ·rw [cn_Lik] at hall
  have hlm : len ≤ m := by rw [hm]; split <;> omega
  obtain ⟨xs, hx, hs⟩ := open_rows (C := LikC) (n := 2) (a := a) (len := len) LikC.holds (by omega) (by omega) (fun i hi => by
   obtain ⟨cs', h1, h2⟩ := hall i (by omega)
   obtain ⟨_, hl', hcell⟩ := World.cells?_some h1
   obtain ⟨_, x, hx⟩ := open_Lik h2
   exact ⟨x, cs', hl', hcell, hx⟩)
  subst hx
  exact ⟨some a, xs, cap, hc, hs⟩
theorem open_Svc {fuel : Nat} {cs : List Value} {y : DataW H × List MemPlace} (h : DataW.trod enc Tryz.prog w base spare held fuel 69 cs = some y) : cs.length = 2 ∧ ∃ x : Svc, SvcC 0 w (fun j => cs[j]?) x := by
 obtain ⟨hl, n, HP⟩ := parts2 Tryz.underlying69 h
 rw [cn_Svc] at hl
 refine ⟨hl, ?_⟩
 obtain ⟨c0, c1, rfl⟩ := list2 hl
 obtain ⟨⟨_, h0⟩, ⟨_, h1⟩⟩ := HP
 simp only [c1_int, c1_str] at h0 h1
 obtain ⟨v0, e0, _, s0⟩ := DataW.trod_string Tryz.underlying9 h0
 obtain ⟨v1, e1, _, _⟩ := DataW.trod_int Tryz.underlying3 h1
 simp at e0 e1
 subst e0 e1
 exact ⟨⟨v0, v1⟩, rfl, rfl, s0⟩
theorem open_SvcS {fuel : Nat} {cs : List Value} {y : DataW H × List MemPlace} (h : DataW.trod enc Tryz.prog w base spare held fuel 23 cs = some y) : ∃ a xs cap, cs = [.slice a xs.length cap] ∧ SliceC SvcC 2 0 w a xs := by
 rcases Go.Deep.open_slice Tryz.underlying23 h with ⟨hc, _⟩ | ⟨a, len, cap, m, n', D, Pl, hc, _, hl, hcm, hm, _, hall⟩
 ·exact ⟨none, [], 0, hc, SliceC.nil⟩
 ·rw [cn_Svc] at hall
  have hlm : len ≤ m := by rw [hm]; split <;> omega
  obtain ⟨xs, hx, hs⟩ := open_rows (C := SvcC) (n := 2) (a := a) (len := len) SvcC.holds (by omega) (by omega) (fun i hi => by
   obtain ⟨cs', h1, h2⟩ := hall i (by omega)
   obtain ⟨_, hl', hcell⟩ := World.cells?_some h1
   obtain ⟨_, x, hx⟩ := open_Svc h2
   exact ⟨x, cs', hl', hcell, hx⟩)
  subst hx
  exact ⟨some a, xs, cap, hc, hs⟩
theorem open_Brt {fuel : Nat} {cs : List Value} {y : DataW H × List MemPlace} (h : DataW.trod enc Tryz.prog w base spare held fuel 66 cs = some y) : cs.length = 6 ∧ ∃ x : Brt, BrtC 0 w (fun j => cs[j]?) x := by
 obtain ⟨hl, n, HP⟩ := parts6 Tryz.underlying66 h
 rw [cn_Brt] at hl
 refine ⟨hl, ?_⟩
 obtain ⟨c0, c1, c2, c3, c4, c5, rfl⟩ := list6 hl
 obtain ⟨⟨_, h0⟩, ⟨_, h1⟩, ⟨_, h2⟩, ⟨_, h3⟩, ⟨_, h4⟩, ⟨_, h5⟩⟩ := HP
 simp only [c1_bool, c1_int, c1_sStr, c1_str] at h0 h1 h2 h3 h4 h5
 obtain ⟨v0, e0, _, s0⟩ := DataW.trod_string Tryz.underlying9 h0
 obtain ⟨v1, e1, _, s1⟩ := DataW.trod_string Tryz.underlying9 h1
 obtain ⟨a2, v2, p2, e2, s2⟩ := open_StrS h2
 obtain ⟨v3, e3, _, _⟩ := DataW.trod_int Tryz.underlying3 h3
 obtain ⟨v4, e4, _, _⟩ := DataW.trod_int Tryz.underlying3 h4
 obtain ⟨v5, e5, _⟩ := DataW.trod_bool Tryz.underlying4 h5
 simp at e0 e1 e2 e3 e4 e5
 subst e0 e1 e2 e3 e4 e5
 exact ⟨⟨v0, v1, v2, v3, v4, v5⟩, a2, p2, rfl, rfl, rfl, rfl, rfl, rfl, s0, s1, s2⟩
theorem open_BrtS {fuel : Nat} {cs : List Value} {y : DataW H × List MemPlace} (h : DataW.trod enc Tryz.prog w base spare held fuel 22 cs = some y) : ∃ a xs cap, cs = [.slice a xs.length cap] ∧ SliceC BrtC 6 0 w a xs := by
 rcases Go.Deep.open_slice Tryz.underlying22 h with ⟨hc, _⟩ | ⟨a, len, cap, m, n', D, Pl, hc, _, hl, hcm, hm, _, hall⟩
 ·exact ⟨none, [], 0, hc, SliceC.nil⟩
 ·rw [cn_Brt] at hall
  have hlm : len ≤ m := by rw [hm]; split <;> omega
  obtain ⟨xs, hx, hs⟩ := open_rows (C := BrtC) (n := 6) (a := a) (len := len) BrtC.holds (by omega) (by omega) (fun i hi => by
   obtain ⟨cs', h1, h2⟩ := hall i (by omega)
   obtain ⟨_, hl', hcell⟩ := World.cells?_some h1
   obtain ⟨_, x, hx⟩ := open_Brt h2
   exact ⟨x, cs', hl', hcell, hx⟩)
  subst hx
  exact ⟨some a, xs, cap, hc, hs⟩
theorem open_Cpy {fuel : Nat} {cs : List Value} {y : DataW H × List MemPlace} (h : DataW.trod enc Tryz.prog w base spare held fuel 73 cs = some y) : cs.length = 12 ∧ ∃ x : Cpy, CpyC 0 w (fun j => cs[j]?) x := by
 obtain ⟨hl, n, HP⟩ := parts12 Tryz.underlying73 h
 rw [cn_Cpy] at hl
 refine ⟨hl, ?_⟩
 obtain ⟨c0, c1, c2, c3, c4, c5, c6, c7, c8, c9, c10, c11, rfl⟩ := list12 hl
 obtain ⟨⟨_, h0⟩, ⟨_, h1⟩, ⟨_, h2⟩, ⟨_, h3⟩, ⟨_, h4⟩, ⟨_, h5⟩, ⟨_, h6⟩, ⟨_, h7⟩, ⟨_, h8⟩, ⟨_, h9⟩, ⟨_, h10⟩, ⟨_, h11⟩⟩ := HP
 simp only [c1_int, c1_sLik, c1_str] at h0 h1 h2 h3 h4 h5 h6 h7 h8 h9 h10 h11
 obtain ⟨v0, e0, _, s0⟩ := DataW.trod_string Tryz.underlying9 h0
 obtain ⟨v1, e1, _, s1⟩ := DataW.trod_string Tryz.underlying9 h1
 obtain ⟨v2, e2, _, _⟩ := DataW.trod_int Tryz.underlying3 h2
 obtain ⟨v3, e3, _, _⟩ := DataW.trod_int Tryz.underlying3 h3
 obtain ⟨v4, e4, _, _⟩ := DataW.trod_int Tryz.underlying3 h4
 obtain ⟨v5, e5, _, _⟩ := DataW.trod_int Tryz.underlying3 h5
 obtain ⟨v6, e6, _, s6⟩ := DataW.trod_string Tryz.underlying9 h6
 obtain ⟨a7, v7, p7, e7, s7⟩ := open_LikS h7
 obtain ⟨v8, e8, _, _⟩ := DataW.trod_int Tryz.underlying3 h8
 obtain ⟨v9, e9, _, s9⟩ := DataW.trod_string Tryz.underlying9 h9
 obtain ⟨v10, e10, _, s10⟩ := DataW.trod_string Tryz.underlying9 h10
 obtain ⟨v11, e11, _, s11⟩ := DataW.trod_string Tryz.underlying9 h11
 simp at e0 e1 e2 e3 e4 e5 e6 e7 e8 e9 e10 e11
 subst e0 e1 e2 e3 e4 e5 e6 e7 e8 e9 e10 e11
 exact ⟨⟨v0, v1, v2, v3, v4, v5, v6, v7, v8, v9, v10, v11⟩, a7, p7, rfl, rfl, rfl, rfl, rfl, rfl, rfl, rfl, rfl, rfl, rfl, rfl, s0, s1, s6, s9, s10, s11, s7⟩
theorem open_CpyS {fuel : Nat} {cs : List Value} {y : DataW H × List MemPlace} (h : DataW.trod enc Tryz.prog w base spare held fuel 24 cs = some y) : ∃ a xs cap, cs = [.slice a xs.length cap] ∧ SliceC CpyC 12 0 w a xs := by
 rcases Go.Deep.open_slice Tryz.underlying24 h with ⟨hc, _⟩ | ⟨a, len, cap, m, n', D, Pl, hc, _, hl, hcm, hm, _, hall⟩
 ·exact ⟨none, [], 0, hc, SliceC.nil⟩
 ·rw [cn_Cpy] at hall
  have hlm : len ≤ m := by rw [hm]; split <;> omega
  obtain ⟨xs, hx, hs⟩ := open_rows (C := CpyC) (n := 12) (a := a) (len := len) CpyC.holds (by omega) (by omega) (fun i hi => by
   obtain ⟨cs', h1, h2⟩ := hall i (by omega)
   obtain ⟨_, hl', hcell⟩ := World.cells?_some h1
   obtain ⟨_, x, hx⟩ := open_Cpy h2
   exact ⟨x, cs', hl', hcell, hx⟩)
  subst hx
  exact ⟨some a, xs, cap, hc, hs⟩
theorem open_Flt {fuel : Nat} {cs : List Value} {y : DataW H × List MemPlace} (h : DataW.trod enc Tryz.prog w base spare held fuel 26 cs = some y) : cs.length = 4 ∧ ∃ x : Flt, FltC 0 w (fun j => cs[j]?) x := by
 obtain ⟨hl, n, HP⟩ := parts4 Tryz.underlying26 h
 rw [cn_Flt] at hl
 refine ⟨hl, ?_⟩
 obtain ⟨c0, c1, c2, c3, rfl⟩ := list4 hl
 obtain ⟨⟨_, h0⟩, ⟨_, h1⟩, ⟨_, h2⟩, ⟨_, h3⟩⟩ := HP
 simp only [c1_bool, c1_sBrt, c1_sCpy, c1_sSvc] at h0 h1 h2 h3
 obtain ⟨v0, e0, _⟩ := DataW.trod_bool Tryz.underlying4 h0
 obtain ⟨a1, v1, p1, e1, s1⟩ := open_BrtS h1
 obtain ⟨a2, v2, p2, e2, s2⟩ := open_SvcS h2
 obtain ⟨a3, v3, p3, e3, s3⟩ := open_CpyS h3
 simp at e0 e1 e2 e3
 subst e0 e1 e2 e3
 exact ⟨⟨v0, v1, v2, v3⟩, a1, p1, a2, p2, a3, p3, rfl, rfl, rfl, rfl, s1, s2, s3⟩
end
end Go.Proofs.YtebfdgfhadpieaaGreat
