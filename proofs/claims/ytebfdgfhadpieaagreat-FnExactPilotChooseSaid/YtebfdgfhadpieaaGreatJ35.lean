import Derived.Test.YtebfdgfhadpieaaGreatJ34
import Derived.Test.YtebfdgfhadpieaaGreatJ30
import Derived.RangeFuncRecord
namespace Go.Proofs.YtebfdgfhadpieaaGreat
open Go.RowKit Go.WideMaps Go.Maps
def selS (t : ByteArray) (ms : List ByteArray) (z : ByteArray) : Bool := decide (codeOf t = 0) && meetsS (zMarks ms z) (treeOf t)
theorem sel_nodes {t : ByteArray} (h : codeOf t = 0) : 0 < (nodesOf t).length ∧ Small (nodesOf t) ∧ ∀ ms, meetsNs (nodesOf t) ms = meetsS ms (treeOf t) := by
 obtain ⟨hw, hn, h20, hc⟩ := tree_facts h
 rw [nodesOf_yes h rfl]
 rcases hn with e | hn
 ·rw [e]
  refine ⟨by decide, ⟨by decide, ?_⟩, fun ms => rfl⟩
  intro n hn
  simp [post, P.nonT] at hn
  subst hn
  exact ⟨Nat.zero_le _, Nat.zero_le _⟩
 ·have hv := valid_post hw hn (by omega)
  have ht := treeI_post hw hn
  rw [decide_eq_true h20] at hv
  rw [if_pos h20] at ht
  refine ⟨?_, ⟨?_, ?_⟩, fun ms => ?_⟩
  ·rw [post_len _ hw]
   rcases P.wf_cases hw with e | ⟨n, e⟩ | ⟨n, v, e⟩ | ⟨k, _, e⟩ | ⟨a, b, _, _, e⟩ | ⟨a, b, _, _, e⟩
   ·rw [e]; decide
   ·rw [e]; exact Nat.one_pos
   ·rw [e]; exact Nat.one_pos
   ·rw [e, P.count_nt]; omega
   ·rw [e, P.count_an]; omega
   ·rw [e, P.count_or]; omega
  ·rw [post_len _ hw]; omega
  ·intro n hm
   have := post_small _ hw hn n hm
   omega
  ·rw [meetsNs, hv, ht]
   rfl
def SevC (p q : Nat) (c0 c1 c2 c3 c4 c5 c6 : Value) (w : World) : Prop := w.cell? ⟨p, 0, none⟩ = some c0 ∧ w.cell? ⟨p, 1, none⟩ = some c1 ∧ w.cell? ⟨p, 2, none⟩ = some c2 ∧ w.cell? ⟨p, 3, none⟩ = some c3 ∧ w.cell? ⟨p, 4, none⟩ = some c4 ∧ w.cell? ⟨p, 5, none⟩ = some c5 ∧ w.cell? ⟨q, 0, none⟩ = some c6
theorem SevC.below {p q : Nat} {c0 c1 c2 c3 c4 c5 c6 : Value} {w w' : World} (h : SevC p q c0 c1 c2 c3 c4 c5 c6 w) (hb : Below w.heap.size w w') : SevC p q c0 c1 c2 c3 c4 c5 c6 w' := by
 obtain ⟨h0, h1, h2, h3, h4, h5, h6⟩ := h
 exact ⟨(hb.cell (p := ⟨p, 0, none⟩) (block_lt_of_cell h0)).trans h0, (hb.cell (p := ⟨p, 1, none⟩) (block_lt_of_cell h1)).trans h1, (hb.cell (p := ⟨p, 2, none⟩) (block_lt_of_cell h2)).trans h2, (hb.cell (p := ⟨p, 3, none⟩) (block_lt_of_cell h3)).trans h3, (hb.cell (p := ⟨p, 4, none⟩) (block_lt_of_cell h4)).trans h4, (hb.cell (p := ⟨p, 5, none⟩) (block_lt_of_cell h5)).trans h5, (hb.cell (p := ⟨q, 0, none⟩) (block_lt_of_cell h6)).trans h6⟩
set_option maxHeartbeats 4000000 in
set_option maxRecDepth 100000 in
theorem l3Select_any (t nm z : ByteArray) (ms : List ByteArray) (a : Option Addr) (cap lo : Nat) (rm hd : Int) (cl : Bool) (w : World) (hin : SliceC StrC 1 lo w a ms) (hml : ms.length ≤ 1000) (hz : z.size ≤ 1000) (ht : t.size ≤ maxLen) :
  Calls Tryz.prog 56 #[.string t, .agg #[.string nm, .string z, .slice a ms.length cap, .int .i64 rm, .int .i64 hd, .bool cl]] w fun e w' => e = .returned (.bool (selS t ms z)) ∧ Below w.heap.size w w' := by
 have HSZ : Hid (∀ s ∈ ms, s.size ≤ maxLen) := fun s hs => by
  obtain ⟨j, hj⟩ := List.getElem?_of_mem hs
  obtain ⟨_, _, _, _, _, hc⟩ := hin.at hj
  exact hc.2
 have HI : Hid (SliceC StrC 1 lo w a ms) := hin
 clear hin
 go_enter Tryz.func56, Tryz.ntmps56
 go_upto_region 1 with fail
 have hal : Below w.heap.size w (w.alloc (Obj.cells #[.string nm, .string z, .slice a ms.length cap, .int .i64 rm, .int .i64 hd, .bool cl] 61)) := (Below.refl _ _).alloc nL _
 have e0 : (w.alloc (Obj.cells #[.string nm, .string z, .slice a ms.length cap, .int .i64 rm, .int .i64 hd, .bool cl] 61)).cell? ⟨w.heap.size, 0, none⟩ = some (.string nm) := by simp
 have e1 : (w.alloc (Obj.cells #[.string nm, .string z, .slice a ms.length cap, .int .i64 rm, .int .i64 hd, .bool cl] 61)).cell? ⟨w.heap.size, 1, none⟩ = some (.string z) := by simp
 have e2 : (w.alloc (Obj.cells #[.string nm, .string z, .slice a ms.length cap, .int .i64 rm, .int .i64 hd, .bool cl] 61)).cell? ⟨w.heap.size, 2, none⟩ = some (.slice a ms.length cap) := by simp
 have e3 : (w.alloc (Obj.cells #[.string nm, .string z, .slice a ms.length cap, .int .i64 rm, .int .i64 hd, .bool cl] 61)).cell? ⟨w.heap.size, 3, none⟩ = some (.int .i64 rm) := by simp
 have e4 : (w.alloc (Obj.cells #[.string nm, .string z, .slice a ms.length cap, .int .i64 rm, .int .i64 hd, .bool cl] 61)).cell? ⟨w.heap.size, 4, none⟩ = some (.int .i64 hd) := by simp
 have e5 : (w.alloc (Obj.cells #[.string nm, .string z, .slice a ms.length cap, .int .i64 rm, .int .i64 hd, .bool cl] 61)).cell? ⟨w.heap.size, 5, none⟩ = some (.bool cl) := by simp
 have HI1 : Hid (SliceC StrC 1 lo (w.alloc (Obj.cells #[.string nm, .string z, .slice a ms.length cap, .int .i64 rm, .int .i64 hd, .bool cl] 61)) a ms) := HI.out.below StrC.holds hal nL
 have HB1 : Hid (Below w.heap.size w (w.alloc (Obj.cells #[.string nm, .string z, .slice a ms.length cap, .int .i64 rm, .int .i64 hd, .bool cl] 61))) := hal
 clear hal HI
 generalize (w.alloc (Obj.cells #[.string nm, .string z, .slice a ms.length cap, .int .i64 rm, .int .i64 hd, .bool cl] 61)) = w1 at *
 go_wp2_with fail
 refine (parse_any t _ ht).mono ?_
 rintro e w2 ⟨an, cn, rfl, hn, hb2⟩
 have HE0 : Hid (w2.cell? ⟨w.heap.size, 0, none⟩ = some (.string nm)) := (hb2.cell (p := ⟨w.heap.size, 0, none⟩) (block_lt_of_cell e0)).trans e0
 have HE1 : Hid (w2.cell? ⟨w.heap.size, 1, none⟩ = some (.string z)) := (hb2.cell (p := ⟨w.heap.size, 1, none⟩) (block_lt_of_cell e1)).trans e1
 have HE2 : Hid (w2.cell? ⟨w.heap.size, 2, none⟩ = some (.slice a ms.length cap)) := (hb2.cell (p := ⟨w.heap.size, 2, none⟩) (block_lt_of_cell e2)).trans e2
 have HE3 : Hid (w2.cell? ⟨w.heap.size, 3, none⟩ = some (.int .i64 rm)) := (hb2.cell (p := ⟨w.heap.size, 3, none⟩) (block_lt_of_cell e3)).trans e3
 have HE4 : Hid (w2.cell? ⟨w.heap.size, 4, none⟩ = some (.int .i64 hd)) := (hb2.cell (p := ⟨w.heap.size, 4, none⟩) (block_lt_of_cell e4)).trans e4
 have HE5 : Hid (w2.cell? ⟨w.heap.size, 5, none⟩ = some (.bool cl)) := (hb2.cell (p := ⟨w.heap.size, 5, none⟩) (block_lt_of_cell e5)).trans e5
 have HI2 : Hid (SliceC StrC 1 lo w2 a ms) := HI1.out.below StrC.holds hb2 nL
 have HB2 : Hid (Below w.heap.size w w2) := HB1.out.trans (hb2.mono HB1.out.size)
 have HN2 : Hid (NdIn w2 0 an (nodesOf t)) := hn.imp id (fun ⟨g, h1, _, h3⟩ => ⟨g, h1, Nat.zero_le _, h3⟩)
 clear hb2 hn HI1 HB1 e0 e1 e2 e3 e4 e5
 have hal : Below w2.heap.size w2 (w2.alloc (Obj.cells #[.slice an (nodesOf t).length cn] 143)) := (Below.refl _ _).alloc nL _
 have HI3 : Hid (SliceC StrC 1 lo (w2.alloc (Obj.cells #[.slice an (nodesOf t).length cn] 143)).drew a ms) := (HI2.out.below StrC.holds hal nL).below StrC.holds ((Below.refl _ (w2.alloc (Obj.cells #[.slice an (nodesOf t).length cn] 143))).drew) nL
 have HB3 : Hid (Below w.heap.size w (w2.alloc (Obj.cells #[.slice an (nodesOf t).length cn] 143)).drew) := (HB2.out.trans (hal.mono HB2.out.size)).drew
 have HN3 : Hid (∀ g, Nodes0 w2 g (nodesOf t) → Nodes0 (w2.alloc (Obj.cells #[.slice an (nodesOf t).length cn] 143)).drew g (nodesOf t)) := fun g h => (h.grown hal).grown ((Below.refl _ (w2.alloc (Obj.cells #[.slice an (nodesOf t).length cn] 143))).drew)
 have HS3 : Hid (SevC w.heap.size w2.heap.size (.string nm) (.string z) (.slice a ms.length cap) (.int .i64 rm) (.int .i64 hd) (.bool cl) (.slice an (nodesOf t).length cn) (w2.alloc (Obj.cells #[.slice an (nodesOf t).length cn] 143))) := SevC.below (w := (w2.alloc (Obj.cells #[.slice an (nodesOf t).length cn] 143))) ⟨(hal.cell (p := ⟨w.heap.size, 0, none⟩) (block_lt_of_cell HE0.out)).trans HE0.out, (hal.cell (p := ⟨w.heap.size, 1, none⟩) (block_lt_of_cell HE1.out)).trans HE1.out, (hal.cell (p := ⟨w.heap.size, 2, none⟩) (block_lt_of_cell HE2.out)).trans HE2.out, (hal.cell (p := ⟨w.heap.size, 3, none⟩) (block_lt_of_cell HE3.out)).trans HE3.out, (hal.cell (p := ⟨w.heap.size, 4, none⟩) (block_lt_of_cell HE4.out)).trans HE4.out, (hal.cell (p := ⟨w.heap.size, 5, none⟩) (block_lt_of_cell HE5.out)).trans HE5.out, by simp⟩ (Below.refl _ _)
 clear hal
 by_cases hc : codeOf t = 0
 ·have HC : Hid (codeOf t = 0) := hc
  rw [hc]
  clear hc
  go_upto_region 3 with fail
  obtain ⟨hpos, hsm, hms⟩ := sel_nodes HC.out
  have HSM : Hid (Small (nodesOf t)) := hsm
  have HR : Hid (meetsNs (nodesOf t) (zMarks ms z) = selS t ms z) := by show _ = _; rw [hms]; unfold selS; rw [decide_eq_true HC.out]; rfl
  obtain ⟨g0, han, hn0⟩ : ∃ g, an = some ⟨g, 0, none⟩ ∧ Nodes0 w2 g (nodesOf t) := by
   rcases HN2.out with ⟨h, _⟩ | ⟨g, h1, _, h3⟩
   ·rw [h] at hpos; exact absurd hpos (Nat.lt_irrefl _)
   ·exact ⟨g, h1, h3⟩
  subst han
  have HN4 := HN3.out g0 hn0
  have HND : Hid (Nodes0 _ g0 (nodesOf t)) := HN4
  clear HN4 hn0 hpos hsm hms HN3 HN2 HI2 HB2 HE0 HE1 HE2 HE3 HE4 HE5
  refine wp_region_held_drew (S := SevC w.heap.size w2.heap.size (.string nm) (.string z) (.slice a ms.length cap) (.int .i64 rm) (.int .i64 hd) (.bool cl) (.slice (some ⟨g0, 0, none⟩) (nodesOf t).length cn)) (by kernel_rfl) (by simpa [SevC] using HS3.out) (fun hS => ?_)
  clear HS3
  generalize (w2.alloc (Obj.cells #[.slice (some ⟨g0, 0, none⟩) (nodesOf t).length cn] 143)).drew = w3 at *
  generalize w2.heap.size = q2 at *
  refine x6 0 12 (.int .i64 0) rfl hS ?_
  simp only [pA,pB,pC,pD]
  refine x6 1 13 (.bool true) rfl hS ?_
  simp only [pA,pB,pC,pD]
  refine x6 2 14 (.bool true) rfl hS ?_
  simp only [pA,pB,pC,pD]
  refine x6 3 15 (.agg #[.slice (some ⟨g0, 0, none⟩) (nodesOf t).length cn]) rfl hS ?_
  simp only [pA,pB,pC,pD]
  refine x6 4 16 (.agg #[.string nm, .string z, .slice a ms.length cap, .int .i64 rm, .int .i64 hd, .bool cl]) rfl hS ?_
  simp only [pA,pB,pC,pD]
  refine rd1 5 ⟨some 17, _, _, _, _, some (2, true)⟩ rfl (fun K hK => ?_)
  go_simp
  refine (l3Marks_any nm z ms a cap lo rm hd cl _ HI3.out hml hz HSZ.out).mono ?_
  rintro e w4 ⟨g4, c4, rfl, hm4, hb⟩
  have HM4 : Hid (SliceC StrC 1 0 w4 (some ⟨g4, 0, none⟩) (zMarks ms z)) := hm4
  have HND4 : Hid (Nodes0 w4 g0 (nodesOf t)) := HND.out.grown hb
  have HB4 : Hid (Below w.heap.size w w4) := HB3.out.trans (hb.mono HB3.out.size)
  refine hK.out _ _ (hS.below hb) (fun hS => ?_)
  clear hm4 hb HND HB3 HI3 hK K
  refine rd1 6 ⟨some 18, _, _, _, _, some (2, true)⟩ rfl (fun K hK => ?_)
  go_simp
  refine (specMeets_any (nodesOf t) g0 cn (zMarks ms z) _ c4 _ HND4.out HSM.out HM4.out).mono ?_
  rintro e w5 ⟨rfl, hb⟩
  rw [HR.out]
  have HB5 : Hid (Below w.heap.size w w5) := HB4.out.trans (hb.mono HB4.out.size)
  refine hK.out _ _ (hS.below hb) (fun hS => ?_)
  clear hb HND4 HB4 HM4 hK K
  refine x6 7 19 (.bool (selS t ms z)) rfl hS ?_
  simp only [pA,pB,pC,pD]
  refine x6 8 4 (.bool (selS t ms z)) rfl hS ?_
  simp only [pA,pB,pC,pD]
  refine td ?_
  go_wp2_with fail
  go_ret
  exact ⟨rfl, HB5.out⟩
 ·have hc0 : ¬ ((codeOf t : Nat) : Int) = 0 := by omega
  have HF : Hid (false = selS t ms z) := by show _ = _; unfold selS; rw [decide_eq_false hc]; rfl
  clear hc
  generalize ((codeOf t : Nat) : Int) = q at *
  go_upto_region 3 with fail
  refine wp_region_held_drew (S := SevC w.heap.size w2.heap.size (.string nm) (.string z) (.slice a ms.length cap) (.int .i64 rm) (.int .i64 hd) (.bool cl) (.slice an (nodesOf t).length cn)) (by kernel_rfl) (by simpa [SevC] using HS3.out) (fun hS => ?_)
  clear HS3
  clear HN3 HN2 HI2 HB2 HE0 HE1 HE2 HE3 HE4 HE5 HI3
  generalize (w2.alloc (Obj.cells #[.slice an (nodesOf t).length cn] 143)).drew = w3 at *
  generalize w2.heap.size = q2 at *
  refine x6 0 12 (.int .i64 q) rfl hS ?_
  simp only [pA,pB,pC,pD]
  refine x6 1 13 (.bool false) rfl hS ?_
  simp only [pA,pB,pC,pD]
  refine x6 2 14 (.bool false) rfl hS ?_
  simp only [pA,pB,pC,pD]
  refine ts 3 15 rfl hS ?_
  simp only [pA,pB,pC,pD]
  refine ts 4 16 rfl hS ?_
  simp only [pA,pB,pC,pD]
  refine ts 5 17 rfl hS ?_
  simp only [pA,pB,pC,pD]
  refine ts 6 18 rfl hS ?_
  simp only [pA,pB,pC,pD]
  refine x6 7 19 (.bool false) rfl hS ?_
  simp only [pA,pB,pC,pD]
  refine x6 8 4 (.bool false) rfl hS ?_
  simp only [pA,pB,pC,pD]
  refine td ?_
  go_wp2_with fail
  go_ret
  exact ⟨ret_bool HF.out, HB3.out⟩
end Go.Proofs.YtebfdgfhadpieaaGreat
namespace Go.Proofs.YtebfdgfhadpieaaGreat
open Go.RowKit
theorem cntOf_append (t : ByteArray) (a b : List ByteArray) : cntOf t (a ++ b) = cntOf t a + cntOf t b := by simp [cntOf]
theorem hasK_append (a b : List ByteArray) (t : ByteArray) : hasK (a ++ b) t = (hasK a t || hasK b t) := by
 unfold hasK
 rw [cntOf_append, Bool.eq_iff_iff]
 simp
 omega
theorem hasK_nil (t : ByteArray) : hasK [] t = false := rfl
theorem hasK_one (s t : ByteArray) : hasK [s] t = decide (s = t) := by
 unfold hasK
 by_cases h : s = t
 ·subst h; rw [cntOf_same]; simp
 ·rw [cntOf_other h]; simp [cntOf, h]
theorem hasK_two (s r t : ByteArray) : hasK [s, r] t = (decide (s = t) || decide (r = t)) := by
 rw [show [s, r] = [s] ++ [r] from rfl, hasK_append, hasK_one, hasK_one]
theorem name_neA {m n : ByteArray} (hn : P.nameOk n = true) (h : ¬ eqIdx m < 0) : ¬ m = n := by
 intro e
 subst e
 rw [letters_no hn] at h
 omega
theorem key_name {n : ByteArray} (hn : P.nameOk n = true) (m vl : ByteArray) : hasK (keyR m) n = hitM true n vl m := by
 unfold keyR hitM
 cases isMk m with
 | false => rfl
 | true =>
  by_cases h : eqIdx m < 0
  ·simp only [if_pos h, if_true]
   rw [hasK_one]
   simp
  ·simp only [if_neg h, if_true]
   rw [hasK_two, decide_eq_false (name_neA hn h)]
   simp
theorem data_join (n v : ByteArray) : (n ++ eqB ++ v).data.toList = n.data.toList ++ 61 :: v.data.toList := by
 simp [eqB]
theorem ba_ext {a b : ByteArray} (h : a.data.toList = b.data.toList) : a = b := by
 cases a with | mk x => cases b with | mk y => cases x; cases y; simp at h; simp [h]
theorem data_len (s : ByteArray) : s.data.toList.length = s.size := by simp
theorem ext_list (s : ByteArray) (a b : Nat) : (s.extract a b).data.toList = (s.data.toList.drop a).take (b - a) := by
 rw [ByteArray.data_extract, Array.toList_extract]
theorem idx_join {n : ByteArray} (hn : P.nameOk n = true) (v : ByteArray) : eqIdx (n ++ eqB ++ v) = (n.size : Int) := by
 have hno := letters_no hn
 have hlen := data_len n
 have hs : (n ++ eqB ++ v).size = n.size + 1 + v.size := by rw [ByteArray.size_append, ByteArray.size_append]; rfl
 refine eqIdx_at (by omega) ?_ ?_
 ·have : (n ++ eqB ++ v).data.toList[n.size]? = some 61 := by rw [data_join, List.getElem?_append_right (by omega), hlen]; simp
  obtain ⟨h1, h2⟩ := List.getElem?_eq_some_iff.1 this
  have h3 : (n ++ eqB ++ v)[n.size] = 61 := h2
  rw [h3]; rfl
 ·intro j hj
  rw [data_join, List.getElem?_append_left (by omega)]
  exact Lib.indexByte_none hno j
theorem name_join {n : ByteArray} (hn : P.nameOk n = true) (v : ByteArray) : mName (n ++ eqB ++ v) = n := by
 unfold mName
 rw [idx_join hn, if_neg (by omega)]
 apply ba_ext
 rw [ext_list, data_join, List.drop_zero, Int.toNat_natCast, Nat.sub_zero]
 exact List.take_left' (data_len n)
theorem val_join {n : ByteArray} (hn : P.nameOk n = true) (v : ByteArray) : mVal (n ++ eqB ++ v) = v := by
 unfold mVal
 rw [idx_join hn, if_neg (by omega)]
 apply ba_ext
 have hlen := data_len n
 have hs : (n ++ eqB ++ v).size = n.size + 1 + v.size := by rw [ByteArray.size_append, ByteArray.size_append]; rfl
 rw [ext_list, data_join, hs, Int.toNat_natCast, show n.data.toList ++ 61 :: v.data.toList = (n.data.toList ++ [61]) ++ v.data.toList by simp]
 rw [List.drop_left' (by simp)]
 exact List.take_of_length_le (by rw [data_len]; omega)
theorem mk_join {m : ByteArray} (h : ¬ eqIdx m < 0) : mName m ++ eqB ++ mVal m = m := by
 obtain ⟨o, ho⟩ : ∃ o : Nat, eqIdx m = o := ⟨(eqIdx m).toNat, by omega⟩
 have hlt := eqIdx_lt ho
 have h2 := (Lib.indexByte_some ho).1
 apply ba_ext
 rw [data_join]
 unfold mName mVal
 rw [if_neg h, if_neg h, ext_list, ext_list, ho, Int.toNat_natCast, List.drop_zero, Nat.sub_zero]
 rw [List.take_of_length_le (l := m.data.toList.drop (o + 1)) (by rw [List.length_drop, data_len]; omega)]
 obtain ⟨h3, h4⟩ := List.getElem?_eq_some_iff.1 h2
 rw [← h4, ← List.drop_eq_getElem_cons h3, List.take_append_drop]
theorem key_value {n v : ByteArray} (hn : P.nameOk n = true) (hv : P.nameOk v = true) (m : ByteArray) : hasK (keyR m) (n ++ eqB ++ v) = hitM false n v m := by
 unfold keyR hitM
 cases hmk : isMk m with
 | false => rfl
 | true =>
  have hnm : ¬ mName m = n ++ eqB ++ v := by
   intro e
   have h1 := letters_no (isMk_name hmk)
   rw [e, idx_join hn] at h1
   omega
  by_cases h : eqIdx m < 0
  ·simp only [if_pos h, if_true]
   rw [hasK_one, decide_eq_false hnm]
   have hv0 : ¬ mVal m = v := by
    intro e
    have h1 := (P.nameOk_pos hv).1
    rw [← e] at h1
    unfold mVal at h1
    rw [if_pos h] at h1
    exact absurd h1 (by decide)
   rw [decide_eq_false hv0]
   simp
  ·simp only [if_neg h, if_true]
   rw [hasK_two, decide_eq_false hnm, Bool.or_false, Bool.eq_iff_iff]
   simp only [Bool.true_and, Bool.false_or, Bool.and_eq_true, decide_eq_true_eq]
   constructor
   ·intro e
    rw [e]
    exact ⟨name_join hn v, val_join hn v⟩
   ·rintro ⟨e1, e2⟩
    rw [← mk_join h, e1, e2]
theorem hit_of {Z : List ByteArray} {one : Bool} {nm vl x : ByteArray} (H : ∀ m, hasK (keyR m) x = hitM one nm vl m) : ∀ k, hasK (keysR Z k) x = hitTo Z one nm vl k
 | 0 => rfl
 | k + 1 => by
  unfold keysR hitTo
  cases h : Z[k]? with
  | none => simp only [Bool.or_false]; exact hit_of H k
  | some m =>
   simp only []
   rw [hasK_append, H m, hit_of H k, Bool.or_comm]
theorem meets_eq (Z : List ByteArray) (y : P.Tr) (hw : P.wf y) : nOk y → meetsK (keysR Z Z.length) y = meetsS Z y := by
 refine P.wf_ind (p := fun y => nOk y → meetsK (keysR Z Z.length) y = meetsS Z y) ?_ ?_ ?_ ?_ ?_ ?_ y hw
 ·intro _; rfl
 ·intro n hn
  exact hit_of (key_name (hn.2.1 rfl) · _) _
 ·intro n v hn
  obtain ⟨h1, h2⟩ := hn.2.2.1 rfl
  exact hit_of (key_value h1 h2) _
 ·intro k _ ih hn
  show (!meetsK _ k) = !meetsS _ k
  rw [ih hn.2.2.2.1]
 ·intro a b _ _ ia ib hn
  show (meetsK _ a && meetsK _ b) = (meetsS _ a && meetsS _ b)
  rw [ia hn.2.2.2.1, ib hn.2.2.2.2]
 ·intro a b _ _ ia ib hn
  show (meetsK _ a || meetsK _ b) = (meetsS _ a || meetsS _ b)
  rw [ia hn.2.2.2.1, ib hn.2.2.2.2]
theorem asks_eq (t : ByteArray) (ms : List ByteArray) (z : ByteArray) : asksI t ms z = selS t ms z := by
 unfold asksI selS
 by_cases h : codeOf t = 0
 ·obtain ⟨hw, hn, _, _⟩ := tree_facts h
  rcases hn with e | hn
  ·rw [e]; rfl
  ·rw [meets_eq _ _ hw hn]
 ·rw [decide_eq_false h]; rfl
def anyTo (f : Nat → Bool) : Nat → Bool
 | 0 => false
 | k + 1 => anyTo f k || f k
theorem anyTo_yes {f : Nat → Bool} {k : Nat} (h : f k = true) : anyTo f (k + 1) = true := by simp [anyTo, h]
theorem anyTo_no {f : Nat → Bool} {k : Nat} (h : f k = false) : anyTo f (k + 1) = anyTo f k := by simp [anyTo, h]
theorem anyTo_mono {f : Nat → Bool} {k : Nat} : ∀ n, k ≤ n → anyTo f k = true → anyTo f n = true
 | 0, h, e => by
  have : k = 0 := by omega
  subst this
  exact e
 | n + 1, h, e => by
  by_cases hk : k = n + 1
  ·subst hk; exact e
  ·simp [anyTo, anyTo_mono n (by omega) e]
def holdTo (x : Flt) (ci : Nat) (nm : ByteArray) : Nat → Int
 | 0 => 0
 | k + 1 => holdTo x ci nm k + (match x.copies[k]? with
  | some c => if c.at_ = nm ∧ k ≠ ci then c.hold else 0
  | none => 0)
def standTo (x : Flt) (ci : Nat) (nm : ByteArray) : Nat → Int
 | 0 => 0
 | k + 1 => standTo x ci nm k + (match x.copies[k]? with
  | some c => if c.at_ = nm ∧ k ≠ ci then 1 else 0
  | none => 0)
theorem holdTo_in {x : Flt} {ci k : Nat} {nm : ByteArray} {c : Cpy} (hk : x.copies[k]? = some c) (h1 : c.at_ = nm) (h2 : k ≠ ci) : holdTo x ci nm (k + 1) = holdTo x ci nm k + c.hold := by
 simp only [holdTo, hk]
 rw [if_pos ⟨h1, h2⟩]
theorem holdTo_out {x : Flt} {ci k : Nat} {nm : ByteArray} {c : Cpy} (hk : x.copies[k]? = some c) (h : ¬ (c.at_ = nm ∧ k ≠ ci)) : holdTo x ci nm (k + 1) = holdTo x ci nm k := by
 simp only [holdTo, hk]
 rw [if_neg h]
 omega
theorem standTo_in {x : Flt} {ci k : Nat} {nm : ByteArray} {c : Cpy} (hk : x.copies[k]? = some c) (h1 : c.at_ = nm) (h2 : k ≠ ci) : standTo x ci nm (k + 1) = standTo x ci nm k + 1 := by
 simp only [standTo, hk]
 rw [if_pos ⟨h1, h2⟩]
theorem standTo_out {x : Flt} {ci k : Nat} {nm : ByteArray} {c : Cpy} (hk : x.copies[k]? = some c) (h : ¬ (c.at_ = nm ∧ k ≠ ci)) : standTo x ci nm (k + 1) = standTo x ci nm k := by
 simp only [standTo, hk]
 rw [if_neg h]
 omega
theorem holdTo_bd {x : Flt} (ci : Nat) (nm : ByteArray) (hc : ∀ (k : Nat) (c : Cpy), x.copies[k]? = some c → 0 ≤ c.hold ∧ c.hold ≤ 1000) : ∀ k, 0 ≤ holdTo x ci nm k ∧ holdTo x ci nm k ≤ 1000 * k
 | 0 => by simp [holdTo]
 | k + 1 => by
  have ih := holdTo_bd ci nm hc k
  simp only [holdTo]
  cases h : x.copies[k]? with
  | none => simp only; omega
  | some c =>
   have h1 := hc k c h
   simp only
   split <;> omega
theorem standTo_bd {x : Flt} (ci : Nat) (nm : ByteArray) : ∀ k : Nat, 0 ≤ standTo x ci nm k ∧ standTo x ci nm k ≤ k
 | 0 => by simp [standTo]
 | k + 1 => by
  have ih := standTo_bd (x := x) ci nm k
  simp only [standTo]
  cases h : x.copies[k]? with
  | none => simp only; omega
  | some c =>
   simp only
   split <;> omega
theorem use_hold {x : Flt} (ci : Nat) (nm : ByteArray) (hc : ∀ (k : Nat) (c : Cpy), x.copies[k]? = some c → 0 ≤ c.hold ∧ c.hold ≤ 1000) : ∀ k, k ≤ 60 → (useTo x.copies nm ci k).2.2 = holdTo x ci nm k
 | 0, _ => rfl
 | k + 1, hk => by
  have ih := use_hold ci nm hc k (by omega)
  have hb := holdTo_bd ci nm hc k
  unfold useTo holdTo
  cases h : x.copies[k]? with
  | none => simp only; omega
  | some c =>
   have h1 := hc k c h
   simp only
   by_cases e : c.at_ = nm ∧ k ≠ ci
   ·rw [if_pos e, if_pos ⟨e.1, by omega⟩]
    simp only
    rw [ih]
    unfold wrap64
    omega
   ·rw [if_neg e, if_neg (fun h => e ⟨h.1, by omega⟩)]
    omega
theorem use_stand {x : Flt} (ci : Nat) (nm : ByteArray) : ∀ k, k ≤ 60 → (useTo x.copies nm ci k).1 = standTo x ci nm k
 | 0, _ => rfl
 | k + 1, hk => by
  have ih := use_stand (x := x) ci nm k (by omega)
  have hb := standTo_bd (x := x) ci nm k
  unfold useTo standTo
  cases h : x.copies[k]? with
  | none => simp only; omega
  | some c =>
   simp only
   by_cases e : c.at_ = nm ∧ k ≠ ci
   ·rw [if_pos e, if_pos ⟨e.1, by omega⟩]
    simp only
    rw [ih]
    unfold wrap64
    omega
   ·rw [if_neg e, if_neg (fun h => e ⟨h.1, by omega⟩)]
    omega
theorem valid_apart {x : Flt} (h : validI x = true) : (∀ (k : Nat) (c : Cpy), x.copies[k]? = some c → (0 ≤ c.hold ∧ c.hold ≤ 1000) ∧ (0 ≤ c.apart ∧ c.apart ≤ 2)) ∧ ∀ (k : Nat) (b : Brt), x.berths[k]? = some b → 0 ≤ b.hold ∧ b.hold ≤ 1000 := by
 unfold validI at h
 simp only [Bool.and_eq_true, fewOk, ordOk, berthsOk, copiesOk, all_iff, decide_eq_true_eq] at h
 obtain ⟨⟨⟨_, _⟩, _⟩, ⟨⟨_, _⟩, _⟩, h2, _, h3, _⟩ := h
 refine ⟨fun k c hc => ?_, fun k b hb => ?_⟩
 ·have h4 := h3 k c hc
  simp only [copyAt, copyOk, Bool.and_eq_true, Bool.or_eq_true, inR, decide_eq_true_eq] at h4
  obtain ⟨⟨_, _⟩, h6⟩ := h4
  exact ⟨h6.1.1.1.1.1.2, h6.1.1.2⟩
 ·have h4 := h2 k b hb
  simp only [berthAt, Bool.and_eq_true, inR, decide_eq_true_eq] at h4
  exact h4.1.2
def nearB (a c : Int) (hb hz : Bool) : Bool := (hb && (decide (a ≠ 0) || decide (c ≠ 0))) || (hz && (decide (a = 2) || decide (c = 2)))
def togF (x : Flt) (ci : Nat) (y : Cpy) (b : Brt) (i : Nat) : Bool := match x.copies[i]? with
 | some c => decide (i ≠ ci) && decide (c.service = y.service) && decide (¬ c.at_ = ⟨#[]⟩) && nearB c.apart y.apart (decide (c.at_ = b.name)) (decide (zoneOf x.berths c.at_ = b.zone))
 | none => false
def stF (x : Flt) (ci : Nat) (sv : ByteArray) (i : Nat) : Bool := match x.copies[i]? with
 | some c => decide (i ≠ ci) && decide (c.service = sv) && decide (¬ c.at_ = ⟨#[]⟩)
 | none => false
theorem tog_no {x : Flt} {ci k : Nat} {y : Cpy} {b : Brt} {c : Cpy} (hk : x.copies[k]? = some c) (h : ¬ (k ≠ ci ∧ c.service = y.service ∧ (¬ c.at_ = ⟨#[]⟩) ∧ nearB c.apart y.apart (decide (c.at_ = b.name)) (decide (zoneOf x.berths c.at_ = b.zone)) = true)) : togF x ci y b k = false := by
 unfold togF
 rw [hk]
 simp only [Bool.and_eq_false_iff, decide_eq_false_iff_not]
 by_cases h1 : k ≠ ci
 ·by_cases h2 : c.service = y.service
  ·by_cases h3 : ¬ c.at_ = ⟨#[]⟩
   ·exact Or.inr (by
     cases hn : nearB c.apart y.apart (decide (c.at_ = b.name)) (decide (zoneOf x.berths c.at_ = b.zone)) with
     | false => rfl
     | true => exact absurd ⟨h1, h2, h3, hn⟩ h)
   ·exact Or.inl (Or.inr h3)
  ·exact Or.inl (Or.inl (Or.inr h2))
 ·exact Or.inl (Or.inl (Or.inl h1))
theorem tog_yes {x : Flt} {ci k : Nat} {y : Cpy} {b : Brt} {c : Cpy} (hk : x.copies[k]? = some c) (h1 : k ≠ ci) (h2 : c.service = y.service) (h3 : ¬ c.at_ = ⟨#[]⟩) (h4 : nearB c.apart y.apart (decide (c.at_ = b.name)) (decide (zoneOf x.berths c.at_ = b.zone)) = true) : togF x ci y b k = true := by
 unfold togF
 rw [hk]
 simp only [Bool.and_eq_true, decide_eq_true_eq]
 exact ⟨⟨⟨h1, h2⟩, h3⟩, h4⟩
theorem st_no {x : Flt} {ci k : Nat} {sv : ByteArray} {c : Cpy} (hk : x.copies[k]? = some c) (h : ¬ (k ≠ ci ∧ c.service = sv ∧ ¬ c.at_ = ⟨#[]⟩)) : stF x ci sv k = false := by
 unfold stF
 rw [hk]
 simp only [Bool.and_eq_false_iff, decide_eq_false_iff_not]
 by_cases h1 : k ≠ ci
 ·by_cases h2 : c.service = sv
  ·exact Or.inr (fun h3 => h ⟨h1, h2, h3⟩)
  ·exact Or.inl (Or.inr h2)
 ·exact Or.inl (Or.inl h1)
theorem st_yes {x : Flt} {ci k : Nat} {sv : ByteArray} {c : Cpy} (hk : x.copies[k]? = some c) (h1 : k ≠ ci) (h2 : c.service = sv) (h3 : ¬ c.at_ = ⟨#[]⟩) : stF x ci sv k = true := by
 unfold stF
 rw [hk]
 simp only [Bool.and_eq_true, decide_eq_true_eq]
 exact ⟨⟨h1, h2⟩, h3⟩
def togI (x : Flt) (ci : Nat) (y : Cpy) (b : Brt) : Bool := anyTo (togF x ci y b) x.copies.length
def farI (x : Flt) (ci : Nat) (y : Cpy) (b : Brt) : Bool := decide (¬ y.near = ⟨#[]⟩) && (!anyTo (znF x ci y.near b.zone) x.copies.length) && (anyTo (stF x ci y.near) x.copies.length || decide (¬ y.near = y.service))
def elsI (y : Cpy) (b : Brt) : Bool := decide (¬ y.fixed = ⟨#[]⟩) && decide (¬ y.fixed = b.name)
def fitsI (x : Flt) (ci : Nat) (y : Cpy) (b : Brt) (op : Bool) : Int :=
 if (b.closed && !op) = true then 1 else if elsI y b = true then 2 else if asksI y.select b.marks b.zone = false then 3 else if togI x ci y b = true then 4 else if farI x ci y b = true then 5 else if 10 ≤ standTo x ci b.name x.copies.length then 6 else if b.room < roomTo x ci b.name x.copies.length + y.room then 7 else if b.hold < holdTo x ci b.name x.copies.length + y.hold then 8 else 0
theorem far_no1 {x : Flt} {ci : Nat} {y : Cpy} {b : Brt} (h : y.near = ⟨#[]⟩) : farI x ci y b = false := by
 unfold farI
 rw [decide_eq_false (fun k => k h)]
 rfl
theorem far_no2 {x : Flt} {ci : Nat} {y : Cpy} {b : Brt} (h : anyTo (znF x ci y.near b.zone) x.copies.length = true) : farI x ci y b = false := by
 unfold farI
 rw [h]
 simp
theorem far_is {x : Flt} {ci : Nat} {y : Cpy} {b : Brt} {f0 q : Bool} (h1 : ¬ y.near = ⟨#[]⟩) (h2 : anyTo (znF x ci y.near b.zone) x.copies.length = false) (h3 : anyTo (stF x ci y.near) x.copies.length = q) (h4 : f0 = decide (¬ y.near = y.service)) : farI x ci y b = (f0 || q) := by
 unfold farI
 rw [h2, h3, ← h4, decide_eq_true h1]
 cases f0 <;> cases q <;> rfl
def Blk (g : Nat) (cs : Array Value) (t : TypeId) (w : World) : Prop := w.heap[g]? = some (.cells cs t (0, 0))
theorem Blk.lt {g : Nat} {cs : Array Value} {t : TypeId} {w : World} (h : Blk g cs t w) : g < w.heap.size := (Array.getElem?_eq_some_iff.1 h).1
theorem Blk.below {g : Nat} {cs : Array Value} {t : TypeId} {w w' : World} {B : Nat} (h : Blk g cs t w) (hb : Below B w w') (hB : g < B) : Blk g cs t w' := (hb.block g hB).trans h
theorem Blk.drew {g : Nat} {cs : Array Value} {t : TypeId} {w : World} (h : Blk g cs t w) : Blk g cs t w.drew := h
theorem Blk.cell {g : Nat} {cs : Array Value} {t : TypeId} {w : World} (h : Blk g cs t w) {o : Nat} {v : Value} (hv : cs[o]? = some v) : w.cell? ⟨g, o, none⟩ = some v := by simp [World.cell?, show w.heap[g]? = _ from h, hv]
theorem Blk.frozen {g : Nat} {cs : Array Value} {t : TypeId} {w : World} (h : Blk g cs t w) (o : Nat) : w.frozen? ⟨g, o, none⟩ = false := by simp [World.frozen?, show w.heap[g]? = _ from h]
theorem Blk.range {g : Nat} {cs : List Value} {t : TypeId} {w : World} (h : Blk g cs.toArray t w) : w.rangeAt g 0 cs := fun j v hj => by rw [Nat.zero_add]; exact h.cell (by simpa using hj)
theorem Blk.alloc (w : World) (cs : Array Value) (t : TypeId) : Blk w.heap.size cs t (w.alloc (.cells cs t)) := World.alloc_heap_new w _
theorem Blk.other {g : Nat} {cs : Array Value} {t : TypeId} {w : World} (h : Blk g cs t w) {a : Addr} (hne : g ≠ a.block) (v : Value) : Blk g cs t (w.setCell a v) := (Below.heap_setCell w a v g hne).trans h
theorem Blk.set {g : Nat} {cs : Array Value} {t : TypeId} {w : World} (h : Blk g cs t w) (o : Nat) (v : Value) : Blk g (cs.setIfInBounds o v) t (w.setCell ⟨g, o, none⟩ v) := by
 obtain ⟨hlt, hk⟩ := Array.getElem?_eq_some_iff.1 h
 show (w.heap.modify g _)[g]? = _
 rw [Array.getElem?_eq_getElem (by rw [Array.size_modify]; exact hlt), Array.getElem_modify_self, hk]
 rfl
theorem Blk.there {g : Nat} {cs : Array Value} {t : TypeId} {w : World} (h : Blk g cs t w) : w.there g 0 cs.size := fun j hj => by
 refine ⟨?_, h.frozen _⟩
 rw [h.cell (o := 0 + j) (v := cs[j]) (by simp [hj])]
 rfl
theorem Blk.rangeA {g : Nat} {cs : Array Value} {t : TypeId} {w : World} (h : Blk g cs t w) : w.rangeAt g 0 cs.toList := fun j v hj => by
 rw [Nat.zero_add]
 exact h.cell (by simpa using hj)
end Go.Proofs.YtebfdgfhadpieaaGreat
