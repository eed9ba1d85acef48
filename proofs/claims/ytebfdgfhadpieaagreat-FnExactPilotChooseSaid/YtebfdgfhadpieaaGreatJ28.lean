import Derived.Test.YtebfdgfhadpieaaGreatVlS
import Derived.Laws.ResultCell
namespace Go.Proofs.YtebfdgfhadpieaaGreat
set_option maxRecDepth 100000
open Go.RowKit
def validB (ns : List P.Nd) : Bool := P.treeOk ns && (P.treeI ns).isSome
theorem treeOk_len {ns : List P.Nd} (h : P.treeOk ns = true) : ns.length ≤ 400 := by
 rw [treeOk_parts] at h
 simp only [Bool.and_eq_true, decide_eq_true_eq] at h
 exact h.1.1
set_option maxHeartbeats 2000000 in
theorem valid_any (ns : List P.Nd) (g cn : Nat) (w : World) (hN : Nodes0 w g ns) (hsm : Small ns) :
  Calls Tryz.prog 108 #[.agg #[.slice (some ⟨g, 0, none⟩) ns.length cn]] w fun e w' => e = .returned (.bool (validB ns)) ∧ Below w.heap.size w w' := by
 have HN : Hid (Nodes0 w g ns) := hN
 have HS : Hid (Small ns) := hsm
 clear hN hsm
 cases ht : P.treeOk ns with
 | false =>
  have HT : Hid (P.treeOk ns = false) := ht
  have HV : Hid (validB ns = false) := by show _ = _; rw [validB, ht]; rfl
  clear ht
  go_enter Tryz.func108, Tryz.ntmps108
  go_wp2_with fail
  refine (treeS_any ns g cn _ (HN.out.grown (by go_grown)) HS.out).mono ?_
  rintro e w1 ⟨rfl, hb⟩
  rw [HT.out]
  go_wp2_with fail
  go_ret
  exact ⟨by rw [HV.out]; rfl, ((Below.refl _ w).alloc nL _).trans (hb.mono (by simp))⟩
 | true =>
  obtain ⟨out, r, t, hko, hol, hrl, hIs, hlo, hhi, _, hct⟩ := P.same_tree2 ht
  have hlen := treeOk_len ht
  have HT : Hid (P.treeOk ns = true) := ht
  have HKO : Hid (P.kidsOf ns = some (out, [r])) := hko
  have cc := fun go co => nest_any ns out ns.length co go hol t r hIs (by omega)
  rw [show ((r : Nat) : Int) = (ns.length : Int) - 1 by omega] at cc
  have HC : Hid (∀ (go co : Nat) (w : World), KidsIn w go out → Calls Tryz.prog 133 #[.slice (some ⟨go, 0, none⟩) ns.length co, .int .i64 ((ns.length : Int) - 1)] w fun e w' => e = .returned (.int .i64 (P.tall t : Int)) ∧ w' = w) := cc
  have hl1 : 1 ≤ ns.length := by omega
  have HV : Hid (validB ns = decide (P.tall t ≤ 20)) := by
   show _ = _
   rw [validB, ht]
   by_cases h : P.tall t ≤ 20
   ·rw [hlo h, decide_eq_true h]; rfl
   ·rw [hhi (by omega), decide_eq_false h]; rfl
  have htl : P.tall t ≤ 400 := Nat.le_trans (P.tall_le_count t) (by omega)
  clear ht hko cc hIs hlo hhi hct hrl hol
  generalize hT : P.tall t = T at *
  clear hT
  go_enter Tryz.func108, Tryz.ntmps108
  go_wp2_with fail
  refine (treeS_any ns g cn _ (HN.out.grown (by go_grown)) HS.out).mono ?_
  rintro e w1 ⟨rfl, hb⟩
  rw [HT.out]
  have hB1 : Below w.heap.size w w1 := ((Below.refl _ w).alloc nL _).trans (hb.mono (by simp))
  have hc1 : w1.cell? ⟨w.heap.size, 0, none⟩ = some (.slice (some ⟨g, 0, none⟩) ns.length cn) := (hb.cell (p := ⟨w.heap.size, 0, none⟩) (by simp)).trans (by simp)
  have hz1 : w.heap.size < w1.heap.size := by have := hb.size; simp at this; omega
  clear hb
  go_wp2_with fail
  refine (kids_any ns g cn _ (HN.out.grown hB1) hlen).mono ?_
  rintro e w2 ⟨hb2, h2⟩
  rw [HKO.out] at h2
  obtain ⟨go, co, rfl, hkin, _⟩ := h2
  have hc2 : w2.cell? ⟨w.heap.size, 0, none⟩ = some (.slice (some ⟨g, 0, none⟩) ns.length cn) := (hb2.cell (p := ⟨w.heap.size, 0, none⟩) hz1).trans hc1
  have HB : Hid (Below w.heap.size w w2) := hB1.trans (hb2.mono (by omega))
  have HK : Hid (KidsIn w2 go out) := hkin
  clear hb2 hkin hc1
  go_wp2_with fail
  refine (HC.out _ _ _ HK.out).mono ?_
  rintro e w3 ⟨rfl, rfl⟩
  by_cases h20 : T ≤ 20
  ·go_wp2_with fail
   go_ret
   exact ⟨by rw [HV.out, decide_eq_true h20]; simp; omega, HB.out⟩
  ·go_wp2_with fail
   go_ret
   exact ⟨by rw [HV.out, decide_eq_false h20]; simp; omega, HB.out⟩
theorem valid_post {y : P.Tr} (hw : P.wf y) (h : nOk y) (hc : P.count y ≤ 400) : validB (post y) = decide (P.tall y ≤ 20) := by
 unfold validB
 rw [treeI_post hw h]
 by_cases h20 : P.tall y ≤ 20
 ·rw [if_pos h20, decide_eq_true h20]
  cases ht : P.treeOk (post y) with
  | true => rfl
  | false =>
   have := P.no_tree (by rw [post_len y hw]; exact hc) ht
   rw [treeI_post hw h, if_pos h20] at this
   cases this
 ·rw [if_neg h20, decide_eq_false h20]
  simp
theorem nodes0_row {w : World} {g : Nat} {ns : List P.Nd} (hg : g < w.heap.size) (h : w.rangeAt g 0 (ndCells ns)) : Nodes0 w g ns := by
 refine ⟨hg, fun j n hj => ?_⟩
 have key : ∀ (ns : List P.Nd) (j : Nat) (n : P.Nd), ns[j]? = some n → ∀ c, c < 4 → (ndCells ns)[j * 4 + c]? = (ndv n)[c]? := by
  intro ns
  induction ns with
  | nil => intro j n hj; simp at hj
  | cons m r ih =>
   intro j n hj c hc
   have e : ndCells (m :: r) = ndv m ++ ndCells r := rfl
   cases j with
   | zero =>
    simp at hj
    subst hj
    rw [e, List.getElem?_append_left (by simp [ndv]; omega)]
    simp
   | succ j =>
    simp at hj
    rw [e, List.getElem?_append_right (by simp [ndv]; omega), ← ih j n hj c hc]
    congr 1
    simp [ndv]
    omega
 have k0 := h (j * 4) _ (by have := key ns j n hj 0 (by omega); simpa [ndv] using this)
 have k1 := h (j * 4 + 1) _ (by have := key ns j n hj 1 (by omega); simpa [ndv] using this)
 have k2 := h (j * 4 + 2) _ (by have := key ns j n hj 2 (by omega); simpa [ndv] using this)
 have k3 := h (j * 4 + 3) _ (by have := key ns j n hj 3 (by omega); simpa [ndv] using this)
 simp only [Nat.zero_add] at k0 k1 k2 k3
 exact ⟨k0, k1, k2, k3⟩
theorem code_bad {t : ByteArray} (ht : t.size ≤ 200) (h : (toksAt t 0).all okTok = false) : codeOf t = 2 := by
 unfold codeOf
 rw [if_neg (by omega), if_neg (fun e => by rw [e] at h; cases h)]
 cases hr : P.rd 1000 2 P.nonT (toksAt t 0) with
 | none => rfl
 | some p =>
  obtain ⟨y, r⟩ := p
  cases r with
  | nil =>
   obtain ⟨_, pre, e1, e2⟩ := rd_rd2 1000 2 _ _ _ _ (fun h => by omega) hr
   rw [List.append_nil] at e1
   rw [e1, e2] at h
   cases h
  | cons a b => rfl
theorem tok_len : ∀ (l : List UInt8), ∀ x ∈ P.toks l, x.length ≤ l.length
 | [], x, h => by cases h
 | c :: r, x, h => by
  have ih := tok_len r
  rw [P.toks_cons] at h
  split at h
  ·have := ih x h; simp; omega
  ·split at h
   ·cases r with
    | nil => simp [P.onto, P.toks] at h; subst h; simp
    | cons d r' =>
     cases hT : P.toks (d :: r') with
     | nil => rw [hT] at h; simp [P.onto] at h; subst h; simp
     | cons a b =>
      rw [hT] at h ih
      have ha := ih a (by simp)
      by_cases hd : P.letter d = true
      ·simp [P.onto, hd] at h
       rcases h with rfl | h
       ·simp at ha ⊢; omega
       ·have := ih x (by simp [h]); simp at this ⊢; omega
      ·simp [P.onto, hd] at h
       rcases h with rfl | rfl | h
       ·simp
       ·simp at ha ⊢; omega
       ·have := ih x (by simp [h]); simp at this ⊢; omega
   ·rcases List.mem_cons.1 h with rfl | h
    ·simp
    ·have := ih x h; simp; omega
def nodesOf (t : ByteArray) : List P.Nd := if codeOf t = 0 then post (treeOf t) else []
theorem nodesOf_no {t : ByteArray} {c : Nat} (h : codeOf t = c) (hc : c ≠ 0) : nodesOf t = [] := by
 unfold nodesOf; rw [if_neg (by rw [h]; exact hc)]
theorem nodesOf_yes {t : ByteArray} {y : P.Tr} (h : codeOf t = 0) (hy : treeOf t = y) : nodesOf t = post y := by
 unfold nodesOf; rw [if_pos h, hy]
def NdIn (w : World) (B : Nat) (a : Option Addr) (ns : List P.Nd) : Prop := (ns = [] ∧ a = none) ∨ ∃ g, a = some ⟨g, 0, none⟩ ∧ B ≤ g ∧ Nodes0 w g ns
def ParseR (t : ByteArray) (w : World) (e : Ending) (w' : World) : Prop := ∃ a c, e = .returned (.tuple #[.agg #[.slice a (nodesOf t).length c], .int .i64 (codeOf t : Nat)]) ∧ NdIn w' w.heap.size a (nodesOf t) ∧ Below w.heap.size w w'
set_option maxHeartbeats 2000000 in
theorem parse_any (t : ByteArray) (w : World) (hm : t.size ≤ maxLen) :
  Calls Tryz.prog 84 #[.string t] w fun e w' => ParseR t w e w' := by
 unfold maxLen at hm
 by_cases hbig : (200 : Int) < t.size
 ·have HC : Hid (codeOf t = 1) := by show _ = _; unfold codeOf; rw [if_pos (by omega)]
  go_enter Tryz.func84, Tryz.ntmps84
  go_wp2_with fail
  refine bodyPost_ret (v := .tuple #[.agg #[.slice none 0 0], .int .i64 1]) (by rw [results_cell_tmp rfl]; simp [go_sem]) rfl ⟨none, 0, by rw [HC.out, nodesOf_no HC.out (by omega)]; rfl, .inl ⟨nodesOf_no HC.out (by omega), rfl⟩, by go_grown⟩
 have ht : t.size ≤ 200 := by omega
 go_enter Tryz.func84, Tryz.ntmps84
 go_wp2_with fail
 refine (tokens_any t _ ht).mono ?_
 rintro e w1 ⟨v, rfl, h1, h2⟩
 have kr : w1.cell? ⟨w.heap.size, 0, none⟩ = some (.slice none 0 0) := (h2.cell (p := ⟨w.heap.size, 0, none⟩) (by simp)).trans (by simp)
 have fr : w1.frozen? ⟨w.heap.size, 0, none⟩ = false := (h2.frozen (p := ⟨w.heap.size, 0, none⟩) (by simp)).trans (by simp)
 have HB1 : Hid (Below w.heap.size w w1) := (show Below w.heap.size w _ by go_grown).trans (h2.mono (by simp))
 have hs1 : w.heap.size < w1.heap.size := by have := h2.size; simp at this; omega
 cases hok : (toksAt t 0).all okTok with
 | false =>
  have HC : Hid (codeOf t = 2) := code_bad ht hok
  clear hok h1 h2
  go_wp2_with fail
  refine bodyPost_ret (v := .tuple #[.agg #[.slice none 0 0], .int .i64 2]) (by rw [results_cell_tmp rfl]; simp [go_sem, kr]) rfl ⟨none, 0, by rw [HC.out, nodesOf_no HC.out (by omega)]; rfl, .inl ⟨nodesOf_no HC.out (by omega), rfl⟩, HB1.out.setCell nL _⟩
 | true =>
  obtain ⟨g, c, rfl, hrow⟩ := h1 hok
  have hwb : w.heap.size + 1 ≤ g := by have := (hrow.lt g rfl).1; simpa using this
  have hgl : g < w1.heap.size := (hrow.lt g rfl).2
  have HROW : Hid (∀ j l, (toksAt t 0)[j]? = some l → w1.cell? ⟨g, j, none⟩ = some (.string (P.bts l))) := fun j l hj => by
   have hlt := lt_of_some hj
   rw [hrow.cellAt j (by omega)]
   simp [strs, hj]
  clear h1 h2 hrow hok
  have hl200 := toksAt_le (i := 0) ht
  have HZ : Hid (∀ l ∈ toksAt t 0, l.length ≤ 200) := fun l hl => by
   have := tok_len _ l hl
   have h3 : (t.data.toList.drop 0).length = t.size := by simp
   omega
  have HC0 : Hid (codeOf t = if toksAt t 0 = [] then 0 else match P.rd 1000 2 P.nonT (toksAt t 0) with
   | some (y, []) => if 20 < P.tall y then 3 else 0
   | _ => 2) := by show _ = _; unfold codeOf; rw [if_neg (by omega)]; rfl
  have HT0 : Hid (treeOf t = if toksAt t 0 = [] then P.nonT else match P.rd 1000 2 P.nonT (toksAt t 0) with
   | some (y, _) => y
   | none => P.nonT) := rfl
  generalize toksAt t 0 = L at *
  by_cases hL : L = []
  ·subst hL
   have HC : Hid (codeOf t = 0) := by rw [HC0.out, if_pos rfl]; rfl
   have HN : Hid (nodesOf t = [⟨0, ⟨#[]⟩, ⟨#[]⟩, 0⟩]) := (nodesOf_yes HC.out (by rw [HT0.out, if_pos rfl])).trans rfl
   clear HT0
   go_wp2_with fail
   refine bodyPost_ret (v := .tuple #[.agg #[.slice (some ⟨w1.heap.size, 0, none⟩) 1 1], .int .i64 0]) (by rw [results_cell_tmp rfl]; simp [go_sem, kr, hs1]) rfl ⟨some ⟨w1.heap.size, 0, none⟩, 1, (by rw [HC.out, HN.out]; rfl), .inr ⟨w1.heap.size, rfl, by omega, ?_⟩, (by have := HB1.out; go_grown)⟩
   rw [HN.out]
   refine ⟨by simp, fun j n hj => ?_⟩
   cases j with
   | zero => cases hj; exact ⟨by rw [World.cell?_alloc_at _ _ _ _ (by simp [World.setCell])]; rfl, by rw [World.cell?_alloc_at _ _ _ _ (by simp [World.setCell])]; rfl, by rw [World.cell?_alloc_at _ _ _ _ (by simp [World.setCell])]; rfl, by rw [World.cell?_alloc_at _ _ _ _ (by simp [World.setCell])]; rfl⟩
   | succ j => simp at hj
  ·have HC1 : Hid (codeOf t = match P.rd 1000 2 P.nonT L with
    | some (y, []) => if 20 < P.tall y then 3 else 0
    | _ => 2) := by rw [HC0.out, if_neg hL]; rfl
   have HT1 : Hid (treeOf t = match P.rd 1000 2 P.nonT L with
    | some (y, _) => y
    | none => P.nonT) := by rw [HT0.out, if_neg hL]; rfl
   clear HT0
   have hlp : 0 < L.length := List.length_pos_iff.2 hL
   have hl0 : ¬ (L.length : Int) = 0 := by omega
   clear HC0 hL
   go_wp2_with fail
   have hal2 : Below w1.heap.size w1 (w1.alloc (Obj.cells #[.slice (some ⟨g, 0, none⟩) L.length c, .int .i64 0, .bool false] 171)) := (Below.refl _ _).alloc nL _
   have PS : Hid (PsAt (w1.alloc (Obj.cells #[.slice (some ⟨g, 0, none⟩) L.length c, .int .i64 0, .bool false] 171)) w1.heap.size g c L 0 false) := ⟨by simp, by simp, by simp, by simp, by simp, by omega, by simp; omega, fun j l hj => (hal2.cell (p := ⟨g, j, none⟩) hgl).trans (HROW.out j l hj)⟩
   have kr2 : (w1.alloc (Obj.cells #[.slice (some ⟨g, 0, none⟩) L.length c, .int .i64 0, .bool false] 171)).cell? ⟨w.heap.size, 0, none⟩ = some (.slice none 0 0) := (hal2.cell (p := ⟨w.heap.size, 0, none⟩) hs1).trans kr
   have fr2 : (w1.alloc (Obj.cells #[.slice (some ⟨g, 0, none⟩) L.length c, .int .i64 0, .bool false] 171)).frozen? ⟨w.heap.size, 0, none⟩ = false := (hal2.frozen (p := ⟨w.heap.size, 0, none⟩) hs1).trans fr
   have HB2 : Hid (Below w.heap.size w (w1.alloc (Obj.cells #[.slice (some ⟨g, 0, none⟩) L.length c, .int .i64 0, .bool false] 171))) := HB1.out.alloc (by omega) _
   have hs2 : w1.heap.size < (w1.alloc (Obj.cells #[.slice (some ⟨g, 0, none⟩) L.length c, .int .i64 0, .bool false] 171)).heap.size := by simp
   clear hal2 kr fr HROW HB1
   generalize w1.alloc (Obj.cells #[.slice (some ⟨g, 0, none⟩) L.length c, .int .i64 0, .bool false] 171) = w2 at *
   refine ((ps_all w1.heap.size g c L hl200 HZ.out 1000 1000 nL).2.2 0 _ PS.out (Nat.zero_le _) (by omega)).mono ?_
   rintro e w3 ⟨v, ns, k, b, rfl, f1, _, f3, f4, f5, f6⟩
   obtain ⟨gn, cn, hv, hBg, hgn, hrg⟩ := f4
   have HGN : Hid (w.heap.size < gn) := by show _ < _; omega
   subst hv
   have hb3 : Below w1.heap.size w2 w3 := f5.below (by omega) nL
   have kr3 : w3.cell? ⟨w.heap.size, 0, none⟩ = some (.slice none 0 0) := (hb3.cell (p := ⟨w.heap.size, 0, none⟩) hs1).trans kr2
   have fr3 : w3.frozen? ⟨w.heap.size, 0, none⟩ = false := (hb3.frozen (p := ⟨w.heap.size, 0, none⟩) hs1).trans fr2
   have HB3 : Hid (Below w.heap.size w w3) := HB2.out.trans (hb3.mono (by omega))
   have hs3 : w1.heap.size < w3.heap.size := Nat.lt_of_lt_of_le hs2 f5.size
   have hs3' : w.heap.size < w3.heap.size := by omega
   have HP3 : Hid (PsAt w3 w1.heap.size g c L k b) := f1
   have HN3 : Hid (Nodes0 w3 gn ns) := nodes0_row hgn hrg
   have F6 : Hid ((b = false ∧ ns.length + 0 ≤ k ∧ ∃ y, P.rd 1000 2 P.nonT (L.drop 0) = some (y, L.drop k) ∧ ns = post y) ∨ (b = true ∧ ns.length + 0 ≤ k + 1 ∧ P.rd 1000 2 P.nonT (L.drop 0) = none)) := f6
   obtain ⟨p0, p1, p2, _, _, _, _, _⟩ := f1
   clear f5 f6 hb3 kr2 fr2 HB2 hs2 PS hrg hgn
   cases b with
   | true =>
    have HC2 : Hid (codeOf t = 2) := by
     rcases F6.out with ⟨e, _⟩ | ⟨_, _, e3⟩
     ·cases e
     ·rw [List.drop_zero] at e3
      rw [HC1.out, e3]; rfl
    clear HC1 F6 HN3 HP3
    go_wp2_with fail
    exact bodyPost_ret (v := .tuple #[.agg #[.slice none 0 0], .int .i64 2]) (by rw [results_cell_tmp rfl]; simp [go_sem, kr3, hs3']) rfl ⟨none, 0, (by rw [HC2.out, nodesOf_no HC2.out (by omega)]; rfl), .inl ⟨nodesOf_no HC2.out (by omega), rfl⟩, (by have := HB3.out; go_grown)⟩
   | false =>
    obtain ⟨y, e3, e4⟩ : ∃ y, P.rd 1000 2 P.nonT L = some (y, L.drop k) ∧ ns = post y := by
     rcases F6.out with ⟨_, _, y, e3, e4⟩ | ⟨e, _⟩
     ·rw [List.drop_zero] at e3; exact ⟨y, e3, e4⟩
     ·cases e
    by_cases hkl : k < L.length
    ·have HC2 : Hid (codeOf t = 2) := by
      rw [HC1.out, e3]
      rw [List.drop_eq_getElem_cons hkl]; rfl
     have hkl' : (k : Int) < (L.length : Int) := by omega
     clear HC1 F6 HN3 HP3 e3 e4
     go_wp2_with fail
     exact bodyPost_ret (v := .tuple #[.agg #[.slice none 0 0], .int .i64 2]) (by rw [results_cell_tmp rfl]; simp [go_sem, kr3, hs3']) rfl ⟨none, 0, (by rw [HC2.out, nodesOf_no HC2.out (by omega)]; rfl), .inl ⟨nodesOf_no HC2.out (by omega), rfl⟩, (by have := HB3.out; go_grown)⟩
    ·obtain ⟨_, a2, a3, _, a5, a6⟩ := P.rd_rd 1000 2 P.nonT _ _ _ (fun h => by omega) e3
     obtain ⟨b1, _⟩ := rd_rd2 1000 2 P.nonT _ _ _ (fun h => by omega) e3
     rw [if_pos (by omega)] at a5
     have HC2 : Hid (codeOf t = if 20 < P.tall y then 3 else 0) := by
      rw [HC1.out, e3, List.drop_eq_nil_of_le (by omega)]; rfl
     have HY : Hid (treeOf t = y) := by rw [HT1.out, e3]; rfl
     have HE4 : Hid (ns = post y) := e4
     have HV : Hid (validB ns = decide (P.tall y ≤ 20)) := by rw [e4]; exact valid_post a3 b1 (by omega)
     have HSM : Hid (Small ns) := by
      rw [e4]
      refine ⟨by rw [post_len y a3]; omega, fun n hn => ?_⟩
      have := post_small y a3 b1 n hn
      omega
     have hkl' : ¬ (k : Int) < (L.length : Int) := by omega
     clear HC1 F6 HP3 e3 e4 a2 a3 a5 a6 b1
     go_wp2_with fail
     have hal : Below w3.heap.size w3 (w3.alloc (Obj.cells #[.slice (some ⟨gn, 0, none⟩) ns.length cn] 143)) := (Below.refl _ _).alloc nL _
     refine (valid_any ns gn cn _ (HN3.out.grown hal) HSM.out).mono ?_
     rintro e w5 ⟨rfl, hb5⟩
     have kr5 : w5.cell? ⟨w.heap.size, 0, none⟩ = some (.slice none 0 0) := (hb5.cell (p := ⟨w.heap.size, 0, none⟩) (by simp; omega)).trans ((hal.cell (p := ⟨w.heap.size, 0, none⟩) hs3').trans kr3)
     have fr5 : w5.frozen? ⟨w.heap.size, 0, none⟩ = false := (hb5.frozen (p := ⟨w.heap.size, 0, none⟩) (by simp; omega)).trans ((hal.frozen (p := ⟨w.heap.size, 0, none⟩) hs3').trans fr3)
     have kx5 : w5.cell? ⟨w3.heap.size, 0, none⟩ = some (.slice (some ⟨gn, 0, none⟩) ns.length cn) := (hb5.cell (p := ⟨w3.heap.size, 0, none⟩) (by simp)).trans (by simp)
     have HB5 : Hid (Below w.heap.size w w5) := (HB3.out.trans (hal.mono HB3.out.size)).trans (hb5.mono (by simp; omega))
     rw [HV.out]
     have HN5 : Hid (Nodes0 w5 gn ns) := (HN3.out.grown hal).grown hb5
     clear hb5 hal HV HSM HN3 HB3 kr3 fr3 p0 p1 p2
     by_cases h20 : P.tall y ≤ 20
     ·rw [decide_eq_true h20]
      have HC3 : Hid (codeOf t = 0) := by rw [HC2.out, if_neg (by omega)]; rfl
      clear HC2
      go_wp2_with fail
      exact bodyPost_ret (v := .tuple #[.agg #[.slice (some ⟨gn, 0, none⟩) ns.length cn], .int .i64 0]) (by rw [results_cell_tmp rfl]; simp [go_sem, kr5]) rfl ⟨some ⟨gn, 0, none⟩, cn, (by rw [HC3.out, nodesOf_yes HC3.out HY.out, ← HE4.out]; rfl), .inr ⟨gn, rfl, Nat.le_of_lt HGN.out, by rw [nodesOf_yes HC3.out HY.out, ← HE4.out]; exact Nodes0.setCell (a := ⟨w.heap.size, 0, none⟩) HN5.out (by show gn ≠ w.heap.size; have := HGN.out; omega) _⟩, (by have := HB5.out; go_grown)⟩
     ·rw [decide_eq_false h20]
      have HC3 : Hid (codeOf t = 3) := by rw [HC2.out, if_pos (by omega)]; rfl
      clear HC2
      go_wp2_with fail
      exact bodyPost_ret (v := .tuple #[.agg #[.slice none 0 0], .int .i64 3]) (by rw [results_cell_tmp rfl]; simp [go_sem, kr5]) rfl ⟨none, 0, (by rw [HC3.out, nodesOf_no HC3.out (by omega)]; rfl), .inl ⟨nodesOf_no HC3.out (by omega), rfl⟩, (by have := HB5.out; go_grown)⟩
set_option maxHeartbeats 400000 in
theorem selectOk_any (t : ByteArray) (w : World) (hm : t.size ≤ maxLen) :
  Calls Tryz.prog 54 #[.string t] w fun e w' => e = .returned (.bool (decide (codeOf t = 0))) ∧ Below w.heap.size w w' := by
 go_enter Tryz.func54, Tryz.ntmps54
 go_wp2_with fail
 refine (parse_any t _ hm).mono ?_
 rintro e w1 ⟨a, c, rfl, _, hb⟩
 have HB : Hid (Below w.heap.size w w1) := hb
 have hz := hb.size
 clear hb
 go_wp2_with fail
 go_ret
 exact ⟨ret_bool (by rw [Bool.eq_iff_iff]; simp), by have := HB.out; go_grown⟩
def sLike (l : Lik) : Bool := decide (codeOf l.select = 0) && inB l.weight (-9) 9
def sCopy3 (x : Cpy) : Bool := decide (codeOf x.select = 0) && (decide (x.likes.length ≤ 5) && (inB x.apart 0 2 && (nameOrNone x.near && nameOrNone x.fixed)))
def sBad3 (x : Cpy) : Bool := !sCopy3 x
def sCopy (x : Cpy) : Bool := P.nameOk x.name && (P.nameOk x.service && (inB x.rank 0 100 && (inB x.born 0 1000000 && (inB x.room 0 1000 && (inB x.hold 0 1000 && (sCopy3 x && x.likes.all sLike))))))
theorem none_yes {s : ByteArray} (h : s = ⟨#[]⟩) : nameOrNone s = true := by subst h; rfl
theorem none_no {s : ByteArray} (h : ¬ s = ⟨#[]⟩) : nameOrNone s = P.nameOk s := by
 have : s.size ≠ 0 := fun e => h (ByteArray.ext (Array.eq_empty_of_size_eq_zero e))
 simp [nameOrNone, this]
theorem tl_yes {s : ByteArray} (h : s = ⟨#[]⟩) : s.toList = [] := by rw [ByteArray.toList_eq, h]
theorem tl_no {s : ByteArray} (h : ¬ s = ⟨#[]⟩) : ¬ s.toList = [] := by
 rw [ByteArray.toList_eq]
 exact fun e => h (by cases s with | mk x => cases x; simp at e; simp [e])
theorem te_yes {s : ByteArray} (h : s = ⟨#[]⟩) : s.toList.isEmpty = true := by rw [tl_yes h]; rfl
theorem te_no {s : ByteArray} (h : ¬ s = ⟨#[]⟩) : s.toList.isEmpty = false := by simpa using tl_no h
set_option maxHeartbeats 4000000 in
theorem sCopyOk_any (x : Cpy) (a7 : Option Addr) (c7 lo : Nat) (w : World) (z0 : x.name.size ≤ maxLen) (z1 : x.service.size ≤ maxLen) (z6 : x.select.size ≤ maxLen) (hin : SliceC LikC 2 lo w a7 x.likes) (z9 : x.near.size ≤ maxLen) (z10 : x.fixed.size ≤ maxLen) :
  Calls Tryz.prog 29 #[.agg #[.string x.name, .string x.service, .int .i64 x.rank, .int .i64 x.born, .int .i64 x.room, .int .i64 x.hold, .string x.select, .slice a7 x.likes.length c7, .int .i64 x.apart, .string x.near, .string x.fixed, .string x.at_]] w fun e w' => e = .returned (.bool (sCopy x)) ∧ Below w.heap.size w w' := by
 have HI : Hid (SliceC LikC 2 lo w a7 x.likes) := hin
 have Z0 : Hid (x.name.size ≤ maxLen) := z0
 have Z1 : Hid (x.service.size ≤ maxLen) := z1
 have Z6 : Hid (x.select.size ≤ maxLen) := z6
 have Z9 : Hid (x.near.size ≤ maxLen) := z9
 have Z10 : Hid (x.fixed.size ≤ maxLen) := z10
 have hlen := hin.1
 unfold maxLen at hlen
 have HD : Hid (sCopy x = (P.nameOk x.name && (P.nameOk x.service && (inB x.rank 0 100 && (inB x.born 0 1000000 && (inB x.room 0 1000 && (inB x.hold 0 1000 && (sCopy3 x && x.likes.all sLike)))))))) := rfl
 clear hin z0 z1 z6 z9 z10
 generalize sCopy x = V at *
 go_enter Tryz.func29, Tryz.ntmps29
 go_wp2_with fail
 have HR : Hid ((w.alloc (Obj.cells #[.string x.name, .string x.service, .int .i64 x.rank, .int .i64 x.born, .int .i64 x.room, .int .i64 x.hold, .string x.select, .slice a7 x.likes.length c7, .int .i64 x.apart, .string x.near, .string x.fixed, .string x.at_] 45)).rangeAt w.heap.size 0 [.string x.name, .string x.service, .int .i64 x.rank, .int .i64 x.born, .int .i64 x.room, .int .i64 x.hold, .string x.select, .slice a7 x.likes.length c7, .int .i64 x.apart, .string x.near, .string x.fixed, .string x.at_]) := range_cons (by simp) (range_cons (by simp) (range_cons (by simp) (range_cons (by simp) (range_cons (by simp) (range_cons (by simp) (range_cons (by simp) (range_cons (by simp) (range_cons (by simp) (range_cons (by simp) (range_cons (by simp) (range_cons (by simp) (range_nil _ _ _))))))))))))
 have HB : Hid (Below w.heap.size w (w.alloc (Obj.cells #[.string x.name, .string x.service, .int .i64 x.rank, .int .i64 x.born, .int .i64 x.room, .int .i64 x.hold, .string x.select, .slice a7 x.likes.length c7, .int .i64 x.apart, .string x.near, .string x.fixed, .string x.at_] 45))) := (Below.refl _ _).alloc nL _
 have HS : Hid (w.heap.size < (w.alloc (Obj.cells #[.string x.name, .string x.service, .int .i64 x.rank, .int .i64 x.born, .int .i64 x.room, .int .i64 x.hold, .string x.select, .slice a7 x.likes.length c7, .int .i64 x.apart, .string x.near, .string x.fixed, .string x.at_] 45)).heap.size) := by show _ < _; simp
 generalize w.alloc (Obj.cells #[.string x.name, .string x.service, .int .i64 x.rank, .int .i64 x.born, .int .i64 x.room, .int .i64 x.hold, .string x.select, .slice a7 x.likes.length c7, .int .i64 x.apart, .string x.near, .string x.fixed, .string x.at_] 45) = w0 at *
 refine (nameOk_any _ _ Z0.out).mono ?_
 rintro e w1 ⟨rfl, rfl⟩
 cases h0 : P.nameOk x.name with
 | false =>
  have HC : Hid (V = false) := by show _ = _; rw [HD.out, h0]; rfl
  clear h0 HD
  go_wp2_with fail
  go_ret
  exact ⟨ret_bool HC.out.symm, HB.out⟩
 | true =>
 rw [h0, Bool.true_and] at HD
 clear h0
 have e0 : w1.cell? ⟨w.heap.size, 1, none⟩ = some (.string x.service) := HR.out 1 _ rfl
 go_wp2_with fail
 clear e0
 refine (nameOk_any _ _ Z1.out).mono ?_
 rintro e w1 ⟨rfl, rfl⟩
 cases h0 : P.nameOk x.service with
 | false =>
  have HC : Hid (V = false) := by show _ = _; rw [HD.out, h0]; rfl
  clear h0 HD
  go_wp2_with fail
  go_ret
  exact ⟨ret_bool HC.out.symm, HB.out⟩
 | true =>
 rw [h0, Bool.true_and] at HD
 clear h0
 have e0 : w1.cell? ⟨w.heap.size, 2, none⟩ = some (.int .i64 x.rank) := HR.out 2 _ rfl
 go_wp2_with fail
 clear e0
 refine (in_any _ _ _ _).mono ?_
 rintro e w1 ⟨rfl, rfl⟩
 cases h0 : inB x.rank 0 100 with
 | false =>
  have HC : Hid (V = false) := by show _ = _; rw [HD.out, h0]; rfl
  clear h0 HD
  go_wp2_with fail
  go_ret
  exact ⟨ret_bool HC.out.symm, HB.out⟩
 | true =>
 rw [h0, Bool.true_and] at HD
 clear h0
 have e0 : w1.cell? ⟨w.heap.size, 3, none⟩ = some (.int .i64 x.born) := HR.out 3 _ rfl
 go_wp2_with fail
 clear e0
 refine (in_any _ _ _ _).mono ?_
 rintro e w1 ⟨rfl, rfl⟩
 cases h0 : inB x.born 0 1000000 with
 | false =>
  have HC : Hid (V = false) := by show _ = _; rw [HD.out, h0]; rfl
  clear h0 HD
  go_wp2_with fail
  go_ret
  exact ⟨ret_bool HC.out.symm, HB.out⟩
 | true =>
 rw [h0, Bool.true_and] at HD
 clear h0
 have e0 : w1.cell? ⟨w.heap.size, 4, none⟩ = some (.int .i64 x.room) := HR.out 4 _ rfl
 go_wp2_with fail
 clear e0
 refine (in_any _ _ _ _).mono ?_
 rintro e w1 ⟨rfl, rfl⟩
 cases h0 : inB x.room 0 1000 with
 | false =>
  have HC : Hid (V = false) := by show _ = _; rw [HD.out, h0]; rfl
  clear h0 HD
  go_wp2_with fail
  go_ret
  exact ⟨ret_bool HC.out.symm, HB.out⟩
 | true =>
 rw [h0, Bool.true_and] at HD
 clear h0
 have e0 : w1.cell? ⟨w.heap.size, 5, none⟩ = some (.int .i64 x.hold) := HR.out 5 _ rfl
 go_wp2_with fail
 clear e0
 refine (in_any _ _ _ _).mono ?_
 rintro e w1 ⟨rfl, rfl⟩
 cases h0 : inB x.hold 0 1000 with
 | false =>
  have HC : Hid (V = false) := by show _ = _; rw [HD.out, h0]; rfl
  clear h0 HD
  go_wp2_with fail
  go_ret
  exact ⟨ret_bool HC.out.symm, HB.out⟩
 | true =>
 rw [h0, Bool.true_and] at HD
 clear h0
 have HD3 : Hid (sCopy3 x = (decide (codeOf x.select = 0) && (decide (x.likes.length ≤ 5) && (inB x.apart 0 2 && (nameOrNone x.near && nameOrNone x.fixed))))) := rfl
 go_upto_region 3 with fail
 go_cut [75] (fun c wx => c = .bool (sBad3 x) ∧ Hid (Below w1.heap.size w1 wx))
 case first =>
  have e6 : w1.cell? ⟨w.heap.size, 6, none⟩ = some (.string x.select) := HR.out 6 _ rfl
  go_wp2_with fail
  clear e6
  refine (selectOk_any _ _ Z6.out).mono ?_
  rintro e w2 ⟨rfl, hb⟩
  have HR2 : Hid (w2.rangeAt w.heap.size 0 [.string x.name, .string x.service, .int .i64 x.rank, .int .i64 x.born, .int .i64 x.room, .int .i64 x.hold, .string x.select, .slice a7 x.likes.length c7, .int .i64 x.apart, .string x.near, .string x.fixed, .string x.at_]) := range_belowV HR.out hb HS.out
  have HB2 : Hid (Below w1.heap.size w1 w2) := hb
  clear hb
  cases h0 : decide (codeOf x.select = 0) with
  | false =>
   have HC : Hid (sCopy3 x = false) := by show _ = _; rw [HD3.out, h0]; rfl
   clear h0 HD3 HD
   go_wp2_with fail
   go_meet
   exact ⟨by rw [sBad3, HC.out]; rfl, HB2⟩
  | true =>
  rw [h0, Bool.true_and] at HD3
  clear h0
  have e7 : w2.cell? ⟨w.heap.size, 7, none⟩ = some (.slice a7 x.likes.length c7) := HR2.out 7 _ rfl
  by_cases hl5 : x.likes.length ≤ 5
  rotate_left
  ·have HC : Hid (sCopy3 x = false) := by show _ = _; rw [HD3.out, decide_eq_false hl5]; rfl
   clear HD3 HD
   go_wp2_with fail
   go_meet
   exact ⟨by rw [sBad3, HC.out]; rfl, HB2⟩
  rw [decide_eq_true hl5, Bool.true_and] at HD3
  have e8 : w2.cell? ⟨w.heap.size, 8, none⟩ = some (.int .i64 x.apart) := HR2.out 8 _ rfl
  go_wp2_with fail
  refine (in_any _ _ _ _).mono ?_
  rintro e w3 ⟨rfl, rfl⟩
  clear e7 e8
  cases h0 : inB x.apart 0 2 with
  | false =>
   have HC : Hid (sCopy3 x = false) := by show _ = _; rw [HD3.out, h0]; rfl
   clear h0 HD3 HD
   go_wp2_with fail
   go_meet
   exact ⟨by rw [sBad3, HC.out]; rfl, HB2⟩
  | true =>
  rw [h0, Bool.true_and] at HD3
  clear h0
  have e9 : w3.cell? ⟨w.heap.size, 9, none⟩ = some (.string x.near) := HR2.out 9 _ rfl
  have e10 : w3.cell? ⟨w.heap.size, 10, none⟩ = some (.string x.fixed) := HR2.out 10 _ rfl
  by_cases hn : x.near = ⟨#[]⟩
  ·have htn := tl_yes hn
   have htn2 := te_yes hn
   rw [none_yes hn, Bool.true_and] at HD3
   clear hn
   by_cases hf : x.fixed = ⟨#[]⟩
   ·have HC : Hid (sCopy3 x = true) := by show _ = _; rw [HD3.out, none_yes hf]
    have hte := tl_yes hf
    have hte2 := te_yes hf
    clear hf HD3 HD
    go_wp2_with fail
    go_meet
    exact ⟨by rw [sBad3, HC.out, decide_eq_false (by omega)]; rfl, HB2⟩
   ·have hte := tl_no hf
    have hte2 := te_no hf
    rw [none_no hf] at HD3
    clear hf
    go_wp2_with fail
    refine (nameOk_any _ _ Z10.out).mono ?_
    rintro e w4 ⟨rfl, rfl⟩
    cases h0 : P.nameOk x.fixed with
    | false =>
     have HC : Hid (sCopy3 x = false) := by show _ = _; rw [HD3.out, h0]
     clear h0 HD3 HD
     go_wp2_with fail
     go_meet
     exact ⟨by rw [sBad3, HC.out]; rfl, HB2⟩
    | true =>
     have HC : Hid (sCopy3 x = true) := by show _ = _; rw [HD3.out, h0]
     clear h0 HD3 HD
     go_wp2_with fail
     go_meet
     exact ⟨by rw [sBad3, HC.out, decide_eq_false (by omega)]; rfl, HB2⟩
  ·have htn := tl_no hn
   have htn2 := te_no hn
   rw [none_no hn] at HD3
   clear hn
   go_wp2_with fail
   refine (nameOk_any _ _ Z9.out).mono ?_
   rintro e w4 ⟨rfl, rfl⟩
   cases h0 : P.nameOk x.near with
   | false =>
    have HC : Hid (sCopy3 x = false) := by show _ = _; rw [HD3.out, h0]; rfl
    clear h0 HD3 HD
    go_wp2_with fail
    go_meet
    exact ⟨by rw [sBad3, HC.out]; rfl, HB2⟩
   | true =>
   rw [h0, Bool.true_and] at HD3
   clear h0
   by_cases hf : x.fixed = ⟨#[]⟩
   ·have HC : Hid (sCopy3 x = true) := by show _ = _; rw [HD3.out, none_yes hf]
    have hte := tl_yes hf
    have hte2 := te_yes hf
    clear hf HD3 HD
    go_wp2_with fail
    go_meet
    exact ⟨by rw [sBad3, HC.out, decide_eq_false (by omega)]; rfl, HB2⟩
   ·have hte := tl_no hf
    have hte2 := te_no hf
    rw [none_no hf] at HD3
    clear hf
    go_wp2_with fail
    refine (nameOk_any _ _ Z10.out).mono ?_
    rintro e w4 ⟨rfl, rfl⟩
    cases h0 : P.nameOk x.fixed with
    | false =>
     have HC : Hid (sCopy3 x = false) := by show _ = _; rw [HD3.out, h0]
     clear h0 HD3 HD
     go_wp2_with fail
     go_meet
     exact ⟨by rw [sBad3, HC.out]; rfl, HB2⟩
    | true =>
     have HC : Hid (sCopy3 x = true) := by show _ = _; rw [HD3.out, h0]
     clear h0 HD3 HD
     go_wp2_with fail
     go_meet
     exact ⟨by rw [sBad3, HC.out, decide_eq_false (by omega)]; rfl, HB2⟩
 case rest =>
  obtain ⟨rfl, hbc⟩ := hcut
  have HRC : Hid (wc.rangeAt w.heap.size 0 [.string x.name, .string x.service, .int .i64 x.rank, .int .i64 x.born, .int .i64 x.room, .int .i64 x.hold, .string x.select, .slice a7 x.likes.length c7, .int .i64 x.apart, .string x.near, .string x.fixed, .string x.at_]) := range_belowV HR.out hbc.out HS.out
  have HBC : Hid (Below w.heap.size w wc) := HB.out.trans (hbc.out.mono HB.out.size)
  have HSC : Hid (w.heap.size < wc.heap.size) := Nat.lt_of_lt_of_le HS.out hbc.out.size
  clear hbc HR HB HS
  have HBD : Hid (sBad3 x = !sCopy3 x) := rfl
  cases h3 : sBad3 x with
  | true =>
   have HC : Hid (V = false) := by
    have h4 := HBD.out.symm.trans h3
    show _ = _
    rw [HD.out, show sCopy3 x = false from by simpa using h4]; rfl
   clear h3 HD HD3
   go_wp2_with fail
   go_ret
   exact ⟨ret_bool HC.out.symm, HBC.out⟩
  | false =>
  have HD2 : Hid (V = x.likes.all sLike) := by
   have h4 := HBD.out.symm.trans h3
   show _ = _
   rw [HD.out, show sCopy3 x = true from by simpa using h4]; rfl
  clear h3 HD HD3
  go_wp2_with fail
  go_loopw [3] (fun i wr => ∃ k : Nat, k ≤ x.likes.length ∧ i = .int .i64 k ∧ Hid (∀ j y, j < k → x.likes[j]? = some y → sLike y = true) ∧ wr.cell? ⟨w.heap.size, 7, none⟩ = some (.slice a7 x.likes.length c7) ∧ Hid (w.heap.size < wr.heap.size) ∧ Hid (Below w.heap.size w wr)) (fun i _ => x.likes.length - (intOf i).toNat)
  case atStart => exact ⟨0, Nat.zero_le _, rfl, fun j y h => absurd h (Nat.not_lt_zero _), HRC.out 7 _ rfl, HSC, HBC⟩
  case round =>
   clear HRC HSC HBC
   obtain ⟨k, hk, rfl, ho, hcell, hsz, hbel⟩ := hrel
   by_cases hlt : k < x.likes.length
   ·obtain ⟨y, hy⟩ : ∃ y, x.likes[k]? = some y := ⟨x.likes[k], List.getElem?_eq_getElem hlt⟩
    obtain ⟨b, o, rfl, _, hbl, hc⟩ := (HI.out.below LikC.holds hbel.out nL).at hy
    obtain ⟨q0, q1, z0⟩ := hc
    simp only [Nat.add_zero] at q0 q1
    have HX : Hid (x.likes[k]? = some y) := hy
    have HZ : Hid (y.select.size ≤ maxLen) := z0
    have bad : Hid (sLike y = false → V = false) := fun h => by rw [HD2.out]; exact List.all_eq_false.mpr ⟨y, List.mem_of_getElem? HX.out, by simp [h]⟩
    have HSL : Hid (sLike y = (decide (codeOf y.select = 0) && inB y.weight (-9) 9)) := rfl
    clear hy z0
    go_wp2_with fail
    refine (selectOk_any _ _ HZ.out).mono ?_
    rintro e w5 ⟨rfl, hb5⟩
    have HB5 : Hid (Below w.heap.size w w5) := hbel.out.trans (hb5.mono hbel.out.size)
    have HS5 : Hid (w.heap.size < w5.heap.size) := Nat.lt_of_lt_of_le hsz.out hb5.size
    have c5 : w5.cell? ⟨w.heap.size, 7, none⟩ = some (.slice (some ⟨b, o, none⟩) x.likes.length c7) := (hb5.cell (p := ⟨w.heap.size, 7, none⟩) hsz.out).trans hcell
    have r1 : w5.cell? ⟨b, o + k * 2 + 1, none⟩ = some (.int .i64 y.weight) := (hb5.cell (p := ⟨b, o + k * 2 + 1, none⟩) hbl).trans q1
    clear hb5 q0 q1 hcell hbel hsz
    cases h0 : decide (codeOf y.select = 0) with
    | false =>
     have HC : Hid (V = false) := bad.out (by rw [HSL.out, h0]; rfl)
     clear h0 bad HSL ho HD2
     go_wp2_with fail
     go_ret
     exact ⟨ret_bool HC.out.symm, HB5.out⟩
    | true =>
    rw [h0, Bool.true_and] at HSL
    clear h0
    go_wp2_with fail
    refine (in_any _ _ _ _).mono ?_
    rintro e w6 ⟨rfl, rfl⟩
    clear r1
    cases h0 : inB y.weight (-9) 9 with
    | false =>
     have HC : Hid (V = false) := bad.out (by rw [HSL.out, h0])
     clear h0 bad HSL ho HD2
     go_wp2_with fail
     go_ret
     exact ⟨ret_bool HC.out.symm, HB5.out⟩
    | true =>
     have HO : Hid (∀ j z, j < k + 1 → x.likes[j]? = some z → sLike z = true) := by
      intro j z hj hz
      by_cases e : j = k
      ·subst e
       rw [HX.out] at hz
       cases hz
       rw [HSL.out, h0]
      ·exact ho.out j z (by omega) hz
     clear h0 bad HSL ho
     go_wp2_with fail
     go_roundw
     case rel => exact ⟨k + 1, by omega, by go_num, HO, c5, HS5, HB5⟩
     case measure => simp [intOf]; omega
   ·have hke : k = x.likes.length := by omega
    have HC : Hid (V = true) := by
     show _ = _
     rw [HD2.out]
     simp only [List.all_eq_true]
     intro y hy
     obtain ⟨j, hj, e⟩ := List.mem_iff_getElem.mp hy
     exact ho.out j y (by omega) (by rw [List.getElem?_eq_getElem hj, e])
    clear ho HD2
    go_wp2_with fail
    go_ret
    exact ⟨ret_bool HC.out.symm, hbel.out⟩
end Go.Proofs.YtebfdgfhadpieaaGreat
