/-
  Several texts in one: Prs, SlJ.
-/
import Derived.Test.YthjicahpfhjfdaaGreatDoorJ18
import Derived.Test.YthjicahpfhjfdaaGreatDoorLst
import Derived.Test.YthjicahpfhjfdaaGreatDoorAs
import Derived.Laws.ResultCell
import Derived.Test.YthjicahpfhjfdaaGreatDoorJ29
import Derived.Test.YthjicahpfhjfdaaGreatDoorRtp
import Derived.Test.YthjicahpfhjfdaaGreatDoorJ39
import Derived.Test.YthjicahpfhjfdaaGreatDoorJ35
namespace Go.Proofs.YthjicahpfhjfdaaGreatDoor
open Go.RowKit

theorem tree_ok {t : ByteArray} (h : codeOf t = 0) : P.wf (treeOf t) ∧ (post (treeOf t)).length ≤ 200 ∧ 0 < (post (treeOf t)).length := by
  have ht : ¬ 200 < t.size := by
    intro hb
    unfold codeOf at h
    rw [if_pos hb] at h
    cases h
  have hl := toksAt_le (i := 0) (t := t) (by omega)
  unfold codeOf at h
  rw [if_neg ht] at h
  unfold treeOf
  by_cases hL : toksAt t 0 = []
  · rw [if_pos hL]
    exact ⟨P.wf_non, by decide, by decide⟩
  · rw [if_neg hL] at h ⊢
    cases hr : P.rd 1000 2 P.nonT (toksAt t 0) with
    | none => rw [hr] at h; cases h
    | some yr =>
      obtain ⟨y, r⟩ := yr
      obtain ⟨_, _, a3, _, a5, a6⟩ := P.rd_rd 1000 2 P.nonT _ _ _ (fun h => by omega) hr
      rw [if_pos (by omega)] at a5
      show P.wf y ∧ (post y).length ≤ 200 ∧ 0 < (post y).length
      rw [post_len y a3]
      exact ⟨a3, by omega, by omega⟩

/-- what errors.As asks of a package-level variable -/
def ErrLaid (w : World) : Prop := w.cell? ⟨0, 0, none⟩ = some (.iface 132 (.agg #[.pointer (some ⟨2, 61, none⟩)]))

/-- what the program's reading answers -/
def ImplR (t : ByteArray) (w : World) (e : Ending) (w' : World) : Prop := ∃ v, e = .returned (.tuple #[.agg #[v], .int .i64 (codeOf t : Nat)]) ∧ NdOwn w' w.heap.size v (nodesOf t) ∧ Below w.heap.size w w'

theorem NdOwn.mono {w : World} {B B' : Nat} {v : Value} {xs : List P.Nd} (h : NdOwn w B v xs) (hB : B' ≤ B) : NdOwn w B' v xs := by
  refine ⟨h.1, ?_⟩
  rcases h.2 with h | ⟨g, cap, cur, e, hg, r⟩
  · exact .inl h
  · exact .inr ⟨g, cap, cur, e, Nat.le_trans hB hg, r⟩

theorem NdOwn.setCell {w : World} {B : Nat} {v : Value} {xs : List P.Nd} (h : NdOwn w B v xs) {a : Addr} (ha : a.block < B) (x : Value) : NdOwn (w.setCell a x) B v xs := by
  refine ⟨h.1, ?_⟩
  rcases h.2 with h | ⟨g, cap, cur, e, hg, hc, r⟩
  · exact .inl h
  · exact .inr ⟨g, cap, cur, e, hg, (Below.heap_setCell w a x g (by omega)).trans hc, r⟩

theorem NdOwn.nil (w : World) (B : Nat) : NdOwn w B (.slice none 0 0) [] := World.ownsRow_nil w _ _ _

set_option maxHeartbeats 4000000 in
set_option maxRecDepth 100000 in
theorem implParse_any (t : ByteArray) (w : World) (hm : t.size ≤ maxLen) (hg : ErrLaid w) :
    Calls Tryz.prog 7 #[.string t] w fun e w' => ImplR t w e w' := by
  have HM : Hid (t.size ≤ maxLen) := hm
  have HG : Hid (ErrLaid w) := hg
  have hw0 : 0 < w.heap.size := block_lt_of_cell hg
  clear hm hg
  go_enter Tryz.func7, Tryz.ntmps7
  go_wp2_with fail
  refine (read_any t _ HM.out).mono ?_
  rintro e w1 ⟨hr, hb1⟩
  have kr : w1.cell? ⟨w.heap.size, 0, none⟩ = some (.slice none 0 0) := (hb1.cell (p := ⟨w.heap.size, 0, none⟩) (by simp)).trans (by simp)
  have fr : w1.frozen? ⟨w.heap.size, 0, none⟩ = false := (hb1.frozen (p := ⟨w.heap.size, 0, none⟩) (by simp)).trans (by simp)
  have HB1 : Hid (Below w.heap.size w w1) := (show Below w.heap.size w _ by go_grown).trans (hb1.mono (by simp))
  have hs1 : w.heap.size < w1.heap.size := by have := hb1.size; simp at this; omega
  have HG1 : Hid (ErrLaid w1) := (HB1.out.cell (p := ⟨0, 0, none⟩) hw0).trans HG.out
  clear hb1
  rcases hr with ⟨hc, rfl⟩ | ⟨hc, q, rfl⟩
  · obtain ⟨hwf, hlen, hpos⟩ := tree_ok hc
    have HC : Hid (codeOf t = 0) := hc
    have HN : Hid (nodesOf t = post (treeOf t)) := nodesOf_yes hc rfl
    have HW : Hid (P.wf (treeOf t)) := hwf
    obtain ⟨ty, x, hv⟩ := val_iface hwf
    rw [hv]
    have HV : Hid (val (treeOf t) = .iface ty x) := hv
    clear hc hwf hv
    go_wp2_with fail
    refine (as_nil _ _).mono ?_
    rintro e w' ⟨rfl, rfl⟩
    have hal : Below w1.heap.size w1 (w1.alloc (Obj.cells #[.int .i64 0, .int .i64 0] 65)) := (Below.refl _ _).alloc (Nat.le_refl _) _
    have kr2 : (w1.alloc (Obj.cells #[.int .i64 0, .int .i64 0] 65)).cell? ⟨w.heap.size, 0, none⟩ = some (.slice none 0 0) := (hal.cell (p := ⟨w.heap.size, 0, none⟩) hs1).trans kr
    have fr2 : (w1.alloc (Obj.cells #[.int .i64 0, .int .i64 0] 65)).frozen? ⟨w.heap.size, 0, none⟩ = false := (hal.frozen (p := ⟨w.heap.size, 0, none⟩) hs1).trans fr
    have HB2 : Hid (Below w.heap.size w (w1.alloc (Obj.cells #[.int .i64 0, .int .i64 0] 65))) := HB1.out.trans (hal.mono (by omega))
    have hs2 : w.heap.size < (w1.alloc (Obj.cells #[.int .i64 0, .int .i64 0] 65)).heap.size := Nat.lt_of_lt_of_le hs1 hal.size
    clear hal kr fr HB1 HG1
    generalize w1.alloc (Obj.cells #[.int .i64 0, .int .i64 0] 65) = w2 at *
    go_wp2_with (refine wpList_meth rfl (.tmp 18) _ #[.const (.slice none 0 0)] #[23] rfl _ rfl #[.slice none 0 0] (map_one _ _) _ (lst_ok (treeOf t) HW.out _ ⟨fun _ _ => by kernel_rfl, fun _ _ _ => by kernel_rfl, fun _ _ _ _ => by kernel_rfl, fun _ _ _ _ => by kernel_rfl, fun _ _ _ _ _ => by kernel_rfl, fun _ _ _ _ _ => by kernel_rfl⟩ _ HV w2.heap.size (.slice none 0 0) [] _ (NdOwn.nil _ _) (Nat.le_refl _) (by simp; omega)) ?_; rintro u w3 ⟨ho3, hb3, _, _⟩; obtain ⟨g, cap, cur, he, hgb, _⟩ := ho3.2.resolve_left (fun h => by have := h.2; rw [List.nil_append] at this; omega); subst he; have kr3 : w3.cell? ⟨w.heap.size, 0, none⟩ = some (.slice none 0 0) := (hb3.cell (p := ⟨w.heap.size, 0, none⟩) hs2).trans kr2; have fr3 : w3.frozen? ⟨w.heap.size, 0, none⟩ = false := (hb3.frozen (p := ⟨w.heap.size, 0, none⟩) hs2).trans fr2; have HB3 : Hid (Below w.heap.size w w3) := HB2.out.trans (hb3.mono (by omega)); have HO3 : Hid (NdOwn w3 w2.heap.size (.slice (some ⟨g, 0, none⟩) ([] ++ post (treeOf t)).length cap) ([] ++ post (treeOf t))) := ho3; clear ho3 hb3)
    exact bodyPost_ret (v := .tuple #[.agg #[.slice (some ⟨g, 0, none⟩) ([] ++ post (treeOf t)).length cap], .int .i64 0]) (by rw [results_cell_tmp rfl]; simp [go_sem, kr3]) rfl ⟨_, by rw [HC.out]; rfl, by rw [HN.out]; exact (HO3.out.setCell (a := ⟨w.heap.size, 0, none⟩) hs2 _).mono (by omega), by have := HB3.out; go_grown⟩
  · have HC : Hid (nodesOf t = []) := nodesOf_no rfl hc
    clear hc
    go_wp2_with fail
    have kt0 : (w1.alloc (Obj.cells #[.int .i64 0, .int .i64 0] 65)).cell? ⟨w1.heap.size, 0, none⟩ = some (.int .i64 0) := by simp
    have kt1 : (w1.alloc (Obj.cells #[.int .i64 0, .int .i64 0] 65)).cell? ⟨w1.heap.size, 1, none⟩ = some (.int .i64 0) := by simp
    have ft0 : (w1.alloc (Obj.cells #[.int .i64 0, .int .i64 0] 65)).frozen? ⟨w1.heap.size, 0, none⟩ = false := by simp
    have ft1 : (w1.alloc (Obj.cells #[.int .i64 0, .int .i64 0] 65)).frozen? ⟨w1.heap.size, 1, none⟩ = false := by simp
    have hal : Below w1.heap.size w1 (w1.alloc (Obj.cells #[.int .i64 0, .int .i64 0] 65)) := (Below.refl _ _).alloc (Nat.le_refl _) _
    have HG2 : ErrLaid (w1.alloc (Obj.cells #[.int .i64 0, .int .i64 0] 65)) := (hal.cell (p := ⟨0, 0, none⟩) (show 0 < w1.heap.size by omega)).trans HG1.out
    refine (as_hit _ q w1.heap.size _ HG2 _ _ kt0 kt1 ft0 ft1).mono ?_
    rintro e w3 ⟨rfl, k3, hb3⟩
    have hb13 : Below w1.heap.size w1 w3 := hal.trans hb3
    have kr3 : w3.cell? ⟨w.heap.size, 0, none⟩ = some (.slice none 0 0) := (hb13.cell (p := ⟨w.heap.size, 0, none⟩) hs1).trans kr
    have fr3 : w3.frozen? ⟨w.heap.size, 0, none⟩ = false := (hb13.frozen (p := ⟨w.heap.size, 0, none⟩) hs1).trans fr
    have HB3 : Hid (Below w.heap.size w w3) := HB1.out.trans (hb13.mono (by omega))
    have hne : w1.heap.size ≠ w.heap.size := by omega
    clear kt0 kt1 ft0 ft1 hal HG2 hb3 hb13 kr fr HB1 HG1
    have hnp : (⟨w.heap.size, 0, none⟩ : Addr) ≠ ⟨w1.heap.size, 0, none⟩ := fun h => by injection h with h _ _; omega
    go_wp2_with fail
    go_region
    all_goals
      go_wp2_with fail
      exact bodyPost_ret (v := .tuple #[.agg #[.slice none 0 0], .int .i64 (codeOf t : Nat)]) (by rw [results_cell_tmp rfl]; simp [go_sem, kr3]) rfl ⟨_, rfl, by rw [HC.out]; exact NdOwn.nil _ _, by have := HB3.out; go_grown⟩

end Go.Proofs.YthjicahpfhjfdaaGreatDoor

namespace Go.Proofs.YthjicahpfhjfdaaGreatDoor
open Go.RowKit

theorem names_of : ∀ (t : P.Tr), nOk t → P.namesT t
  | .nil, _ => trivial
  | .node _ _ _ l r, h => ⟨h.1, h.2.1, h.2.2.1, names_of l h.2.2.2.1, names_of r h.2.2.2.2⟩

theorem mt_size {s : ByteArray} (h : s.size = 0) : s = ⟨#[]⟩ := by
  obtain ⟨d⟩ := s
  have : d = #[] := Array.eq_empty_of_size_eq_zero h
  rw [this]

/-- a tree that is a select's -/
def GoodT (t : P.Tr) : Prop := P.wf t ∧ nOk t ∧ P.tall t ≤ 20

theorem grow_post {n : P.Nd} {ks : List P.Tr} {t : P.Tr} (h : P.grow n ks = some t) (hk : (ks.length : Int) = n.kids) (hg : ∀ u ∈ ks, P.wf u ∧ nOk u) : post t = ks.flatMap post ++ [n] ∧ P.wf t ∧ nOk t := by
  obtain ⟨kind, name, value, kids⟩ := n
  unfold P.grow at h
  simp only at h hk
  split at h
  · next c =>
    obtain ⟨rfl, rfl, h3, h4⟩ := c
    have : ks = [] := List.eq_nil_of_length_eq_zero (by omega)
    subst this
    cases h
    rw [mt_size h4]
    exact ⟨rfl, P.wf_nm _, nOk_nm h3⟩
  · split at h
    · next c =>
      obtain ⟨rfl, rfl, h3, h4⟩ := c
      have : ks = [] := List.eq_nil_of_length_eq_zero (by omega)
      subst this
      cases h
      exact ⟨rfl, P.wf_vl _ _, nOk_vl h3 h4⟩
    · split at h
      · cases h
      · next c =>
        have e1 : name = ⟨#[]⟩ := mt_size (by omega)
        have e2 : value = ⟨#[]⟩ := mt_size (by omega)
        subst e1 e2
        split at h
        · next c2 =>
          obtain ⟨rfl, rfl⟩ := c2
          split at h
          · next a =>
            cases h
            have ha := hg a (by simp)
            exact ⟨by simp [post_nt], P.wf_nt ha.1, nOk_nt ha.2⟩
          · cases h
        · split at h
          · next c2 =>
            obtain ⟨rfl, rfl⟩ := c2
            split at h
            · next a b =>
              cases h
              have ha := hg a (by simp)
              have hb := hg b (by simp)
              exact ⟨by simp [post_an], P.wf_an ha.1 hb.1, nOk_an ha.2 hb.2⟩
            · cases h
          · split at h
            · next c2 =>
              obtain ⟨rfl, rfl⟩ := c2
              split at h
              · next a b =>
                cases h
                have ha := hg a (by simp)
                have hb := hg b (by simp)
                exact ⟨by simp [post_or], P.wf_or ha.1 hb.1, nOk_or ha.2 hb.2⟩
              · cases h
            · cases h

theorem runI_inv : ∀ (ns : List P.Nd) (ts ts' : List P.Tr), P.runI ns ts = some ts' → (∀ u ∈ ts, GoodT u) → ts'.flatMap post = ts.flatMap post ++ ns ∧ ∀ u ∈ ts', GoodT u
  | [], ts, ts', h, hg => by
    cases h
    exact ⟨by simp, hg⟩
  | n :: r, ts, ts', h, hg => by
    unfold P.runI at h
    cases hs : P.stepI n ts with
    | none => rw [hs] at h; cases h
    | some t1 =>
      rw [hs] at h
      unfold P.stepI at hs
      split at hs
      · cases hs
      · next hc =>
        have hkl : n.kids.toNat ≤ ts.length := by omega
        cases hgr : P.grow n (ts.drop (ts.length - n.kids.toNat)) with
        | none => rw [hgr] at hs; cases hs
        | some t =>
          rw [hgr] at hs
          simp only at hs
          split at hs
          · cases hs
          · next h20 =>
            cases hs
            have hlen : ((ts.drop (ts.length - n.kids.toNat)).length : Int) = n.kids := by rw [List.length_drop]; omega
            obtain ⟨p1, p2, p3⟩ := grow_post hgr hlen (fun u hu => ⟨(hg u (List.mem_of_mem_drop hu)).1, (hg u (List.mem_of_mem_drop hu)).2.1⟩)
            obtain ⟨q1, q2⟩ := runI_inv r _ ts' h (fun u hu => by
              rcases List.mem_append.1 hu with hu | hu
              · exact hg u (List.mem_of_mem_take hu)
              · rw [List.mem_singleton.1 hu]; exact ⟨p2, p3, by omega⟩)
            refine ⟨?_, q2⟩
            rw [q1, List.flatMap_append, List.flatMap_singleton, p1, ← List.append_assoc, ← List.flatMap_append, List.take_append_drop, List.append_assoc]
            rfl

theorem treeI_inv {ns : List P.Nd} {t : P.Tr} (h : P.treeI ns = some t) : t = P.nonT ∨ (ns = post t ∧ GoodT t ∧ P.runI ns [] = some [t] ∧ P.lone ns = false) := by
  unfold P.treeI at h
  split at h
  · cases h; exact .inl rfl
  · next hl =>
    split at h
    · next t' ht =>
      cases h
      obtain ⟨h1, h2⟩ := runI_inv ns [] [t] ht (fun u hu => by cases hu)
      exact .inr ⟨by simpa using h1.symm, h2 t (by simp), ht, by simpa using hl⟩
    · cases h

/-- what is printed of a list of nodes -/
theorem outI_some {ns : List P.Nd} (h : P.outI ns ≠ ⟨#[]⟩) : ∃ t, P.treeI ns = some t ∧ ns = post t ∧ GoodT t ∧ P.outI ns = P.pr t ∧ (P.pr t).size ≤ 200 := by
  unfold P.outI at h ⊢
  cases ht : P.treeI ns with
  | none => rw [ht] at h; exact absurd rfl h
  | some t =>
    rw [ht] at h
    simp only at h ⊢
    split at h
    · exact absurd rfl h
    · next hs =>
      rcases treeI_inv ht with rfl | ⟨h1, h2, _, _⟩
      · exact absurd P.pr_non h
      · exact ⟨t, rfl, h1, h2, by rw [if_neg hs], by omega⟩

theorem toks_zero (t : ByteArray) : toksAt t 0 = P.toks t.data.toList := rfl

/-- what is printed is read -/
theorem read_pr {t : P.Tr} (h : GoodT t) (hs : (P.pr t).size ≤ 200) : codeOf (P.pr t) = 0 ∧ treeOf (P.pr t) = t := by
  have hr := P.rd_pr h.1 (names_of t h.2.1) hs
  have hne : ¬ toksAt (P.pr t) 0 = [] := fun e => by
    have := P.rd_short (by omega) hr
    rw [toks_zero] at e
    rw [e] at this
    simp at this
  unfold codeOf treeOf
  rw [if_neg (by omega), if_neg hne, if_neg hne, toks_zero, hr]
  simp only
  exact ⟨if_neg (by have := h.2.2; omega), trivial⟩

theorem nodes_pr {t : P.Tr} (h : GoodT t) (hs : (P.pr t).size ≤ 200) : nodesOf (P.pr t) = post t := nodesOf_yes (read_pr h hs).1 (read_pr h hs).2

/-- a text that is read, printed: read as the same -/
theorem again {s : ByteArray} (hp : P.outI (nodesOf s) ≠ ⟨#[]⟩) : codeOf (P.outI (nodesOf s)) = 0 ∧ nodesOf (P.outI (nodesOf s)) = nodesOf s := by
  obtain ⟨t, h1, h2, h3, h4, h5⟩ := outI_some hp
  rw [h4]
  exact ⟨(read_pr h3 h5).1, by rw [nodes_pr h3 h5, ← h2]⟩

/-- a list of nodes met by marks, by the program -/
def mtI (ns : List P.Nd) (ms : List ByteArray) : Bool := match P.treeI ns with
  | none => false
  | some t => meetsK (keysR ms ms.length) t

theorem meetsS_of {ns : List P.Nd} {t : P.Tr} (h : P.treeI ns = some t) (ms : List ByteArray) : meetsK (keysR ms ms.length) t = meetsS ms t := by
  rcases treeI_inv h with rfl | ⟨_, h2, _, _⟩
  · rfl
  · exact meets_eq ms t h2.1 h2.2.1

theorem mt_spec {ns : List P.Nd} (hl : ns.length ≤ 400) (ms : List ByteArray) : meetsNs ns ms = mtI ns ms := by
  unfold meetsNs mtI validB
  cases ht : P.treeI ns with
  | none => simp
  | some t =>
    have hk : P.treeOk ns = true := by
      cases h : P.treeOk ns with
      | true => rfl
      | false => rw [P.no_tree hl h] at ht; cases ht
    simp only [hk, Option.isSome_some, Bool.and_self, Bool.true_and]
    exact (meetsS_of ht ms).symm

theorem hitTo_any (ms : List ByteArray) (one : Bool) (nm vl : ByteArray) : ∀ k, k ≤ ms.length → hitTo ms one nm vl k = (ms.take k).any (hitM one nm vl)
  | 0, _ => rfl
  | k + 1, h => by
    obtain ⟨m, hm⟩ : ∃ m, ms[k]? = some m := ⟨ms[k], List.getElem?_eq_getElem (by omega)⟩
    rw [hitTo_step hm, hitTo_any ms one nm vl k (by omega), List.take_add_one, hm, List.any_append]
    simp

theorem hitS_rev (ms : List ByteArray) (one : Bool) (nm vl : ByteArray) : hitS ms.reverse one nm vl = hitS ms one nm vl := by
  unfold hitS
  rw [hitTo_any _ _ _ _ _ (Nat.le_refl _), hitTo_any _ _ _ _ _ (Nat.le_refl _), List.take_length, List.take_length, List.any_reverse]

theorem meetsS_rev (ms : List ByteArray) : ∀ t, meetsS ms.reverse t = meetsS ms t
  | .nil => rfl
  | .node b _ p l r => by
    unfold meetsS
    rw [hitS_rev, hitS_rev, meetsS_rev ms l, meetsS_rev ms r]

theorem mt_rev (ns : List P.Nd) (ms : List ByteArray) : mtI ns ms.reverse = mtI ns ms := by
  unfold mtI
  cases ht : P.treeI ns with
  | none => rfl
  | some t =>
    simp only
    rw [meetsS_of ht, meetsS_of ht, meetsS_rev]

theorem runI_app : ∀ (a b : List P.Nd) (ts : List P.Tr), P.runI (a ++ b) ts = (P.runI a ts).bind (P.runI b)
  | [], b, ts => rfl
  | n :: a, b, ts => by
    show P.runI (n :: (a ++ b)) ts = _
    unfold P.runI
    cases P.stepI n ts with
    | none => rfl
    | some t => exact runI_app a b t

/-- what asks for the opposite: not printed, or met where the other is not -/
theorem mt_not {ns : List P.Nd} (hs : P.outI ns ≠ ⟨#[]⟩) (ms : List ByteArray) (hp : P.outI (ns ++ [⟨3, ⟨#[]⟩, ⟨#[]⟩, 1⟩]) ≠ ⟨#[]⟩) : mtI (ns ++ [⟨3, ⟨#[]⟩, ⟨#[]⟩, 1⟩]) ms = !mtI ns ms := by
  obtain ⟨t, h1, h2, h3, h4, h5⟩ := outI_some hs
  obtain ⟨u, k1, k2, k3, k4, k5⟩ := outI_some hp
  rcases treeI_inv h1 with rfl | ⟨_, _, h6, _⟩
  · exact absurd rfl h3.2.1.1
  rcases treeI_inv k1 with rfl | ⟨_, _, k6, _⟩
  · exact absurd rfl k3.2.1.1
  rw [runI_app, h6] at k6
  have k7 : (match P.stepI ⟨3, ⟨#[]⟩, ⟨#[]⟩, 1⟩ [t] with | none => none | some ts' => P.runI [] ts') = some [u] := k6
  have hst := stepI_app (n := ⟨3, ⟨#[]⟩, ⟨#[]⟩, 1⟩) (ts := []) (ks := [t]) rfl
  rw [List.nil_append, grow_nt] at hst
  rw [hst] at k7
  simp only at k7
  split at k7
  · next hh =>
    split at hh
    · cases k7
    · cases hh
  · next ts' hh =>
    split at hh
    · cases hh
    · cases hh
      have : u = P.ntT t := by
        have k8 : some ([] ++ [P.ntT t]) = some [u] := k7
        simp at k8
        exact k8.symm
      subst this
      unfold mtI
      rw [h1, k1]
      rfl

end Go.Proofs.YthjicahpfhjfdaaGreatDoor
