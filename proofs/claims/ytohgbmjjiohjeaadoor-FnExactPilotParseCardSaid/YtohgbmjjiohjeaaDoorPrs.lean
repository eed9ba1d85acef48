/-
  Walk: a select read by the program, with its nodes.
-/
import Derived.Test.YtohgbmjjiohjeaaDoorSps
import Derived.Test.YtohgbmjjiohjeaaDoorLst
import Derived.Test.YtohgbmjjiohjeaaDoorAs
import Derived.Laws.ResultCell
namespace Go.Proofs.YtohgbmjjiohjeaaDoor
open Go.RowKit

theorem tree_ok {t : ByteArray} (h : codeOf t = 0) : P.wf (treeOf t) ∧ (post (treeOf t)).length ≤ 200 ∧ 0 < (post (treeOf t)).length := by
  have ht : ¬ 200 < t.size := by
    intro hb
    unfold codeOf at h
    rw [if_pos hb] at h
    cases h
  have hl := toksAt_le (i := 0) (t := t) (by omega)
  unfold codeOf at h
  rw [if_neg ht] at h
  unfold treeOf
  by_cases hL : toksAt t 0 = []
  · rw [if_pos hL]
    exact ⟨P.wf_non, by decide, by decide⟩
  · rw [if_neg hL] at h ⊢
    cases hr : P.rd 1000 2 P.nonT (toksAt t 0) with
    | none => rw [hr] at h; cases h
    | some yr =>
      obtain ⟨y, r⟩ := yr
      obtain ⟨_, _, a3, _, a5, a6⟩ := P.rd_rd 1000 2 P.nonT _ _ _ (fun h => by omega) hr
      rw [if_pos (by omega)] at a5
      show P.wf y ∧ (post y).length ≤ 200 ∧ 0 < (post y).length
      rw [post_len y a3]
      exact ⟨a3, by omega, by omega⟩

/-- what errors.As asks of a package-level variable -/
def ErrLaid (w : World) : Prop := w.cell? ⟨0, 0, none⟩ = some (.iface 90 (.agg #[.pointer (some ⟨1, 43, none⟩)]))

/-- what the program's reading answers -/
def ImplR (t : ByteArray) (w : World) (e : Ending) (w' : World) : Prop := ∃ v, e = .returned (.tuple #[.agg #[v], .int .i64 (codeOf t : Nat)]) ∧ NdOwn w' w.heap.size v (nodesOf t) ∧ Below w.heap.size w w'

theorem NdOwn.mono {w : World} {B B' : Nat} {v : Value} {xs : List P.Nd} (h : NdOwn w B v xs) (hB : B' ≤ B) : NdOwn w B' v xs := by
  refine ⟨h.1, ?_⟩
  rcases h.2 with h | ⟨g, cap, cur, e, hg, r⟩
  · exact .inl h
  · exact .inr ⟨g, cap, cur, e, Nat.le_trans hB hg, r⟩

theorem NdOwn.setCell {w : World} {B : Nat} {v : Value} {xs : List P.Nd} (h : NdOwn w B v xs) {a : Addr} (ha : a.block < B) (x : Value) : NdOwn (w.setCell a x) B v xs := by
  refine ⟨h.1, ?_⟩
  rcases h.2 with h | ⟨g, cap, cur, e, hg, hc, r⟩
  · exact .inl h
  · exact .inr ⟨g, cap, cur, e, hg, (Below.heap_setCell w a x g (by omega)).trans hc, r⟩

theorem NdOwn.nil (w : World) (B : Nat) : NdOwn w B (.slice none 0 0) [] := World.ownsRow_nil w _ _ _

set_option maxHeartbeats 4000000 in
set_option maxRecDepth 100000 in
theorem implParse_any (t : ByteArray) (w : World) (hm : t.size ≤ maxLen) (hg : ErrLaid w) :
    Calls Tryd.prog 5 #[.string t] w fun e w' => ImplR t w e w' := by
  have HM : Hid (t.size ≤ maxLen) := hm
  have HG : Hid (ErrLaid w) := hg
  have hw0 : 0 < w.heap.size := block_lt_of_cell hg
  clear hm hg
  go_enter Tryd.func5, Tryd.ntmps5
  go_wp2_with fail
  refine (read_any t _ HM.out).mono ?_
  rintro e w1 ⟨hr, hb1⟩
  have kr : w1.cell? ⟨w.heap.size, 0, none⟩ = some (.slice none 0 0) := (hb1.cell (p := ⟨w.heap.size, 0, none⟩) (by simp)).trans (by simp)
  have fr : w1.frozen? ⟨w.heap.size, 0, none⟩ = false := (hb1.frozen (p := ⟨w.heap.size, 0, none⟩) (by simp)).trans (by simp)
  have HB1 : Hid (Below w.heap.size w w1) := (show Below w.heap.size w _ by go_grown).trans (hb1.mono (by simp))
  have hs1 : w.heap.size < w1.heap.size := by have := hb1.size; simp at this; omega
  have HG1 : Hid (ErrLaid w1) := (HB1.out.cell (p := ⟨0, 0, none⟩) hw0).trans HG.out
  clear hb1
  rcases hr with ⟨hc, rfl⟩ | ⟨hc, q, rfl⟩
  · obtain ⟨hwf, hlen, hpos⟩ := tree_ok hc
    have HC : Hid (codeOf t = 0) := hc
    have HN : Hid (nodesOf t = post (treeOf t)) := nodesOf_yes hc rfl
    have HW : Hid (P.wf (treeOf t)) := hwf
    obtain ⟨ty, x, hv⟩ := val_iface hwf
    rw [hv]
    have HV : Hid (val (treeOf t) = .iface ty x) := hv
    clear hc hwf hv
    go_wp2_with fail
    refine (as_nil _ _).mono ?_
    rintro e w' ⟨rfl, rfl⟩
    have hal : Below w1.heap.size w1 (w1.alloc (Obj.cells #[.int .i64 0, .int .i64 0] 47)) := (Below.refl _ _).alloc (Nat.le_refl _) _
    have kr2 : (w1.alloc (Obj.cells #[.int .i64 0, .int .i64 0] 47)).cell? ⟨w.heap.size, 0, none⟩ = some (.slice none 0 0) := (hal.cell (p := ⟨w.heap.size, 0, none⟩) hs1).trans kr
    have fr2 : (w1.alloc (Obj.cells #[.int .i64 0, .int .i64 0] 47)).frozen? ⟨w.heap.size, 0, none⟩ = false := (hal.frozen (p := ⟨w.heap.size, 0, none⟩) hs1).trans fr
    have HB2 : Hid (Below w.heap.size w (w1.alloc (Obj.cells #[.int .i64 0, .int .i64 0] 47))) := HB1.out.trans (hal.mono (by omega))
    have hs2 : w.heap.size < (w1.alloc (Obj.cells #[.int .i64 0, .int .i64 0] 47)).heap.size := Nat.lt_of_lt_of_le hs1 hal.size
    clear hal kr fr HB1 HG1
    generalize w1.alloc (Obj.cells #[.int .i64 0, .int .i64 0] 47) = w2 at *
    go_wp2_with (refine wpList_meth rfl (.tmp 18) _ #[.const (.slice none 0 0)] #[22] rfl _ rfl #[.slice none 0 0] (map_one _ _) _ (lst_ok (treeOf t) HW.out _ ⟨fun _ _ => by kernel_rfl, fun _ _ _ => by kernel_rfl, fun _ _ _ _ => by kernel_rfl, fun _ _ _ _ => by kernel_rfl, fun _ _ _ _ _ => by kernel_rfl, fun _ _ _ _ _ => by kernel_rfl⟩ _ HV w2.heap.size (.slice none 0 0) [] _ (NdOwn.nil _ _) (Nat.le_refl _) (by simp; omega)) ?_; rintro u w3 ⟨ho3, hb3, _, _⟩; obtain ⟨g, cap, cur, he, hgb, _⟩ := ho3.2.resolve_left (fun h => by have := h.2; rw [List.nil_append] at this; omega); subst he; have kr3 : w3.cell? ⟨w.heap.size, 0, none⟩ = some (.slice none 0 0) := (hb3.cell (p := ⟨w.heap.size, 0, none⟩) hs2).trans kr2; have fr3 : w3.frozen? ⟨w.heap.size, 0, none⟩ = false := (hb3.frozen (p := ⟨w.heap.size, 0, none⟩) hs2).trans fr2; have HB3 : Hid (Below w.heap.size w w3) := HB2.out.trans (hb3.mono (by omega)); have HO3 : Hid (NdOwn w3 w2.heap.size (.slice (some ⟨g, 0, none⟩) ([] ++ post (treeOf t)).length cap) ([] ++ post (treeOf t))) := ho3; clear ho3 hb3)
    exact bodyPost_ret (v := .tuple #[.agg #[.slice (some ⟨g, 0, none⟩) ([] ++ post (treeOf t)).length cap], .int .i64 0]) (by rw [results_cell_tmp rfl]; simp [go_sem, kr3]) rfl ⟨_, by rw [HC.out]; rfl, by rw [HN.out]; exact (HO3.out.setCell (a := ⟨w.heap.size, 0, none⟩) hs2 _).mono (by omega), by have := HB3.out; go_grown⟩
  · have HC : Hid (nodesOf t = []) := nodesOf_no rfl hc
    clear hc
    go_wp2_with fail
    have kt0 : (w1.alloc (Obj.cells #[.int .i64 0, .int .i64 0] 47)).cell? ⟨w1.heap.size, 0, none⟩ = some (.int .i64 0) := by simp
    have kt1 : (w1.alloc (Obj.cells #[.int .i64 0, .int .i64 0] 47)).cell? ⟨w1.heap.size, 1, none⟩ = some (.int .i64 0) := by simp
    have ft0 : (w1.alloc (Obj.cells #[.int .i64 0, .int .i64 0] 47)).frozen? ⟨w1.heap.size, 0, none⟩ = false := by simp
    have ft1 : (w1.alloc (Obj.cells #[.int .i64 0, .int .i64 0] 47)).frozen? ⟨w1.heap.size, 1, none⟩ = false := by simp
    have hal : Below w1.heap.size w1 (w1.alloc (Obj.cells #[.int .i64 0, .int .i64 0] 47)) := (Below.refl _ _).alloc (Nat.le_refl _) _
    have HG2 : ErrLaid (w1.alloc (Obj.cells #[.int .i64 0, .int .i64 0] 47)) := (hal.cell (p := ⟨0, 0, none⟩) (show 0 < w1.heap.size by omega)).trans HG1.out
    refine (as_hit _ q w1.heap.size _ HG2 _ _ kt0 kt1 ft0 ft1).mono ?_
    rintro e w3 ⟨rfl, k3, hb3⟩
    have hb13 : Below w1.heap.size w1 w3 := hal.trans hb3
    have kr3 : w3.cell? ⟨w.heap.size, 0, none⟩ = some (.slice none 0 0) := (hb13.cell (p := ⟨w.heap.size, 0, none⟩) hs1).trans kr
    have fr3 : w3.frozen? ⟨w.heap.size, 0, none⟩ = false := (hb13.frozen (p := ⟨w.heap.size, 0, none⟩) hs1).trans fr
    have HB3 : Hid (Below w.heap.size w w3) := HB1.out.trans (hb13.mono (by omega))
    have hne : w1.heap.size ≠ w.heap.size := by omega
    clear kt0 kt1 ft0 ft1 hal HG2 hb3 hb13 kr fr HB1 HG1
    have hnp : (⟨w.heap.size, 0, none⟩ : Addr) ≠ ⟨w1.heap.size, 0, none⟩ := fun h => by injection h with h _ _; omega
    go_wp2_with fail
    go_region
    all_goals
      go_wp2_with fail
      exact bodyPost_ret (v := .tuple #[.agg #[.slice none 0 0], .int .i64 (codeOf t : Nat)]) (by rw [results_cell_tmp rfl]; simp [go_sem, kr3]) rfl ⟨_, rfl, by rw [HC.out]; exact NdOwn.nil _ _, by have := HB3.out; go_grown⟩

end Go.Proofs.YtohgbmjjiohjeaaDoor
