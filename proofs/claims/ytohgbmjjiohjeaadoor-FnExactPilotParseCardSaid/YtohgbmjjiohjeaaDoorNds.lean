/-
  Selects as answers: held against one another, marked, and the marks looked up.
-/
import Derived.Test.YtohgbmjjiohjeaaDoorMkn
import Derived.Test.YtohgbmjjiohjeaaDoorNod
namespace Go.Proofs.YtohgbmjjiohjeaaDoor
open Go.RowKit

def toNod (n : P.Nd) : Nod := ⟨n.kind, n.name, n.value, n.kids⟩

theorem nodes_small (t : ByteArray) : (nodesOf t).length ≤ 200 ∧ ∀ n ∈ nodesOf t, n.name.size ≤ 20 ∧ n.value.size ≤ 20 := by
  by_cases hc : codeOf t = 0
  · rw [nodesOf_yes hc rfl]
    refine ⟨(tree_ok hc).2.1, ?_⟩
    have ht : ¬ 200 < t.size := by
      intro hb
      unfold codeOf at hc
      rw [if_pos hb] at hc
      cases hc
    unfold codeOf at hc
    rw [if_neg ht] at hc
    unfold treeOf
    by_cases hL : toksAt t 0 = []
    · rw [if_pos hL]
      intro n hn
      have : n = ⟨0, ⟨#[]⟩, ⟨#[]⟩, 0⟩ := by simpa using (show n ∈ [(⟨0, ⟨#[]⟩, ⟨#[]⟩, 0⟩ : P.Nd)] from hn)
      subst this
      exact ⟨by decide, by decide⟩
    · rw [if_neg hL] at hc ⊢
      cases hr : P.rd 1000 2 P.nonT (toksAt t 0) with
      | none => rw [hr] at hc; cases hc
      | some yr =>
        obtain ⟨y, r⟩ := yr
        obtain ⟨_, _, a3, _, _, _⟩ := P.rd_rd 1000 2 P.nonT _ _ _ (fun h => by omega) hr
        obtain ⟨b1, _⟩ := rd_rd2 1000 2 P.nonT _ _ _ (fun h => by omega) hr
        exact post_small y a3 b1
  · rw [nodesOf_no rfl hc]
    exact ⟨by simp, fun n hn => by cases hn⟩

theorem nod_weight (ns : List P.Nd) (hl : ns.length ≤ 200) (hs : ∀ n ∈ ns, n.name.size ≤ 20 ∧ n.value.size ≤ 20) : wS wNod (ns.map toNod) ≤ 1048576 := by
  have key : ∀ (l : List P.Nd), (∀ n ∈ l, n.name.size ≤ 20 ∧ n.value.size ≤ 20) → ((l.map toNod).map wNod).sum ≤ l.length * 40 := by
    intro l
    induction l with
    | nil => intro _; simp
    | cons a r ih =>
      intro h
      have h1 := h a (by simp)
      have h2 := ih (fun n hn => h n (by simp [hn]))
      simp only [List.map_cons, List.sum_cons, List.length_cons]
      have : wNod (toNod a) ≤ 40 := by show a.name.size + a.value.size ≤ 40; omega
      omega
  have := key ns hs
  unfold wS
  rw [List.length_map]
  omega

theorem sliceC_of_ndIn {w : World} {B : Nat} {a : Option Addr} {ns : List P.Nd} (h : NdIn w B a ns) (hl : ns.length ≤ 200) (hs : ∀ n ∈ ns, n.name.size ≤ 20 ∧ n.value.size ≤ 20) : SliceC NodC 4 0 w a (ns.map toNod) := by
  refine ⟨by rw [List.length_map]; unfold maxLen; omega, ?_⟩
  rcases h with ⟨h0, _⟩ | ⟨g, rfl, _, hg, hc⟩
  · left; rw [h0]; rfl
  · right
    refine ⟨g, 0, rfl, Nat.zero_le _, hg, fun j x hj => ?_⟩
    rw [List.getElem?_map] at hj
    cases hn : ns[j]? with
    | none => rw [hn] at hj; cases hj
    | some n =>
      rw [hn] at hj
      cases hj
      obtain ⟨q0, q1, q2, q3⟩ := hc j n hn
      have hz := hs n (List.mem_of_getElem? hn)
      refine ⟨?_, ?_, ?_, ?_, by show n.name.size ≤ maxLen; unfold maxLen; omega, by show n.value.size ≤ maxLen; unfold maxLen; omega⟩
      · simpa [toNod] using q0
      · simpa [toNod] using q1
      · simpa [toNod] using q2
      · simpa [toNod] using q3

/-- a slice of nodes in memory of its own: it may be marked -/
def MayMark (w : World) (B : Nat) (a : Option Addr) (n : Nat) : Prop := (a = none ∧ n = 0) ∨ ∃ g, a = some ⟨g, 0, none⟩ ∧ B ≤ g ∧ g < w.heap.size ∧ MkSt w w g n 0 0

/-- a slice of nodes that is marked -/
def Marked (w : World) (a : Option Addr) (n : Nat) : Prop := (a = none ∧ n = 0) ∨ ∃ g w0, a = some ⟨g, 0, none⟩ ∧ g < w.heap.size ∧ MkSt w0 w g n n 0

theorem Marked.below {w w' : World} {a : Option Addr} {n : Nat} (h : Marked w a n) (hb : Below w.heap.size w w') : Marked w' a n := by
  rcases h with h | ⟨g, w0, h1, h2, h3⟩
  · exact .inl h
  · exact .inr ⟨g, w0, h1, Nat.lt_of_lt_of_le h2 hb.size, h3.below hb (Nat.le_of_lt h2)⟩

theorem own_parts {w : World} {B : Nat} {v : Value} {ns : List P.Nd} (h : NdOwn w B v ns) : ∃ a c, v = .slice a ns.length c ∧ NdIn w B a ns ∧ MayMark w B a ns.length := by
  rcases h.2 with ⟨rfl, h0⟩ | ⟨g, cap, cur, rfl, hg, hc, hn, _, hs, ht⟩
  · have : ns = [] := List.length_eq_zero_iff.1 h0
    subst this
    exact ⟨none, 0, rfl, .inl ⟨rfl, rfl⟩, .inl ⟨rfl, rfl⟩⟩
  · have hgl : g < w.heap.size := (h.lt g rfl).2
    refine ⟨some ⟨g, 0, none⟩, cap, rfl, .inr ⟨g, rfl, hg, nodes0_row hgl (fun j u hj => ?_)⟩, .inr ⟨g, rfl, hg, hgl, ?_⟩⟩
    · have hlt := lt_of_some hj
      rw [ndCells_len] at hlt
      rw [Nat.zero_add]
      exact (h.cellAt j (by omega)).trans hj
    · refine ⟨fun o ho => ?_, fun j d hd hj => by omega, fun a u hc _ => hc, Below.refl _ _⟩
      have h1 := h.cellAt o (by omega)
      rw [List.getElem?_eq_getElem (by rw [ndCells_len]; omega)] at h1
      exact ⟨_, h1, by simp [World.frozen?, hc]⟩

/-- all cells but those of one slice are as they were -/
def KeptA (w : World) (a : Option Addr) (w' : World) : Prop := ∀ p u, w.cell? p = some u → (∀ g, a = some ⟨g, 0, none⟩ → p.block ≠ g) → w'.cell? p = some u

set_option maxHeartbeats 1000000 in
theorem eqSel_any (ns : List P.Nd) (a a' : Option Addr) (c c' B B' : Nat) (w : World) (h : NdIn w B a ns) (h' : NdIn w B' a' ns) (hl : ns.length ≤ 200) (hs : ∀ n ∈ ns, n.name.size ≤ 20 ∧ n.value.size ≤ 20) :
    Calls Tryd.prog 6 #[.agg #[.slice a ns.length c], .agg #[.slice a' ns.length c']] w fun e w' => e = .returned (.bool true) ∧ Below w.heap.size w w' := by
  have H1 : Hid (SliceC NodC 4 0 w a (ns.map toNod)) := sliceC_of_ndIn h hl hs
  have H2 : Hid (SliceC NodC 4 0 w a' (ns.map toNod)) := sliceC_of_ndIn h' hl hs
  have H3 : Hid (wS wNod (ns.map toNod) ≤ 1048576) := nod_weight ns hl hs
  have HL : Hid ((ns.map toNod).length = ns.length) := List.length_map ..
  clear h h' hs
  go_enter Tryd.func6, Tryd.ntmps6
  go_wp2_with fail
  rw [← HL.out]
  refine (eqNodS_any (ns.map toNod) a a' c c' 0 0 _ (H1.out.below NodC.holds (B := w.heap.size) (by go_grown) (Nat.le_refl _)) (H2.out.below NodC.holds (B := w.heap.size) (by go_grown) (Nat.le_refl _)) H3.out).mono ?_
  rintro e w1 ⟨rfl, hb⟩
  have HB : Hid (Below w.heap.size w w1) := (show Below w.heap.size w _ by go_grown).trans (hb.mono (by simp; omega))
  clear hb
  go_wp2_with fail
  go_ret
  exact ⟨rfl, HB.out⟩

set_option maxHeartbeats 1000000 in
theorem markNil_any (c : Nat) (w : World) : Calls Tryd.prog 15 #[.slice none 0 c, .int .i64 1] w fun e w' => e = .returned (.int .i64 1) ∧ Below w.heap.size w w' := by
  go_enter Tryd.func15, Tryd.ntmps15
  go_wp2_with fail
  go_loopw [1, 5] (fun v j wr => v = .int .i64 1 ∧ j = .int .i64 0 ∧ Below w.heap.size w wr) (fun _ _ _ => 0)
  case atStart => exact ⟨rfl, rfl, Below.refl _ _⟩
  case round =>
    obtain ⟨rfl, rfl, hb⟩ := hrel
    go_wp2_with fail
    go_ret
    exact ⟨rfl, hb⟩

set_option maxHeartbeats 1000000 in
theorem heldNil_any (c : Nat) (w : World) : Calls Tryd.prog 16 #[.slice none 0 c, .int .i64 1] w fun e w' => e = .returned (.int .i64 1) ∧ Below w.heap.size w w' := by
  go_enter Tryd.func16, Tryd.ntmps16
  go_wp2_with fail
  go_loopw [1, 5] (fun v j wr => v = .int .i64 1 ∧ j = .int .i64 0 ∧ Below w.heap.size w wr) (fun _ _ _ => 0)
  case atStart => exact ⟨rfl, rfl, Below.refl _ _⟩
  case round =>
    obtain ⟨rfl, rfl, hb⟩ := hrel
    go_wp2_with fail
    go_ret
    exact ⟨rfl, hb⟩

set_option maxHeartbeats 1000000 in
theorem markSel_any (a : Option Addr) (n c B : Nat) (w : World) (hn : n ≤ 200) (h : MayMark w B a n) (hB : B ≤ w.heap.size) :
    Calls Tryd.prog 7 #[.agg #[.slice a n c], .int .i64 1] w fun e w' => e = .returned (.int .i64 ((1 + 4 * n : Nat) : Int)) ∧ Marked w' a n ∧ KeptA w a w' ∧ Below B w w' := by
  rcases h with ⟨rfl, rfl⟩ | ⟨g, rfl, hg, hgl, hm⟩
  · go_enter Tryd.func7, Tryd.ntmps7
    go_wp2_with fail
    refine (markNil_any c _).mono ?_
    rintro e w1 ⟨rfl, hb⟩
    have HB : Hid (Below w.heap.size w w1) := (show Below w.heap.size w _ by go_grown).trans (hb.mono (by simp))
    clear hb
    go_wp2_with fail
    go_ret
    exact ⟨rfl, .inl ⟨rfl, rfl⟩, fun p u hc _ => (HB.out.cell (p := p) (block_lt_of_cell hc)).trans hc, HB.out.mono hB⟩
  · have HM : Hid (MkSt w w g n 0 0) := hm
    clear hm
    go_enter Tryd.func7, Tryd.ntmps7
    go_wp2_with fail
    have hal : Below w.heap.size w (w.alloc (Obj.cells #[.slice (some ⟨g, 0, none⟩) n c] 24)) := (Below.refl _ _).alloc (Nat.le_refl _) _
    have M1 : MkSt (w.alloc (Obj.cells #[.slice (some ⟨g, 0, none⟩) n c] 24)) (w.alloc (Obj.cells #[.slice (some ⟨g, 0, none⟩) n c] 24)) g n 0 0 :=
      ⟨(HM.out.below hal (Nat.le_of_lt hgl)).th, fun j d hd hj => by omega, fun a u hc _ => hc, Below.refl _ _⟩
    refine (markNodeS_any g n c _ (by omega) M1 (Nat.lt_of_lt_of_le hgl hal.size)).mono ?_
    rintro e w1 ⟨rfl, hm1, hz1⟩
    have HM1 : Hid (MkSt (w.alloc (Obj.cells #[.slice (some ⟨g, 0, none⟩) n c] 24)) w1 g n n 0) := hm1
    have HK : Hid (KeptA w (some ⟨g, 0, none⟩) w1) := fun p u hc hne => hm1.kept p u ((hal.cell (p := p) (block_lt_of_cell hc)).trans hc) (hne g rfl)
    have HB : Hid (Below B w w1) := (hal.mono hB).trans (hm1.bel.mono hg)
    have hz : Hid (g < w1.heap.size) := by have := hal.size; show _ < _; omega
    clear hm1 hal M1 hz1
    go_wp2_with fail
    go_ret
    exact ⟨rfl, .inr ⟨g, _, rfl, hz.out, HM1.out⟩, HK.out, HB.out⟩

set_option maxHeartbeats 1000000 in
theorem heldSel_any (a : Option Addr) (n c : Nat) (w : World) (hn : n ≤ 200) (h : Marked w a n) :
    Calls Tryd.prog 8 #[.agg #[.slice a n c], .int .i64 1] w fun e w' => e = .returned (.int .i64 ((1 + 4 * n : Nat) : Int)) ∧ Below w.heap.size w w' := by
  rcases h with ⟨rfl, rfl⟩ | ⟨g, w0, rfl, hgl, hm⟩
  · go_enter Tryd.func8, Tryd.ntmps8
    go_wp2_with fail
    refine (heldNil_any c _).mono ?_
    rintro e w1 ⟨rfl, hb⟩
    have HB : Hid (Below w.heap.size w w1) := (show Below w.heap.size w _ by go_grown).trans (hb.mono (by simp))
    clear hb
    go_wp2_with fail
    go_ret
    exact ⟨rfl, HB.out⟩
  · have HM : Hid (MkSt w0 w g n n 0) := hm
    clear hm
    go_enter Tryd.func8, Tryd.ntmps8
    go_wp2_with fail
    have hal : Below w.heap.size w (w.alloc (Obj.cells #[.slice (some ⟨g, 0, none⟩) n c] 24)) := (Below.refl _ _).alloc (Nat.le_refl _) _
    refine (heldNodeS_any g n c w0 _ (by omega) (HM.out.below hal (Nat.le_of_lt hgl))).mono ?_
    rintro e w1 ⟨rfl, hb⟩
    have HB : Hid (Below w.heap.size w w1) := hal.trans (hb.mono hal.size)
    clear hb hal
    go_wp2_with fail
    go_ret
    exact ⟨rfl, HB.out⟩

end Go.Proofs.YtohgbmjjiohjeaaDoor
