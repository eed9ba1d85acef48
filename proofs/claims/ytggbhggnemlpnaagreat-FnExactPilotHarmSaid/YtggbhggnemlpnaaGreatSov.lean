/-
  Walks: the specification's lists of nodes put together.
-/
import Derived.Test.YtggbhggnemlpnaaGreatStk
import Derived.Test.YtggbhggnemlpnaaGreatSpa
namespace Go.Proofs.YtggbhggnemlpnaaGreat
open Go.RowKit

def ndv (n : P.Nd) : List Value := [.int .i64 n.kind, .string n.name, .string n.value, .int .i64 n.kids]

/-- nodes as cells -/
def ndCells (ns : List P.Nd) : List Value := ns.flatMap ndv

theorem ndCells_nil : ndCells [] = [] := rfl
theorem ndCells_append (a b : List P.Nd) : ndCells (a ++ b) = ndCells a ++ ndCells b := by simp [ndCells]
theorem ndCells_len : ∀ ns : List P.Nd, (ndCells ns).length = ns.length * 4
  | [] => rfl
  | n :: r => by
    have := ndCells_len r
    simp [ndCells, ndv] at this ⊢
    omega

theorem ndCells_one : ∀ (ns : List P.Nd), ∀ u ∈ ndCells ns, u.oneCell' = true
  | [], u, h => by cases h
  | n :: r, u, h => by
    rw [show n :: r = [n] ++ r from rfl, ndCells_append] at h
    rcases List.mem_append.1 h with h | h
    · simp [ndCells, ndv] at h
      rcases h with rfl | rfl | rfl | rfl <;> rfl
    · exact ndCells_one r u h

/-- a slice that holds nodes, in a block from B on -/
def NdRow (w : World) (B : Nat) (v : Value) (ns : List P.Nd) : Prop := ∃ g cap, v = .slice (some ⟨g, 0, none⟩) ns.length cap ∧ B ≤ g ∧ g < w.heap.size ∧ w.rangeAt g 0 (ndCells ns)

theorem NdRow.but {w w' : World} {B B' p : Nat} {v : Value} {ns : List P.Nd} (h : NdRow w B v ns) (hb : But p B' w w') (hB : w.heap.size ≤ B') (hp : p < B) : NdRow w' B v ns := by
  obtain ⟨g, cap, h1, h2, h3, h4⟩ := h
  refine ⟨g, cap, h1, h2, Nat.lt_of_lt_of_le h3 hb.size, fun j u hj => ?_⟩
  exact (World.cell?_of_block (w := w) (a := ⟨g, 0 + j, none⟩) (hb.block g (by omega) (by omega))).trans (h4 j u hj)

theorem NdRow.below {w w' : World} {B B' : Nat} {v : Value} {ns : List P.Nd} (h : NdRow w B v ns) (hb : Below B' w w') (hB : w.heap.size ≤ B') : NdRow w' B v ns := by
  obtain ⟨g, cap, h1, h2, h3, h4⟩ := h
  refine ⟨g, cap, h1, h2, Nat.lt_of_lt_of_le h3 hb.size, fun j u hj => ?_⟩
  exact (hb.cell (p := ⟨g, 0 + j, none⟩) (show g < B' by omega)).trans (h4 j u hj)

theorem NdRow.mono {w : World} {B B' : Nat} {v : Value} {ns : List P.Nd} (h : NdRow w B v ns) (hB : B' ≤ B) : NdRow w B' v ns := by
  obtain ⟨g, cap, h1, h2, h3, h4⟩ := h
  exact ⟨g, cap, h1, by omega, h3, h4⟩

theorem ndRow_own {w : World} {B g c : Nat} {e : TypeId} {ns : List P.Nd} (h : w.ownsRow B e 4 (.slice (some ⟨g, 0, none⟩) ns.length c) ns.length (ndCells ns)) : NdRow w B (.slice (some ⟨g, 0, none⟩) ns.length c) ns := by
  refine ⟨g, c, rfl, (h.lt g rfl).1, (h.lt g rfl).2, fun j u hj => ?_⟩
  have hlt := lt_of_some hj
  rw [ndCells_len] at hlt
  rw [Nat.zero_add]
  exact (h.cellAt j (by omega)).trans hj

theorem info_nd : (Tryz.prog.info? 173).map (fun i => (i.zero, i.size, i.bytes)) = some (some (.agg #[.int .i64 0, .string ⟨#[]⟩, .string ⟨#[]⟩, .int .i64 0]), 4, 48) := by kernel_rfl

theorem news_nd (w : World) (n : P.Nd) (T : TypeId) : ∀ j u, (ndv n)[j]? = some u → (w.alloc (.cells #[.int .i64 n.kind, .string n.name, .string n.value, .int .i64 n.kids] T)).cell? ((⟨w.heap.size, 0, none⟩ : Addr).add j) = some u := by
  intro j u hj
  rw [Addr.add_mid]
  have hlt := lt_of_some hj
  have hr : (w.alloc (.cells #[.int .i64 n.kind, .string n.name, .string n.value, .int .i64 n.kids] T)).rangeAt w.heap.size 0 (ndv n) := range_cons (by simp) (range_cons (by simp) (range_cons (by simp) (range_cons (by simp) (range_nil _ _ _))))
  exact hr j u hj

theorem ndv_one (n : P.Nd) : ∀ u ∈ ndv n, u.oneCell' = true := fun u hu => ndCells_one [n] u (by simpa [ndCells] using hu)

/-- the parts lie in a row -/
def PartsAt (w : World) (q : Nat) (Ps : List (List P.Nd)) : Prop := ∀ j ns, Ps[j]? = some ns → ∃ v, w.cell? ⟨q, j, none⟩ = some v ∧ NdRow w 0 v ns

theorem PartsAt.below {w w' : World} {q : Nat} {Ps : List (List P.Nd)} (h : PartsAt w q Ps) (hb : Below w.heap.size w w') : PartsAt w' q Ps := by
  intro j ns hj
  obtain ⟨v, h1, h2⟩ := h j ns hj
  exact ⟨v, (hb.cell (p := ⟨q, j, none⟩) (block_lt_of_cell h1)).trans h1, h2.below hb (Nat.le_refl _)⟩

theorem flat_take {α : Type} : ∀ (Ps : List (List α)) (j : Nat) (x : List α), Ps[j]? = some x → (Ps.take (j + 1)).flatten = (Ps.take j).flatten ++ x
  | [], _, _, h => by simp at h
  | y :: r, 0, x, h => by simp at h; subst h; simp
  | y :: r, j + 1, x, h => by
    simp at h
    have := flat_take r j x h
    simp at this ⊢
    rw [this]

theorem flat_le {α : Type} : ∀ (Ps : List (List α)) (j : Nat), (Ps.take j).flatten.length ≤ Ps.flatten.length
  | [], _ => by simp
  | y :: r, 0 => by simp
  | y :: r, j + 1 => by
    have := flat_le r j
    simp only [List.take_succ_cons, List.flatten_cons, List.length_append]
    omega

set_option maxHeartbeats 2000000 in
set_option maxRecDepth 100000 in
theorem over_any (kind kids : Int) (q : Nat) (Ps : List (List P.Nd)) (w : World) (h : PartsAt w q Ps) (hl : Ps.length ≤ 10) (hf : Ps.flatten.length ≤ 1000) :
    Calls Tryz.prog 142 #[.int .i64 kind, .int .i64 kids, .slice (some ⟨q, 0, none⟩) Ps.length Ps.length] w fun e w' => ∃ v, e = .returned v ∧ NdRow w' w.heap.size v (Ps.flatten ++ [⟨kind, ⟨#[]⟩, ⟨#[]⟩, kids⟩]) ∧ Below w.heap.size w w' := by
  obtain ⟨i0, hi0, hz0, hz1, hz2⟩ := info_parts info_nd
  have HP : Hid (PartsAt w q Ps) := h
  clear h
  go_enter Tryz.func142, Tryz.ntmps142
  go_wp2_with fail
  go_loopw [7, 8] (fun v i wr => ∃ (j g c n : Nat), j ≤ Ps.length ∧ i = .int .i64 j ∧ v = .slice (some ⟨g, 0, none⟩) n c ∧ n ≤ 1000 ∧ Hid ((Ps.take j).flatten.length = n) ∧ Hid (wr.ownsRow w.heap.size 173 4 (.slice (some ⟨g, 0, none⟩) n c) n (ndCells (Ps.take j).flatten)) ∧ Hid (Below w.heap.size w wr)) (fun _ i _ => Ps.length - (intOf i).toNat)
  case atStart => exact ⟨0, w.heap.size, 0, 0, Nat.zero_le _, rfl, rfl, Nat.zero_le _, by simp; trivial, World.ownsRow_made (base := w.heap.size) (e := 173) (size := 4) w #[] 0 (Nat.le_refl _) (Nat.zero_le _) rfl, (Below.refl _ _).alloc (Nat.le_refl _) _⟩
  case round =>
    obtain ⟨j, g, c, n, hj, rfl, rfl, hn, HL, HO, HB⟩ := hrel
    have hsz := HB.out.size
    by_cases hlt : j < Ps.length
    · obtain ⟨ns, hns⟩ : ∃ ns, Ps[j]? = some ns := ⟨Ps[j], List.getElem?_eq_getElem hlt⟩
      obtain ⟨v1, r1, g1, c1, rfl, _, hg1, hr1⟩ := (HP.out.below HB.out) j ns hns
      have HF : Hid ((Ps.take (j + 1)).flatten = (Ps.take j).flatten ++ ns) := flat_take Ps j ns hns
      have hle : Hid (n + ns.length ≤ 1000) := by
        show _ ≤ _
        have h1 := flat_le Ps (j + 1)
        rw [HF.out, List.length_append, HL.out] at h1
        omega
      have HR1 : Hid (∀ i u, (ndCells ns)[i]? = some u → wr.cell? ((⟨g1, 0, none⟩ : Addr).add i) = some u) := fun i u hi => by rw [Addr.add_mid]; exact hr1 i u hi
      have hle' := hle.out
      clear hns hr1
      go_wp2_with (at_builtin; refine wpList_append_own_at _ rfl (.tmp 16) (.tmp 20) 144 rfl w.heap.size 173 i0 _ 4 48 Tryz.underlying144 hi0 hz0 hz1 hz2 rfl (by decide) _ n _ rfl HO.out ⟨g1, 0, none⟩ ns.length c1 (ndCells ns) rfl (ndCells_len ns) HR1.out (ndCells_one ns) (by unfold maxLen; omega) (by omega) hsz ?_; intro v' w7 hown7 hgrow7 hnil _)
      rcases hown7.2 with h' | ⟨g2, c2, _, hv2, _⟩
      · exact absurd (hnil.1 h'.1).1 (fun h => by cases h)
      subst hv2
      have HO2 : Hid (w7.ownsRow w.heap.size 173 4 (.slice (some ⟨g2, 0, none⟩) (n + ns.length) c2) (n + ns.length) (ndCells (Ps.take (j + 1)).flatten)) := by
        rw [HF.out, ndCells_append]; exact hown7
      have HL2 : Hid ((Ps.take (j + 1)).flatten.length = n + ns.length) := by rw [HF.out, List.length_append, HL.out]; rfl
      have HB2 : Hid (Below w.heap.size w w7) := HB.out.grown hgrow7 hsz (fun i hi => by cases hi; exact (HO.out.lt g rfl).1)
      clear hown7 hgrow7 hnil
      go_wp2_with fail
      go_roundw
      case rel => exact ⟨j + 1, g2, c2, n + ns.length, by omega, by go_num, rfl, hle', HL2, HO2, HB2⟩
      case measure => simp [intOf]; omega
    · have hje : j = Ps.length := by omega
      have HD : Hid ((Ps.take j).flatten = Ps.flatten) := by rw [hje, List.take_length]; rfl
      have HO' : Hid (wr.ownsRow w.heap.size 173 4 (.slice (some ⟨g, 0, none⟩) n c) n (ndCells Ps.flatten)) := by rw [← HD.out]; exact HO.out
      have HL' : Hid (Ps.flatten.length = n) := by rw [← HD.out]; exact HL.out
      have i1 : ¬ (j : Int) < (Ps.length : Int) := by omega
      clear hje HD HL HO
      go_wp2_with (at_builtin; refine wpList_append_own_at _ rfl (.tmp 22) (.tmp 26) 144 rfl w.heap.size 173 i0 _ 4 48 Tryz.underlying144 hi0 hz0 hz1 hz2 rfl (by decide) _ n _ rfl (HO'.out.alloc _) ⟨wr.heap.size, 0, none⟩ 1 1 (ndv ⟨kind, ⟨#[]⟩, ⟨#[]⟩, kids⟩) rfl rfl (news_nd _ _ _) (ndv_one _) (by unfold maxLen; omega) (by omega) (by simp; omega) ?_; intro v' w7 hown7 hgrow7 _ _; obtain ⟨g2, c2, rfl⟩ := row_some hown7)
      have HO2 : Hid (w7.ownsRow w.heap.size 173 4 (.slice (some ⟨g2, 0, none⟩) (Ps.flatten ++ [(⟨kind, ⟨#[]⟩, ⟨#[]⟩, kids⟩ : P.Nd)]).length c2) (Ps.flatten ++ [(⟨kind, ⟨#[]⟩, ⟨#[]⟩, kids⟩ : P.Nd)]).length (ndCells (Ps.flatten ++ [⟨kind, ⟨#[]⟩, ⟨#[]⟩, kids⟩]))) := by
        rw [ndCells_append, List.length_append, HL'.out]
        exact hown7
      have HB2 : Hid (Below w.heap.size w w7) := (HB.out.alloc hsz _).grown hgrow7 (by simp; omega) (fun i hi => by cases hi; exact (HO'.out.lt g rfl).1)
      have hlen : Hid ((Ps.flatten ++ [(⟨kind, ⟨#[]⟩, ⟨#[]⟩, kids⟩ : P.Nd)]).length = n + 1) := by rw [List.length_append, HL'.out]; rfl
      clear hown7 hgrow7
      go_wp2_with fail
      go_ret
      refine ⟨_, rfl, ?_, HB2.out⟩
      have := ndRow_own HO2.out
      rw [hlen.out] at this
      exact this

end Go.Proofs.YtggbhggnemlpnaaGreat
