/-
  A select that is spoilt (made by mksld.py).
-/
import Derived.Test.YthjicahpfhjfdaaGreatDoorSlC
import Derived.Test.YthjicahpfhjfdaaGreatDoorHst
import Derived.Deep.CutBlock
namespace Go.Proofs.YthjicahpfhjfdaaGreatDoor
open Go.RowKit

theorem wpAnyU_only {P : Program} {ops : Array Oper} {Q : Exit → Act → World → Prop} {md : Region.Mode} {S : World → Prop} {s i : Nat} {oi : Oper} {v : Value} {n : Nat} {l : Array Bool} {a : Act} {w : World} (hi : ops[i]? = some oi) (hr : Region.ready md ops l = [i]) (hy : YieldsIf P ops S oi v a) (hS : S w)
    (h : wpAnyU P md ops Q s S n (l.setIfInBounds i true) (a.put oi.dst v) w) : wpAnyU P md ops Q s S (n + 1) l a w :=
  ⟨fun h0 => (by rw [hr] at h0; cases h0), (by rw [hr]; intro j hj; rw [List.mem_singleton.1 hj]; exact hy.wpOp hi hS ⟨fun _ => hS, h⟩)⟩

/-- nodes drawn, or none -/
def DrM (p m n : Nat) (W w' : World) (v : Value) : Prop := ∃ ns, NdRow w' W.heap.size v ns ∧ ns.length ≤ m ∧ Sh ns ∧ RdL p n w' ∧ Bt p W.heap.size W w'

theorem own_at {w w' : World} {B g n c s : Nat} {e : TypeId} {xs : List Value} (h : w.ownsRow B e s (.slice (some ⟨g, 0, none⟩) n c) n xs) (hb : w'.heap[g]? = w.heap[g]?) : w'.ownsRow B e s (.slice (some ⟨g, 0, none⟩) n c) n xs := by
  refine ⟨h.1, ?_⟩
  rcases h.2 with h' | ⟨g', cap, cur, h1, h2, h3, h4⟩
  · exact .inl h'
  · have : g' = g := by
      simp only [Value.slice.injEq, Option.some.injEq, Addr.mk.injEq, and_true, true_and] at h1
      exact h1.1.symm
    subst this
    exact .inr ⟨g', cap, cur, h1, h2, hb.trans h3, h4⟩

theorem own_slice {w : World} {B n s : Nat} {e : TypeId} {v : Value} {xs : List Value} (h : w.ownsRow B e s v n xs) (hv : v ≠ .slice none 0 0) : ∃ g c, v = .slice (some ⟨g, 0, none⟩) n c := by
  rcases h.2 with ⟨h', _⟩ | ⟨g, cap, cur, h1, _⟩
  · exact absurd h' hv
  · exact ⟨g, cap, h1⟩

theorem own_lower {w : World} {B B' n s : Nat} {e : TypeId} {v : Value} {xs : List Value} (h : w.ownsRow B e s v n xs) (hB : B' ≤ B) : w.ownsRow B' e s v n xs := by
  refine ⟨h.1, ?_⟩
  rcases h.2 with h' | ⟨g, cap, cur, h1, h2, h3⟩
  · exact .inl h'
  · exact .inr ⟨g, cap, cur, h1, Nat.le_trans hB h2, h3⟩

theorem own_open {w : World} {B g n c s : Nat} {e : TypeId} {xs : List Value} (h : w.ownsRow B e s (.slice (some ⟨g, 0, none⟩) n c) n xs) : ∃ cur, Blk g cur e w ∧ B ≤ g ∧ n ≤ c ∧ c ≤ maxLen ∧ cur.size = c * s ∧ ∀ (j : Nat) (u : Value), xs[j]? = some u → cur[j]? = some u := by
  rcases h.2 with ⟨h', _⟩ | ⟨g', cap, cur, h1, h2, h3, h4, h5, h6, h7⟩
  · simp at h'
  · simp only [Value.slice.injEq, Option.some.injEq, Addr.mk.injEq, and_true, true_and] at h1
    obtain ⟨rfl, rfl⟩ := h1
    refine ⟨cur, h3, h2, h4, h5, h6, fun j u hj => ?_⟩
    rw [← h7, List.getElem?_take] at hj
    split at hj
    · simpa using hj
    · cases hj

theorem ndCells_get : ∀ (ns : List P.Nd) (j : Nat), (ndCells ns)[j]? = (ns[j / 4]?).bind fun n => (ndv n)[j % 4]?
  | [], j => by simp [ndCells]
  | n :: r, j => by
    rw [show n :: r = [n] ++ r from rfl, ndCells_append, show ndCells [n] = ndv n by simp [ndCells]]
    have hl : (ndv n).length = 4 := rfl
    rcases Nat.lt_or_ge j 4 with h | h
    · rw [List.getElem?_append_left (by omega), show j / 4 = 0 by omega, show j % 4 = j by omega]
      rfl
    · rw [List.getElem?_append_right (by omega), hl, ndCells_get r (j - 4), show (j - 4) / 4 = j / 4 - 1 by omega, show (j - 4) % 4 = j % 4 by omega]
      obtain ⟨q, hq⟩ : ∃ q, j / 4 = q + 1 := ⟨j / 4 - 1, by omega⟩
      rw [hq]
      rfl

/-- one field of one node stored -/
theorem nd_store {ns : List P.Nd} {k f : Nat} {n n' : P.Nd} {x : Value} {cur : Array Value} (hn : ns[k]? = some n) (hf : f < 4) (he : ∀ i, i < 4 → (ndv n')[i]? = if i = f then some x else (ndv n)[i]?) (hc : ∀ (j : Nat) (u : Value), (ndCells ns)[j]? = some u → cur[j]? = some u) :
    ∀ (j : Nat) (u : Value), (ndCells (ns.set k n'))[j]? = some u → (cur.setIfInBounds (k * 4 + f) x)[j]? = some u := by
  intro j u hj
  have hold : cur[k * 4 + f]? ≠ none := by
    have h1 : (ndCells ns)[k * 4 + f]? = (ndv n)[f]? := by
      rw [ndCells_get, show (k * 4 + f) / 4 = k by omega, show (k * 4 + f) % 4 = f by omega, hn]
      rfl
    obtain ⟨u, hu⟩ : ∃ u, (ndv n)[f]? = some u := ⟨(ndv n)[f]'(by show f < 4; exact hf), List.getElem?_eq_getElem _⟩
    rw [hc _ _ (h1.trans hu)]
    simp
  have hsz : k * 4 + f < cur.size := by
    rcases Nat.lt_or_ge (k * 4 + f) cur.size with h | h
    · exact h
    · exact absurd (Array.getElem?_eq_none h) hold
  rw [ndCells_get] at hj
  by_cases h4 : j / 4 = k
  · rw [h4, List.getElem?_set_self (by
      rcases Nat.lt_or_ge k ns.length with h | h
      · exact h
      · rw [List.getElem?_eq_none h] at hn; cases hn)] at hj
    have hj : (ndv n')[j % 4]? = some u := hj
    rw [he _ (by omega)] at hj
    by_cases h5 : j % 4 = f
    · rw [if_pos h5] at hj
      cases hj
      rw [show j = k * 4 + f by omega, Array.getElem?_setIfInBounds_self_of_lt hsz]
    · rw [if_neg h5] at hj
      rw [Array.getElem?_setIfInBounds_ne (by omega)]
      refine hc j u ?_
      rw [ndCells_get, h4, hn]
      exact hj
  · rw [List.getElem?_set_ne (by omega)] at hj
    rw [Array.getElem?_setIfInBounds_ne (by omega)]
    refine hc j u ?_
    rw [ndCells_get]
    exact hj

theorem blk_row {w : World} {B g c : Nat} {cur : Array Value} {t : TypeId} {ns : List P.Nd} (h : Blk g cur t w) (hB : B ≤ g) (hc : ∀ (j : Nat) (u : Value), (ndCells ns)[j]? = some u → cur[j]? = some u) : NdRow w B (.slice (some ⟨g, 0, none⟩) ns.length c) ns :=
  ⟨g, c, rfl, hB, h.lt, fun j u hj => by rw [Nat.zero_add]; exact h.cell (hc j u hj)⟩

theorem Sh.set {ns : List P.Nd} (h : Sh ns) (k : Nat) {n : P.Nd} (h1 : n.name.size ≤ 600) (h2 : n.value.size ≤ 600) : Sh (ns.set k n) := fun x hx => by
  rcases List.mem_or_eq_of_mem_set hx with h' | rfl
  · exact h x h'
  · exact ⟨h1, h2⟩
theorem Sh.take {ns : List P.Nd} (h : Sh ns) (k : Nat) : Sh (ns.take k) := fun x hx => h x (List.mem_of_mem_take hx)

theorem ndCells_take (ns : List P.Nd) (k : Nat) : ∀ (j : Nat) (u : Value), (ndCells (ns.take k))[j]? = some u → (ndCells ns)[j]? = some u := by
  intro j u hj
  rw [ndCells_get] at hj ⊢
  rw [List.getElem?_take] at hj
  split at hj
  · exact hj
  · cases hj

/-- what the spoiling has in hand: its reader, the nodes of its own, where they are told, where they are answered -/
structure Spo (p B k z4 z5 z8 q8 : Nat) (ns : List P.Nd) (W w : World) : Prop where
  R : RdL p k w
  T : Bt p W.heap.size W w
  K4 : Blk z4 #[.slice none 0 0] 25 w
  K5 : Blk z5 #[.slice (some ⟨z8, 0, none⟩) ns.length q8] 25 w
  O : w.ownsRow B 36 4 (.slice (some ⟨z8, 0, none⟩) ns.length q8) ns.length (ndCells ns)
  h0 : p < W.heap.size ∧ W.heap.size ≤ B
  h4 : B ≤ z4 ∧ B ≤ z5 ∧ z4 ≠ z5 ∧ z4 ≠ z8 ∧ z5 ≠ z8


theorem Spo.z8 {p B k z4 z5 z8 q8 : Nat} {ns : List P.Nd} {W w : World} (h : Spo p B k z4 z5 z8 q8 ns W w) : B ≤ z8 ∧ z8 < w.heap.size := by
  obtain ⟨cur, h1, h2, _⟩ := own_open h.O
  exact ⟨h2, h1.lt⟩
theorem Spo.sz {p B k z4 z5 z8 q8 : Nat} {ns : List P.Nd} {W w : World} (h : Spo p B k z4 z5 z8 q8 ns W w) : W.heap.size ≤ w.heap.size := h.T.size
theorem Spo.below {p B k z4 z5 z8 q8 : Nat} {ns : List P.Nd} {W w w' : World} (h : Spo p B k z4 z5 z8 q8 ns W w) (hb : Below w.heap.size w w') : Spo p B k z4 z5 z8 q8 ns W w' :=
  ⟨h.R.below hb h.R.lt, h.T.trans ((Bt.of_below hb).mono h.T.size), h.K4.below hb h.K4.lt, h.K5.below hb h.K5.lt, own_at h.O (hb.block _ h.z8.2), h.h0, h.h4⟩
theorem Spo.bt {p B k k' z4 z5 z8 q8 : Nat} {ns : List P.Nd} {W w w' : World} (h : Spo p B k z4 z5 z8 q8 ns W w) (hb : Bt p w.heap.size w w') (hr : RdL p k' w') : Spo p B k' z4 z5 z8 q8 ns W w' := by
  have h0 := h.h0
  have h4 := h.h4
  have h8 := h.z8
  exact ⟨hr, h.T.trans (hb.mono h.T.size), h.K4.bt hb h.K4.lt (by omega), h.K5.bt hb h.K5.lt (by omega), own_at h.O (hb.block _ h8.2 (by omega)), h.h0, h.h4⟩
theorem Spo.kids {p B k z4 z5 z8 q8 j : Nat} {ns : List P.Nd} {W w : World} {x : P.Nd} (h : Spo p B k z4 z5 z8 q8 ns W w) (hx : ns[j]? = some x) : w.cell? ⟨z8, j * 4 + 3, none⟩ = some (.int .i64 x.kids) := by
  obtain ⟨cur, b1, b2, b3, b4, b5, b6⟩ := own_open h.O
  refine b1.cell (b6 _ _ ?_)
  rw [ndCells_get, show (j * 4 + 3) / 4 = j by omega, show (j * 4 + 3) % 4 = 3 by omega, hx]
  rfl
theorem Spo.drew {p B k z4 z5 z8 q8 : Nat} {ns : List P.Nd} {W w : World} (h : Spo p B k z4 z5 z8 q8 ns W w) : Spo p B k z4 z5 z8 q8 ns W w.drew := ⟨h.R.drew, h.T.drew, h.K4.drew, h.K5.drew, own_at h.O rfl, h.h0, h.h4⟩

/-- what is left when the nodes have been spoilt -/
def Spd (p B k z4 z5 m : Nat) (W w : World) : Prop := ∃ (ns : List P.Nd) (g c : Nat), Blk z5 #[.slice (some ⟨g, 0, none⟩) ns.length c] 25 w ∧ Blk z4 #[.slice none 0 0] 25 w ∧ NdRow w B (.slice (some ⟨g, 0, none⟩) ns.length c) ns ∧ g ≠ z4 ∧ ns.length ≤ m ∧ Sh ns ∧ RdL p k w ∧ Bt p W.heap.size W w

theorem Spd.more {p B k k' z4 z5 m : Nat} {W w : World} (h : Spd p B k z4 z5 m W w) (hk : k ≤ k') : Spd p B k' z4 z5 m W w := by
  obtain ⟨ns, g, c, h1, h2, h3, h4, h5, h6, h7, h8⟩ := h
  exact ⟨ns, g, c, h1, h2, h3, h4, h5, h6, h7.mono hk, h8⟩

theorem Spo.store {p B k z4 z5 z8 q8 j f : Nat} {ns : List P.Nd} {W w : World} (h : Spo p B k z4 z5 z8 q8 ns W w) (hs : Sh ns) {n n' : P.Nd} {x : Value} (hn : ns[j]? = some n) (hf : f < 4) (he : ∀ i, i < 4 → (ndv n')[i]? = if i = f then some x else (ndv n)[i]?) (h1 : n'.name.size ≤ 600) (h2 : n'.value.size ≤ 600) {m : Nat} (hm : ns.length ≤ m) :
    Spd p B k z4 z5 m W (w.setCell ⟨z8, j * 4 + f, none⟩ x) := by
  have h0 := h.h0
  have h4 := h.h4
  obtain ⟨cur, b1, b2, b3, b4, b5, b6⟩ := own_open h.O
  have hbs : Below B w (w.setCell ⟨z8, j * 4 + f, none⟩ x) := (Below.refl _ _).setCell (show B ≤ (⟨z8, j * 4 + f, none⟩ : Addr).block from b2) _
  refine ⟨ns.set j n', z8, q8, ?_, ?_, ?_, fun e => h4.2.2.2.1 e.symm, by rw [List.length_set]; exact hm, hs.set j h1 h2, h.R.below hbs (by omega), h.T.trans ((Bt.of_below hbs).mono h0.2)⟩
  · rw [List.length_set]; exact h.K5.other (fun e => h4.2.2.2.2 e) _
  · exact h.K4.other (fun e => h4.2.2.2.1 e) _
  · exact blk_row (b1.set _ _) b2 (nd_store hn hf he b6)

theorem NdRow.setNe {w : World} {B b g n c : Nat} {ns : List P.Nd} (h : NdRow w B (.slice (some ⟨g, 0, none⟩) n c) ns) (hb : g ≠ b) (o : Nat) (x : Value) : NdRow (w.setCell ⟨b, o, none⟩ x) B (.slice (some ⟨g, 0, none⟩) n c) ns := by
  obtain ⟨g', cap, h1, h2, h3, h4⟩ := h
  have e : g' = g := by
    simp only [Value.slice.injEq, Option.some.injEq, Addr.mk.injEq, and_true] at h1
    exact h1.1.symm
  subst e
  refine ⟨g', cap, h1, h2, by simpa [World.setCell] using h3, fun j u hj => ?_⟩
  exact (World.cell?_of_block (w := w) (a := ⟨g', 0 + j, none⟩) (Below.heap_setCell w ⟨b, o, none⟩ x g' (fun e => hb e))).trans (h4 j u hj)

theorem Spd.fin {p B k z4 z5 m : Nat} {W w : World} (h : Spd p B k z4 z5 m W w) (h0 : p < W.heap.size ∧ W.heap.size ≤ B) (h4 : B ≤ z4) : ∃ g n c, w.cell? ⟨z5, 0, none⟩ = some (.slice (some ⟨g, 0, none⟩) n c) ∧ w.cell? ⟨z4, 0, none⟩ = some (.slice none 0 0) ∧ w.frozen? ⟨z4, 0, none⟩ = false ∧ (w.setCell ⟨z4, 0, none⟩ (.slice (some ⟨g, 0, none⟩) n c)).cell? ⟨z4, 0, none⟩ = some (.slice (some ⟨g, 0, none⟩) n c) ∧ DrM p m k W (w.setCell ⟨z4, 0, none⟩ (.slice (some ⟨g, 0, none⟩) n c)) (.slice (some ⟨g, 0, none⟩) n c) := by
  obtain ⟨ns, g, c, k5, k4, hN, hg, hl, hs, hr, hb⟩ := h
  have hbs : Below B w (w.setCell ⟨z4, 0, none⟩ (.slice (some ⟨g, 0, none⟩) ns.length c)) := (Below.refl _ _).setCell (show B ≤ (⟨z4, 0, none⟩ : Addr).block from h4) _
  exact ⟨g, ns.length, c, k5.cell rfl, k4.cell rfl, k4.frozen _, (k4.set 0 _).cell rfl, ns, (hN.setNe hg 0 _).mono h0.2, hl, hs, hr.below hbs (by omega), hb.trans ((Bt.of_below hbs).mono h0.2)⟩

set_option maxHeartbeats 4000000 in
set_option maxRecDepth 100000 in
theorem spoil_any (p n : Nat) (ns : List P.Nd) (g c B : Nat) (w : World) (hN : NdRow w B (.slice (some ⟨g, 0, none⟩) ns.length c) ns) (hl : ns.length ≤ 100) (hs : Sh ns) (hR : RdL p n w) (hn : n ≤ 880000) :
    Calls Tryz.prog 31 #[.pointer (some ⟨p, 0, none⟩), .agg #[.slice (some ⟨g, 0, none⟩) ns.length c]] w fun e w' => ∃ v, e = .returned (.agg #[v]) ∧ DrM p (ns.length + 1) (n + 6) w w' v := by
  obtain ⟨i0, hi0, hz0, hz1, hz2⟩ := info_parts info_nd
  have hpl := hR.lt
  have HSH := Hid.intro hs
  obtain ⟨_, _, e0, _, hgl, hgr⟩ := hN
  simp only [Value.slice.injEq, Option.some.injEq, Addr.mk.injEq, and_true, true_and] at e0
  obtain ⟨rfl, -⟩ := e0
  have hb1 : Below w.heap.size w (w.alloc (Obj.cells #[.slice (some ⟨g, 0, none⟩) ns.length c] 25)) := (Below.refl _ _).alloc (Nat.le_refl _) _
  have hb12 : Below (w.alloc (Obj.cells #[.slice (some ⟨g, 0, none⟩) ns.length c] 25)).heap.size (w.alloc (Obj.cells #[.slice (some ⟨g, 0, none⟩) ns.length c] 25)) ((w.alloc (Obj.cells #[.slice (some ⟨g, 0, none⟩) ns.length c] 25)).alloc (Obj.cells #[.slice none 0 0] 25)) := (Below.refl _ _).alloc (Nat.le_refl _) _
  have hb2 : Below w.heap.size w ((w.alloc (Obj.cells #[.slice (some ⟨g, 0, none⟩) ns.length c] 25)).alloc (Obj.cells #[.slice none 0 0] 25)) := hb1.trans (hb12.mono hb1.size)
  have hz12 : (w.alloc (Obj.cells #[.slice (some ⟨g, 0, none⟩) ns.length c] 25)).heap.size = w.heap.size + 1 := by simp
  have HK3 : Hid (Blk w.heap.size #[.slice (some ⟨g, 0, none⟩) ns.length c] 25 ((w.alloc (Obj.cells #[.slice (some ⟨g, 0, none⟩) ns.length c] 25)).alloc (Obj.cells #[.slice none 0 0] 25))) := (Blk.alloc _ _ _).below hb12 (by omega)
  have HK4 : Hid (Blk (w.heap.size + 1) #[.slice none 0 0] 25 ((w.alloc (Obj.cells #[.slice (some ⟨g, 0, none⟩) ns.length c] 25)).alloc (Obj.cells #[.slice none 0 0] 25))) := by
    have := Blk.alloc (w.alloc (Obj.cells #[.slice (some ⟨g, 0, none⟩) ns.length c] 25)) #[.slice none 0 0] 25
    rw [hz12] at this
    exact this
  have HR := Hid.intro (hR.below hb2 hpl)
  have HB : Hid (Bt p w.heap.size w ((w.alloc (Obj.cells #[.slice (some ⟨g, 0, none⟩) ns.length c] 25)).alloc (Obj.cells #[.slice none 0 0] 25))) := Bt.of_below hb2
  have HG : Hid (((w.alloc (Obj.cells #[.slice (some ⟨g, 0, none⟩) ns.length c] 25)).alloc (Obj.cells #[.slice none 0 0] 25)).rangeAt g 0 (ndCells ns)) := fun j u hj => (hb2.cell (p := ⟨g, 0 + j, none⟩) (show g < w.heap.size from hgl)).trans (hgr j u hj)
  have hzw : w.heap.size ≤ ((w.alloc (Obj.cells #[.slice (some ⟨g, 0, none⟩) ns.length c] 25)).alloc (Obj.cells #[.slice none 0 0] 25)).heap.size := hb2.size
  clear hR hs hb1 hb12 hb2 hz12 hgr
  go_enter Tryz.func31, Tryz.ntmps31
  go_upto_region 1 with fail
  generalize (w.alloc (Obj.cells #[.slice (some ⟨g, 0, none⟩) ns.length c] 25)).alloc (Obj.cells #[.slice none 0 0] 25) = w2 at *
  have hs2 := HK4.out.lt
  have c3 : (w2.alloc (Obj.cells #[] 36)).cell? ⟨w.heap.size, 0, none⟩ = some (.slice (some ⟨g, 0, none⟩) ns.length c) := (HK3.out.below ((Below.refl _ _).alloc (Nat.le_refl _) _) HK3.out.lt).cell rfl
  have HNN : Hid (∀ (j : Nat) (u : Value), (ndCells ns)[j]? = some u → (w2.alloc (Obj.cells #[] 36)).cell? ((⟨g, 0, none⟩ : Addr).add j) = some u) := by
    intro j u hj
    rw [Addr.add_mid]
    exact (((Below.refl w2.heap.size w2).alloc (Nat.le_refl _) _).cell (p := ⟨g, 0 + j, none⟩) (show g < w2.heap.size by omega)).trans (HG.out j u hj)
  have HNL : Hid ((ndCells ns).length = ns.length * 4) := ndCells_len ns
  have HN1 : Hid (∀ u ∈ ndCells ns, u.oneCell' = true) := ndCells_one ns
  have HOW := Hid.intro (World.ownsRow_made (e := 36) (size := 4) (base := w2.heap.size) w2 #[] 0 (Nat.le_refl _) (Nat.zero_le _) rfl)
  go_wp2_with (at_builtin; refine wpList_append_own_at _ rfl (.tmp 7) (.tmp 9) 23 rfl w2.heap.size 36 i0 _ 4 48 Tryz.underlying23 hi0 hz0 hz1 hz2 rfl (by decide) _ 0 _ rfl HOW.out ⟨g, 0, none⟩ ns.length c (ndCells ns) rfl HNL.out HNN.out HN1.out (by unfold maxLen; omega) (by omega) (by simp) ?_; intro v' w3 hown3 hgrow3 hnil3 _; have hv3 : v' ≠ .slice none 0 0 := (fun e => by have h9 := (hnil3.1 e).1; cases h9); obtain ⟨z8, q8, rfl⟩ := own_slice hown3 hv3)
  rw [Nat.zero_add, List.nil_append] at hown3
  have hb3 : Below w2.heap.size w2 w3 := ((Below.refl _ w2).alloc (Nat.le_refl _) _).grown hgrow3 (by simp) (fun i hi => by cases hi; exact Nat.le_refl _)
  clear hgrow3 hnil3 hv3
  have hba : Below w3.heap.size w3 (w3.alloc (Obj.cells #[.slice (some ⟨z8, 0, none⟩) ns.length q8] 25)) := (Below.refl _ _).alloc (Nat.le_refl _) _
  have hz3 := hb3.size
  have h8 := hown3.lt z8 rfl
  have hbb : Below w2.heap.size w2 (w3.alloc (Obj.cells #[.slice (some ⟨z8, 0, none⟩) ns.length q8] 25)) := hb3.trans (hba.mono hz3)
  have HI : Hid (Spo p (w.heap.size + 1) n (w.heap.size + 1) w3.heap.size z8 q8 ns w (w3.alloc (Obj.cells #[.slice (some ⟨z8, 0, none⟩) ns.length q8] 25))) := ⟨HR.out.below hbb HR.out.lt, HB.out.trans ((Bt.of_below hbb).mono HB.out.size), HK4.out.below hbb hs2, Blk.alloc _ _ _, own_at (own_lower hown3 (by omega)) (hba.block z8 h8.2), ⟨hpl, by omega⟩, ⟨by omega, by omega, by omega, by omega, by omega⟩⟩
  clear hown3 hb3 hba hbb hz3 h8 HR HB HK3 HK4 HG HNN HOW c3 hs2 hzw hgl
  generalize w3.alloc (Obj.cells #[.slice (some ⟨z8, 0, none⟩) ns.length q8] 25) = w5 at *
  generalize w3.heap.size = z5 at *
  refine (pickN p n ns.length _ HI.out.R (by omega) (by omega)).mono ?_
  rintro e w6 ⟨k, rfl, hk, hkl, hr, hb⟩
  replace HI := Hid.intro (HI.out.bt hb hr)
  clear hr hb
  have c5 : w6.cell? ⟨z5, 0, none⟩ = some (.slice (some ⟨z8, 0, none⟩) ns.length q8) := HI.out.K5.cell rfl
  by_cases hlz : ns.length = 0
  · have e0 : (ns.length : Int) = 0 := by omega
    have e1 : ((ns.length : Int) == 0) = true := by simp [e0]
    have HD : Hid (Spd p (w.heap.size + 1) (n + 6) (w.heap.size + 1) z5 (ns.length + 1) w w6) := by
      obtain ⟨cur, b1, b2, b3, b4, b5, b6⟩ := own_open HI.out.O
      exact ⟨ns, z8, q8, HI.out.K5, HI.out.K4, blk_row b1 b2 b6, fun e => HI.out.h4.2.2.2.1 e.symm, by omega, HSH.out, HI.out.R.mono (by omega), HI.out.T⟩
    obtain ⟨g9, n9, c9, d1, d2, d3, d4, d5⟩ := HD.out.fin HI.out.h0 (Nat.le_refl _)
    have e5 : Value.slice (some ⟨z8, 0, none⟩) ns.length q8 = .slice (some ⟨g9, 0, none⟩) n9 c9 := Option.some.inj (c5.symm.trans d1)
    have HD5 := Hid.intro d5
    rw [← e5] at d4 HD5
    rw [hlz] at d4 HD5
    clear d5 e5 d1 HD HI
    go_wp2_with fail
    exact bodyPost_ret (v := .agg #[.slice (some ⟨z8, 0, none⟩) 0 q8]) (by simp [results, Tryz.results31, go_sem, d4]) rfl ⟨_, rfl, by rw [hlz]; exact HD5.out⟩
  have hk2 := hk (by omega)
  have e0 : ¬ (ns.length : Int) = 0 := by omega
  have e1 : ((ns.length : Int) == 0) = false := by simpa using e0
  clear hk
  go_wp2_with fail
  clear e0 e1 c5
  refine (pickL p (n + 1) 6 _ HI.out.R (by omega) (by omega) (by omega)).mono ?_
  rintro e w7 ⟨v, rfl, hv, hr, hb⟩
  replace HI := Hid.intro (HI.out.bt hb hr)
  clear hr hb
  obtain ⟨x, hx⟩ : ∃ x, ns[k]? = some x := ⟨ns[k], List.getElem?_eq_getElem hk2⟩
  have HX := Hid.intro hx
  have HXS := Hid.intro (HSH.out x (List.mem_of_getElem? hx))
  clear hx
  have hz4w : w.heap.size ≤ w.heap.size + 1 := Nat.le_succ _
  generalize w.heap.size + 1 = z4 at *
  go_upto_block 0 with fail
  go_cut [] (fun wz => Hid (Spd p z4 (n + 6) z4 z5 (ns.length + 1) w wz))
  case first =>
    rcases (by omega : v = 0 ∨ v = 1 ∨ v = 2 ∨ v = 3 ∨ v = 4 ∨ v = 5) with rfl | rfl | rfl | rfl | rfl | rfl
    · skip
      go_upto_region 8 with fail
      refine wp_region_until (S := fun wy => wy.cell? ⟨z5, 0, none⟩ = some (.slice (some ⟨z8, 0, none⟩) ns.length q8)) 8 (by kernel_rfl) (HI.out.drew.K5.cell rfl) (fun hS => ?_)
      replace HI := Hid.intro HI.out.drew
      generalize w7.drew = wn at *
      refine wpAnyU_take (i := 0) (oi := { dst := some 31, op := _, type := _, pos := _, after := _, guard := none }) (v := .pointer (some ⟨z5, 0, none⟩)) rfl (by kernel_rfl) (by kernel_rfl) (by kernel_rfl) (by kernel_rfl) (fun _ _ _ h => h) (Or.inl ⟨by rfl, ?_⟩) hS ?_
      · intro wy hy
        clear hy
        go_simp
      simp only [Act.put, List.setIfInBounds_toArray, List.set_cons_zero, List.set_cons_succ]
      refine wpAnyU_take (i := 1) (oi := { dst := some 32, op := _, type := _, pos := _, after := _, guard := none }) (v := .slice (some ⟨z8, 0, none⟩) ns.length q8) rfl (by kernel_rfl) (by kernel_rfl) (by kernel_rfl) (by kernel_rfl) (fun _ _ _ h => h) (Or.inl ⟨by rfl, ?_⟩) hS ?_
      · intro wy hy
        have h0 := id hy
        clear hy
        go_simp
      simp only [Act.put, List.setIfInBounds_toArray, List.set_cons_zero, List.set_cons_succ]
      refine wpAnyU_take (i := 2) (oi := { dst := some 33, op := _, type := _, pos := _, after := _, guard := none }) (v := .int .i64 (k : Int)) rfl (by kernel_rfl) (by kernel_rfl) (by kernel_rfl) (by kernel_rfl) (fun _ _ _ h => h) (Or.inl ⟨by rfl, ?_⟩) hS ?_
      · intro wy hy
        clear hy
        go_simp
      simp only [Act.put, List.setIfInBounds_toArray, List.set_cons_zero, List.set_cons_succ]
      refine wpAnyU_take (i := 3) (oi := { dst := some 34, op := _, type := _, pos := _, after := _, guard := none }) (v := .pointer (some ⟨p, 0, none⟩)) rfl (by kernel_rfl) (by kernel_rfl) (by kernel_rfl) (by kernel_rfl) (fun _ _ _ h => h) (Or.inl ⟨by rfl, ?_⟩) hS ?_
      · intro wy hy
        clear hy
        go_simp
      simp only [Act.put, List.setIfInBounds_toArray, List.set_cons_zero, List.set_cons_succ]
      refine wpAnyU_ready (rs := [4]) (by kernel_rfl) (by simp) (AllReadyU.cons (o := { dst := some 35, op := _, type := _, pos := _, after := _, guard := none }) rfl (fun KK hKK => ?_) AllReadyU.nil)
      go_simp
      refine (pickL p (n + 2) 8 _ HI.out.R (by omega) (by omega) (by omega)).mono ?_
      rintro e wn ⟨u, rfl, hu, hr, hb⟩
      replace HI := Hid.intro (HI.out.bt hb hr)
      refine hKK.out _ _ (HI.out.K5.cell rfl) (fun hS => ?_)
      clear hKK KK hb hr
      refine wpAnyU_take (i := 5) (oi := { dst := some 36, op := _, type := _, pos := _, after := _, guard := none }) (v := .int .i64 ((u : Int) - 1)) rfl (by kernel_rfl) (by kernel_rfl) (by kernel_rfl) (by kernel_rfl) (fun _ _ _ h => h) (Or.inl ⟨by rfl, ?_⟩) hS ?_
      · intro wy hy
        clear hy
        first | (go_simp; done) | (go_simp; rw [IntKind.wrap_i64]; omega) | (go_simp; omega)
      simp only [Act.put, List.setIfInBounds_toArray, List.set_cons_zero, List.set_cons_succ]
      refine wpAnyU_only (i := 6) (oi := { dst := some 37, op := _, type := _, pos := _, after := _, guard := none }) (v := .pointer (some ⟨z8, k * 4, none⟩)) rfl (by kernel_rfl) (Or.inl ⟨by rfl, ?_⟩) hS ?_
      · intro wy hy
        clear hy
        first | (go_simp; done) | (go_simp; omega) | (go_simp; intro hh; omega)
      simp only [Act.put, List.setIfInBounds_toArray, List.set_cons_zero, List.set_cons_succ]
      refine wpAnyU_take (i := 7) (oi := { dst := some 38, op := _, type := _, pos := _, after := _, guard := none }) (v := .pointer (some ⟨z8, k * 4, none⟩)) rfl (by kernel_rfl) (by kernel_rfl) (by kernel_rfl) (by kernel_rfl) (fun _ _ _ h => h) (Or.inl ⟨by rfl, ?_⟩) hS ?_
      · intro wy hy
        clear hy
        first | (go_simp; done) | (go_simp; omega) | (go_simp; intro hh; omega)
      simp only [Act.put, List.setIfInBounds_toArray, List.set_cons_zero, List.set_cons_succ]
      have hst := HI.out.store HSH.out HX.out (f := 0) (n' := { x with kind := (u : Int) - 1 }) (x := .int .i64 ((u : Int) - 1)) (by omega) (fun i hi => by rcases (by omega : i = 0 ∨ i = 1 ∨ i = 2 ∨ i = 3) with rfl | rfl | rfl | rfl <;> rfl) (HXS.out.1) (HXS.out.2) (Nat.le_succ _)
      obtain ⟨cur, b1, b2, b3, b4, b5, b6⟩ := own_open HI.out.O
      have kb : wn.cell? ⟨z8, k * 4, none⟩ = some (.int .i64 x.kind) := b1.cell (b6 _ _ (by rw [ndCells_get, show (k * 4) / 4 = k by omega, show (k * 4) % 4 = 0 by omega, HX.out]; rfl))
      have fb : wn.frozen? ⟨z8, k * 4, none⟩ = false := b1.frozen _
      have HST : Hid (Spd p z4 (n + 6) z4 z5 (ns.length + 1) w (wn.setCell ⟨z8, k * 4, none⟩ (.int .i64 ((u : Int) - 1)))) := hst.more (by omega)
      clear hst b1 b2 b3 b4 b5 b6
      refine wpAnyU_ready (rs := [8]) (by kernel_rfl) (by simp) (AllReadyU.last (o := { dst := none, op := _, type := _, pos := _, after := _, guard := none }) rfl (fun KK hKK => ?_))
      go_simp
      refine hKK.out _ _ ?_
      clear hKK KK
      refine wpAnyU_done (by kernel_rfl) ?_ _
      go_wp2_with fail
      go_meet
      exact HST
    · skip
      go_upto_region 10 with fail
      refine wp_region_until (S := fun wy => wy.cell? ⟨z5, 0, none⟩ = some (.slice (some ⟨z8, 0, none⟩) ns.length q8)) 14 (by kernel_rfl) (HI.out.drew.K5.cell rfl) (fun hS => ?_)
      replace HI := Hid.intro HI.out.drew
      generalize w7.drew = wn at *
      refine wpAnyU_take (i := 0) (oi := { dst := some 41, op := _, type := _, pos := _, after := _, guard := none }) (v := .pointer (some ⟨z5, 0, none⟩)) rfl (by kernel_rfl) (by kernel_rfl) (by kernel_rfl) (by kernel_rfl) (fun _ _ _ h => h) (Or.inl ⟨by rfl, ?_⟩) hS ?_
      · intro wy hy
        clear hy
        go_simp
      simp only [Act.put, List.setIfInBounds_toArray, List.set_cons_zero, List.set_cons_succ]
      refine wpAnyU_take (i := 1) (oi := { dst := some 42, op := _, type := _, pos := _, after := _, guard := none }) (v := .slice (some ⟨z8, 0, none⟩) ns.length q8) rfl (by kernel_rfl) (by kernel_rfl) (by kernel_rfl) (by kernel_rfl) (fun _ _ _ h => h) (Or.inl ⟨by rfl, ?_⟩) hS ?_
      · intro wy hy
        have h0 := id hy
        clear hy
        go_simp
      simp only [Act.put, List.setIfInBounds_toArray, List.set_cons_zero, List.set_cons_succ]
      refine wpAnyU_take (i := 2) (oi := { dst := some 43, op := _, type := _, pos := _, after := _, guard := none }) (v := .int .i64 (k : Int)) rfl (by kernel_rfl) (by kernel_rfl) (by kernel_rfl) (by kernel_rfl) (fun _ _ _ h => h) (Or.inl ⟨by rfl, ?_⟩) hS ?_
      · intro wy hy
        clear hy
        go_simp
      simp only [Act.put, List.setIfInBounds_toArray, List.set_cons_zero, List.set_cons_succ]
      refine wpAnyU_take (i := 3) (oi := { dst := some 44, op := _, type := _, pos := _, after := _, guard := none }) (v := .pointer (some ⟨p, 0, none⟩)) rfl (by kernel_rfl) (by kernel_rfl) (by kernel_rfl) (by kernel_rfl) (fun _ _ _ h => h) (Or.inl ⟨by rfl, ?_⟩) hS ?_
      · intro wy hy
        clear hy
        go_simp
      simp only [Act.put, List.setIfInBounds_toArray, List.set_cons_zero, List.set_cons_succ]
      refine wpAnyU_take (i := 8) (oi := { dst := some 49, op := _, type := _, pos := _, after := _, guard := none }) (v := .pointer (some ⟨p, 0, none⟩)) rfl (by kernel_rfl) (by kernel_rfl) (by kernel_rfl) (by kernel_rfl) (fun _ _ _ h => h) (Or.inl ⟨by rfl, ?_⟩) hS ?_
      · intro wy hy
        clear hy
        go_simp
      simp only [Act.put, List.setIfInBounds_toArray, List.set_cons_zero, List.set_cons_succ]
      refine wpAnyU_ready (rs := [4]) (by kernel_rfl) (by simp) (AllReadyU.cons (o := { dst := some 45, op := _, type := _, pos := _, after := _, guard := none }) rfl (fun KK hKK => ?_) AllReadyU.nil)
      go_simp
      refine (pickL p (n + 2) 2 _ HI.out.R (by omega) (by omega) (by omega)).mono ?_
      rintro e wn ⟨u, rfl, hu, hr, hb⟩
      replace HI := Hid.intro (HI.out.bt hb hr)
      refine hKK.out _ _ (HI.out.K5.cell rfl) (fun hS => ?_)
      clear hKK KK hb hr
      refine wpAnyU_take (i := 5) (oi := { dst := some 46, op := _, type := _, pos := _, after := _, guard := none }) (v := .int .i64 (20 + (u : Int))) rfl (by kernel_rfl) (by kernel_rfl) (by kernel_rfl) (by kernel_rfl) (fun _ _ _ h => h) (Or.inl ⟨by rfl, ?_⟩) hS ?_
      · intro wy hy
        clear hy
        first | (go_simp; done) | (go_simp; rw [IntKind.wrap_i64]; omega) | (go_simp; omega)
      simp only [Act.put, List.setIfInBounds_toArray, List.set_cons_zero, List.set_cons_succ]
      refine wpAnyU_ready (rs := [6]) (by kernel_rfl) (by simp) (AllReadyU.cons (o := { dst := some 47, op := _, type := _, pos := _, after := _, guard := none }) rfl (fun KK hKK => ?_) AllReadyU.nil)
      go_simp
      have HM := Hid.intro (many_any ⟨#[110]⟩ (20 + u) wn (by decide) (by omega))
      rw [show ((20 + u : Nat) : Int) = 20 + (u : Int) by omega] at HM
      refine HM.out.mono ?_
      rintro e wm ⟨tM, rfl, hM, hw⟩
      rw [hw]
      clear hw HM
      refine hKK.out _ _ (HI.out.K5.cell rfl) (fun hS => ?_)
      clear hKK KK wm
      refine wpAnyU_ready (rs := [7, 9]) (by kernel_rfl) (by simp) (AllReadyU.cons (o := { dst := some 48, op := _, type := _, pos := _, after := _, guard := none }) rfl (fun KK hKK => ?_) (AllReadyU.cons (o := { dst := some 50, op := _, type := _, pos := _, after := _, guard := none }) rfl (fun KK hKK => ?_) AllReadyU.nil))
      · skip
        go_simp
        have HA : Hid (Blk wn.heap.size #[.string ⟨#[]⟩, .string ⟨#[65]⟩, .string tM] 9 (wn.alloc (Obj.cells #[.string ⟨#[]⟩, .string ⟨#[65]⟩, .string tM] 9))) := Blk.alloc _ _ _
        have hbw : Below wn.heap.size wn (wn.alloc (Obj.cells #[.string ⟨#[]⟩, .string ⟨#[65]⟩, .string tM] 9)) := (Below.refl _ _).alloc (Nat.le_refl _) _
        have hgA : w.heap.size ≤ wn.heap.size := HI.out.sz
        replace HI := Hid.intro (HI.out.below hbw)
        clear hbw
        refine hKK.out _ _ (HI.out.K5.cell rfl) (fun hS => ?_)
        clear hKK KK hS
        generalize wn.heap.size = gA at *
        generalize wn.alloc (Obj.cells #[.string ⟨#[]⟩, .string ⟨#[65]⟩, .string tM] 9) = wn at *
        refine wpAnyU_mono (S' := fun wy => wy.cell? ⟨z5, 0, none⟩ = some (.slice (some ⟨z8, 0, none⟩) ns.length q8) ∧ Blk gA #[.string ⟨#[]⟩, .string ⟨#[65]⟩, .string tM] 9 wy) (fun _ h => h.1) _ _ _ _ ?_
        have hS : (fun wy => wy.cell? ⟨z5, 0, none⟩ = some (.slice (some ⟨z8, 0, none⟩) ns.length q8) ∧ Blk gA #[.string ⟨#[]⟩, .string ⟨#[65]⟩, .string tM] 9 wy) wn := ⟨(HI.out.K5.cell rfl), HA.out⟩
        refine wpAnyU_ready (rs := [9]) (by kernel_rfl) (by simp) (AllReadyU.cons (o := { dst := some 50, op := _, type := _, pos := _, after := _, guard := none }) rfl (fun KK hKK => ?_) AllReadyU.nil)
        go_simp
        refine (pickL p (n + 3) 3 _ HI.out.R (by omega) (by omega) (by omega)).mono ?_
        rintro e wn ⟨u2, rfl, hu2, hr, hb⟩
        replace HA := Hid.intro (HA.out.bt hb HA.out.lt (by omega))
        replace HI := Hid.intro (HI.out.bt hb hr)
        refine hKK.out _ _ ⟨(HI.out.K5.cell rfl), HA.out⟩ (fun hS => ?_)
        clear hKK KK hb hr
        obtain ⟨s1, hds1, hzs1⟩ := tabS [⟨#[]⟩, ⟨#[65]⟩, tM] u2 (by simp; omega) (by intro s hs; simp at hs; rcases hs with rfl | rfl | rfl <;> (first | decide | omega))
        refine wpAnyU_take (i := 10) (oi := { dst := some 51, op := _, type := _, pos := _, after := _, guard := none }) (v := .pointer (some ⟨gA, u2, none⟩)) rfl (by kernel_rfl) (by kernel_rfl) (by kernel_rfl) (by kernel_rfl) (fun _ _ _ h => h) (Or.inl ⟨by rfl, ?_⟩) hS ?_
        · intro wy hy
          clear hy
          first | (go_simp; done) | (go_simp; omega) | (go_simp; intro hh; omega)
        simp only [Act.put, List.setIfInBounds_toArray, List.set_cons_zero, List.set_cons_succ]
        refine wpAnyU_take (i := 11) (oi := { dst := some 52, op := _, type := _, pos := _, after := _, guard := none }) (v := .string s1) rfl (by kernel_rfl) (by kernel_rfl) (by kernel_rfl) (by kernel_rfl) (fun _ _ _ h => h) (Or.inl ⟨by rfl, ?_⟩) hS ?_
        · intro wy hy
          have h0 := (hy.2).cell (o := u2) (v := .string s1) hds1
          clear hy
          go_simp
        simp only [Act.put, List.setIfInBounds_toArray, List.set_cons_zero, List.set_cons_succ]
        refine wpAnyU_only (i := 12) (oi := { dst := some 53, op := _, type := _, pos := _, after := _, guard := none }) (v := .pointer (some ⟨z8, k * 4, none⟩)) rfl (by kernel_rfl) (Or.inl ⟨by rfl, ?_⟩) hS ?_
        · intro wy hy
          clear hy
          first | (go_simp; done) | (go_simp; omega) | (go_simp; intro hh; omega)
        simp only [Act.put, List.setIfInBounds_toArray, List.set_cons_zero, List.set_cons_succ]
        refine wpAnyU_take (i := 13) (oi := { dst := some 54, op := _, type := _, pos := _, after := _, guard := none }) (v := .pointer (some ⟨z8, k * 4 + 1, none⟩)) rfl (by kernel_rfl) (by kernel_rfl) (by kernel_rfl) (by kernel_rfl) (fun _ _ _ h => h) (Or.inl ⟨by rfl, ?_⟩) hS ?_
        · intro wy hy
          clear hy
          first | (go_simp; done) | (go_simp; omega) | (go_simp; intro hh; omega)
        simp only [Act.put, List.setIfInBounds_toArray, List.set_cons_zero, List.set_cons_succ]
        have hst := HI.out.store HSH.out HX.out (f := 1) (n' := { x with name := s1 }) (x := .string s1) (by omega) (fun i hi => by rcases (by omega : i = 0 ∨ i = 1 ∨ i = 2 ∨ i = 3) with rfl | rfl | rfl | rfl <;> rfl) (hzs1) (HXS.out.2) (Nat.le_succ _)
        obtain ⟨cur, b1, b2, b3, b4, b5, b6⟩ := own_open HI.out.O
        have kb : wn.cell? ⟨z8, k * 4 + 1, none⟩ = some (.string x.name) := b1.cell (b6 _ _ (by rw [ndCells_get, show (k * 4 + 1) / 4 = k by omega, show (k * 4 + 1) % 4 = 1 by omega, HX.out]; rfl))
        have fb : wn.frozen? ⟨z8, k * 4 + 1, none⟩ = false := b1.frozen _
        have HST : Hid (Spd p z4 (n + 6) z4 z5 (ns.length + 1) w (wn.setCell ⟨z8, k * 4 + 1, none⟩ (.string s1))) := hst.more (by omega)
        clear hst b1 b2 b3 b4 b5 b6
        refine wpAnyU_ready (rs := [14]) (by kernel_rfl) (by simp) (AllReadyU.last (o := { dst := none, op := _, type := _, pos := _, after := _, guard := none }) rfl (fun KK hKK => ?_))
        go_simp
        refine hKK.out _ _ ?_
        clear hKK KK
        refine wpAnyU_done (by kernel_rfl) ?_ _
        go_wp2_with fail
        go_meet
        exact HST
      · skip
        go_simp
        refine (pickL p (n + 3) 3 _ HI.out.R (by omega) (by omega) (by omega)).mono ?_
        rintro e wn ⟨u2, rfl, hu2, hr, hb⟩
        replace HI := Hid.intro (HI.out.bt hb hr)
        refine hKK.out _ _ (HI.out.K5.cell rfl) (fun hS => ?_)
        clear hKK KK hb hr
        refine wpAnyU_ready (rs := [7]) (by kernel_rfl) (by simp) (AllReadyU.cons (o := { dst := some 48, op := _, type := _, pos := _, after := _, guard := none }) rfl (fun KK hKK => ?_) AllReadyU.nil)
        go_simp
        have HA : Hid (Blk wn.heap.size #[.string ⟨#[]⟩, .string ⟨#[65]⟩, .string tM] 9 (wn.alloc (Obj.cells #[.string ⟨#[]⟩, .string ⟨#[65]⟩, .string tM] 9))) := Blk.alloc _ _ _
        have hbw : Below wn.heap.size wn (wn.alloc (Obj.cells #[.string ⟨#[]⟩, .string ⟨#[65]⟩, .string tM] 9)) := (Below.refl _ _).alloc (Nat.le_refl _) _
        have hgA : w.heap.size ≤ wn.heap.size := HI.out.sz
        replace HI := Hid.intro (HI.out.below hbw)
        clear hbw
        refine hKK.out _ _ (HI.out.K5.cell rfl) (fun hS => ?_)
        clear hKK KK hS
        generalize wn.heap.size = gA at *
        generalize wn.alloc (Obj.cells #[.string ⟨#[]⟩, .string ⟨#[65]⟩, .string tM] 9) = wn at *
        refine wpAnyU_mono (S' := fun wy => wy.cell? ⟨z5, 0, none⟩ = some (.slice (some ⟨z8, 0, none⟩) ns.length q8) ∧ Blk gA #[.string ⟨#[]⟩, .string ⟨#[65]⟩, .string tM] 9 wy) (fun _ h => h.1) _ _ _ _ ?_
        have hS : (fun wy => wy.cell? ⟨z5, 0, none⟩ = some (.slice (some ⟨z8, 0, none⟩) ns.length q8) ∧ Blk gA #[.string ⟨#[]⟩, .string ⟨#[65]⟩, .string tM] 9 wy) wn := ⟨(HI.out.K5.cell rfl), HA.out⟩
        obtain ⟨s1, hds1, hzs1⟩ := tabS [⟨#[]⟩, ⟨#[65]⟩, tM] u2 (by simp; omega) (by intro s hs; simp at hs; rcases hs with rfl | rfl | rfl <;> (first | decide | omega))
        refine wpAnyU_take (i := 10) (oi := { dst := some 51, op := _, type := _, pos := _, after := _, guard := none }) (v := .pointer (some ⟨gA, u2, none⟩)) rfl (by kernel_rfl) (by kernel_rfl) (by kernel_rfl) (by kernel_rfl) (fun _ _ _ h => h) (Or.inl ⟨by rfl, ?_⟩) hS ?_
        · intro wy hy
          clear hy
          first | (go_simp; done) | (go_simp; omega) | (go_simp; intro hh; omega)
        simp only [Act.put, List.setIfInBounds_toArray, List.set_cons_zero, List.set_cons_succ]
        refine wpAnyU_take (i := 11) (oi := { dst := some 52, op := _, type := _, pos := _, after := _, guard := none }) (v := .string s1) rfl (by kernel_rfl) (by kernel_rfl) (by kernel_rfl) (by kernel_rfl) (fun _ _ _ h => h) (Or.inl ⟨by rfl, ?_⟩) hS ?_
        · intro wy hy
          have h0 := (hy.2).cell (o := u2) (v := .string s1) hds1
          clear hy
          go_simp
        simp only [Act.put, List.setIfInBounds_toArray, List.set_cons_zero, List.set_cons_succ]
        refine wpAnyU_only (i := 12) (oi := { dst := some 53, op := _, type := _, pos := _, after := _, guard := none }) (v := .pointer (some ⟨z8, k * 4, none⟩)) rfl (by kernel_rfl) (Or.inl ⟨by rfl, ?_⟩) hS ?_
        · intro wy hy
          clear hy
          first | (go_simp; done) | (go_simp; omega) | (go_simp; intro hh; omega)
        simp only [Act.put, List.setIfInBounds_toArray, List.set_cons_zero, List.set_cons_succ]
        refine wpAnyU_take (i := 13) (oi := { dst := some 54, op := _, type := _, pos := _, after := _, guard := none }) (v := .pointer (some ⟨z8, k * 4 + 1, none⟩)) rfl (by kernel_rfl) (by kernel_rfl) (by kernel_rfl) (by kernel_rfl) (fun _ _ _ h => h) (Or.inl ⟨by rfl, ?_⟩) hS ?_
        · intro wy hy
          clear hy
          first | (go_simp; done) | (go_simp; omega) | (go_simp; intro hh; omega)
        simp only [Act.put, List.setIfInBounds_toArray, List.set_cons_zero, List.set_cons_succ]
        have hst := HI.out.store HSH.out HX.out (f := 1) (n' := { x with name := s1 }) (x := .string s1) (by omega) (fun i hi => by rcases (by omega : i = 0 ∨ i = 1 ∨ i = 2 ∨ i = 3) with rfl | rfl | rfl | rfl <;> rfl) (hzs1) (HXS.out.2) (Nat.le_succ _)
        obtain ⟨cur, b1, b2, b3, b4, b5, b6⟩ := own_open HI.out.O
        have kb : wn.cell? ⟨z8, k * 4 + 1, none⟩ = some (.string x.name) := b1.cell (b6 _ _ (by rw [ndCells_get, show (k * 4 + 1) / 4 = k by omega, show (k * 4 + 1) % 4 = 1 by omega, HX.out]; rfl))
        have fb : wn.frozen? ⟨z8, k * 4 + 1, none⟩ = false := b1.frozen _
        have HST : Hid (Spd p z4 (n + 6) z4 z5 (ns.length + 1) w (wn.setCell ⟨z8, k * 4 + 1, none⟩ (.string s1))) := hst.more (by omega)
        clear hst b1 b2 b3 b4 b5 b6
        refine wpAnyU_ready (rs := [14]) (by kernel_rfl) (by simp) (AllReadyU.last (o := { dst := none, op := _, type := _, pos := _, after := _, guard := none }) rfl (fun KK hKK => ?_))
        go_simp
        refine hKK.out _ _ ?_
        clear hKK KK
        refine wpAnyU_done (by kernel_rfl) ?_ _
        go_wp2_with fail
        go_meet
        exact HST
    · skip
      go_upto_region 12 with fail
      refine wp_region_until (S := fun wy => wy.cell? ⟨z5, 0, none⟩ = some (.slice (some ⟨z8, 0, none⟩) ns.length q8)) 10 (by kernel_rfl) (HI.out.drew.K5.cell rfl) (fun hS => ?_)
      replace HI := Hid.intro HI.out.drew
      generalize w7.drew = wn at *
      refine wpAnyU_take (i := 0) (oi := { dst := some 57, op := _, type := _, pos := _, after := _, guard := none }) (v := .pointer (some ⟨z5, 0, none⟩)) rfl (by kernel_rfl) (by kernel_rfl) (by kernel_rfl) (by kernel_rfl) (fun _ _ _ h => h) (Or.inl ⟨by rfl, ?_⟩) hS ?_
      · intro wy hy
        clear hy
        go_simp
      simp only [Act.put, List.setIfInBounds_toArray, List.set_cons_zero, List.set_cons_succ]
      refine wpAnyU_take (i := 1) (oi := { dst := some 58, op := _, type := _, pos := _, after := _, guard := none }) (v := .slice (some ⟨z8, 0, none⟩) ns.length q8) rfl (by kernel_rfl) (by kernel_rfl) (by kernel_rfl) (by kernel_rfl) (fun _ _ _ h => h) (Or.inl ⟨by rfl, ?_⟩) hS ?_
      · intro wy hy
        have h0 := id hy
        clear hy
        go_simp
      simp only [Act.put, List.setIfInBounds_toArray, List.set_cons_zero, List.set_cons_succ]
      refine wpAnyU_take (i := 2) (oi := { dst := some 59, op := _, type := _, pos := _, after := _, guard := none }) (v := .int .i64 (k : Int)) rfl (by kernel_rfl) (by kernel_rfl) (by kernel_rfl) (by kernel_rfl) (fun _ _ _ h => h) (Or.inl ⟨by rfl, ?_⟩) hS ?_
      · intro wy hy
        clear hy
        go_simp
      simp only [Act.put, List.setIfInBounds_toArray, List.set_cons_zero, List.set_cons_succ]
      refine wpAnyU_take (i := 4) (oi := { dst := some 61, op := _, type := _, pos := _, after := _, guard := none }) (v := .pointer (some ⟨p, 0, none⟩)) rfl (by kernel_rfl) (by kernel_rfl) (by kernel_rfl) (by kernel_rfl) (fun _ _ _ h => h) (Or.inl ⟨by rfl, ?_⟩) hS ?_
      · intro wy hy
        clear hy
        go_simp
      simp only [Act.put, List.setIfInBounds_toArray, List.set_cons_zero, List.set_cons_succ]
      refine wpAnyU_ready (rs := [3, 5]) (by kernel_rfl) (by simp) (AllReadyU.cons (o := { dst := some 60, op := _, type := _, pos := _, after := _, guard := none }) rfl (fun KK hKK => ?_) (AllReadyU.cons (o := { dst := some 62, op := _, type := _, pos := _, after := _, guard := none }) rfl (fun KK hKK => ?_) AllReadyU.nil))
      · skip
        go_simp
        have HA : Hid (Blk wn.heap.size #[.string ⟨#[]⟩, .string ⟨#[118]⟩, .string ⟨#[120, 32, 121]⟩] 9 (wn.alloc (Obj.cells #[.string ⟨#[]⟩, .string ⟨#[118]⟩, .string ⟨#[120, 32, 121]⟩] 9))) := Blk.alloc _ _ _
        have hbw : Below wn.heap.size wn (wn.alloc (Obj.cells #[.string ⟨#[]⟩, .string ⟨#[118]⟩, .string ⟨#[120, 32, 121]⟩] 9)) := (Below.refl _ _).alloc (Nat.le_refl _) _
        have hgA : w.heap.size ≤ wn.heap.size := HI.out.sz
        replace HI := Hid.intro (HI.out.below hbw)
        clear hbw
        refine hKK.out _ _ (HI.out.K5.cell rfl) (fun hS => ?_)
        clear hKK KK hS
        generalize wn.heap.size = gA at *
        generalize wn.alloc (Obj.cells #[.string ⟨#[]⟩, .string ⟨#[118]⟩, .string ⟨#[120, 32, 121]⟩] 9) = wn at *
        refine wpAnyU_mono (S' := fun wy => wy.cell? ⟨z5, 0, none⟩ = some (.slice (some ⟨z8, 0, none⟩) ns.length q8) ∧ Blk gA #[.string ⟨#[]⟩, .string ⟨#[118]⟩, .string ⟨#[120, 32, 121]⟩] 9 wy) (fun _ h => h.1) _ _ _ _ ?_
        have hS : (fun wy => wy.cell? ⟨z5, 0, none⟩ = some (.slice (some ⟨z8, 0, none⟩) ns.length q8) ∧ Blk gA #[.string ⟨#[]⟩, .string ⟨#[118]⟩, .string ⟨#[120, 32, 121]⟩] 9 wy) wn := ⟨(HI.out.K5.cell rfl), HA.out⟩
        refine wpAnyU_ready (rs := [5]) (by kernel_rfl) (by simp) (AllReadyU.cons (o := { dst := some 62, op := _, type := _, pos := _, after := _, guard := none }) rfl (fun KK hKK => ?_) AllReadyU.nil)
        go_simp
        refine (pickL p (n + 2) 3 _ HI.out.R (by omega) (by omega) (by omega)).mono ?_
        rintro e wn ⟨u2, rfl, hu2, hr, hb⟩
        replace HA := Hid.intro (HA.out.bt hb HA.out.lt (by omega))
        replace HI := Hid.intro (HI.out.bt hb hr)
        refine hKK.out _ _ ⟨(HI.out.K5.cell rfl), HA.out⟩ (fun hS => ?_)
        clear hKK KK hb hr
        obtain ⟨s1, hds1, hzs1⟩ := tabS [⟨#[]⟩, ⟨#[118]⟩, ⟨#[120, 32, 121]⟩] u2 (by simp; omega) (by decide)
        refine wpAnyU_take (i := 6) (oi := { dst := some 63, op := _, type := _, pos := _, after := _, guard := none }) (v := .pointer (some ⟨gA, u2, none⟩)) rfl (by kernel_rfl) (by kernel_rfl) (by kernel_rfl) (by kernel_rfl) (fun _ _ _ h => h) (Or.inl ⟨by rfl, ?_⟩) hS ?_
        · intro wy hy
          clear hy
          first | (go_simp; done) | (go_simp; omega) | (go_simp; intro hh; omega)
        simp only [Act.put, List.setIfInBounds_toArray, List.set_cons_zero, List.set_cons_succ]
        refine wpAnyU_take (i := 7) (oi := { dst := some 64, op := _, type := _, pos := _, after := _, guard := none }) (v := .string s1) rfl (by kernel_rfl) (by kernel_rfl) (by kernel_rfl) (by kernel_rfl) (fun _ _ _ h => h) (Or.inl ⟨by rfl, ?_⟩) hS ?_
        · intro wy hy
          have h0 := (hy.2).cell (o := u2) (v := .string s1) hds1
          clear hy
          go_simp
        simp only [Act.put, List.setIfInBounds_toArray, List.set_cons_zero, List.set_cons_succ]
        refine wpAnyU_only (i := 8) (oi := { dst := some 65, op := _, type := _, pos := _, after := _, guard := none }) (v := .pointer (some ⟨z8, k * 4, none⟩)) rfl (by kernel_rfl) (Or.inl ⟨by rfl, ?_⟩) hS ?_
        · intro wy hy
          clear hy
          first | (go_simp; done) | (go_simp; omega) | (go_simp; intro hh; omega)
        simp only [Act.put, List.setIfInBounds_toArray, List.set_cons_zero, List.set_cons_succ]
        refine wpAnyU_take (i := 9) (oi := { dst := some 66, op := _, type := _, pos := _, after := _, guard := none }) (v := .pointer (some ⟨z8, k * 4 + 2, none⟩)) rfl (by kernel_rfl) (by kernel_rfl) (by kernel_rfl) (by kernel_rfl) (fun _ _ _ h => h) (Or.inl ⟨by rfl, ?_⟩) hS ?_
        · intro wy hy
          clear hy
          first | (go_simp; done) | (go_simp; omega) | (go_simp; intro hh; omega)
        simp only [Act.put, List.setIfInBounds_toArray, List.set_cons_zero, List.set_cons_succ]
        have hst := HI.out.store HSH.out HX.out (f := 2) (n' := { x with value := s1 }) (x := .string s1) (by omega) (fun i hi => by rcases (by omega : i = 0 ∨ i = 1 ∨ i = 2 ∨ i = 3) with rfl | rfl | rfl | rfl <;> rfl) (HXS.out.1) (hzs1) (Nat.le_succ _)
        obtain ⟨cur, b1, b2, b3, b4, b5, b6⟩ := own_open HI.out.O
        have kb : wn.cell? ⟨z8, k * 4 + 2, none⟩ = some (.string x.value) := b1.cell (b6 _ _ (by rw [ndCells_get, show (k * 4 + 2) / 4 = k by omega, show (k * 4 + 2) % 4 = 2 by omega, HX.out]; rfl))
        have fb : wn.frozen? ⟨z8, k * 4 + 2, none⟩ = false := b1.frozen _
        have HST : Hid (Spd p z4 (n + 6) z4 z5 (ns.length + 1) w (wn.setCell ⟨z8, k * 4 + 2, none⟩ (.string s1))) := hst.more (by omega)
        clear hst b1 b2 b3 b4 b5 b6
        refine wpAnyU_ready (rs := [10]) (by kernel_rfl) (by simp) (AllReadyU.last (o := { dst := none, op := _, type := _, pos := _, after := _, guard := none }) rfl (fun KK hKK => ?_))
        go_simp
        refine hKK.out _ _ ?_
        clear hKK KK
        refine wpAnyU_done (by kernel_rfl) ?_ _
        go_wp2_with fail
        go_meet
        exact HST
      · skip
        go_simp
        refine (pickL p (n + 2) 3 _ HI.out.R (by omega) (by omega) (by omega)).mono ?_
        rintro e wn ⟨u2, rfl, hu2, hr, hb⟩
        replace HI := Hid.intro (HI.out.bt hb hr)
        refine hKK.out _ _ (HI.out.K5.cell rfl) (fun hS => ?_)
        clear hKK KK hb hr
        refine wpAnyU_ready (rs := [3]) (by kernel_rfl) (by simp) (AllReadyU.cons (o := { dst := some 60, op := _, type := _, pos := _, after := _, guard := none }) rfl (fun KK hKK => ?_) AllReadyU.nil)
        go_simp
        have HA : Hid (Blk wn.heap.size #[.string ⟨#[]⟩, .string ⟨#[118]⟩, .string ⟨#[120, 32, 121]⟩] 9 (wn.alloc (Obj.cells #[.string ⟨#[]⟩, .string ⟨#[118]⟩, .string ⟨#[120, 32, 121]⟩] 9))) := Blk.alloc _ _ _
        have hbw : Below wn.heap.size wn (wn.alloc (Obj.cells #[.string ⟨#[]⟩, .string ⟨#[118]⟩, .string ⟨#[120, 32, 121]⟩] 9)) := (Below.refl _ _).alloc (Nat.le_refl _) _
        have hgA : w.heap.size ≤ wn.heap.size := HI.out.sz
        replace HI := Hid.intro (HI.out.below hbw)
        clear hbw
        refine hKK.out _ _ (HI.out.K5.cell rfl) (fun hS => ?_)
        clear hKK KK hS
        generalize wn.heap.size = gA at *
        generalize wn.alloc (Obj.cells #[.string ⟨#[]⟩, .string ⟨#[118]⟩, .string ⟨#[120, 32, 121]⟩] 9) = wn at *
        refine wpAnyU_mono (S' := fun wy => wy.cell? ⟨z5, 0, none⟩ = some (.slice (some ⟨z8, 0, none⟩) ns.length q8) ∧ Blk gA #[.string ⟨#[]⟩, .string ⟨#[118]⟩, .string ⟨#[120, 32, 121]⟩] 9 wy) (fun _ h => h.1) _ _ _ _ ?_
        have hS : (fun wy => wy.cell? ⟨z5, 0, none⟩ = some (.slice (some ⟨z8, 0, none⟩) ns.length q8) ∧ Blk gA #[.string ⟨#[]⟩, .string ⟨#[118]⟩, .string ⟨#[120, 32, 121]⟩] 9 wy) wn := ⟨(HI.out.K5.cell rfl), HA.out⟩
        obtain ⟨s1, hds1, hzs1⟩ := tabS [⟨#[]⟩, ⟨#[118]⟩, ⟨#[120, 32, 121]⟩] u2 (by simp; omega) (by decide)
        refine wpAnyU_take (i := 6) (oi := { dst := some 63, op := _, type := _, pos := _, after := _, guard := none }) (v := .pointer (some ⟨gA, u2, none⟩)) rfl (by kernel_rfl) (by kernel_rfl) (by kernel_rfl) (by kernel_rfl) (fun _ _ _ h => h) (Or.inl ⟨by rfl, ?_⟩) hS ?_
        · intro wy hy
          clear hy
          first | (go_simp; done) | (go_simp; omega) | (go_simp; intro hh; omega)
        simp only [Act.put, List.setIfInBounds_toArray, List.set_cons_zero, List.set_cons_succ]
        refine wpAnyU_take (i := 7) (oi := { dst := some 64, op := _, type := _, pos := _, after := _, guard := none }) (v := .string s1) rfl (by kernel_rfl) (by kernel_rfl) (by kernel_rfl) (by kernel_rfl) (fun _ _ _ h => h) (Or.inl ⟨by rfl, ?_⟩) hS ?_
        · intro wy hy
          have h0 := (hy.2).cell (o := u2) (v := .string s1) hds1
          clear hy
          go_simp
        simp only [Act.put, List.setIfInBounds_toArray, List.set_cons_zero, List.set_cons_succ]
        refine wpAnyU_only (i := 8) (oi := { dst := some 65, op := _, type := _, pos := _, after := _, guard := none }) (v := .pointer (some ⟨z8, k * 4, none⟩)) rfl (by kernel_rfl) (Or.inl ⟨by rfl, ?_⟩) hS ?_
        · intro wy hy
          clear hy
          first | (go_simp; done) | (go_simp; omega) | (go_simp; intro hh; omega)
        simp only [Act.put, List.setIfInBounds_toArray, List.set_cons_zero, List.set_cons_succ]
        refine wpAnyU_take (i := 9) (oi := { dst := some 66, op := _, type := _, pos := _, after := _, guard := none }) (v := .pointer (some ⟨z8, k * 4 + 2, none⟩)) rfl (by kernel_rfl) (by kernel_rfl) (by kernel_rfl) (by kernel_rfl) (fun _ _ _ h => h) (Or.inl ⟨by rfl, ?_⟩) hS ?_
        · intro wy hy
          clear hy
          first | (go_simp; done) | (go_simp; omega) | (go_simp; intro hh; omega)
        simp only [Act.put, List.setIfInBounds_toArray, List.set_cons_zero, List.set_cons_succ]
        have hst := HI.out.store HSH.out HX.out (f := 2) (n' := { x with value := s1 }) (x := .string s1) (by omega) (fun i hi => by rcases (by omega : i = 0 ∨ i = 1 ∨ i = 2 ∨ i = 3) with rfl | rfl | rfl | rfl <;> rfl) (HXS.out.1) (hzs1) (Nat.le_succ _)
        obtain ⟨cur, b1, b2, b3, b4, b5, b6⟩ := own_open HI.out.O
        have kb : wn.cell? ⟨z8, k * 4 + 2, none⟩ = some (.string x.value) := b1.cell (b6 _ _ (by rw [ndCells_get, show (k * 4 + 2) / 4 = k by omega, show (k * 4 + 2) % 4 = 2 by omega, HX.out]; rfl))
        have fb : wn.frozen? ⟨z8, k * 4 + 2, none⟩ = false := b1.frozen _
        have HST : Hid (Spd p z4 (n + 6) z4 z5 (ns.length + 1) w (wn.setCell ⟨z8, k * 4 + 2, none⟩ (.string s1))) := hst.more (by omega)
        clear hst b1 b2 b3 b4 b5 b6
        refine wpAnyU_ready (rs := [10]) (by kernel_rfl) (by simp) (AllReadyU.last (o := { dst := none, op := _, type := _, pos := _, after := _, guard := none }) rfl (fun KK hKK => ?_))
        go_simp
        refine hKK.out _ _ ?_
        clear hKK KK
        refine wpAnyU_done (by kernel_rfl) ?_ _
        go_wp2_with fail
        go_meet
        exact HST
    · skip
      go_upto_region 14 with fail
      replace HI := Hid.intro HI.out.drew
      refine wp_region_until (S := fun wy => wy.cell? ⟨z5, 0, none⟩ = some (.slice (some ⟨z8, 0, none⟩) ns.length q8) ∧ wy.cell? ⟨z8, k * 4 + 3, none⟩ = some (.int .i64 x.kids)) 15 (by kernel_rfl) ⟨HI.out.K5.cell rfl, HI.out.kids HX.out⟩ (fun hS => ?_)
      generalize w7.drew = wn at *
      refine wpAnyU_take (i := 0) (oi := { dst := some 69, op := _, type := _, pos := _, after := _, guard := none }) (v := .pointer (some ⟨z5, 0, none⟩)) rfl (by kernel_rfl) (by kernel_rfl) (by kernel_rfl) (by kernel_rfl) (fun _ _ _ h => h) (Or.inl ⟨by rfl, ?_⟩) hS ?_
      · intro wy hy
        clear hy
        go_simp
      simp only [Act.put, List.setIfInBounds_toArray, List.set_cons_zero, List.set_cons_succ]
      refine wpAnyU_take (i := 1) (oi := { dst := some 70, op := _, type := _, pos := _, after := _, guard := none }) (v := .slice (some ⟨z8, 0, none⟩) ns.length q8) rfl (by kernel_rfl) (by kernel_rfl) (by kernel_rfl) (by kernel_rfl) (fun _ _ _ h => h) (Or.inl ⟨by rfl, ?_⟩) hS ?_
      · intro wy hy
        have h0 := hy.1
        clear hy
        go_simp
      simp only [Act.put, List.setIfInBounds_toArray, List.set_cons_zero, List.set_cons_succ]
      refine wpAnyU_take (i := 2) (oi := { dst := some 71, op := _, type := _, pos := _, after := _, guard := none }) (v := .int .i64 (k : Int)) rfl (by kernel_rfl) (by kernel_rfl) (by kernel_rfl) (by kernel_rfl) (fun _ _ _ h => h) (Or.inl ⟨by rfl, ?_⟩) hS ?_
      · intro wy hy
        clear hy
        go_simp
      simp only [Act.put, List.setIfInBounds_toArray, List.set_cons_zero, List.set_cons_succ]
      refine wpAnyU_take (i := 3) (oi := { dst := some 72, op := _, type := _, pos := _, after := _, guard := none }) (v := .pointer (some ⟨z5, 0, none⟩)) rfl (by kernel_rfl) (by kernel_rfl) (by kernel_rfl) (by kernel_rfl) (fun _ _ _ h => h) (Or.inl ⟨by rfl, ?_⟩) hS ?_
      · intro wy hy
        clear hy
        go_simp
      simp only [Act.put, List.setIfInBounds_toArray, List.set_cons_zero, List.set_cons_succ]
      refine wpAnyU_take (i := 4) (oi := { dst := some 73, op := _, type := _, pos := _, after := _, guard := none }) (v := .slice (some ⟨z8, 0, none⟩) ns.length q8) rfl (by kernel_rfl) (by kernel_rfl) (by kernel_rfl) (by kernel_rfl) (fun _ _ _ h => h) (Or.inl ⟨by rfl, ?_⟩) hS ?_
      · intro wy hy
        have h0 := hy.1
        clear hy
        go_simp
      simp only [Act.put, List.setIfInBounds_toArray, List.set_cons_zero, List.set_cons_succ]
      refine wpAnyU_take (i := 5) (oi := { dst := some 74, op := _, type := _, pos := _, after := _, guard := none }) (v := .int .i64 (k : Int)) rfl (by kernel_rfl) (by kernel_rfl) (by kernel_rfl) (by kernel_rfl) (fun _ _ _ h => h) (Or.inl ⟨by rfl, ?_⟩) hS ?_
      · intro wy hy
        clear hy
        go_simp
      simp only [Act.put, List.setIfInBounds_toArray, List.set_cons_zero, List.set_cons_succ]
      refine wpAnyU_take (i := 6) (oi := { dst := some 75, op := _, type := _, pos := _, after := _, guard := none }) (v := .pointer (some ⟨z8, k * 4, none⟩)) rfl (by kernel_rfl) (by kernel_rfl) (by kernel_rfl) (by kernel_rfl) (fun _ _ _ h => h) (Or.inl ⟨by rfl, ?_⟩) hS ?_
      · intro wy hy
        clear hy
        first | (go_simp; done) | (go_simp; omega) | (go_simp; intro hh; omega)
      simp only [Act.put, List.setIfInBounds_toArray, List.set_cons_zero, List.set_cons_succ]
      refine wpAnyU_take (i := 7) (oi := { dst := some 76, op := _, type := _, pos := _, after := _, guard := none }) (v := .pointer (some ⟨z8, k * 4 + 3, none⟩)) rfl (by kernel_rfl) (by kernel_rfl) (by kernel_rfl) (by kernel_rfl) (fun _ _ _ h => h) (Or.inl ⟨by rfl, ?_⟩) hS ?_
      · intro wy hy
        clear hy
        first | (go_simp; done) | (go_simp; omega) | (go_simp; intro hh; omega)
      simp only [Act.put, List.setIfInBounds_toArray, List.set_cons_zero, List.set_cons_succ]
      refine wpAnyU_take (i := 8) (oi := { dst := some 77, op := _, type := _, pos := _, after := _, guard := none }) (v := .int .i64 x.kids) rfl (by kernel_rfl) (by kernel_rfl) (by kernel_rfl) (by kernel_rfl) (fun _ _ _ h => h) (Or.inl ⟨by rfl, ?_⟩) hS ?_
      · intro wy hy
        have h0 := hy.2
        clear hy
        go_simp
      simp only [Act.put, List.setIfInBounds_toArray, List.set_cons_zero, List.set_cons_succ]
      refine wpAnyU_take (i := 9) (oi := { dst := some 78, op := _, type := _, pos := _, after := _, guard := none }) (v := .pointer (some ⟨p, 0, none⟩)) rfl (by kernel_rfl) (by kernel_rfl) (by kernel_rfl) (by kernel_rfl) (fun _ _ _ h => h) (Or.inl ⟨by rfl, ?_⟩) hS ?_
      · intro wy hy
        clear hy
        go_simp
      simp only [Act.put, List.setIfInBounds_toArray, List.set_cons_zero, List.set_cons_succ]
      refine wpAnyU_ready (rs := [10]) (by kernel_rfl) (by simp) (AllReadyU.cons (o := { dst := some 79, op := _, type := _, pos := _, after := _, guard := none }) rfl (fun KK hKK => ?_) AllReadyU.nil)
      go_simp
      refine (pickL p (n + 2) 3 _ HI.out.R (by omega) (by omega) (by omega)).mono ?_
      rintro e wn ⟨u, rfl, hu, hr, hb⟩
      replace HI := Hid.intro (HI.out.bt hb hr)
      refine hKK.out _ _ ⟨HI.out.K5.cell rfl, HI.out.kids HX.out⟩ (fun hS => ?_)
      clear hKK KK hb hr
      refine wpAnyU_take (i := 11) (oi := { dst := some 80, op := _, type := _, pos := _, after := _, guard := none }) (v := .int .i64 (IntKind.i64.wrap (x.kids + (u : Int)))) rfl (by kernel_rfl) (by kernel_rfl) (by kernel_rfl) (by kernel_rfl) (fun _ _ _ h => h) (Or.inl ⟨by rfl, ?_⟩) hS ?_
      · intro wy hy
        clear hy
        go_simp
      simp only [Act.put, List.setIfInBounds_toArray, List.set_cons_zero, List.set_cons_succ]
      refine wpAnyU_take (i := 12) (oi := { dst := some 81, op := _, type := _, pos := _, after := _, guard := none }) (v := .int .i64 (IntKind.i64.wrap (IntKind.i64.wrap (x.kids + (u : Int)) - 1))) rfl (by kernel_rfl) (by kernel_rfl) (by kernel_rfl) (by kernel_rfl) (fun _ _ _ h => h) (Or.inl ⟨by rfl, ?_⟩) hS ?_
      · intro wy hy
        clear hy
        go_simp
      simp only [Act.put, List.setIfInBounds_toArray, List.set_cons_zero, List.set_cons_succ]
      refine wpAnyU_only (i := 13) (oi := { dst := some 82, op := _, type := _, pos := _, after := _, guard := none }) (v := .pointer (some ⟨z8, k * 4, none⟩)) rfl (by kernel_rfl) (Or.inl ⟨by rfl, ?_⟩) hS ?_
      · intro wy hy
        clear hy
        first | (go_simp; done) | (go_simp; omega) | (go_simp; intro hh; omega)
      simp only [Act.put, List.setIfInBounds_toArray, List.set_cons_zero, List.set_cons_succ]
      refine wpAnyU_take (i := 14) (oi := { dst := some 83, op := _, type := _, pos := _, after := _, guard := none }) (v := .pointer (some ⟨z8, k * 4 + 3, none⟩)) rfl (by kernel_rfl) (by kernel_rfl) (by kernel_rfl) (by kernel_rfl) (fun _ _ _ h => h) (Or.inl ⟨by rfl, ?_⟩) hS ?_
      · intro wy hy
        clear hy
        first | (go_simp; done) | (go_simp; omega) | (go_simp; intro hh; omega)
      simp only [Act.put, List.setIfInBounds_toArray, List.set_cons_zero, List.set_cons_succ]
      have hst := HI.out.store HSH.out HX.out (f := 3) (n' := { x with kids := IntKind.i64.wrap (IntKind.i64.wrap (x.kids + (u : Int)) - 1) }) (x := .int .i64 (IntKind.i64.wrap (IntKind.i64.wrap (x.kids + (u : Int)) - 1))) (by omega) (fun i hi => by rcases (by omega : i = 0 ∨ i = 1 ∨ i = 2 ∨ i = 3) with rfl | rfl | rfl | rfl <;> rfl) (HXS.out.1) (HXS.out.2) (Nat.le_succ _)
      obtain ⟨cur, b1, b2, b3, b4, b5, b6⟩ := own_open HI.out.O
      have kb : wn.cell? ⟨z8, k * 4 + 3, none⟩ = some (.int .i64 x.kids) := b1.cell (b6 _ _ (by rw [ndCells_get, show (k * 4 + 3) / 4 = k by omega, show (k * 4 + 3) % 4 = 3 by omega, HX.out]; rfl))
      have fb : wn.frozen? ⟨z8, k * 4 + 3, none⟩ = false := b1.frozen _
      have HST : Hid (Spd p z4 (n + 6) z4 z5 (ns.length + 1) w (wn.setCell ⟨z8, k * 4 + 3, none⟩ (.int .i64 (IntKind.i64.wrap (IntKind.i64.wrap (x.kids + (u : Int)) - 1))))) := hst.more (by omega)
      clear hst b1 b2 b3 b4 b5 b6
      refine wpAnyU_ready (rs := [15]) (by kernel_rfl) (by simp) (AllReadyU.last (o := { dst := none, op := _, type := _, pos := _, after := _, guard := none }) rfl (fun KK hKK => ?_))
      go_simp
      refine hKK.out _ _ ?_
      clear hKK KK
      refine wpAnyU_done (by kernel_rfl) ?_ _
      go_wp2_with fail
      go_meet
      exact HST
    · skip
      have hba : Below w7.heap.size w7 (w7.alloc (Obj.cells #[.int .i64 0, .string ⟨#[]⟩, .string ⟨#[]⟩, .int .i64 0] 36)) := (Below.refl _ _).alloc (Nat.le_refl _) _
      have c5 : (w7.alloc (Obj.cells #[.int .i64 0, .string ⟨#[]⟩, .string ⟨#[]⟩, .int .i64 0] 36)).cell? ⟨z5, 0, none⟩ = some (.slice (some ⟨z8, 0, none⟩) ns.length q8) := (HI.out.K5.below hba HI.out.K5.lt).cell rfl
      have c6 : w7.cell? ⟨z5, 0, none⟩ = some (.slice (some ⟨z8, 0, none⟩) ns.length q8) := HI.out.K5.cell rfl
      have HO := Hid.intro (own_at HI.out.O (hba.block z8 HI.out.z8.2))
      have hz4 := HI.out.h4
      have hzz := HI.out.h0
      have hz5 : z5 < w7.heap.size := HI.out.K5.lt
      have hz8 := HI.out.z8
      have hz44 : z4 < w7.heap.size := HI.out.K4.lt
      have hsz7 : z4 ≤ (w7.alloc (Obj.cells #[.int .i64 0, .string ⟨#[]⟩, .string ⟨#[]⟩, .int .i64 0] 36)).heap.size := by have := hba.size; omega
      go_wp2_with (at_builtin; refine wpList_append_own_at _ rfl (.tmp 87) (.tmp 89) 23 rfl z4 36 i0 _ 4 48 Tryz.underlying23 hi0 hz0 hz1 hz2 rfl (by decide) _ ns.length _ rfl HO.out ⟨w7.heap.size, 0, none⟩ 1 1 (ndv ⟨0, ⟨#[]⟩, ⟨#[]⟩, 0⟩) rfl rfl (news_nd _ _ _) (ndv_one _) (by unfold maxLen; omega) (by omega) hsz7 ?_; intro v' w8 hown8 hgrow8 hnil8 hob8; have hv8 : v' ≠ .slice none 0 0 := (fun e => by have h9 := (hnil8.1 e).1; cases h9); obtain ⟨z9, q9, rfl⟩ := own_slice hown8 hv8; have HK58 : Hid (Blk z5 #[.slice (some ⟨z8, 0, none⟩) ns.length q8] 25 w8) := (HI.out.K5.below hba hz5).grown hgrow8 (fun e => by injection e with e; exact hz4.2.2.2.2 e); have c8 := HK58.out.cell (o := 0) rfl; have f8 := HK58.out.frozen 0)
      have hown9 : w8.ownsRow z4 36 4 (.slice (some ⟨z9, 0, none⟩) (ns.length + 1) q9) (ns.length + 1) (ndCells (ns ++ [⟨0, ⟨#[]⟩, ⟨#[]⟩, 0⟩])) := by rw [ndCells_append]; exact hown8
      obtain ⟨cur, b1, b2, b3, b4, b5, b6⟩ := own_open hown9
      have h98 : z9 ≠ z4 ∧ z9 ≠ z5 := by
        rcases hob8 with e | e
        · have e1 : some z9 = some z8 := e
          injection e1 with e1
          exact ⟨fun h => hz4.2.2.2.1 (by omega), fun h => hz4.2.2.2.2 (by omega)⟩
        · have e1 : some z9 = some (w7.alloc (Obj.cells #[.int .i64 0, .string ⟨#[]⟩, .string ⟨#[]⟩, .int .i64 0] 36)).heap.size := e
          injection e1 with e1
          have := hba.size
          exact ⟨by omega, by omega⟩
      have hbz : Below z4 w7 w8 := (hba.mono (by omega)).grown hgrow8 hsz7 (fun i hi => by cases hi; exact hz8.1)
      have hbs : Below z4 w7 (w8.setCell ⟨z5, 0, none⟩ (.slice (some ⟨z9, 0, none⟩) (ns.length + 1) q9)) := hbz.trans ((Below.refl _ _).setCell (show z4 ≤ (⟨z5, 0, none⟩ : Addr).block from hz4.2.1) _)
      have HK48 : Hid (Blk z4 #[.slice none 0 0] 25 w8) := (HI.out.K4.below hba hz44).grown hgrow8 (fun e => by injection e with e; exact hz4.2.2.2.1 e)
      have hla : (ns ++ [(⟨0, ⟨#[]⟩, ⟨#[]⟩, 0⟩ : P.Nd)]).length = ns.length + 1 := by simp
      have HST : Hid (Spd p z4 (n + 6) z4 z5 (ns.length + 1) w (w8.setCell ⟨z5, 0, none⟩ (.slice (some ⟨z9, 0, none⟩) (ns.length + 1) q9))) := by
        refine ⟨ns ++ [⟨0, ⟨#[]⟩, ⟨#[]⟩, 0⟩], z9, q9, ?_, HK48.out.other (fun e => hz4.2.2.1 e) _, ?_, h98.1, by omega, HSH.out.app (sh_over 0 0), (HI.out.R.below hbs (by omega)).mono (by omega), HI.out.T.trans ((Bt.of_below hbs).mono hzz.2)⟩
        · rw [hla]; exact HK58.out.set 0 _
        · exact blk_row (b1.other (fun e => h98.2 e) _) b2 b6
      go_meet
      exact HST
    · skip
      obtain ⟨cur, b1, b2, b3, b4, b5, b6⟩ := own_open HI.out.O
      have c5 : w7.cell? ⟨z5, 0, none⟩ = some (.slice (some ⟨z8, 0, none⟩) ns.length q8) := HI.out.K5.cell rfl
      have f5 := HI.out.K5.frozen 0
      have i0 : (0 : Int) ≤ (k : Int) := by omega
      have i1 : (k : Int) ≤ (q8 : Int) := by omega
      have hz4 := HI.out.h4
      have hzz := HI.out.h0
      have hbs : Below z4 w7 (w7.setCell ⟨z5, 0, none⟩ (.slice (some ⟨z8, 0, none⟩) k q8)) := (Below.refl _ _).setCell (show z4 ≤ (⟨z5, 0, none⟩ : Addr).block from hz4.2.1) _
      have hlt : (ns.take k).length = k := by rw [List.length_take]; omega
      have HST : Hid (Spd p z4 (n + 6) z4 z5 (ns.length + 1) w (w7.setCell ⟨z5, 0, none⟩ (.slice (some ⟨z8, 0, none⟩) k q8))) := by
        refine ⟨ns.take k, z8, q8, ?_, HI.out.K4.other (fun e => hz4.2.2.1 e) _, ?_, fun e => hz4.2.2.2.1 e.symm, by omega, HSH.out.take k, (HI.out.R.below hbs (by omega)).mono (by omega), HI.out.T.trans ((Bt.of_below hbs).mono hzz.2)⟩
        · rw [hlt]; exact HI.out.K5.set 0 _
        · exact blk_row (b1.other (fun e => hz4.2.2.2.2 e.symm) _) b2 (fun j u hj => b6 j u (ndCells_take ns k j u hj))
      clear b1 b2 b3 b4 b5 b6 hbs hlt
      go_wp2_with fail
      go_meet
      exact HST
  case rest =>
    clear HI
    obtain ⟨g9, n9, c9, d1, d2, d3, d4, d5⟩ := hcut.out.fin ⟨hpl, hz4w⟩ (Nat.le_refl _)
    have HD5 := Hid.intro d5
    clear d5 hcut
    go_wp2_with fail
    exact bodyPost_ret (v := .agg #[.slice (some ⟨g9, 0, none⟩) n9 c9]) (by simp [results, Tryz.results31, go_sem, d4]) rfl ⟨_, rfl, HD5.out⟩

end Go.Proofs.YthjicahpfhjfdaaGreatDoor
