import Derived.Test.YtnifmiacobfplaaDqa
namespace Go.Proofs.Ytnifmiacobfplaa
open Go.RowKit

theorem rvA_app : ∀ (xs ys : List Aks), rvAks (xs ++ ys) = rvAks xs ++ rvAks ys
 | [], _ => rfl
 | x :: r, ys => by simp only [List.cons_append, rvAks, rvA_app r ys, List.append_assoc]

structure Inv (p zb pm : Nat) (w : World) (x : Mte) (b5 : Option Addr) (q5 : Nat) (b6 : Option Addr) (q6 : Nat) (b7 : Option Addr) (q7 : Nat) (b8 : Option Addr) (q8 : Nat) (K : Nat) (wc : World) : Prop where
 R : RdS p K wc
 S : MkS p (zb + 1) pm x b5 q5 b6 q6 b7 q7 b8 q8 wc
 Z : Blk zb #[.string ⟨#[]⟩, .bool false, .int .i64 0, .bool false, .int .i64 0, .slice none 0 0, .slice none 0 0, .slice none 0 0, .slice none 0 0] 27 wc
 T : Bt p w.heap.size w wc
 hw : w.heap.size ≤ zb
 hp : p < w.heap.size

structure Oth (p zb pm : Nat) (w : World) (b5 b6 b7 b8 : Option Addr) (g : Nat) : Prop where
 n5 : blkO b5 ≠ some g
 n6 : blkO b6 ≠ some g
 n7 : blkO b7 ≠ some g
 n8 : blkO b8 ≠ some g
 np : pm ≠ g
 nz : zb < g
 nw : w.heap.size ≤ g

section
variable {p zb pm : Nat} {w : World} {x : Mte} {b5 : Option Addr} {q5 : Nat} {b6 : Option Addr} {q6 : Nat} {b7 : Option Addr} {q7 : Nat} {b8 : Option Addr} {q8 : Nat} {K : Nat} {wc w' : World}

theorem Inv.zp (h : Inv p zb pm w x b5 q5 b6 q6 b7 q7 b8 q8 K wc) : zb < pm := h.S.hm
theorem Inv.pl (h : Inv p zb pm w x b5 q5 b6 q6 b7 q7 b8 q8 K wc) : pm < wc.heap.size := h.S.lt
theorem Inv.drew (h : Inv p zb pm w x b5 q5 b6 q6 b7 q7 b8 q8 K wc) : Inv p zb pm w x b5 q5 b6 q6 b7 q7 b8 q8 K wc.drew := ⟨h.R.drew, h.S.drew, h.Z.drew, h.T.drew, h.hw, h.hp⟩
theorem Inv.below (h : Inv p zb pm w x b5 q5 b6 q6 b7 q7 b8 q8 K wc) (hb : Below wc.heap.size wc w') : Inv p zb pm w x b5 q5 b6 q6 b7 q7 b8 q8 K w' := ⟨h.R.below hb h.R.lt, h.S.below hb, h.Z.below hb h.Z.lt, h.T.trans (Bt.of_below (hb.mono h.T.size)), h.hw, h.hp⟩
theorem Inv.bt (h : Inv p zb pm w x b5 q5 b6 q6 b7 q7 b8 q8 K wc) {K' : Nat} (hb : Bt p wc.heap.size wc w') (hr : RdS p K' w') : Inv p zb pm w x b5 q5 b6 q6 b7 q7 b8 q8 K' w' := ⟨hr, h.S.bt hb, h.Z.bt hb h.Z.lt (by have := h.hw; have := h.hp; omega), h.T.trans (hb.mono h.T.size), h.hw, h.hp⟩
theorem Inv.alloc (h : Inv p zb pm w x b5 q5 b6 q6 b7 q7 b8 q8 K wc) (ob : Obj) : Inv p zb pm w x b5 q5 b6 q6 b7 q7 b8 q8 K (wc.alloc ob) := h.below ((Below.refl _ _).alloc (Nat.le_refl _) _)

theorem Inv.new (h : Inv p zb pm w x b5 q5 b6 q6 b7 q7 b8 q8 K wc) {g : Nat} (hg : wc.heap.size ≤ g) : Oth p zb pm w b5 b6 b7 b8 g := by
 obtain ⟨m5, m6, m7, m8⟩ := h.S.L.ne hg
 have := h.pl
 have := h.zp
 have := h.hw
 exact ⟨m5, m6, m7, m8, by omega, by omega, by omega⟩

theorem Inv.sets (h : Inv p zb pm w x b5 q5 b6 q6 b7 q7 b8 q8 K wc) {g : Nat} (ho : Oth p zb pm w b5 b6 b7 b8 g) (o : Nat) (vs : List Value) : Inv p zb pm w x b5 q5 b6 q6 b7 q7 b8 q8 K (wc.setCells g o vs) := by
 have hs : ∀ b, b ≠ g → (wc.setCells g o vs).heap[b]? = wc.heap[b]? := fun b hb => heap_setCells_neM hb vs o wc
 have hbs : Below g wc (wc.setCells g o vs) := below_setCells (Nat.le_refl _) _ _ _ (Below.refl _ _)
 have h1 := ho.nz
 have h2 := ho.nw
 have h3 := h.hp
 exact ⟨h.R.below hbs (by omega), h.S.oth (fun e => ho.np e.symm) ho.n5 ho.n6 ho.n7 ho.n8 (fun b _ hb => hs b hb), h.Z.below hbs h1, h.T.trans (Bt.of_below (hbs.mono h2)), h.hw, h.hp⟩
theorem Inv.set (h : Inv p zb pm w x b5 q5 b6 q6 b7 q7 b8 q8 K wc) {g : Nat} (ho : Oth p zb pm w b5 b6 b7 b8 g) (o : Nat) (v : Value) : Inv p zb pm w x b5 q5 b6 q6 b7 q7 b8 q8 K (wc.setCell ⟨g, o, none⟩ v) := h.sets ho o [v]

theorem Inv.put {y : Mte} (h : Inv p zb pm w x b5 q5 b6 q6 b7 q7 b8 q8 K wc) (o : Nat) (vs : List Value) (hb : Blk pm #[.string y.name, .bool y.up, .int .i64 y.clock, .bool y.known, .int .i64 y.seen, .slice b5 y.wants.length q5, .slice b6 y.runs.length q6, .slice b7 y.asks.length q7, .slice b8 y.gives.length q8] 27 (wc.setCells pm o vs)) (e5 : y.wants = x.wants) (e6 : y.runs = x.runs) (e7 : y.asks = x.asks) (e8 : y.gives = x.gives) (hn : y.name.size ≤ 100) : Inv p zb pm w y b5 q5 b6 q6 b7 q7 b8 q8 K (wc.setCells pm o vs) := by
 have hbs : Below pm wc (wc.setCells pm o vs) := below_setCells (Nat.le_refl _) _ _ _ (Below.refl _ _)
 have h1 := h.zp
 have h2 := h.hw
 have h3 := h.hp
 exact ⟨h.R.below hbs (by omega), h.S.put o vs hb e5 e6 e7 e8 hn, h.Z.below hbs h1, h.T.trans (Bt.of_below (hbs.mono (by omega))), h.hw, h.hp⟩

theorem Inv.wants (h : Inv p zb pm w x b5 q5 b6 q6 b7 q7 b8 q8 K wc) {ys : List Wnt} {c5 : Option Addr} {k5 : Nat} (ho : wc.ownsRow (zb + 1) 36 7 (.slice c5 ys.length k5) ys.length (rvWnt ys)) (m6 : Apt c5 b6) (m7 : Apt c5 b7) (m8 : Apt c5 b8) (hz : SzWnt ys 100) (hn : blkO c5 ≠ some pm) : Inv p zb pm w { x with wants := ys } c5 k5 b6 q6 b7 q7 b8 q8 K (wc.setCell ⟨pm, 5, none⟩ (.slice c5 ys.length k5)) := by
 have hbs : Below pm wc (wc.setCell ⟨pm, 5, none⟩ (.slice c5 ys.length k5)) := (Below.refl _ _).setCell (p := ⟨pm, 5, none⟩) (Nat.le_refl _) _
 have h1 := h.zp
 have h2 := h.hw
 have h3 := h.hp
 exact ⟨h.R.below hbs (by omega), h.S.wants ho m6 m7 m8 hz hn, h.Z.below hbs h1, h.T.trans (Bt.of_below (hbs.mono (by omega))), h.hw, h.hp⟩

theorem Inv.runs (h : Inv p zb pm w x b5 q5 b6 q6 b7 q7 b8 q8 K wc) {ys : List Rn} {c6 : Option Addr} {k6 : Nat} (ho : wc.ownsRow (zb + 1) 38 11 (.slice c6 ys.length k6) ys.length (rvRn ys)) (m5 : Apt c6 b5) (m7 : Apt c6 b7) (m8 : Apt c6 b8) (hz : SzRn ys 100) (hn : blkO c6 ≠ some pm) : Inv p zb pm w { x with runs := ys } b5 q5 c6 k6 b7 q7 b8 q8 K (wc.setCell ⟨pm, 6, none⟩ (.slice c6 ys.length k6)) := by
 have hbs : Below pm wc (wc.setCell ⟨pm, 6, none⟩ (.slice c6 ys.length k6)) := (Below.refl _ _).setCell (p := ⟨pm, 6, none⟩) (Nat.le_refl _) _
 have h1 := h.zp
 have h2 := h.hw
 have h3 := h.hp
 exact ⟨h.R.below hbs (by omega), h.S.runs ho m5 m7 m8 hz hn, h.Z.below hbs h1, h.T.trans (Bt.of_below (hbs.mono (by omega))), h.hw, h.hp⟩

theorem Inv.rest6 (h : Inv p zb pm w x b5 q5 b6 q6 b7 q7 b8 q8 K wc) (hg : wc.grownBy w' (blkO b6)) : RdS p K w' ∧ Blk zb #[.string ⟨#[]⟩, .bool false, .int .i64 0, .bool false, .int .i64 0, .slice none 0 0, .slice none 0 0, .slice none 0 0, .slice none 0 0] 27 w' ∧ Bt p w.heap.size w w' := by
 have hv : ∀ j, blkO b6 = some j → zb + 1 ≤ j := fun j e => own_block h.S.L.r6 j (by rw [own_blkO]; exact e)
 have h2 := h.hw
 have h3 := h.hp
 refine ⟨h.R.grown hg hv (by omega), h.Z.grown hg (fun e => ?_), h.T.trans (bt_grown hg (fun j e => by have := hv j e; omega) h.T.size)⟩
 have := hv zb e.symm
 omega

theorem Inv.grown6 (h : Inv p zb pm w x b5 q5 b6 q6 b7 q7 b8 q8 K wc) (hg : wc.grownBy w' (blkO b6)) {ys : List Rn} {c6 : Option Addr} {k6 : Nat} (ho : w'.ownsRow (zb + 1) 38 11 (.slice c6 ys.length k6) ys.length (rvRn ys)) (hc : (Value.slice c6 ys.length k6).ownBlock = blkO b6 ∨ (Value.slice c6 ys.length k6).ownBlock = some wc.heap.size) (hz : SzRn ys 100) : Inv p zb pm w { x with runs := ys } b5 q5 c6 k6 b7 q7 b8 q8 K (w'.setCell ⟨pm, 6, none⟩ (.slice c6 ys.length k6)) := by
 obtain ⟨r1, r2, r3⟩ := h.rest6 hg
 have hbs : Below pm w' (w'.setCell ⟨pm, 6, none⟩ (.slice c6 ys.length k6)) := (Below.refl _ _).setCell (p := ⟨pm, 6, none⟩) (Nat.le_refl _) _
 have h1 := h.zp
 have h2 := h.hw
 have h3 := h.hp
 exact ⟨r1.below hbs (by omega), h.S.grown6 hg ho hc hz, r2.below hbs h1, r3.trans (Bt.of_below (hbs.mono (by omega))), h.hw, h.hp⟩

theorem Inv.asks (h : Inv p zb pm w x b5 q5 b6 q6 b7 q7 b8 q8 K wc) {ys : List Aks} {c7 : Option Addr} {k7 : Nat} (ho : wc.ownsRow (zb + 1) 57 4 (.slice c7 ys.length k7) ys.length (rvAks ys)) (m5 : Apt c7 b5) (m6 : Apt c7 b6) (m8 : Apt c7 b8) (hz : SzAks ys 100) (hn : blkO c7 ≠ some pm) : Inv p zb pm w { x with asks := ys } b5 q5 b6 q6 c7 k7 b8 q8 K (wc.setCell ⟨pm, 7, none⟩ (.slice c7 ys.length k7)) := by
 have hbs : Below pm wc (wc.setCell ⟨pm, 7, none⟩ (.slice c7 ys.length k7)) := (Below.refl _ _).setCell (p := ⟨pm, 7, none⟩) (Nat.le_refl _) _
 have h1 := h.zp
 have h2 := h.hw
 have h3 := h.hp
 exact ⟨h.R.below hbs (by omega), h.S.asks ho m5 m6 m8 hz hn, h.Z.below hbs h1, h.T.trans (Bt.of_below (hbs.mono (by omega))), h.hw, h.hp⟩

theorem Inv.rest7 (h : Inv p zb pm w x b5 q5 b6 q6 b7 q7 b8 q8 K wc) (hg : wc.grownBy w' (blkO b7)) : RdS p K w' ∧ Blk zb #[.string ⟨#[]⟩, .bool false, .int .i64 0, .bool false, .int .i64 0, .slice none 0 0, .slice none 0 0, .slice none 0 0, .slice none 0 0] 27 w' ∧ Bt p w.heap.size w w' := by
 have hv : ∀ j, blkO b7 = some j → zb + 1 ≤ j := fun j e => own_block h.S.L.r7 j (by rw [own_blkO]; exact e)
 have h2 := h.hw
 have h3 := h.hp
 refine ⟨h.R.grown hg hv (by omega), h.Z.grown hg (fun e => ?_), h.T.trans (bt_grown hg (fun j e => by have := hv j e; omega) h.T.size)⟩
 have := hv zb e.symm
 omega

theorem Inv.grown7 (h : Inv p zb pm w x b5 q5 b6 q6 b7 q7 b8 q8 K wc) (hg : wc.grownBy w' (blkO b7)) {ys : List Aks} {c7 : Option Addr} {k7 : Nat} (ho : w'.ownsRow (zb + 1) 57 4 (.slice c7 ys.length k7) ys.length (rvAks ys)) (hc : (Value.slice c7 ys.length k7).ownBlock = blkO b7 ∨ (Value.slice c7 ys.length k7).ownBlock = some wc.heap.size) (hz : SzAks ys 100) : Inv p zb pm w { x with asks := ys } b5 q5 b6 q6 c7 k7 b8 q8 K (w'.setCell ⟨pm, 7, none⟩ (.slice c7 ys.length k7)) := by
 obtain ⟨r1, r2, r3⟩ := h.rest7 hg
 have hbs : Below pm w' (w'.setCell ⟨pm, 7, none⟩ (.slice c7 ys.length k7)) := (Below.refl _ _).setCell (p := ⟨pm, 7, none⟩) (Nat.le_refl _) _
 have h1 := h.zp
 have h2 := h.hw
 have h3 := h.hp
 exact ⟨r1.below hbs (by omega), h.S.grown7 hg ho hc hz, r2.below hbs h1, r3.trans (Bt.of_below (hbs.mono (by omega))), h.hw, h.hp⟩

theorem Inv.gives (h : Inv p zb pm w x b5 q5 b6 q6 b7 q7 b8 q8 K wc) {ys : List Aks} {c8 : Option Addr} {k8 : Nat} (ho : wc.ownsRow (zb + 1) 57 4 (.slice c8 ys.length k8) ys.length (rvAks ys)) (m5 : Apt c8 b5) (m6 : Apt c8 b6) (m7 : Apt c8 b7) (hz : SzAks ys 100) (hn : blkO c8 ≠ some pm) : Inv p zb pm w { x with gives := ys } b5 q5 b6 q6 b7 q7 c8 k8 K (wc.setCell ⟨pm, 8, none⟩ (.slice c8 ys.length k8)) := by
 have hbs : Below pm wc (wc.setCell ⟨pm, 8, none⟩ (.slice c8 ys.length k8)) := (Below.refl _ _).setCell (p := ⟨pm, 8, none⟩) (Nat.le_refl _) _
 have h1 := h.zp
 have h2 := h.hw
 have h3 := h.hp
 exact ⟨h.R.below hbs (by omega), h.S.gives ho m5 m6 m7 hz hn, h.Z.below hbs h1, h.T.trans (Bt.of_below (hbs.mono (by omega))), h.hw, h.hp⟩

theorem Inv.rest8 (h : Inv p zb pm w x b5 q5 b6 q6 b7 q7 b8 q8 K wc) (hg : wc.grownBy w' (blkO b8)) : RdS p K w' ∧ Blk zb #[.string ⟨#[]⟩, .bool false, .int .i64 0, .bool false, .int .i64 0, .slice none 0 0, .slice none 0 0, .slice none 0 0, .slice none 0 0] 27 w' ∧ Bt p w.heap.size w w' := by
 have hv : ∀ j, blkO b8 = some j → zb + 1 ≤ j := fun j e => own_block h.S.L.r8 j (by rw [own_blkO]; exact e)
 have h2 := h.hw
 have h3 := h.hp
 refine ⟨h.R.grown hg hv (by omega), h.Z.grown hg (fun e => ?_), h.T.trans (bt_grown hg (fun j e => by have := hv j e; omega) h.T.size)⟩
 have := hv zb e.symm
 omega

theorem Inv.grown8 (h : Inv p zb pm w x b5 q5 b6 q6 b7 q7 b8 q8 K wc) (hg : wc.grownBy w' (blkO b8)) {ys : List Aks} {c8 : Option Addr} {k8 : Nat} (ho : w'.ownsRow (zb + 1) 57 4 (.slice c8 ys.length k8) ys.length (rvAks ys)) (hc : (Value.slice c8 ys.length k8).ownBlock = blkO b8 ∨ (Value.slice c8 ys.length k8).ownBlock = some wc.heap.size) (hz : SzAks ys 100) : Inv p zb pm w { x with gives := ys } b5 q5 b6 q6 b7 q7 c8 k8 K (w'.setCell ⟨pm, 8, none⟩ (.slice c8 ys.length k8)) := by
 obtain ⟨r1, r2, r3⟩ := h.rest8 hg
 have hbs : Below pm w' (w'.setCell ⟨pm, 8, none⟩ (.slice c8 ys.length k8)) := (Below.refl _ _).setCell (p := ⟨pm, 8, none⟩) (Nat.le_refl _) _
 have h1 := h.zp
 have h2 := h.hw
 have h3 := h.hp
 exact ⟨r1.below hbs (by omega), h.S.grown8 hg ho hc hz, r2.below hbs h1, r3.trans (Bt.of_below (hbs.mono (by omega))), h.hw, h.hp⟩

theorem Inv.part5 {g : Nat} (h : Inv p zb pm w x (some ⟨g, 0, none⟩) q5 b6 q6 b7 q7 b8 q8 K wc) {k : Nat} {r : Wnt} (y : Wnt) (o : Nat) (vs : List Value) (hk : x.wants[k]? = some r) (ho : o + vs.length ≤ 7) (e : rcWnt y = setRun (rcWnt r) o vs) (hz : y.copy.size ≤ 100 ∧ y.hold.size ≤ 100) : Inv p zb pm w { x with wants := x.wants.set k y } (some ⟨g, 0, none⟩) q5 b6 q6 b7 q7 b8 q8 K (wc.setCells g (k * 7 + o) vs) := by
 have hg : zb + 1 ≤ g := own_block h.S.L.r5 g rfl
 have hbs : Below g wc (wc.setCells g (k * 7 + o) vs) := below_setCells (Nat.le_refl _) _ _ _ (Below.refl _ _)
 have h2 := h.hw
 have h3 := h.hp
 exact ⟨h.R.below hbs (by omega), h.S.part5 y o vs hk ho e hz, h.Z.below hbs (by omega), h.T.trans (Bt.of_below (hbs.mono (by omega))), h.hw, h.hp⟩

theorem Inv.part6 {g : Nat} (h : Inv p zb pm w x b5 q5 (some ⟨g, 0, none⟩) q6 b7 q7 b8 q8 K wc) {k : Nat} {r : Rn} (y : Rn) (o : Nat) (vs : List Value) (hk : x.runs[k]? = some r) (ho : o + vs.length ≤ 11) (e : rcRn y = setRun (rcRn r) o vs) (hz : y.want.copy.size ≤ 100 ∧ y.want.hold.size ≤ 100) : Inv p zb pm w { x with runs := x.runs.set k y } b5 q5 (some ⟨g, 0, none⟩) q6 b7 q7 b8 q8 K (wc.setCells g (k * 11 + o) vs) := by
 have hg : zb + 1 ≤ g := own_block h.S.L.r6 g rfl
 have hbs : Below g wc (wc.setCells g (k * 11 + o) vs) := below_setCells (Nat.le_refl _) _ _ _ (Below.refl _ _)
 have h2 := h.hw
 have h3 := h.hp
 exact ⟨h.R.below hbs (by omega), h.S.part6 y o vs hk ho e hz, h.Z.below hbs (by omega), h.T.trans (Bt.of_below (hbs.mono (by omega))), h.hw, h.hp⟩

structure Lk (x x1 : Mte) : Prop where
 l5 : x1.wants.length = x.wants.length
 l6 : x1.runs.length = x.runs.length
 l7 : x1.asks.length = x.asks.length
 l8 : x1.gives.length = x.gives.length
 ck : x1.clock = x.clock
 up : x1.up = x.up
theorem Lk.refl (x : Mte) : Lk x x := ⟨rfl, rfl, rfl, rfl, rfl, rfl⟩
theorem Lk.trans {x y z : Mte} (h : Lk x y) (k : Lk y z) : Lk x z := ⟨k.l5.trans h.l5, k.l6.trans h.l6, k.l7.trans h.l7, k.l8.trans h.l8, k.ck.trans h.ck, k.up.trans h.up⟩
theorem Lk.few {x y : Mte} {n : Nat} (h : Lk x y) (k : Few x n) : Few y n := ⟨h.l5 ▸ k.l5, h.l6 ▸ k.l6, h.l7 ▸ k.l7, h.l8 ▸ k.l8⟩

theorem Inv.run {g : Nat} (h : Inv p zb pm w x b5 q5 (some ⟨g, 0, none⟩) q6 b7 q7 b8 q8 K wc) {k : Nat} {r : Rn} (y : Rn) (o : Nat) (vs : List Value) (hk : x.runs[k]? = some r) (ho : o + vs.length ≤ 11) (e : rcRn y = setRun (rcRn r) o vs) (hz : y.want.copy.size ≤ 100 ∧ y.want.hold.size ≤ 100) :
  ∃ x1, Inv p zb pm w x1 b5 q5 (some ⟨g, 0, none⟩) q6 b7 q7 b8 q8 K (wc.setCells g (k * 11 + o) vs) ∧ x1.runs[k]? = some y ∧ Lk x x1 :=
 ⟨_, h.part6 y o vs hk ho e hz, List.getElem?_set_self (List.getElem?_eq_some_iff.1 hk).1, ⟨rfl, List.length_set, rfl, rfl, rfl, rfl⟩⟩

theorem Inv.fin (h : Inv p zb pm w x b5 q5 b6 q6 b7 q7 b8 q8 K wc) : MkL w.heap.size x b5 q5 b6 q6 b7 q7 b8 q8 (wc.setCells zb 0 [.string x.name, .bool x.up, .int .i64 x.clock, .bool x.known, .int .i64 x.seen, .slice b5 x.wants.length q5, .slice b6 x.runs.length q6, .slice b7 x.asks.length q7, .slice b8 x.gives.length q8]) ∧ RdS p K (wc.setCells zb 0 [.string x.name, .bool x.up, .int .i64 x.clock, .bool x.known, .int .i64 x.seen, .slice b5 x.wants.length q5, .slice b6 x.runs.length q6, .slice b7 x.asks.length q7, .slice b8 x.gives.length q8]) ∧ Bt p w.heap.size w (wc.setCells zb 0 [.string x.name, .bool x.up, .int .i64 x.clock, .bool x.known, .int .i64 x.seen, .slice b5 x.wants.length q5, .slice b6 x.runs.length q6, .slice b7 x.asks.length q7, .slice b8 x.gives.length q8]) ∧ (wc.setCells zb 0 [.string x.name, .bool x.up, .int .i64 x.clock, .bool x.known, .int .i64 x.seen, .slice b5 x.wants.length q5, .slice b6 x.runs.length q6, .slice b7 x.asks.length q7, .slice b8 x.gives.length q8]).rangeAt zb 0 [.string x.name, .bool x.up, .int .i64 x.clock, .bool x.known, .int .i64 x.seen, .slice b5 x.wants.length q5, .slice b6 x.runs.length q6, .slice b7 x.asks.length q7, .slice b8 x.gives.length q8] := by
 have hbs : Below zb wc (wc.setCells zb 0 [.string x.name, .bool x.up, .int .i64 x.clock, .bool x.known, .int .i64 x.seen, .slice b5 x.wants.length q5, .slice b6 x.runs.length q6, .slice b7 x.asks.length q7, .slice b8 x.gives.length q8]) := below_setCells (Nat.le_refl _) _ _ _ (Below.refl _ _)
 have h2 := h.hw
 have h3 := h.hp
 exact ⟨(h.S.L.same (fun b hb _ => heap_setCells_neM (by omega) _ _ _)).lower (by omega), h.R.below hbs (by omega), h.T.trans (Bt.of_below (hbs.mono h2)), World.rangeAt_setCells_same wc zb 0 _ h.Z.there⟩

end

end Go.Proofs.Ytnifmiacobfplaa
