/-
  Walks: the nodes of a tree, listed by the program (made by mklst.py).
-/
import Derived.Test.YthjicahpfhjfdaaGreatDoorSpn
import Derived.Test.YthjicahpfhjfdaaGreatDoorJ4
import Derived.Deep.RegionHeld3
import Derived.Deep.AppendLies
namespace Go.Proofs.YthjicahpfhjfdaaGreatDoor
open Go.RowKit

/-- a slice that holds nodes in memory of its own from base on, or nil -/
def NdOwn (w : World) (base : Nat) (v : Value) (xs : List P.Nd) : Prop := w.ownsRow base 36 4 v xs.length (ndCells xs)

theorem NdOwn.below {w w' : World} {base : Nat} {v : Value} {xs : List P.Nd} (h : NdOwn w base v xs) (hb : Below w.heap.size w w') : NdOwn w' base v xs := ownsRow_below h hb

theorem NdOwn.block {w : World} {base : Nat} {v : Value} {xs : List P.Nd} (h : NdOwn w base v xs) : ∀ i, v.ownBlock = some i → base ≤ i := by
  intro i hi
  rcases h.2 with ⟨rfl, _⟩ | ⟨g, cap, cur, rfl, hg, _⟩
  · cases hi
  · cases hi; exact hg

/-- all cells but those of the slice's own block are as they were -/
def KeptC (w : World) (v : Value) (w' : World) : Prop := ∀ a u, w.cell? a = some u → v.ownBlock ≠ some a.block → w'.cell? a = some u
/-- the new slice lies where the old one did, or in a new block -/
def OwnTo (w : World) (v u : Value) : Prop := u.ownBlock = v.ownBlock ∨ ∃ g, w.heap.size ≤ g ∧ u.ownBlock = some g

theorem KeptC.below {w w' : World} {v : Value} (hb : Below w.heap.size w w') : KeptC w v w' := fun a _ h _ => (hb.cell (p := a) (block_lt_of_cell h)).trans h
theorem KeptC.grown {w w' : World} {v : Value} (h : w.grownBy w' v.ownBlock) : KeptC w v w' := fun _ _ hc hn => h.cell hc (fun e => hn e.symm)
theorem KeptC.trans {w w1 w2 : World} {v u : Value} (h : KeptC w v w1) (ho : OwnTo w v u) (h' : KeptC w1 u w2) : KeptC w v w2 := fun a x hc hn => h' a x (h a x hc hn) (by
  rcases ho with e | ⟨g, hg, e⟩
  · rw [e]; exact hn
  · rw [e]; intro e'; cases e'; have := block_lt_of_cell hc; omega)
theorem OwnTo.refl (w : World) (v : Value) : OwnTo w v v := .inl rfl
theorem OwnTo.trans {w w1 : World} {v u x : Value} (h : OwnTo w v u) (h' : OwnTo w1 u x) (hs : w.heap.size ≤ w1.heap.size) : OwnTo w v x := by
  rcases h' with e | ⟨g, hg, e⟩
  · rcases h with e2 | ⟨g2, hg2, e2⟩
    · exact .inl (e.trans e2)
    · exact .inr ⟨g2, hg2, e.trans e2⟩
  · exact .inr ⟨g, by omega, e⟩
theorem NdOwn.ne {w : World} {base : Nat} {v : Value} {xs : List P.Nd} (h : NdOwn w base v xs) : v.ownBlock ≠ some w.heap.size := by
  intro e
  have := (h.lt _ e).2
  omega

theorem ndOwn_snoc {w : World} {base : Nat} {v : Value} {xs : List P.Nd} {n : P.Nd} (h : w.ownsRow base 36 4 v (xs.length + 1) (ndCells xs ++ ndv n)) : NdOwn w base v (xs ++ [n]) := by
  show World.ownsRow _ _ _ _ _ _ _
  rw [ndCells_append, List.length_append]
  exact h

/-- what listing a tree answers -/
def LstR (base : Nat) (w : World) (v : Value) (xs ys : List P.Nd) (u : Value) (w' : World) : Prop := NdOwn w' base u (xs ++ ys) ∧ Below base w w' ∧ KeptC w v w' ∧ OwnTo w v u

set_option maxHeartbeats 1000000 in
theorem nothList_any (base : Nat) (v : Value) (xs : List P.Nd) (w : World) (ho : NdOwn w base v xs) (hb : base ≤ w.heap.size) (hl : xs.length + 1 ≤ 1000) :
    Calls Tryz.prog 105 #[.agg #[], v] w fun e w' => ∃ u, e = .returned u ∧ LstR base w v xs [(⟨0, ⟨#[]⟩, ⟨#[]⟩, 0⟩ : P.Nd)] u w' := by
  obtain ⟨i0, hi0, hz0, hz1, hz2⟩ := info_parts info_nd
  have HO : Hid (NdOwn w base v xs) := ho
  clear ho
  go_enter Tryz.func105, Tryz.ntmps105
  go_upto_region 1 with fail
  have hal : Below w.heap.size w (w.alloc (Obj.cells #[] 89)) := (Below.refl _ _).alloc (Nat.le_refl _) _
  have HO1 : Hid (NdOwn (w.alloc (Obj.cells #[] 89)) base v xs) := HO.out.below hal
  have HB1 : Hid (Below base w (w.alloc (Obj.cells #[] 89))) := hal.mono hb
  have HK1 : Hid (KeptC w v (w.alloc (Obj.cells #[] 89))) := KeptC.below hal
  have hs1 : w.heap.size < (w.alloc (Obj.cells #[] 89)).heap.size := by simp
  have hb1 : base ≤ (w.alloc (Obj.cells #[] 89)).heap.size := by simp; omega
  clear hal HO
  generalize w.alloc (Obj.cells #[] 89) = w1 at *
  go_wp2_with (at_builtin; refine wpList_append_own_at _ rfl (.tmp 5) (.tmp 7) 23 rfl base 36 i0 _ 4 48 Tryz.underlying23 hi0 hz0 hz1 hz2 rfl (by decide) _ xs.length _ rfl (HO1.out.alloc _) ⟨w1.heap.size, 0, none⟩ 1 1 (ndv (⟨0, ⟨#[]⟩, ⟨#[]⟩, 0⟩ : P.Nd)) rfl rfl (news_nd _ _ _) (ndv_one _) (by unfold maxLen; omega) (by omega) (by simp; omega) ?_; intro v' w7 hown7 hgrow7 _ hto)
  have HO2 : Hid (NdOwn w7 base v' (xs ++ [(⟨0, ⟨#[]⟩, ⟨#[]⟩, 0⟩ : P.Nd)])) := ndOwn_snoc hown7
  have HK2 : Hid (KeptC w v w7) := (HK1.out.trans (OwnTo.refl _ _) (KeptC.below ((Below.refl _ _).alloc (Nat.le_refl _) _))).trans (OwnTo.refl _ _) (KeptC.grown hgrow7)
  have HT2 : Hid (OwnTo w v v') := by
    rcases hto with e | e
    · exact .inl e
    · exact .inr ⟨_, by simp; omega, e⟩
  have HB2 : Hid (Below base w w7) := (HB1.out.alloc hb1 _).grown hgrow7 (by simp; omega) (fun i hi => HO1.out.block i hi)
  clear hown7 hgrow7 hto
  go_wp2_with fail
  go_ret
  exact ⟨_, rfl, HO2.out, HB2.out, HK2.out, HT2.out⟩

set_option maxHeartbeats 1000000 in
theorem namedList_any (n : ByteArray) (base : Nat) (v : Value) (xs : List P.Nd) (w : World) (ho : NdOwn w base v xs) (hb : base ≤ w.heap.size) (hl : xs.length + 1 ≤ 1000) :
    Calls Tryz.prog 111 #[.agg #[.string n], v] w fun e w' => ∃ u, e = .returned u ∧ LstR base w v xs [(⟨1, n, ⟨#[]⟩, 0⟩ : P.Nd)] u w' := by
  obtain ⟨i0, hi0, hz0, hz1, hz2⟩ := info_parts info_nd
  have HO : Hid (NdOwn w base v xs) := ho
  clear ho
  go_enter Tryz.func111, Tryz.ntmps111
  go_upto_region 1 with fail
  have hal : Below w.heap.size w (w.alloc (Obj.cells #[.string n] 124)) := (Below.refl _ _).alloc (Nat.le_refl _) _
  have HO1 : Hid (NdOwn (w.alloc (Obj.cells #[.string n] 124)) base v xs) := HO.out.below hal
  have HB1 : Hid (Below base w (w.alloc (Obj.cells #[.string n] 124))) := hal.mono hb
  have HK1 : Hid (KeptC w v (w.alloc (Obj.cells #[.string n] 124))) := KeptC.below hal
  have hs1 : w.heap.size < (w.alloc (Obj.cells #[.string n] 124)).heap.size := by simp
  have hb1 : base ≤ (w.alloc (Obj.cells #[.string n] 124)).heap.size := by simp; omega
  have e0 : (w.alloc (Obj.cells #[.string n] 124)).cell? ⟨w.heap.size, 0, none⟩ = some (.string n) := by simp
  clear hal HO
  generalize w.alloc (Obj.cells #[.string n] 124) = w1 at *
  go_wp2_with (at_builtin; refine wpList_append_own_at _ rfl (.tmp 5) (.tmp 9) 23 rfl base 36 i0 _ 4 48 Tryz.underlying23 hi0 hz0 hz1 hz2 rfl (by decide) _ xs.length _ rfl (HO1.out.alloc _) ⟨w1.heap.size, 0, none⟩ 1 1 (ndv (⟨1, n, ⟨#[]⟩, 0⟩ : P.Nd)) rfl rfl (news_nd _ _ _) (ndv_one _) (by unfold maxLen; omega) (by omega) (by simp; omega) ?_; intro v' w7 hown7 hgrow7 _ hto)
  have HO2 : Hid (NdOwn w7 base v' (xs ++ [(⟨1, n, ⟨#[]⟩, 0⟩ : P.Nd)])) := ndOwn_snoc hown7
  have HK2 : Hid (KeptC w v w7) := (HK1.out.trans (OwnTo.refl _ _) (KeptC.below ((Below.refl _ _).alloc (Nat.le_refl _) _))).trans (OwnTo.refl _ _) (KeptC.grown hgrow7)
  have HT2 : Hid (OwnTo w v v') := by
    rcases hto with e | e
    · exact .inl e
    · exact .inr ⟨_, by simp; omega, e⟩
  have HB2 : Hid (Below base w w7) := (HB1.out.alloc hb1 _).grown hgrow7 (by simp; omega) (fun i hi => HO1.out.block i hi)
  clear hown7 hgrow7 hto
  go_wp2_with fail
  go_ret
  exact ⟨_, rfl, HO2.out, HB2.out, HK2.out, HT2.out⟩

set_option maxHeartbeats 1000000 in
theorem valuedList_any (n m : ByteArray) (base : Nat) (v : Value) (xs : List P.Nd) (w : World) (ho : NdOwn w base v xs) (hb : base ≤ w.heap.size) (hl : xs.length + 1 ≤ 1000) :
    Calls Tryz.prog 119 #[.agg #[.string n, .string m], v] w fun e w' => ∃ u, e = .returned u ∧ LstR base w v xs [(⟨2, n, m, 0⟩ : P.Nd)] u w' := by
  obtain ⟨i0, hi0, hz0, hz1, hz2⟩ := info_parts info_nd
  have HO : Hid (NdOwn w base v xs) := ho
  clear ho
  go_enter Tryz.func119, Tryz.ntmps119
  go_upto_region 1 with fail
  have hal : Below w.heap.size w (w.alloc (Obj.cells #[.string n, .string m] 126)) := (Below.refl _ _).alloc (Nat.le_refl _) _
  have HO1 : Hid (NdOwn (w.alloc (Obj.cells #[.string n, .string m] 126)) base v xs) := HO.out.below hal
  have HB1 : Hid (Below base w (w.alloc (Obj.cells #[.string n, .string m] 126))) := hal.mono hb
  have HK1 : Hid (KeptC w v (w.alloc (Obj.cells #[.string n, .string m] 126))) := KeptC.below hal
  have hs1 : w.heap.size < (w.alloc (Obj.cells #[.string n, .string m] 126)).heap.size := by simp
  have hb1 : base ≤ (w.alloc (Obj.cells #[.string n, .string m] 126)).heap.size := by simp; omega
  have e0 : (w.alloc (Obj.cells #[.string n, .string m] 126)).cell? ⟨w.heap.size, 0, none⟩ = some (.string n) := by simp
  have e1 : (w.alloc (Obj.cells #[.string n, .string m] 126)).cell? ⟨w.heap.size, 1, none⟩ = some (.string m) := by simp
  clear hal HO
  generalize w.alloc (Obj.cells #[.string n, .string m] 126) = w1 at *
  go_wp2_with (at_builtin; refine wpList_append_own_at _ rfl (.tmp 5) (.tmp 11) 23 rfl base 36 i0 _ 4 48 Tryz.underlying23 hi0 hz0 hz1 hz2 rfl (by decide) _ xs.length _ rfl (HO1.out.alloc _) ⟨w1.heap.size, 0, none⟩ 1 1 (ndv (⟨2, n, m, 0⟩ : P.Nd)) rfl rfl (news_nd _ _ _) (ndv_one _) (by unfold maxLen; omega) (by omega) (by simp; omega) ?_; intro v' w7 hown7 hgrow7 _ hto)
  have HO2 : Hid (NdOwn w7 base v' (xs ++ [(⟨2, n, m, 0⟩ : P.Nd)])) := ndOwn_snoc hown7
  have HK2 : Hid (KeptC w v w7) := (HK1.out.trans (OwnTo.refl _ _) (KeptC.below ((Below.refl _ _).alloc (Nat.le_refl _) _))).trans (OwnTo.refl _ _) (KeptC.grown hgrow7)
  have HT2 : Hid (OwnTo w v v') := by
    rcases hto with e | e
    · exact .inl e
    · exact .inr ⟨_, by simp; omega, e⟩
  have HB2 : Hid (Below base w w7) := (HB1.out.alloc hb1 _).grown hgrow7 (by simp; omega) (fun i hi => HO1.out.block i hi)
  clear hown7 hgrow7 hto
  go_wp2_with fail
  go_ret
  exact ⟨_, rfl, HO2.out, HB2.out, HK2.out, HT2.out⟩

/-- this is the name by which the method 'list' is called -/
structure ListName (name : String) : Prop where
  c0 : ∀ v w, (callMethod (.iface 89 (.agg #[])) name #[v]).run Tryz.prog w = .ok (.enter 105 #[.agg #[], v]) w
  c1 : ∀ n v w, (callMethod (.iface 124 (.agg #[.string n])) name #[v]).run Tryz.prog w = .ok (.enter 111 #[.agg #[.string n], v]) w
  c2 : ∀ n m v w, (callMethod (.iface 126 (.agg #[.string n, .string m])) name #[v]).run Tryz.prog w = .ok (.enter 119 #[.agg #[.string n, .string m], v]) w
  c3 : ∀ x h v w, (callMethod (.iface 147 (.agg #[x, .int .i64 h])) name #[v]).run Tryz.prog w = .ok (.enter 134 #[.agg #[x, .int .i64 h], v]) w
  c4 : ∀ x y h v w, (callMethod (.iface 152 (.agg #[x, y, .int .i64 h])) name #[v]).run Tryz.prog w = .ok (.enter 141 #[.agg #[x, y, .int .i64 h], v]) w
  c5 : ∀ x y h v w, (callMethod (.iface 153 (.agg #[x, y, .int .i64 h])) name #[v]).run Tryz.prog w = .ok (.enter 147 #[.agg #[x, y, .int .i64 h], v]) w

/-- a tree is listed as it ought -/
def LstOk (t : P.Tr) : Prop := ∀ (name : String), ListName name → ∀ (x : Value), Hid (val t = x) → ∀ (base : Nat) (v : Value) (xs : List P.Nd) (w : World), NdOwn w base v xs → base ≤ w.heap.size → xs.length + (post t).length ≤ 1000 → Meth Tryz.prog x name #[v] w (LstR base w v xs (post t))

set_option maxHeartbeats 2000000 in
set_option maxRecDepth 100000 in
theorem oppList_any (k : P.Tr) (hw : P.wf k) (hk : LstOk k) (h : Int) (base : Nat) (v : Value) (xs : List P.Nd) (w : World) (ho : NdOwn w base v xs) (hb : base ≤ w.heap.size) (hl : xs.length + ((post k).length + 1) ≤ 1000) :
    Calls Tryz.prog 134 #[.agg #[val k, .int .i64 h], v] w fun e w' => ∃ u, e = .returned u ∧ LstR base w v xs (post k ++ [(⟨3, ⟨#[]⟩, ⟨#[]⟩, 1⟩ : P.Nd)]) u w' := by
  obtain ⟨i0, hi0, hz0, hz1, hz2⟩ := info_parts info_nd
  have HO : Hid (NdOwn w base v xs) := ho
  have HK : Hid (LstOk k) := hk
  obtain ⟨ty, q, hv⟩ := val_iface hw
  rw [hv]
  have HV : Hid (val k = .iface ty q) := hv
  clear ho hk hv
  generalize hys : post k = ys at *
  have HYS : Hid (post k = ys) := hys
  clear hys
  go_enter Tryz.func134, Tryz.ntmps134
  go_upto_region 1 with fail
  have hal : Below w.heap.size w (w.alloc (Obj.cells #[.iface ty q, .int .i64 h] 147)) := (Below.refl _ _).alloc (Nat.le_refl _) _
  have HO1 : Hid (NdOwn (w.alloc (Obj.cells #[.iface ty q, .int .i64 h] 147)) base v xs) := HO.out.below hal
  have HB1 : Hid (Below base w (w.alloc (Obj.cells #[.iface ty q, .int .i64 h] 147))) := hal.mono hb
  have HK1 : Hid (KeptC w v (w.alloc (Obj.cells #[.iface ty q, .int .i64 h] 147))) := KeptC.below hal
  have hs1 : w.heap.size < (w.alloc (Obj.cells #[.iface ty q, .int .i64 h] 147)).heap.size := by simp
  have hb1 : base ≤ (w.alloc (Obj.cells #[.iface ty q, .int .i64 h] 147)).heap.size := by simp; omega
  have e0 : (w.alloc (Obj.cells #[.iface ty q, .int .i64 h] 147)).cell? ⟨w.heap.size, 0, none⟩ = some (.iface ty q) := by simp
  clear hal HO
  generalize w.alloc (Obj.cells #[.iface ty q, .int .i64 h] 147) = w1 at *
  go_wp2_with (first
    | (refine wpList_meth rfl (.tmp 6) _ #[.tmp 7] #[23] rfl _ rfl #[v] (map_one _ _) _ (HK.out _ ⟨fun _ _ => by kernel_rfl, fun _ _ _ => by kernel_rfl, fun _ _ _ _ => by kernel_rfl, fun _ _ _ _ => by kernel_rfl, fun _ _ _ _ _ => by kernel_rfl, fun _ _ _ _ _ => by kernel_rfl⟩ _ HV base v xs _ HO1.out hb1 (by rw [HYS.out]; omega)) ?_; rintro u w2 ⟨ho2, hb2, hk2, ht2⟩; have HO2 : Hid (NdOwn w2 base u (xs ++ ys)) := (HYS.out ▸ ho2); have HB2 : Hid (Below base w w2) := HB1.out.trans hb2; have hs2 : base ≤ w2.heap.size := Nat.le_trans hb1 hb2.size; have HK2 : Hid (KeptC w v w2) := HK1.out.trans (OwnTo.refl _ _) hk2; have HT2 : Hid (OwnTo w v u) := (OwnTo.refl w v).trans ht2 (Nat.le_of_lt hs1); have hs12 : w1.heap.size ≤ w2.heap.size := hb2.size; clear ho2 hb2 hk2 ht2)
    | (at_builtin; refine wpList_append_own_at _ rfl (.tmp 8) (.tmp 10) 23 rfl base 36 i0 _ 4 48 Tryz.underlying23 hi0 hz0 hz1 hz2 rfl (by decide) _ (xs ++ ys).length _ rfl (HO2.out.alloc _) ⟨w2.heap.size, 0, none⟩ 1 1 (ndv (⟨3, ⟨#[]⟩, ⟨#[]⟩, 1⟩ : P.Nd)) rfl rfl (news_nd _ _ _) (ndv_one _) (by rw [List.length_append]; unfold maxLen; omega) (by rw [List.length_append]; omega) (by simp; omega) ?_; intro v' w7 hown7 hgrow7 _ hto))
  have HO3 : Hid (NdOwn w7 base v' (xs ++ (ys ++ [(⟨3, ⟨#[]⟩, ⟨#[]⟩, 1⟩ : P.Nd)]))) := by
    rw [← List.append_assoc]
    exact ndOwn_snoc hown7
  have HK3 : Hid (KeptC w v w7) := (HK2.out.trans HT2.out (KeptC.below ((Below.refl _ _).alloc (Nat.le_refl _) _))).trans HT2.out (KeptC.grown hgrow7)
  have HT3 : Hid (OwnTo w v v') := by
    rcases hto with e | e
    · exact HT2.out.trans (.inl e : OwnTo w u v') (Nat.le_refl _)
    · exact .inr ⟨_, by simp; omega, e⟩
  have HB3 : Hid (Below base w w7) := (HB2.out.alloc hs2 _).grown hgrow7 (by simp; omega) (fun i hi => HO2.out.block i hi)
  clear hown7 hgrow7 hto
  go_ret
  exact ⟨_, rfl, HO3.out, HB3.out, HK3.out, HT3.out⟩

/-- the two kids of a pair, in its block -/
def TwoC (p : Nat) (l r : Value) (w : World) : Prop := w.cell? ⟨p, 0, none⟩ = some l ∧ w.cell? ⟨p, 1, none⟩ = some r

theorem step_meth {P : Program} {ops : Array Oper} {o : Oper} {a : Act} {K : Act → World → Prop} {Q : Exit → Act → World → Prop} {E : Prop} {w : World}
    (hg : o.guard = none) (x : Operand) (name : String) (qs : Array Operand) (ts : Array TypeId)
    (ho : o.op = .call { callee := .invoke x name, args := qs, argTypes := ts })
    (xv : Value) (hx : a.eval x = xv) (bs : Array Value) (hq : qs.map a.eval = bs) (R : Value → World → Prop) (hm : Meth P xv name bs w R)
    (h : ∀ u w', R u w' → K (a.put o.dst u) w') : if Region.wanted o (yielded ops a.tmps) = true then Oper.wp P o a w K Q else E := by
  rw [if_pos (by simp [Region.wanted, hg])]
  obtain ⟨f, bs', hr, hc⟩ := hm
  subst hx
  subst hq
  have hrun : (execOp a.eval o).run P w = .ok (.enter f bs') w := by
    unfold execOp
    simp only [ho, resolve, invoke, Sem.run_bind, Sem.run_pure, Result.andThen_ok]
    rw [extract_one]
    simp only [Array.getElem?_append, List.size_toArray, List.length_cons, List.length_nil]
    simp only [Nat.zero_add, Nat.lt_one_iff, if_true]
    exact hr
  unfold Oper.wp
  rw [hrun, Oper.upon_enter]
  refine hc.mono ?_
  rintro e w' ⟨u, rfl, hR⟩
  exact h u w' hR

theorem OwnTo.ne {w : World} {v u : Value} {g : Nat} (h : OwnTo w v u) (hv : v.ownBlock ≠ some g) (hg : g < w.heap.size) : u.ownBlock ≠ some g := by
  rcases h with e | ⟨b, hb, e⟩
  · rw [e]; exact hv
  · rw [e]; intro e'; cases e'; omega
theorem TwoC.kept {p : Nat} {l r v : Value} {w w' : World} (h : TwoC p l r w) (k : KeptC w v w') (hn : v.ownBlock ≠ some p) : TwoC p l r w' := ⟨k _ _ h.1 hn, k _ _ h.2 hn⟩
theorem TwoC.below {p : Nat} {l r : Value} {w w' : World} (h : TwoC p l r w) (hb : Below w.heap.size w w') : TwoC p l r w' := ⟨(hb.cell (p := ⟨p, 0, none⟩) (block_lt_of_cell h.1)).trans h.1, (hb.cell (p := ⟨p, 1, none⟩) (block_lt_of_cell h.2)).trans h.2⟩
/-- a node lies in a block -/
def NdAt (w : World) (sb : Nat) (n : P.Nd) : Prop := ∀ j u, (ndv n)[j]? = some u → w.cell? ((⟨sb, 0, none⟩ : Addr).add j) = some u
theorem NdAt.kept {sb : Nat} {n : P.Nd} {v : Value} {w w' : World} (h : NdAt w sb n) (k : KeptC w v w') (hn : v.ownBlock ≠ some sb) : NdAt w' sb n := fun j u hj => k _ _ (h j u hj) (by rw [Addr.add_mid]; exact hn)

set_option maxHeartbeats 4000000 in
set_option maxRecDepth 100000 in
theorem pairList_any (s t : P.Tr) (hs : P.wf s) (ht : P.wf t) (hl : LstOk s) (hr : LstOk t) (h kind : Int) (base : Nat) (v : Value) (xs : List P.Nd) (w : World) (ho : NdOwn w base v xs) (hb : base ≤ w.heap.size) (hn : xs.length + ((post s).length + (post t).length + 1) ≤ 1000) :
    Calls Tryz.prog 144 #[.agg #[val s, val t, .int .i64 h], .int .i64 kind, v] w fun e w' => ∃ u, e = .returned u ∧ LstR base w v xs (post s ++ post t ++ [(⟨kind, ⟨#[]⟩, ⟨#[]⟩, 2⟩ : P.Nd)]) u w' := by
  obtain ⟨i0, hi0, hz0, hz1, hz2⟩ := info_parts info_nd
  have HO : Hid (NdOwn w base v xs) := ho
  have HLs : Hid (LstOk s) := hl
  have HRs : Hid (LstOk t) := hr
  obtain ⟨ty, q, hv⟩ := val_iface hs
  obtain ⟨ty', q', hv'⟩ := val_iface ht
  rw [hv, hv']
  have HV : Hid (val s = .iface ty q) := hv
  have HV' : Hid (val t = .iface ty' q') := hv'
  clear ho hl hr hv hv'
  generalize hys : post s = ys at *
  have HYS : Hid (post s = ys) := hys
  generalize hzs : post t = zs at *
  have HZS : Hid (post t = zs) := hzs
  clear hys hzs
  go_enter Tryz.func144, Tryz.ntmps144
  go_upto_region 1 with fail
  have hal : Below w.heap.size w (w.alloc (Obj.cells #[.iface ty q, .iface ty' q', .int .i64 h] 149)) := (Below.refl _ _).alloc (Nat.le_refl _) _
  have HO1 : Hid (NdOwn (w.alloc (Obj.cells #[.iface ty q, .iface ty' q', .int .i64 h] 149)) base v xs) := HO.out.below hal
  have HB1 : Hid (Below base w (w.alloc (Obj.cells #[.iface ty q, .iface ty' q', .int .i64 h] 149))) := hal.mono hb
  have HK1 : Hid (KeptC w v (w.alloc (Obj.cells #[.iface ty q, .iface ty' q', .int .i64 h] 149))) := KeptC.below hal
  have hs1 : w.heap.size < (w.alloc (Obj.cells #[.iface ty q, .iface ty' q', .int .i64 h] 149)).heap.size := by simp
  have HE : Hid (TwoC w.heap.size (.iface ty q) (.iface ty' q') (w.alloc (Obj.cells #[.iface ty q, .iface ty' q', .int .i64 h] 149))) := ⟨by simp, by simp⟩
  have HNE : Hid (v.ownBlock ≠ some w.heap.size) := HO.out.ne
  clear hal HO
  generalize w.alloc (Obj.cells #[.iface ty q, .iface ty' q', .int .i64 h] 149) = w1 at *
  have HB2 : Hid (Below base w w1.drew) := HB1.out.drew
  have HO2 : Hid (NdOwn w1.drew base v xs) := HO1.out.below ((Below.refl _ w1).drew)
  have HK2 : Hid (KeptC w v w1.drew) := HK1.out.trans (OwnTo.refl _ _) (KeptC.below ((Below.refl _ w1).drew))
  have HS2 : Hid (w.heap.size < w1.drew.heap.size) := by show _ < _; simpa using hs1
  have HT2 : Hid (OwnTo w v v) := OwnTo.refl _ _
  refine wp_region_held_drew (S := TwoC w.heap.size (.iface ty q) (.iface ty' q')) (by kernel_rfl) (by simpa [TwoC] using HE.out) (fun hS => ?_)
  generalize w1.drew = w2 at *
  clear HB1 HO1 HK1 HE hs1
  refine wpAnyH_take (i := 0) (oi := { dst := some 7, op := _, type := _, pos := _, after := _, guard := none }) (v := .pointer (some ⟨w.heap.size, 1, none⟩)) rfl (by kernel_rfl) (by kernel_rfl) (by kernel_rfl) (fun _ _ _ h => h) (Or.inl ⟨by rfl, ?_⟩) hS ?_
  · intro wy hy
    obtain ⟨y0, y1⟩ := hy
    go_simp
  simp only [Act.put, List.setIfInBounds_toArray, List.set_cons_zero, List.set_cons_succ]
  refine wpAnyH_take (i := 1) (oi := { dst := some 8, op := _, type := _, pos := _, after := _, guard := none }) (v := .iface ty' q') rfl (by kernel_rfl) (by kernel_rfl) (by kernel_rfl) (fun _ _ _ h => h) (Or.inl ⟨by rfl, ?_⟩) hS ?_
  · intro wy hy
    obtain ⟨y0, y1⟩ := hy
    go_simp
  simp only [Act.put, List.setIfInBounds_toArray, List.set_cons_zero, List.set_cons_succ]
  refine wpAnyH_take (i := 2) (oi := { dst := some 9, op := _, type := _, pos := _, after := _, guard := none }) (v := .pointer (some ⟨w.heap.size, 0, none⟩)) rfl (by kernel_rfl) (by kernel_rfl) (by kernel_rfl) (fun _ _ _ h => h) (Or.inl ⟨by rfl, ?_⟩) hS ?_
  · intro wy hy
    obtain ⟨y0, y1⟩ := hy
    go_simp
  simp only [Act.put, List.setIfInBounds_toArray, List.set_cons_zero, List.set_cons_succ]
  refine wpAnyH_take (i := 3) (oi := { dst := some 10, op := _, type := _, pos := _, after := _, guard := none }) (v := .iface ty q) rfl (by kernel_rfl) (by kernel_rfl) (by kernel_rfl) (fun _ _ _ h => h) (Or.inl ⟨by rfl, ?_⟩) hS ?_
  · intro wy hy
    obtain ⟨y0, y1⟩ := hy
    go_simp
  simp only [Act.put, List.setIfInBounds_toArray, List.set_cons_zero, List.set_cons_succ]
  refine wpAnyH_take (i := 4) (oi := { dst := some 11, op := _, type := _, pos := _, after := _, guard := none }) (v := v) rfl (by kernel_rfl) (by kernel_rfl) (by kernel_rfl) (fun _ _ _ h => h) (Or.inl ⟨by rfl, ?_⟩) hS ?_
  · intro wy hy
    obtain ⟨y0, y1⟩ := hy
    go_simp
  simp only [Act.put, List.setIfInBounds_toArray, List.set_cons_zero, List.set_cons_succ]
  refine wpAnyH_take (i := 6) (oi := { dst := some 13, op := _, type := _, pos := _, after := _, guard := none }) (v := .iface ty' q') rfl (by kernel_rfl) (by kernel_rfl) (by kernel_rfl) (fun _ _ _ h => h) (Or.inl ⟨by rfl, ?_⟩) hS ?_
  · intro wy hy
    obtain ⟨y0, y1⟩ := hy
    go_simp
  simp only [Act.put, List.setIfInBounds_toArray, List.set_cons_zero, List.set_cons_succ]
  refine wpAnyH_take (i := 7) (oi := { dst := some 14, op := _, type := _, pos := _, after := _, guard := none }) (v := .iface ty' q') rfl (by kernel_rfl) (by kernel_rfl) (by kernel_rfl) (fun _ _ _ h => h) (Or.inl ⟨by rfl, ?_⟩) hS ?_
  · intro wy hy
    obtain ⟨y0, y1⟩ := hy
    go_simp
  simp only [Act.put, List.setIfInBounds_toArray, List.set_cons_zero, List.set_cons_succ]
  refine wpAnyH_take (i := 9) (oi := { dst := some 16, op := _, type := _, pos := _, after := _, guard := none }) (v := .int .i64 kind) rfl (by kernel_rfl) (by kernel_rfl) (by kernel_rfl) (fun _ _ _ h => h) (Or.inl ⟨by rfl, ?_⟩) hS ?_
  · intro wy hy
    obtain ⟨y0, y1⟩ := hy
    go_simp
  simp only [Act.put, List.setIfInBounds_toArray, List.set_cons_zero, List.set_cons_succ]
  refine wpAnyH_take (i := 10) (oi := { dst := some 17, op := _, type := _, pos := _, after := _, guard := none }) (v := .agg #[.int .i64 kind, .string ⟨#[]⟩, .string ⟨#[]⟩, .int .i64 2]) rfl (by kernel_rfl) (by kernel_rfl) (by kernel_rfl) (fun _ _ _ h => h) (Or.inl ⟨by rfl, ?_⟩) hS ?_
  · intro wy hy
    obtain ⟨y0, y1⟩ := hy
    go_simp
  simp only [Act.put, List.setIfInBounds_toArray, List.set_cons_zero, List.set_cons_succ]
  have HNE2 := HNE
  clear HNE
  refine wpAnyH_ready (rs := [5, 11]) (by kernel_rfl) (by simp) (AllReadyH.cons (o := { dst := some 12, op := _, type := _, pos := _, after := _, guard := none }) rfl (fun K hK => ?_) (AllReadyH.cons (o := { dst := some 18, op := _, type := _, pos := _, after := _, guard := none }) rfl (fun K hK => ?_) AllReadyH.nil))
  · refine step_meth (by rfl) (.tmp 10) _ #[.tmp 11] #[23] (by rfl) _ (by rfl) #[v] (map_one _ _) _ (HLs.out _ ⟨fun _ _ => by kernel_rfl, fun _ _ _ => by kernel_rfl, fun _ _ _ _ => by kernel_rfl, fun _ _ _ _ => by kernel_rfl, fun _ _ _ _ _ => by kernel_rfl, fun _ _ _ _ _ => by kernel_rfl⟩ _ HV base v xs _ HO2.out (Nat.le_trans hb (Nat.le_of_lt HS2.out)) (by rw [HYS.out]; omega)) ?_
    rintro u1 w3 ⟨ho, hbb, hkk, htt⟩
    have HO3 : Hid (NdOwn w3 base u1 (xs ++ ys)) := HYS.out ▸ ho
    have HB3 : Hid (Below base w w3) := HB2.out.trans hbb
    have HS3 : Hid (w.heap.size < w3.heap.size) := Nat.lt_of_lt_of_le HS2.out hbb.size
    have HK3 : Hid (KeptC w v w3) := HK2.out.trans HT2.out hkk
    have HT3 : Hid (OwnTo w v u1) := HT2.out.trans htt (Nat.le_of_lt HS2.out)
    have HNE3 : Hid (u1.ownBlock ≠ some w.heap.size) := htt.ne HNE2.out HS2.out
    refine hK.out _ _ (hS.kept hkk HNE2.out) (fun hS => ?_)
    clear ho hbb hkk htt HO2 HB2 HK2 HT2 HS2 HNE2
    clear hK K
    simp only [Act.put, List.setIfInBounds_toArray, List.set_cons_zero, List.set_cons_succ]
    refine wpAnyH_ready (rs := [8, 11]) (by kernel_rfl) (by simp) (AllReadyH.cons (o := { dst := some 15, op := _, type := _, pos := _, after := _, guard := none }) rfl (fun K hK => ?_) (AllReadyH.cons (o := { dst := some 18, op := _, type := _, pos := _, after := _, guard := none }) rfl (fun K hK => ?_) AllReadyH.nil))
    · refine step_meth (by rfl) (.tmp 14) _ #[.tmp 12] #[23] (by rfl) _ (by rfl) #[u1] (map_one _ _) _ (HRs.out _ ⟨fun _ _ => by kernel_rfl, fun _ _ _ => by kernel_rfl, fun _ _ _ _ => by kernel_rfl, fun _ _ _ _ => by kernel_rfl, fun _ _ _ _ _ => by kernel_rfl, fun _ _ _ _ _ => by kernel_rfl⟩ _ HV' base u1 (xs ++ ys) _ HO3.out (Nat.le_trans hb (Nat.le_of_lt HS3.out)) (by rw [HZS.out]; rw [List.length_append]; omega)) ?_
      rintro u2 w4 ⟨ho, hbb, hkk, htt⟩
      have HO4 : Hid (NdOwn w4 base u2 ((xs ++ ys) ++ zs)) := HZS.out ▸ ho
      have HB4 : Hid (Below base w w4) := HB3.out.trans hbb
      have HS4 : Hid (w.heap.size < w4.heap.size) := Nat.lt_of_lt_of_le HS3.out hbb.size
      have HK4 : Hid (KeptC w v w4) := HK3.out.trans HT3.out hkk
      have HT4 : Hid (OwnTo w v u2) := HT3.out.trans htt (Nat.le_of_lt HS3.out)
      have HNE4 : Hid (u2.ownBlock ≠ some w.heap.size) := htt.ne HNE3.out HS3.out
      refine hK.out _ _ (hS.kept hkk HNE3.out) (fun hS => ?_)
      clear ho hbb hkk htt HO3 HB3 HK3 HT3 HS3 HNE3
      clear hK K
      simp only [Act.put, List.setIfInBounds_toArray, List.set_cons_zero, List.set_cons_succ]
      refine wpAnyH_ready (rs := [11]) (by kernel_rfl) (by simp) (AllReadyH.cons (o := { dst := some 18, op := _, type := _, pos := _, after := _, guard := none }) rfl (fun K hK => ?_) AllReadyH.nil)
      go_simp
      have hal : Below w4.heap.size w4 (w4.alloc (Obj.cells #[.int .i64 kind, .string ⟨#[]⟩, .string ⟨#[]⟩, .int .i64 2] 36)) := (Below.refl _ _).alloc (Nat.le_refl _) _
      have HO5 : Hid (NdOwn (w4.alloc (Obj.cells #[.int .i64 kind, .string ⟨#[]⟩, .string ⟨#[]⟩, .int .i64 2] 36)) base u2 ((xs ++ ys) ++ zs)) := HO4.out.below hal
      have HB5 : Hid (Below base w (w4.alloc (Obj.cells #[.int .i64 kind, .string ⟨#[]⟩, .string ⟨#[]⟩, .int .i64 2] 36))) := HB4.out.trans (hal.mono (Nat.le_trans hb (Nat.le_of_lt HS4.out)))
      have HS5 : Hid (w.heap.size < (w4.alloc (Obj.cells #[.int .i64 kind, .string ⟨#[]⟩, .string ⟨#[]⟩, .int .i64 2] 36)).heap.size) := Nat.lt_of_lt_of_le HS4.out hal.size
      have HK5 : Hid (KeptC w v (w4.alloc (Obj.cells #[.int .i64 kind, .string ⟨#[]⟩, .string ⟨#[]⟩, .int .i64 2] 36))) := HK4.out.trans HT4.out (KeptC.below hal)
      have HT5 : Hid (OwnTo w v u2) := HT4.out
      have HNE5 : Hid (u2.ownBlock ≠ some w.heap.size) := HNE4.out
      have HA5 : Hid (NdAt (w4.alloc (Obj.cells #[.int .i64 kind, .string ⟨#[]⟩, .string ⟨#[]⟩, .int .i64 2] 36)) w4.heap.size (⟨kind, ⟨#[]⟩, ⟨#[]⟩, 2⟩ : P.Nd)) := news_nd w4 (⟨kind, ⟨#[]⟩, ⟨#[]⟩, 2⟩ : P.Nd) _
      have HQ5 : Hid (u2.ownBlock ≠ some w4.heap.size) := HO4.out.ne
      have HSB : Hid (w4.heap.size < (w4.alloc (Obj.cells #[.int .i64 kind, .string ⟨#[]⟩, .string ⟨#[]⟩, .int .i64 2] 36)).heap.size) := by show _ < _; simp
      refine hK.out _ _ (hS.below hal) (fun hS => ?_)
      clear hal HO4 HB4 HK4 HT4 HS4 HNE4
      generalize (w4.alloc (Obj.cells #[.int .i64 kind, .string ⟨#[]⟩, .string ⟨#[]⟩, .int .i64 2] 36)) = w5 at *
      generalize w4.heap.size = sb at *
      clear hK K
      refine wpAnyH_ready (rs := [12]) (by kernel_rfl) (by simp) (AllReadyH.cons (o := { dst := some 19, op := _, type := _, pos := _, after := _, guard := none }) rfl (fun K hK => ?_) AllReadyH.nil)
      refine step_append_lies _ (by rfl) (.tmp 15) (.tmp 18) 23 (by rfl) base 36 i0 _ 4 48 Tryz.underlying23 hi0 hz0 hz1 hz2 (by rfl) (by decide) u2 ((xs ++ ys) ++ zs).length _ (by rfl) HO5.out ⟨sb, 0, none⟩ 1 1 (ndv (⟨kind, ⟨#[]⟩, ⟨#[]⟩, 2⟩ : P.Nd)) (by rfl) (by rfl) HA5.out (ndv_one _) (by omega) (by rw [List.length_append, List.length_append]; unfold maxLen; omega) (by rw [List.length_append, List.length_append]; omega) (Nat.le_trans hb (Nat.le_of_lt HS5.out)) w5.heap.size rfl ?_
      intro g cap w9 hown hgrow hto hgl
      have HO9 : Hid (NdOwn w9 base (.slice (some ⟨g, 0, none⟩) (((xs ++ ys) ++ zs).length + 1) cap) (xs ++ (ys ++ zs ++ [(⟨kind, ⟨#[]⟩, ⟨#[]⟩, 2⟩ : P.Nd)]))) := by
        have := ndOwn_snoc hown
        rw [List.append_assoc, List.append_assoc] at this
        rw [List.append_assoc]
        exact this
      have HB9 : Hid (Below base w w9) := HB5.out.grown hgrow (Nat.le_trans hb (Nat.le_of_lt HS5.out)) (fun i hi => HO5.out.block i hi)
      have HK9 : Hid (KeptC w v w9) := HK5.out.trans HT5.out (KeptC.grown hgrow)
      have HT9 : Hid (OwnTo w v (.slice (some ⟨g, 0, none⟩) (((xs ++ ys) ++ zs).length + 1) cap)) := by
        rcases hto with e | e
        · exact HT5.out.trans (.inl e.symm : OwnTo w u2 (.slice (some ⟨g, 0, none⟩) (((xs ++ ys) ++ zs).length + 1) cap)) (Nat.le_refl _)
        · exact .inr ⟨g, by have := HS5.out; omega, rfl⟩
      refine hK.out _ _ (hS.kept (KeptC.grown hgrow) HNE5.out) (fun hS => ?_)
      clear hK K hown hgrow hto
      simp only [Act.put, List.setIfInBounds_toArray, List.set_cons_zero, List.set_cons_succ]
      generalize hlen : ((xs ++ ys) ++ zs).length + 1 = nn at *
      refine wpAnyH_take (i := 13) (oi := { dst := some 6, op := _, type := _, pos := _, after := _, guard := none }) (v := (.slice (some ⟨g, 0, none⟩) nn cap)) rfl (by kernel_rfl) (by kernel_rfl) (by kernel_rfl) (fun _ _ _ h => h) (Or.inl ⟨by rfl, ?_⟩) hS ?_
      · intro wy hy
        obtain ⟨y0, y1⟩ := hy
        go_simp
      simp only [Act.put, List.setIfInBounds_toArray, List.set_cons_zero, List.set_cons_succ]
      refine wpAnyH_done (by kernel_rfl) ?_ _
      go_wp2_with fail
      go_ret
      exact ⟨_, rfl, HO9.out, HB9.out, HK9.out, HT9.out⟩
    · go_simp
      have hal : Below w3.heap.size w3 (w3.alloc (Obj.cells #[.int .i64 kind, .string ⟨#[]⟩, .string ⟨#[]⟩, .int .i64 2] 36)) := (Below.refl _ _).alloc (Nat.le_refl _) _
      have HO4 : Hid (NdOwn (w3.alloc (Obj.cells #[.int .i64 kind, .string ⟨#[]⟩, .string ⟨#[]⟩, .int .i64 2] 36)) base u1 (xs ++ ys)) := HO3.out.below hal
      have HB4 : Hid (Below base w (w3.alloc (Obj.cells #[.int .i64 kind, .string ⟨#[]⟩, .string ⟨#[]⟩, .int .i64 2] 36))) := HB3.out.trans (hal.mono (Nat.le_trans hb (Nat.le_of_lt HS3.out)))
      have HS4 : Hid (w.heap.size < (w3.alloc (Obj.cells #[.int .i64 kind, .string ⟨#[]⟩, .string ⟨#[]⟩, .int .i64 2] 36)).heap.size) := Nat.lt_of_lt_of_le HS3.out hal.size
      have HK4 : Hid (KeptC w v (w3.alloc (Obj.cells #[.int .i64 kind, .string ⟨#[]⟩, .string ⟨#[]⟩, .int .i64 2] 36))) := HK3.out.trans HT3.out (KeptC.below hal)
      have HT4 : Hid (OwnTo w v u1) := HT3.out
      have HNE4 : Hid (u1.ownBlock ≠ some w.heap.size) := HNE3.out
      have HA4 : Hid (NdAt (w3.alloc (Obj.cells #[.int .i64 kind, .string ⟨#[]⟩, .string ⟨#[]⟩, .int .i64 2] 36)) w3.heap.size (⟨kind, ⟨#[]⟩, ⟨#[]⟩, 2⟩ : P.Nd)) := news_nd w3 (⟨kind, ⟨#[]⟩, ⟨#[]⟩, 2⟩ : P.Nd) _
      have HQ4 : Hid (u1.ownBlock ≠ some w3.heap.size) := HO3.out.ne
      have HSB : Hid (w3.heap.size < (w3.alloc (Obj.cells #[.int .i64 kind, .string ⟨#[]⟩, .string ⟨#[]⟩, .int .i64 2] 36)).heap.size) := by show _ < _; simp
      refine hK.out _ _ (hS.below hal) (fun hS => ?_)
      clear hal HO3 HB3 HK3 HT3 HS3 HNE3
      generalize (w3.alloc (Obj.cells #[.int .i64 kind, .string ⟨#[]⟩, .string ⟨#[]⟩, .int .i64 2] 36)) = w4 at *
      generalize w3.heap.size = sb at *
      clear hK K
      refine wpAnyH_ready (rs := [8]) (by kernel_rfl) (by simp) (AllReadyH.cons (o := { dst := some 15, op := _, type := _, pos := _, after := _, guard := none }) rfl (fun K hK => ?_) AllReadyH.nil)
      refine step_meth (by rfl) (.tmp 14) _ #[.tmp 12] #[23] (by rfl) _ (by rfl) #[u1] (map_one _ _) _ (HRs.out _ ⟨fun _ _ => by kernel_rfl, fun _ _ _ => by kernel_rfl, fun _ _ _ _ => by kernel_rfl, fun _ _ _ _ => by kernel_rfl, fun _ _ _ _ _ => by kernel_rfl, fun _ _ _ _ _ => by kernel_rfl⟩ _ HV' base u1 (xs ++ ys) _ HO4.out (Nat.le_trans hb (Nat.le_of_lt HS4.out)) (by rw [HZS.out]; rw [List.length_append]; omega)) ?_
      rintro u2 w5 ⟨ho, hbb, hkk, htt⟩
      have HO5 : Hid (NdOwn w5 base u2 ((xs ++ ys) ++ zs)) := HZS.out ▸ ho
      have HB5 : Hid (Below base w w5) := HB4.out.trans hbb
      have HS5 : Hid (w.heap.size < w5.heap.size) := Nat.lt_of_lt_of_le HS4.out hbb.size
      have HK5 : Hid (KeptC w v w5) := HK4.out.trans HT4.out hkk
      have HT5 : Hid (OwnTo w v u2) := HT4.out.trans htt (Nat.le_of_lt HS4.out)
      have HNE5 : Hid (u2.ownBlock ≠ some w.heap.size) := htt.ne HNE4.out HS4.out
      have HA5 : Hid (NdAt w5 sb (⟨kind, ⟨#[]⟩, ⟨#[]⟩, 2⟩ : P.Nd)) := HA4.out.kept hkk HQ4.out
      have HQ5 : Hid (u2.ownBlock ≠ some sb) := htt.ne HQ4.out HSB.out
      have HSB' : Hid (sb < w5.heap.size) := Nat.lt_of_lt_of_le HSB.out hbb.size
      clear HSB
      have HSB := HSB'
      clear HSB'
      refine hK.out _ _ (hS.kept hkk HNE4.out) (fun hS => ?_)
      clear ho hbb hkk htt HO4 HB4 HK4 HT4 HS4 HNE4
      clear hK K
      simp only [Act.put, List.setIfInBounds_toArray, List.set_cons_zero, List.set_cons_succ]
      refine wpAnyH_ready (rs := [12]) (by kernel_rfl) (by simp) (AllReadyH.cons (o := { dst := some 19, op := _, type := _, pos := _, after := _, guard := none }) rfl (fun K hK => ?_) AllReadyH.nil)
      refine step_append_lies _ (by rfl) (.tmp 15) (.tmp 18) 23 (by rfl) base 36 i0 _ 4 48 Tryz.underlying23 hi0 hz0 hz1 hz2 (by rfl) (by decide) u2 ((xs ++ ys) ++ zs).length _ (by rfl) HO5.out ⟨sb, 0, none⟩ 1 1 (ndv (⟨kind, ⟨#[]⟩, ⟨#[]⟩, 2⟩ : P.Nd)) (by rfl) (by rfl) HA5.out (ndv_one _) (by omega) (by rw [List.length_append, List.length_append]; unfold maxLen; omega) (by rw [List.length_append, List.length_append]; omega) (Nat.le_trans hb (Nat.le_of_lt HS5.out)) w5.heap.size rfl ?_
      intro g cap w9 hown hgrow hto hgl
      have HO9 : Hid (NdOwn w9 base (.slice (some ⟨g, 0, none⟩) (((xs ++ ys) ++ zs).length + 1) cap) (xs ++ (ys ++ zs ++ [(⟨kind, ⟨#[]⟩, ⟨#[]⟩, 2⟩ : P.Nd)]))) := by
        have := ndOwn_snoc hown
        rw [List.append_assoc, List.append_assoc] at this
        rw [List.append_assoc]
        exact this
      have HB9 : Hid (Below base w w9) := HB5.out.grown hgrow (Nat.le_trans hb (Nat.le_of_lt HS5.out)) (fun i hi => HO5.out.block i hi)
      have HK9 : Hid (KeptC w v w9) := HK5.out.trans HT5.out (KeptC.grown hgrow)
      have HT9 : Hid (OwnTo w v (.slice (some ⟨g, 0, none⟩) (((xs ++ ys) ++ zs).length + 1) cap)) := by
        rcases hto with e | e
        · exact HT5.out.trans (.inl e.symm : OwnTo w u2 (.slice (some ⟨g, 0, none⟩) (((xs ++ ys) ++ zs).length + 1) cap)) (Nat.le_refl _)
        · exact .inr ⟨g, by have := HS5.out; omega, rfl⟩
      refine hK.out _ _ (hS.kept (KeptC.grown hgrow) HNE5.out) (fun hS => ?_)
      clear hK K hown hgrow hto
      simp only [Act.put, List.setIfInBounds_toArray, List.set_cons_zero, List.set_cons_succ]
      generalize hlen : ((xs ++ ys) ++ zs).length + 1 = nn at *
      refine wpAnyH_take (i := 13) (oi := { dst := some 6, op := _, type := _, pos := _, after := _, guard := none }) (v := (.slice (some ⟨g, 0, none⟩) nn cap)) rfl (by kernel_rfl) (by kernel_rfl) (by kernel_rfl) (fun _ _ _ h => h) (Or.inl ⟨by rfl, ?_⟩) hS ?_
      · intro wy hy
        obtain ⟨y0, y1⟩ := hy
        go_simp
      simp only [Act.put, List.setIfInBounds_toArray, List.set_cons_zero, List.set_cons_succ]
      refine wpAnyH_done (by kernel_rfl) ?_ _
      go_wp2_with fail
      go_ret
      exact ⟨_, rfl, HO9.out, HB9.out, HK9.out, HT9.out⟩
  · go_simp
    have hal : Below w2.heap.size w2 (w2.alloc (Obj.cells #[.int .i64 kind, .string ⟨#[]⟩, .string ⟨#[]⟩, .int .i64 2] 36)) := (Below.refl _ _).alloc (Nat.le_refl _) _
    have HO3 : Hid (NdOwn (w2.alloc (Obj.cells #[.int .i64 kind, .string ⟨#[]⟩, .string ⟨#[]⟩, .int .i64 2] 36)) base v xs) := HO2.out.below hal
    have HB3 : Hid (Below base w (w2.alloc (Obj.cells #[.int .i64 kind, .string ⟨#[]⟩, .string ⟨#[]⟩, .int .i64 2] 36))) := HB2.out.trans (hal.mono (Nat.le_trans hb (Nat.le_of_lt HS2.out)))
    have HS3 : Hid (w.heap.size < (w2.alloc (Obj.cells #[.int .i64 kind, .string ⟨#[]⟩, .string ⟨#[]⟩, .int .i64 2] 36)).heap.size) := Nat.lt_of_lt_of_le HS2.out hal.size
    have HK3 : Hid (KeptC w v (w2.alloc (Obj.cells #[.int .i64 kind, .string ⟨#[]⟩, .string ⟨#[]⟩, .int .i64 2] 36))) := HK2.out.trans HT2.out (KeptC.below hal)
    have HT3 : Hid (OwnTo w v v) := HT2.out
    have HNE3 : Hid (v.ownBlock ≠ some w.heap.size) := HNE2.out
    have HA3 : Hid (NdAt (w2.alloc (Obj.cells #[.int .i64 kind, .string ⟨#[]⟩, .string ⟨#[]⟩, .int .i64 2] 36)) w2.heap.size (⟨kind, ⟨#[]⟩, ⟨#[]⟩, 2⟩ : P.Nd)) := news_nd w2 (⟨kind, ⟨#[]⟩, ⟨#[]⟩, 2⟩ : P.Nd) _
    have HQ3 : Hid (v.ownBlock ≠ some w2.heap.size) := HO2.out.ne
    have HSB : Hid (w2.heap.size < (w2.alloc (Obj.cells #[.int .i64 kind, .string ⟨#[]⟩, .string ⟨#[]⟩, .int .i64 2] 36)).heap.size) := by show _ < _; simp
    refine hK.out _ _ (hS.below hal) (fun hS => ?_)
    clear hal HO2 HB2 HK2 HT2 HS2 HNE2
    generalize (w2.alloc (Obj.cells #[.int .i64 kind, .string ⟨#[]⟩, .string ⟨#[]⟩, .int .i64 2] 36)) = w3 at *
    generalize w2.heap.size = sb at *
    clear hK K
    refine wpAnyH_ready (rs := [5]) (by kernel_rfl) (by simp) (AllReadyH.cons (o := { dst := some 12, op := _, type := _, pos := _, after := _, guard := none }) rfl (fun K hK => ?_) AllReadyH.nil)
    refine step_meth (by rfl) (.tmp 10) _ #[.tmp 11] #[23] (by rfl) _ (by rfl) #[v] (map_one _ _) _ (HLs.out _ ⟨fun _ _ => by kernel_rfl, fun _ _ _ => by kernel_rfl, fun _ _ _ _ => by kernel_rfl, fun _ _ _ _ => by kernel_rfl, fun _ _ _ _ _ => by kernel_rfl, fun _ _ _ _ _ => by kernel_rfl⟩ _ HV base v xs _ HO3.out (Nat.le_trans hb (Nat.le_of_lt HS3.out)) (by rw [HYS.out]; omega)) ?_
    rintro u1 w4 ⟨ho, hbb, hkk, htt⟩
    have HO4 : Hid (NdOwn w4 base u1 (xs ++ ys)) := HYS.out ▸ ho
    have HB4 : Hid (Below base w w4) := HB3.out.trans hbb
    have HS4 : Hid (w.heap.size < w4.heap.size) := Nat.lt_of_lt_of_le HS3.out hbb.size
    have HK4 : Hid (KeptC w v w4) := HK3.out.trans HT3.out hkk
    have HT4 : Hid (OwnTo w v u1) := HT3.out.trans htt (Nat.le_of_lt HS3.out)
    have HNE4 : Hid (u1.ownBlock ≠ some w.heap.size) := htt.ne HNE3.out HS3.out
    have HA4 : Hid (NdAt w4 sb (⟨kind, ⟨#[]⟩, ⟨#[]⟩, 2⟩ : P.Nd)) := HA3.out.kept hkk HQ3.out
    have HQ4 : Hid (u1.ownBlock ≠ some sb) := htt.ne HQ3.out HSB.out
    have HSB' : Hid (sb < w4.heap.size) := Nat.lt_of_lt_of_le HSB.out hbb.size
    clear HSB
    have HSB := HSB'
    clear HSB'
    refine hK.out _ _ (hS.kept hkk HNE3.out) (fun hS => ?_)
    clear ho hbb hkk htt HO3 HB3 HK3 HT3 HS3 HNE3
    clear hK K
    simp only [Act.put, List.setIfInBounds_toArray, List.set_cons_zero, List.set_cons_succ]
    refine wpAnyH_ready (rs := [8]) (by kernel_rfl) (by simp) (AllReadyH.cons (o := { dst := some 15, op := _, type := _, pos := _, after := _, guard := none }) rfl (fun K hK => ?_) AllReadyH.nil)
    refine step_meth (by rfl) (.tmp 14) _ #[.tmp 12] #[23] (by rfl) _ (by rfl) #[u1] (map_one _ _) _ (HRs.out _ ⟨fun _ _ => by kernel_rfl, fun _ _ _ => by kernel_rfl, fun _ _ _ _ => by kernel_rfl, fun _ _ _ _ => by kernel_rfl, fun _ _ _ _ _ => by kernel_rfl, fun _ _ _ _ _ => by kernel_rfl⟩ _ HV' base u1 (xs ++ ys) _ HO4.out (Nat.le_trans hb (Nat.le_of_lt HS4.out)) (by rw [HZS.out]; rw [List.length_append]; omega)) ?_
    rintro u2 w5 ⟨ho, hbb, hkk, htt⟩
    have HO5 : Hid (NdOwn w5 base u2 ((xs ++ ys) ++ zs)) := HZS.out ▸ ho
    have HB5 : Hid (Below base w w5) := HB4.out.trans hbb
    have HS5 : Hid (w.heap.size < w5.heap.size) := Nat.lt_of_lt_of_le HS4.out hbb.size
    have HK5 : Hid (KeptC w v w5) := HK4.out.trans HT4.out hkk
    have HT5 : Hid (OwnTo w v u2) := HT4.out.trans htt (Nat.le_of_lt HS4.out)
    have HNE5 : Hid (u2.ownBlock ≠ some w.heap.size) := htt.ne HNE4.out HS4.out
    have HA5 : Hid (NdAt w5 sb (⟨kind, ⟨#[]⟩, ⟨#[]⟩, 2⟩ : P.Nd)) := HA4.out.kept hkk HQ4.out
    have HQ5 : Hid (u2.ownBlock ≠ some sb) := htt.ne HQ4.out HSB.out
    have HSB' : Hid (sb < w5.heap.size) := Nat.lt_of_lt_of_le HSB.out hbb.size
    clear HSB
    have HSB := HSB'
    clear HSB'
    refine hK.out _ _ (hS.kept hkk HNE4.out) (fun hS => ?_)
    clear ho hbb hkk htt HO4 HB4 HK4 HT4 HS4 HNE4
    clear hK K
    simp only [Act.put, List.setIfInBounds_toArray, List.set_cons_zero, List.set_cons_succ]
    refine wpAnyH_ready (rs := [12]) (by kernel_rfl) (by simp) (AllReadyH.cons (o := { dst := some 19, op := _, type := _, pos := _, after := _, guard := none }) rfl (fun K hK => ?_) AllReadyH.nil)
    refine step_append_lies _ (by rfl) (.tmp 15) (.tmp 18) 23 (by rfl) base 36 i0 _ 4 48 Tryz.underlying23 hi0 hz0 hz1 hz2 (by rfl) (by decide) u2 ((xs ++ ys) ++ zs).length _ (by rfl) HO5.out ⟨sb, 0, none⟩ 1 1 (ndv (⟨kind, ⟨#[]⟩, ⟨#[]⟩, 2⟩ : P.Nd)) (by rfl) (by rfl) HA5.out (ndv_one _) (by omega) (by rw [List.length_append, List.length_append]; unfold maxLen; omega) (by rw [List.length_append, List.length_append]; omega) (Nat.le_trans hb (Nat.le_of_lt HS5.out)) w5.heap.size rfl ?_
    intro g cap w9 hown hgrow hto hgl
    have HO9 : Hid (NdOwn w9 base (.slice (some ⟨g, 0, none⟩) (((xs ++ ys) ++ zs).length + 1) cap) (xs ++ (ys ++ zs ++ [(⟨kind, ⟨#[]⟩, ⟨#[]⟩, 2⟩ : P.Nd)]))) := by
      have := ndOwn_snoc hown
      rw [List.append_assoc, List.append_assoc] at this
      rw [List.append_assoc]
      exact this
    have HB9 : Hid (Below base w w9) := HB5.out.grown hgrow (Nat.le_trans hb (Nat.le_of_lt HS5.out)) (fun i hi => HO5.out.block i hi)
    have HK9 : Hid (KeptC w v w9) := HK5.out.trans HT5.out (KeptC.grown hgrow)
    have HT9 : Hid (OwnTo w v (.slice (some ⟨g, 0, none⟩) (((xs ++ ys) ++ zs).length + 1) cap)) := by
      rcases hto with e | e
      · exact HT5.out.trans (.inl e.symm : OwnTo w u2 (.slice (some ⟨g, 0, none⟩) (((xs ++ ys) ++ zs).length + 1) cap)) (Nat.le_refl _)
      · exact .inr ⟨g, by have := HS5.out; omega, rfl⟩
    refine hK.out _ _ (hS.kept (KeptC.grown hgrow) HNE5.out) (fun hS => ?_)
    clear hK K hown hgrow hto
    simp only [Act.put, List.setIfInBounds_toArray, List.set_cons_zero, List.set_cons_succ]
    generalize hlen : ((xs ++ ys) ++ zs).length + 1 = nn at *
    refine wpAnyH_take (i := 13) (oi := { dst := some 6, op := _, type := _, pos := _, after := _, guard := none }) (v := (.slice (some ⟨g, 0, none⟩) nn cap)) rfl (by kernel_rfl) (by kernel_rfl) (by kernel_rfl) (fun _ _ _ h => h) (Or.inl ⟨by rfl, ?_⟩) hS ?_
    · intro wy hy
      obtain ⟨y0, y1⟩ := hy
      go_simp
    simp only [Act.put, List.setIfInBounds_toArray, List.set_cons_zero, List.set_cons_succ]
    refine wpAnyH_done (by kernel_rfl) ?_ _
    go_wp2_with fail
    go_ret
    exact ⟨_, rfl, HO9.out, HB9.out, HK9.out, HT9.out⟩

set_option maxHeartbeats 1000000 in
theorem bothList_any (s t : P.Tr) (hs : P.wf s) (ht : P.wf t) (hl : LstOk s) (hr : LstOk t) (h : Int) (base : Nat) (v : Value) (xs : List P.Nd) (w : World) (ho : NdOwn w base v xs) (hb : base ≤ w.heap.size) (hn : xs.length + ((post s).length + (post t).length + 1) ≤ 1000) :
    Calls Tryz.prog 141 #[.agg #[val s, val t, .int .i64 h], v] w fun e w' => ∃ u, e = .returned u ∧ LstR base w v xs (post s ++ post t ++ [(⟨4, ⟨#[]⟩, ⟨#[]⟩, 2⟩ : P.Nd)]) u w' := by
  have HO : Hid (NdOwn w base v xs) := ho
  have HLs : Hid (LstOk s) := hl
  have HRs : Hid (LstOk t) := hr
  have hal : Below w.heap.size w (w.alloc (Obj.cells #[val s, val t, .int .i64 h] 152)) := (Below.refl _ _).alloc (Nat.le_refl _) _
  have HO1 : Hid (NdOwn (w.alloc (Obj.cells #[val s, val t, .int .i64 h] 152)) base v xs) := ho.below hal
  have HB1 : Hid (Below base w (w.alloc (Obj.cells #[val s, val t, .int .i64 h] 152))) := hal.mono hb
  have HK1 : Hid (KeptC w v (w.alloc (Obj.cells #[val s, val t, .int .i64 h] 152))) := KeptC.below hal
  have hs1 : base ≤ (w.alloc (Obj.cells #[val s, val t, .int .i64 h] 152)).heap.size := by simp; omega
  have hs2 : w.heap.size ≤ (w.alloc (Obj.cells #[val s, val t, .int .i64 h] 152)).heap.size := by simp
  clear ho hl hr hal
  obtain ⟨ty, q, hv⟩ := val_iface hs
  obtain ⟨ty', q', hv'⟩ := val_iface ht
  have HV : Hid (val s = .iface ty q) := hv
  have HV' : Hid (val t = .iface ty' q') := hv'
  have CT := fun W hW hB => pairList_any s t hs ht HLs.out HRs.out h 4 base v xs W hW hB hn
  have HCT := Hid.intro CT
  rw [hv, hv'] at HCT HO1 HB1 HK1 hs1 hs2 ⊢
  clear CT hv hv'
  go_enter Tryz.func141, Tryz.ntmps141
  go_wp2_with fail
  refine (HCT.out _ HO1.out hs1).mono ?_
  rintro e w2 ⟨u, rfl, ho2, hb2, hk2, ht2⟩
  have HO2 : Hid (NdOwn w2 base u (xs ++ (post s ++ post t ++ [(⟨4, ⟨#[]⟩, ⟨#[]⟩, 2⟩ : P.Nd)]))) := ho2
  have HB2 : Hid (Below base w w2) := HB1.out.trans hb2
  have HK2 : Hid (KeptC w v w2) := HK1.out.trans (OwnTo.refl _ _) hk2
  have HT2 : Hid (OwnTo w v u) := (OwnTo.refl w v).trans ht2 hs2
  clear ho2 hb2 hk2 ht2 HCT
  go_wp2_with fail
  go_ret
  exact ⟨_, rfl, HO2.out, HB2.out, HK2.out, HT2.out⟩

set_option maxHeartbeats 1000000 in
theorem eitherList_any (s t : P.Tr) (hs : P.wf s) (ht : P.wf t) (hl : LstOk s) (hr : LstOk t) (h : Int) (base : Nat) (v : Value) (xs : List P.Nd) (w : World) (ho : NdOwn w base v xs) (hb : base ≤ w.heap.size) (hn : xs.length + ((post s).length + (post t).length + 1) ≤ 1000) :
    Calls Tryz.prog 147 #[.agg #[val s, val t, .int .i64 h], v] w fun e w' => ∃ u, e = .returned u ∧ LstR base w v xs (post s ++ post t ++ [(⟨5, ⟨#[]⟩, ⟨#[]⟩, 2⟩ : P.Nd)]) u w' := by
  have HO : Hid (NdOwn w base v xs) := ho
  have HLs : Hid (LstOk s) := hl
  have HRs : Hid (LstOk t) := hr
  have hal : Below w.heap.size w (w.alloc (Obj.cells #[val s, val t, .int .i64 h] 153)) := (Below.refl _ _).alloc (Nat.le_refl _) _
  have HO1 : Hid (NdOwn (w.alloc (Obj.cells #[val s, val t, .int .i64 h] 153)) base v xs) := ho.below hal
  have HB1 : Hid (Below base w (w.alloc (Obj.cells #[val s, val t, .int .i64 h] 153))) := hal.mono hb
  have HK1 : Hid (KeptC w v (w.alloc (Obj.cells #[val s, val t, .int .i64 h] 153))) := KeptC.below hal
  have hs1 : base ≤ (w.alloc (Obj.cells #[val s, val t, .int .i64 h] 153)).heap.size := by simp; omega
  have hs2 : w.heap.size ≤ (w.alloc (Obj.cells #[val s, val t, .int .i64 h] 153)).heap.size := by simp
  clear ho hl hr hal
  obtain ⟨ty, q, hv⟩ := val_iface hs
  obtain ⟨ty', q', hv'⟩ := val_iface ht
  have HV : Hid (val s = .iface ty q) := hv
  have HV' : Hid (val t = .iface ty' q') := hv'
  have CT := fun W hW hB => pairList_any s t hs ht HLs.out HRs.out h 5 base v xs W hW hB hn
  have HCT := Hid.intro CT
  rw [hv, hv'] at HCT HO1 HB1 HK1 hs1 hs2 ⊢
  clear CT hv hv'
  go_enter Tryz.func147, Tryz.ntmps147
  go_wp2_with fail
  refine (HCT.out _ HO1.out hs1).mono ?_
  rintro e w2 ⟨u, rfl, ho2, hb2, hk2, ht2⟩
  have HO2 : Hid (NdOwn w2 base u (xs ++ (post s ++ post t ++ [(⟨5, ⟨#[]⟩, ⟨#[]⟩, 2⟩ : P.Nd)]))) := ho2
  have HB2 : Hid (Below base w w2) := HB1.out.trans hb2
  have HK2 : Hid (KeptC w v w2) := HK1.out.trans (OwnTo.refl _ _) hk2
  have HT2 : Hid (OwnTo w v u) := (OwnTo.refl w v).trans ht2 hs2
  clear ho2 hb2 hk2 ht2 HCT
  go_wp2_with fail
  go_ret
  exact ⟨_, rfl, HO2.out, HB2.out, HK2.out, HT2.out⟩

theorem lst_ok : ∀ (t : P.Tr), P.wf t → LstOk t := by
  refine P.wf_ind ?_ ?_ ?_ ?_ ?_ ?_
  · intro name H x hx base v xs w ho hb hl
    rw [← hx.out]
    exact ⟨_, _, H.c0 v w, nothList_any base v xs w ho hb hl⟩
  · intro n name H x hx base v xs w ho hb hl
    rw [← hx.out]
    exact ⟨_, _, H.c1 n v w, namedList_any n base v xs w ho hb hl⟩
  · intro n m name H x hx base v xs w ho hb hl
    rw [← hx.out]
    exact ⟨_, _, H.c2 n m v w, valuedList_any n m base v xs w ho hb hl⟩
  · intro k hw hk name H x hx base v xs w ho hb hl
    rw [← hx.out]
    exact ⟨_, _, H.c3 _ _ v w, oppList_any k hw hk _ base v xs w ho hb (by rw [post_nt] at hl; simpa using hl)⟩
  · intro a b ha hb hka hkb name H x hx base v xs w ho hb' hl
    rw [← hx.out]
    exact ⟨_, _, H.c4 _ _ _ v w, bothList_any a b ha hb hka hkb _ base v xs w ho hb' (by rw [post_an] at hl; simpa [Nat.add_assoc] using hl)⟩
  · intro a b ha hb hka hkb name H x hx base v xs w ho hb' hl
    rw [← hx.out]
    exact ⟨_, _, H.c5 _ _ _ v w, eitherList_any a b ha hb hka hkb _ base v xs w ho hb' (by rw [post_or] at hl; simpa [Nat.add_assoc] using hl)⟩

end Go.Proofs.YthjicahpfhjfdaaGreatDoor
