import Derived.Test.YtlangcodelcncaaGreatTkp
import Derived.Maps.OwnSet
namespace Go.Proofs.YtlangcodelcncaaGreat
open Go.RowKit Go.WideMaps Go.Maps

structure QIn (q : Pcl) (b3 : Option Addr) (lo : Nat) (w : World) : Prop where
  s3 : SliceC WntC 7 lo w b3 q.wants
  p3 : ∀ b o s, b3 = some ⟨b, o, s⟩ → s = none
  z3 : SzWnt q.wants 1048576
  l3 : q.wants.length ≤ 1048576
  zb : q.berth.size ≤ 1048576
  zh : q.hold.size ≤ 1048576
  zc : q.copy.size ≤ 1048576

structure BthI (y : Mte) (p lo kb : Nat) (W0 : World) (a5 : Option Addr) (c5 : Nat) (o6 : Option Addr) (k6 j6 : Nat) (o7 : Option Addr) (k7 j7 : Nat) (o8 : Option Addr) (k8 j8 : Nat) (m1 : Option Nat) (m2 n2 m3 n3 m4 n4 : Nat) (D2 D3 D4 : DataW Unit) (w : World) : Prop where
  hP : Blk p #[.string y.name, .bool y.up, .int .i64 y.clock, .bool y.known, .int .i64 y.seen, .slice a5 y.wants.length c5, .slice o6 k6 j6, .slice o7 k7 j7, .slice o8 k8 j8, .map m1, .map (some m2), .map (some m3), .map (some m4)] 114 w
  M2 : w.ownsMap Tryz.prog 9 elRn m2 n2 D2
  M3 : w.ownsMap Tryz.prog 9 aksElem m3 n3 D3
  M4 : w.ownsMap Tryz.prog 9 aksElem m4 n4 D4
  nn : n2 ≤ kb ∧ n3 ≤ kb ∧ n4 ≤ kb
  T2 : TabR D2 y.runs
  T3 : TabA D3 y.asks
  T4 : TabA D4 y.gives
  A6 : ascTo (y.runs.map (·.want.copy)) y.runs.length = true
  A7 : ascTo (y.asks.map (·.hold)) y.asks.length = true
  A8 : ascTo (y.gives.map (·.hold)) y.gives.length = true
  s5 : SliceC WntC 7 lo W0 a5 y.wants
  p5 : ∀ b o s, a5 = some ⟨b, o, s⟩ → s = none
  sz : MSz y
  ab : ∀ a ∈ y.asks, 0 ≤ a.first ∧ a.at_ ≤ 1000000
  ord : W0.heap.size ≤ m2 ∧ m2 < m3 ∧ m3 < m4 ∧ m4 < p
  hB : Below W0.heap.size W0 w

def Bth (y : Mte) (p lo kb : Nat) (W0 w : World) : Prop := ∃ a5 c5 o6 k6 j6 o7 k7 j7 o8 k8 j8 m1 m2 n2 m3 n3 m4 n4 D2 D3 D4, BthI y p lo kb W0 a5 c5 o6 k6 j6 o7 k7 j7 o8 k8 j8 m1 m2 n2 m3 n3 m4 n4 D2 D3 D4 w

theorem own_heap {H : Type} {P : Program} {k : TypeId} {R : Value → Option (DataW H × List MemPlace)} {w w' : World} {b n : Nat} {D : DataW H} (h : w.ownsMap P k R b n D) (e : w'.heap[b]? = w.heap[b]?) : w'.ownsMap P k R b n D := by
  obtain ⟨es, clock, hb, F, hs, rfl⟩ := h
  exact ⟨es, clock, e.trans hb, F, hs, rfl⟩

theorem BthI.below {y : Mte} {p lo kb : Nat} {W0 : World} {a5 : Option Addr} {c5 : Nat} {o6 : Option Addr} {k6 j6 : Nat} {o7 : Option Addr} {k7 j7 : Nat} {o8 : Option Addr} {k8 j8 : Nat} {m1 : Option Nat} {m2 n2 m3 n3 m4 n4 : Nat} {D2 D3 D4 : DataW Unit} {w w' : World} (h : BthI y p lo kb W0 a5 c5 o6 k6 j6 o7 k7 j7 o8 k8 j8 m1 m2 n2 m3 n3 m4 n4 D2 D3 D4 w) (hb : Below w.heap.size w w') : BthI y p lo kb W0 a5 c5 o6 k6 j6 o7 k7 j7 o8 k8 j8 m1 m2 n2 m3 n3 m4 n4 D2 D3 D4 w' :=
  ⟨h.hP.below hb h.hP.lt, ownsMap_below h.M2 hb h.M2.lt, ownsMap_below h.M3 hb h.M3.lt, ownsMap_below h.M4 hb h.M4.lt, h.nn, h.T2, h.T3, h.T4, h.A6, h.A7, h.A8, h.s5, h.p5, h.sz, h.ab, h.ord, h.hB.trans (hb.mono h.hB.size)⟩

theorem look_okA {m n : Nat} {D : DataW Unit} {xs : List Aks} {s : ByteArray} (ht : TabA D xs) (hs : s.size ≤ 1048576) :
    (∃ x, xs.find? (fun a => decide (a.hold = s)) = some x ∧ ∀ v : World, v.ownsMap Tryz.prog 9 aksElem m n D → (Instr.lookup 110 (.map (some m)) (.string s) true).run Tryz.prog v = .ok (.tuple #[.agg #[.string x.hold, .string x.copy, .int .i64 x.first, .int .i64 x.at_], .bool true]) v) ∨
    (xs.find? (fun a => decide (a.hold = s)) = none ∧ ∀ v : World, v.ownsMap Tryz.prog 9 aksElem m n D → (Instr.lookup 110 (.map (some m)) (.string s) true).run Tryz.prog v = .ok (.tuple #[.agg #[.string ⟨#[]⟩, .string ⟨#[]⟩, .int .i64 0, .int .i64 0], .bool false]) v) := by
  have hz : s.size ≤ maxLen := by unfold maxLen; omega
  cases hf : xs.find? (fun a => decide (a.hold = s)) with
  | some x =>
    have hx := List.mem_of_find?_eq_some hf
    have he : x.hold = s := by have := List.find?_some hf; exact of_decide_eq_true this
    refine .inl ⟨x, rfl, fun v hv => ?_⟩
    obtain ⟨u, ps, hrun, hu⟩ := hv.look_ok law_str Tryz.underlying110 (zero_ask _) (aksElem_mk ⟨⟨#[]⟩, ⟨#[]⟩, 0, 0⟩) (keyOf_string_mk Tryz.underlying9 hz)
    have hh : has D (kOf s) = true := by
      rw [ht.has_ s, List.any_eq_true]
      exact ⟨x, hx, decide_eq_true he⟩
    have hv2 : aksElem u = some (datA x, ps) := hu.trans (congrArg (fun d => some (d, ps)) (he ▸ ht.at_ x hx))
    obtain ⟨z, rfl, e⟩ := aksElem_inv hv2
    have : x = z := datA_inj (congrArg Prod.fst e)
    subst this
    rw [hrun]
    exact congrArg (fun b => Result.ok (Value.tuple #[.agg #[.string x.hold, .string x.copy, .int .i64 x.first, .int .i64 x.at_], .bool b]) v) hh
  | none =>
    refine .inr ⟨rfl, fun v hv => ?_⟩
    obtain ⟨u, ps, hrun, hu⟩ := hv.look_ok law_str Tryz.underlying110 (zero_ask _) (aksElem_mk ⟨⟨#[]⟩, ⟨#[]⟩, 0, 0⟩) (keyOf_string_mk Tryz.underlying9 hz)
    have hh : has D (kOf s) = false := by
      rw [ht.has_ s, List.any_eq_false]
      intro a ha
      exact List.find?_eq_none.1 hf a ha
    have hv2 : aksElem u = some (datA ⟨⟨#[]⟩, ⟨#[]⟩, 0, 0⟩, ps) := hu.trans (congrArg (fun d => some (d, ps)) (atKey_of_not_has hh _))
    obtain ⟨z, rfl, e⟩ := aksElem_inv hv2
    have : (⟨⟨#[]⟩, ⟨#[]⟩, 0, 0⟩ : Aks) = z := datA_inj (congrArg Prod.fst e)
    subst this
    rw [hrun]
    exact congrArg (fun b => Result.ok (Value.tuple #[.agg #[.string ⟨#[]⟩, .string ⟨#[]⟩, .int .i64 0, .int .i64 0], .bool b]) v) hh

theorem look_okR {m n : Nat} {D : DataW Unit} {xs : List Rn} {s : ByteArray} (ht : TabR D xs) (hs : s.size ≤ 1048576) :
    (∃ r, xs.find? (fun a => decide (a.want.copy = s)) = some r ∧ ∀ v : World, v.ownsMap Tryz.prog 9 elRn m n D → (Instr.lookup 107 (.map (some m)) (.string s) true).run Tryz.prog v = .ok (.tuple #[.agg #[.string r.want.copy, .int .i64 r.want.version, .string r.want.hold, .int .i64 r.want.pull, .int .i64 r.want.start, .int .i64 r.want.dies, .int .i64 r.want.grace, .int .i64 r.state, .int .i64 r.left, .int .i64 r.falls, .int .i64 r.until_], .bool true]) v) ∨
    (xs.find? (fun a => decide (a.want.copy = s)) = none ∧ ∀ v : World, v.ownsMap Tryz.prog 9 elRn m n D → (Instr.lookup 107 (.map (some m)) (.string s) true).run Tryz.prog v = .ok (.tuple #[.agg #[.string ⟨#[]⟩, .int .i64 0, .string ⟨#[]⟩, .int .i64 0, .int .i64 0, .int .i64 0, .int .i64 0, .int .i64 0, .int .i64 0, .int .i64 0, .int .i64 0], .bool false]) v) := by
  have hz : s.size ≤ maxLen := by unfold maxLen; omega
  cases hf : xs.find? (fun a => decide (a.want.copy = s)) with
  | some r =>
    have hx := List.mem_of_find?_eq_some hf
    have he : r.want.copy = s := by have := List.find?_some hf; exact of_decide_eq_true this
    refine .inl ⟨r, rfl, fun v hv => ?_⟩
    obtain ⟨u, ps, hrun, hu⟩ := hv.look_ok law_str Tryz.underlying107 (zero_run _) (elRn_mk ⟨⟨⟨#[]⟩, 0, ⟨#[]⟩, 0, 0, 0, 0⟩, 0, 0, 0, 0⟩) (keyOf_string_mk Tryz.underlying9 hz)
    have hh : has D (kOf s) = true := by
      rw [ht.has_ s, List.any_eq_true]
      exact ⟨r, hx, decide_eq_true he⟩
    have hv2 : elRn u = some (dtRn r, ps) := hu.trans (congrArg (fun d => some (d, ps)) (he ▸ ht.at_ r hx))
    obtain ⟨z, rfl, e⟩ := elRn_inv hv2
    have : r = z := dtRn_inj (congrArg Prod.fst e)
    subst this
    rw [hrun]
    exact congrArg (fun b => Result.ok (Value.tuple #[.agg #[.string r.want.copy, .int .i64 r.want.version, .string r.want.hold, .int .i64 r.want.pull, .int .i64 r.want.start, .int .i64 r.want.dies, .int .i64 r.want.grace, .int .i64 r.state, .int .i64 r.left, .int .i64 r.falls, .int .i64 r.until_], .bool b]) v) hh
  | none =>
    refine .inr ⟨rfl, fun v hv => ?_⟩
    obtain ⟨u, ps, hrun, hu⟩ := hv.look_ok law_str Tryz.underlying107 (zero_run _) (elRn_mk ⟨⟨⟨#[]⟩, 0, ⟨#[]⟩, 0, 0, 0, 0⟩, 0, 0, 0, 0⟩) (keyOf_string_mk Tryz.underlying9 hz)
    have hh : has D (kOf s) = false := by
      rw [ht.has_ s, List.any_eq_false]
      intro a ha
      exact List.find?_eq_none.1 hf a ha
    have hv2 : elRn u = some (dtRn ⟨⟨⟨#[]⟩, 0, ⟨#[]⟩, 0, 0, 0, 0⟩, 0, 0, 0, 0⟩, ps) := hu.trans (congrArg (fun d => some (d, ps)) (atKey_of_not_has hh _))
    obtain ⟨z, rfl, e⟩ := elRn_inv hv2
    have : (⟨⟨⟨#[]⟩, 0, ⟨#[]⟩, 0, 0, 0, 0⟩, 0, 0, 0, 0⟩ : Rn) = z := dtRn_inj (congrArg Prod.fst e)
    subst this
    rw [hrun]
    exact congrArg (fun b => Result.ok (Value.tuple #[.agg #[.string ⟨#[]⟩, .int .i64 0, .string ⟨#[]⟩, .int .i64 0, .int .i64 0, .int .i64 0, .int .i64 0, .int .i64 0, .int .i64 0, .int .i64 0, .int .i64 0], .bool b]) v) hh

theorem BthI.under {y : Mte} {p lo kb B : Nat} {W0 : World} {a5 : Option Addr} {c5 : Nat} {o6 : Option Addr} {k6 j6 : Nat} {o7 : Option Addr} {k7 j7 : Nat} {o8 : Option Addr} {k8 j8 : Nat} {m1 : Option Nat} {m2 n2 m3 n3 m4 n4 : Nat} {D2 D3 D4 : DataW Unit} {w w' : World} (h : BthI y p lo kb W0 a5 c5 o6 k6 j6 o7 k7 j7 o8 k8 j8 m1 m2 n2 m3 n3 m4 n4 D2 D3 D4 w) (hb : Below B w w') (hB : p < B) : BthI y p lo kb W0 a5 c5 o6 k6 j6 o7 k7 j7 o8 k8 j8 m1 m2 n2 m3 n3 m4 n4 D2 D3 D4 w' := by
  have ho := h.ord
  exact ⟨h.hP.below hb hB, ownsMap_below h.M2 hb (by omega), ownsMap_below h.M3 hb (by omega), ownsMap_below h.M4 hb (by omega), h.nn, h.T2, h.T3, h.T4, h.A6, h.A7, h.A8, h.s5, h.p5, h.sz, h.ab, h.ord, h.hB.trans (hb.mono (by omega))⟩

theorem blk_grown {p b : Nat} {cs : Array Value} {t : TypeId} {w w' : World} (h : Blk p cs t w) (hg : w.grownBy w' (some b)) (hne : p ≠ b) : Blk p cs t w' :=
  (hg.block p h.lt (fun e => hne (Option.some.inj e))).trans h

theorem own_grown {H : Type} {P : Program} {k : TypeId} {R : Value → Option (DataW H × List MemPlace)} {w w' : World} {b m n : Nat} {D : DataW H} (h : w.ownsMap P k R b n D) (hg : w.grownBy w' (some m)) (hne : b ≠ m) : w'.ownsMap P k R b n D :=
  own_heap h (hg.block b h.lt (fun e => hne (Option.some.inj e)))

theorem wp_delete {P : Program} {op : Oper} {a : Act} {w w' : World} {K : Act → World → Prop} {Q : Exit → Act → World → Prop} (m x : Operand) (t k : TypeId) (hop : op.op = Op.call { callee := Callee.builtin Builtin.delete, args := #[m, x], argTypes := #[t, k] }) (b : Nat) (key : Value)
    (hm : a.eval m = .map (some b)) (hx : a.eval x = key) (hrun : (Builtin.delete_ #[t, k] op.type #[.map (some b), key]).run P w = .ok (.tuple #[]) w') (hK : K (a.put op.dst (.tuple #[])) w') : op.wp P a w K Q := by
  unfold Oper.wp
  simp [execOp, hop, resolve, invoke, builtin, hm, hx, hrun, Result.andThen]
  exact hK

theorem BthI.more {y : Mte} {p lo kb : Nat} {W0 : World} {a5 : Option Addr} {c5 : Nat} {o6 : Option Addr} {k6 j6 : Nat} {o7 : Option Addr} {k7 j7 : Nat} {o8 : Option Addr} {k8 j8 : Nat} {m1 : Option Nat} {m2 n2 m3 n3 m4 n4 : Nat} {D2 D3 D4 : DataW Unit} {w : World} (h : BthI y p lo kb W0 a5 c5 o6 k6 j6 o7 k7 j7 o8 k8 j8 m1 m2 n2 m3 n3 m4 n4 D2 D3 D4 w) : BthI y p lo (kb + 1) W0 a5 c5 o6 k6 j6 o7 k7 j7 o8 k8 j8 m1 m2 n2 m3 n3 m4 n4 D2 D3 D4 w :=
  ⟨h.hP, h.M2, h.M3, h.M4, ⟨Nat.le_succ_of_le h.nn.1, Nat.le_succ_of_le h.nn.2.1, Nat.le_succ_of_le h.nn.2.2⟩, h.T2, h.T3, h.T4, h.A6, h.A7, h.A8, h.s5, h.p5, h.sz, h.ab, h.ord, h.hB⟩

end Go.Proofs.YtlangcodelcncaaGreat
