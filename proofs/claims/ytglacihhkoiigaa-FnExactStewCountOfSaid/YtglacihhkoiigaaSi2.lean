/-
  A stewards' book in which things are found: a map whose keys are structs. Made by mksi2.py.
-/
import Derived.Test.YtglacihhkoiigaaSt4
import Derived.Test.YtglacihhkoiigaaSi1
import Derived.Maps.Own
import Derived.Maps.OwnSet
import Derived.Maps.Views
import Derived.DeepKeys4
import Derived.Deep.RegionHeld3
namespace Go.Proofs.Ytglacihhkoiigaa
open Go.RowKit Go.WideMaps Go.Maps

theorem bl_irr : ∀ x, Op.bytesLess x x = false
  | [] => rfl
  | a :: x => by simp [Op.bytesLess, bl_irr x]

theorem bl_tr : ∀ x y z, Op.bytesLess x y = true → Op.bytesLess y z = true → Op.bytesLess x z = true
  | _, _, [], _, h => by simp [Op.bytesLess] at h
  | [], _, _ :: _, _, _ => rfl
  | a :: x, [], c :: z, h, _ => by simp [Op.bytesLess] at h
  | a :: x, b :: y, c :: z, h1, h2 => by
    simp only [Op.bytesLess, Bool.or_eq_true, Bool.and_eq_true, decide_eq_true_eq, beq_iff_eq] at h1 h2 ⊢
    rcases h1 with h1 | ⟨rfl, h1⟩
    · rcases h2 with h2 | ⟨rfl, h2⟩
      · exact Or.inl (UInt8.lt_trans h1 h2)
      · exact Or.inl h1
    · rcases h2 with h2 | ⟨rfl, h2⟩
      · exact Or.inl h2
      · exact Or.inr ⟨rfl, bl_tr x y z h1 h2⟩

theorem law_key : Keyed Try.prog 90 := Keyed.of_law (deep_law (m := 3) (by omega) (by kernel_rfl) (by kernel_rfl) (by kernel_rfl))
theorem zero_int (w : World) : (zeroValue 3).run Try.prog w = .ok (.int .i64 0) w := by kernel_rfl

theorem run_makeMapHint {P : Program} {t k e : TypeId} (hu : P.underlying t = some (.map k e)) (q : IntKind) (n : Int) (w : World) : (Instr.makeMap t (some (.int q n))).run P w = .ok (.map (some w.heap.size)) (w.alloc (.map #[] 0)) := by
  simp [Instr.makeMap, run_underlying hu, asInt, asIntOf, Result.andThen]

/-- a kind and a name as a key -/
def kK (q : Int) (s : ByteArray) : Lit := .string (keyBytes [.int .i64 q, .string s.data.toList])

theorem bytesLE_length : ∀ (k n : Nat), (bytesLE k n).length = k
  | 0, _ => rfl
  | k + 1, n => by simp [bytesLE, bytesLE_length k]

theorem bytesBE_length (k n : Nat) : (bytesBE k n).length = k := by simp [bytesBE, bytesLE_length]

theorem kK_bytes (q : Int) (s : ByteArray) : keyBytes [.int .i64 q, .string s.data.toList] = bytesBE 8 (q % 2 ^ 64).toNat ++ (bytesBE 8 s.data.toList.length ++ s.data.toList) := by
  simp [keyBytes, Lit.keyBytes, IntKind.bits]

theorem kK_inj {q : Int} {s t : ByteArray} (h : kK q s = kK q t) : s = t := by
  unfold kK at h
  injection h with h
  rw [kK_bytes, kK_bytes] at h
  have h2 := List.append_cancel_left h
  have h3 := (List.append_inj h2 (by rw [bytesBE_length, bytesBE_length])).2
  cases s with | mk a => cases t with | mk b => cases a; cases b; simp at h3; simp [h3]

theorem kK_apart (s t : ByteArray) : kK 0 s ≠ kK 1 t := by
  intro h
  unfold kK at h
  injection h with h
  rw [kK_bytes, kK_bytes] at h
  have h3 := (List.append_inj h (by rw [bytesBE_length, bytesBE_length])).1
  revert h3
  decide

theorem kK_key (q : Int) (s : ByteArray) : WideAt.IsKeyLit (kK q s) := trivial

theorem keyOf_key {q : Int} {s : ByteArray} (hq : (Lit.int .i64 q).wf = true) (hs : s.size ≤ maxLen) : keyOf Try.prog 90 (.agg #[.int .i64 q, .string s]) = some (kK q s) := by
  have e1 : Try.prog.keyType 90 = true := by kernel_rfl
  have e2 : (Value.agg #[.int .i64 q, .string s]).formed Try.prog 90 = true := by kernel_rfl
  have u1 := Try.underlying90
  have u2 := Try.underlying88
  have u3 := Try.underlying9
  have k1 : Try.prog.cellsOf 90 = 2 := by kernel_rfl
  have k2 : Try.prog.cellsOf 88 = 1 := by kernel_rfl
  have k3 : Try.prog.cellsOf 9 = 1 := by kernel_rfl
  have e3 : ∀ d, Try.prog.keyLits (d + 2) 90 [.int .i64 q, .string s] = some [.int .i64 q, .string s.data.toList] := by
    intro d
    simp [Program.keyLits, u1, k1, k2, k3, u2, u3, hq, hs]
  obtain ⟨d, hd⟩ : ∃ d, Try.prog.types.size + 1 = d + 2 := ⟨Try.prog.types.size - 1, by have : 1 ≤ Try.prog.types.size := of_decide_eq_true (by kernel_rfl); omega⟩
  unfold keyOf
  rw [u1]
  simp only [e1, e2, Bool.and_self, if_true]
  rw [hd, show (Value.agg #[.int .i64 q, .string s]).cells.toList = [.int .i64 q, .string s] from rfl, e3 d]
  rfl

/-- the places of services, then those of berths -/
def plS (ns : List ByteArray) : Nat → DataW Unit
  | 0 => .map []
  | k + 1 => match ns[k]? with
    | some s => (plS ns k).put (kK 0 s) (.lit (.int .i64 k))
    | none => plS ns k
def plB (D : DataW Unit) (ns : List ByteArray) : Nat → DataW Unit
  | 0 => D
  | k + 1 => match ns[k]? with
    | some s => (plB D ns k).put (kK 1 s) (.lit (.int .i64 k))
    | none => plB D ns k

theorem plS_isMap (ns : List ByteArray) : ∀ k, IsMap (plS ns k)
  | 0 => ⟨_, rfl⟩
  | k + 1 => by
    unfold plS
    split
    · exact IsMap.put (plS_isMap ns k) _ _
    · exact plS_isMap ns k

theorem plB_isMap {D : DataW Unit} (hD : IsMap D) (ns : List ByteArray) : ∀ k, IsMap (plB D ns k)
  | 0 => hD
  | k + 1 => by
    unfold plB
    split
    · exact IsMap.put (plB_isMap hD ns k) _ _
    · exact plB_isMap hD ns k

/-- the place of a name, of the last that has it -/
def lastOf (ns : List ByteArray) (s : ByteArray) : Nat → Option Nat
  | 0 => none
  | k + 1 => if ns[k]? = some s then some k else lastOf ns s k

theorem has_plS (ns : List ByteArray) (s : ByteArray) : ∀ k, has (plS ns k) (kK 0 s) = (lastOf ns s k).isSome
  | 0 => rfl
  | k + 1 => by
    unfold plS lastOf
    cases hk : ns[k]? with
    | none => simp; exact has_plS ns s k
    | some t =>
      by_cases e : t = s
      · subst e
        simp
        exact has_put_same (plS_isMap ns k) (kK_key _ _) _
      · simp [e]
        rw [has_put_other (fun h => e (kK_inj h).symm)]
        exact has_plS ns s k

theorem at_plS (ns : List ByteArray) (s : ByteArray) : ∀ k, (plS ns k).atKey (kK 0 s) (.lit (.int .i64 0)) = .lit (.int .i64 (((lastOf ns s k).getD 0 : Nat) : Int))
  | 0 => rfl
  | k + 1 => by
    unfold plS lastOf
    cases hk : ns[k]? with
    | none => simp; exact at_plS ns s k
    | some t =>
      by_cases e : t = s
      · subst e
        simp
        exact atKey_put_same (plS_isMap ns k) (kK_key _ _) _ _
      · simp [e]
        rw [atKey_put_other (fun h => e (kK_inj h).symm)]
        exact at_plS ns s k

theorem has_plS1 (ns : List ByteArray) (s : ByteArray) : ∀ k, has (plS ns k) (kK 1 s) = false
  | 0 => rfl
  | k + 1 => by
    unfold plS
    split
    · rw [has_put_other (fun h => kK_apart _ _ h.symm)]
      exact has_plS1 ns s k
    · exact has_plS1 ns s k

theorem has_plB0 (D : DataW Unit) (ns : List ByteArray) (s : ByteArray) : ∀ k, has (plB D ns k) (kK 0 s) = has D (kK 0 s)
  | 0 => rfl
  | k + 1 => by
    unfold plB
    split
    · rw [has_put_other (fun h => kK_apart _ _ h)]
      exact has_plB0 D ns s k
    · exact has_plB0 D ns s k

theorem at_plB0 (D : DataW Unit) (ns : List ByteArray) (s : ByteArray) (z : DataW Unit) : ∀ k, (plB D ns k).atKey (kK 0 s) z = D.atKey (kK 0 s) z
  | 0 => rfl
  | k + 1 => by
    unfold plB
    split
    · rw [atKey_put_other (fun h => kK_apart _ _ h)]
      exact at_plB0 D ns s z k
    · exact at_plB0 D ns s z k

theorem has_plB {D : DataW Unit} (hD : IsMap D) (ns : List ByteArray) (s : ByteArray) (h0 : has D (kK 1 s) = false) : ∀ k, has (plB D ns k) (kK 1 s) = (lastOf ns s k).isSome
  | 0 => h0
  | k + 1 => by
    unfold plB lastOf
    cases hk : ns[k]? with
    | none => simp; exact has_plB hD ns s h0 k
    | some t =>
      by_cases e : t = s
      · subst e
        simp
        exact has_put_same (plB_isMap hD ns k) (kK_key _ _) _
      · simp [e]
        rw [has_put_other (fun h => e (kK_inj h).symm)]
        exact has_plB hD ns s h0 k

theorem lastOf_no {ns : List ByteArray} {s : ByteArray} : ∀ k, lastOf ns s k = none → ∀ j, j < k → ns[j]? ≠ some s
  | 0, _, j, hj => by omega
  | k + 1, h, j, hj => by
    unfold lastOf at h
    by_cases e : ns[k]? = some s
    · rw [if_pos e] at h; cases h
    · rw [if_neg e] at h
      by_cases ej : j = k
      · subst ej; exact e
      · exact lastOf_no k h j (by omega)

theorem lastOf_at {ns : List ByteArray} {s : ByteArray} : ∀ k q, lastOf ns s k = some q → q < k ∧ ns[q]? = some s
  | 0, _, h => by cases h
  | k + 1, q, h => by
    unfold lastOf at h
    by_cases e : ns[k]? = some s
    · rw [if_pos e] at h; cases h; exact ⟨by omega, e⟩
    · rw [if_neg e] at h
      have := lastOf_at k q h
      exact ⟨by omega, this.2⟩

/-- what is found of a service -/
theorem last_svc {xs : List Ssv} {s : ByteArray} (hu : ∀ (j k : Nat) u v, xs[j]? = some u → xs[k]? = some v → u.name = v.name → j = k) :
    (lastOf (xs.map (·.name)) s xs.length = none ∧ xs.find? (fun b => decide (b.name = s)) = none) ∨ ∃ (k : Nat) (v : Ssv), lastOf (xs.map (·.name)) s xs.length = some k ∧ xs[k]? = some v ∧ v.name = s ∧ xs.find? (fun b => decide (b.name = s)) = some v := by
  cases h : lastOf (xs.map (·.name)) s xs.length with
  | none =>
    refine .inl ⟨rfl, ?_⟩
    rw [List.find?_eq_none]
    intro b hb
    obtain ⟨j, hj⟩ := List.getElem?_of_mem hb
    have := lastOf_no _ h j (lt_of_some hj)
    rw [List.getElem?_map, hj] at this
    simpa using this
  | some k =>
    obtain ⟨hk, he⟩ := lastOf_at _ _ h
    have hx : xs[k]? = some xs[k] := List.getElem?_eq_getElem hk
    rw [List.getElem?_map, hx] at he
    have hn : xs[k].name = s := by simpa using he
    refine .inr ⟨k, xs[k], rfl, hx, hn, ?_⟩
    rw [List.find?_eq_some_iff_getElem]
    refine ⟨decide_eq_true hn, k, hk, rfl, fun j hj => ?_⟩
    have hjl : j < xs.length := by omega
    have : ¬ xs[j].name = s := fun e => by
      have := hu j k _ _ (List.getElem?_eq_getElem hjl) hx (e.trans hn.symm)
      omega
    simpa using this

theorem last_bth (xs : List Sbt) (s : ByteArray) : (lastOf (xs.map (·.name)) s xs.length).isSome = xs.any (fun t => decide (t.name = s)) := by
  cases h : lastOf (xs.map (·.name)) s xs.length with
  | none =>
    symm
    show _ = false
    rw [List.any_eq_false]
    intro b hb
    obtain ⟨j, hj⟩ := List.getElem?_of_mem hb
    have := lastOf_no _ h j (lt_of_some hj)
    rw [List.getElem?_map, hj] at this
    simpa using this
  | some k =>
    obtain ⟨hk, he⟩ := lastOf_at _ _ h
    have hx : xs[k]? = some xs[k] := List.getElem?_eq_getElem hk
    rw [List.getElem?_map, hx] at he
    have hn : xs[k].name = s := by simpa using he
    have : xs.any (fun t => decide (t.name = s)) = true := List.any_eq_true.2 ⟨xs[k], List.getElem_mem hk, decide_eq_true hn⟩
    rw [this]
    rfl

theorem blk_grown {p b : Nat} {cs : Array Value} {t : TypeId} {w w' : World} (h : Blk p cs t w) (hg : w.grownBy w' (some b)) (hne : p ≠ b) : Blk p cs t w' :=
  (hg.block p h.lt (fun e => hne (Option.some.inj e))).trans h

theorem ownsMap_below {H : Type} {P : Program} {k : TypeId} {R : Value → Option (DataW H × List MemPlace)} {b n : Nat} {D : DataW H} {w w' : World} {B : Nat} (h : w.ownsMap P k R b n D) (hb : Below B w w') (hB : b < B) : w'.ownsMap P k R b n D := by
  obtain ⟨es, clock, h1, h2, h3, h4⟩ := h
  exact ⟨es, clock, (hb.block b hB).trans h1, h2, h3, h4⟩

theorem wp_mapUpdate {P : Program} {op : Oper} {a : Act} {w w' : World} {K : Act → World → Prop} {Q : Exit → Act → World → Prop} (m x v : Operand) (t : TypeId) (hop : op.op = Op.mapUpdate t m x v) (b : Nat) (key val : Value)
    (hm : a.eval m = .map (some b)) (hx : a.eval x = key) (hv : a.eval v = val) (hrun : (Instr.mapUpdate t (.map (some b)) key val).run P w = .ok () w') (hK : K (a.put op.dst undef) w') : op.wp P a w K Q := by
  unfold Oper.wp
  simp [execOp, hop, hm, hx, hv, hrun, Result.andThen]
  exact hK

/-- what is found of a book -/
abbrev plOf (x : Sbk) : DataW Unit := plB (plS (x.services.map (·.name)) x.services.length) (x.berths.map (·.name)) x.berths.length
abbrev OwnK (w : World) (m n : Nat) (D : DataW Unit) : Prop := w.ownsMap Try.prog 90 (plainElem Try.prog 3) m n D

def FndRes (x : Sbk) (a1 : Option Addr) (c1 : Nat) (a2 : Option Addr) (c2 : Nat) (a3 : Option Addr) (c3 : Nat) (w : World) (e : Ending) (w' : World) : Prop := ∃ p m n : Nat, e = .returned (.pointer (some ⟨p, 0, none⟩)) ∧ Blk p #[.int .i64 x.now, .slice a1 x.services.length c1, .slice a2 x.copies.length c2, .slice a3 x.berths.length c3, .map (some m)] 87 w' ∧ OwnK w' m n (plOf x) ∧ Below w.heap.size w w'


set_option maxHeartbeats 8000000 in
set_option maxRecDepth 100000 in
theorem sfind_any (x : Sbk) (a1 : Option Addr) (c1 : Nat) (a2 : Option Addr) (c2 : Nat) (a3 : Option Addr) (c3 : Nat) (lo : Nat) (w : World) (n1 : SliceC SsvC 13 lo w a1 x.services) (n3 : SliceC SbtC 2 lo w a3 x.berths) (l1 : x.services.length ≤ 8) (l3 : x.berths.length ≤ 6) :
    Calls Try.prog 40 #[.agg #[.int .i64 x.now, .slice a1 x.services.length c1, .slice a2 x.copies.length c2, .slice a3 x.berths.length c3]] w fun e w' => FndRes x a1 c1 a2 c2 a3 c3 w e w' := by
  have hmm : ∀ q n w, (Instr.makeMap 85 (some (.int q n))).run Try.prog w = .ok (.map (some w.heap.size)) (w.alloc (.map #[] 0)) := fun q n w => run_makeMapHint Try.underlying85 q n w
  have HN1 := Hid.intro n1
  have HN3 := Hid.intro n3
  clear n1 n3
  have HK1 : Hid (Blk w.heap.size #[.int .i64 x.now, .slice a1 x.services.length c1, .slice a2 x.copies.length c2, .slice a3 x.berths.length c3] 33 (w.alloc (Obj.cells #[.int .i64 x.now, .slice a1 x.services.length c1, .slice a2 x.copies.length c2, .slice a3 x.berths.length c3] 33))) := Blk.alloc _ _ _
  have hB1 : Below w.heap.size w (w.alloc (Obj.cells #[.int .i64 x.now, .slice a1 x.services.length c1, .slice a2 x.copies.length c2, .slice a3 x.berths.length c3] 33)) := by go_grown
  go_enter Try.func40, Try.ntmps40
  go_upto_region 1 with fail
  generalize w.alloc (Obj.cells #[.int .i64 x.now, .slice a1 x.services.length c1, .slice a2 x.copies.length c2, .slice a3 x.berths.length c3] 33) = w1 at *
  refine wp_region_held_drew (S := fun wy => Blk w.heap.size #[.int .i64 x.now, .slice a1 x.services.length c1, .slice a2 x.copies.length c2, .slice a3 x.berths.length c3] 33 wy) (by kernel_rfl) HK1.out.drew (fun hS => ?_)
  have hB2 : Below w.heap.size w w1.drew := hB1.drew
  clear HK1 hB1
  generalize w1.drew = w2 at *
  refine wpAnyH_take (i := 0) (oi := { dst := some 8, op := _, type := _, pos := _, after := _, guard := none }) (v := .agg #[.int .i64 x.now, .slice a1 x.services.length c1, .slice a2 x.copies.length c2, .slice a3 x.berths.length c3]) rfl (by kernel_rfl) (by kernel_rfl) (by kernel_rfl) (fun _ _ _ h => h) (yieldsIf_load_mid (by rfl) _ _ rfl w.heap.size (0) rfl [.int .i64 x.now, .slice a1 x.services.length c1, .slice a2 x.copies.length c2, .slice a3 x.berths.length c3] _ (fun _ h => h.rangeA) Try.underlying33 rfl isz_Sbk) hS ?_
  simp only [Act.put, List.setIfInBounds_toArray, List.set_cons_zero, List.set_cons_succ]
  refine wpAnyH_take (i := 1) (oi := { dst := some 9, op := _, type := _, pos := _, after := _, guard := none }) (v := .pointer (some ⟨w.heap.size, 1, none⟩)) rfl (by kernel_rfl) (by kernel_rfl) (by kernel_rfl) (fun _ _ _ h => h) (Or.inl ⟨by rfl, ?_⟩) hS ?_
  · intro wy hy
    clear hy
    go_simp
  simp only [Act.put, List.setIfInBounds_toArray, List.set_cons_zero, List.set_cons_succ]
  refine wpAnyH_take (i := 2) (oi := { dst := some 10, op := _, type := _, pos := _, after := _, guard := none }) (v := .slice a1 x.services.length c1) rfl (by kernel_rfl) (by kernel_rfl) (by kernel_rfl) (fun _ _ _ h => h) (Or.inl ⟨by rfl, ?_⟩) hS ?_
  · intro wy hy
    have h0 : wy.cell? ⟨w.heap.size, 1, none⟩ = some (.slice a1 x.services.length c1) := hy.cell rfl
    clear hy
    go_simp
  simp only [Act.put, List.setIfInBounds_toArray, List.set_cons_zero, List.set_cons_succ]
  refine wpAnyH_take (i := 3) (oi := { dst := some 11, op := _, type := _, pos := _, after := _, guard := none }) (v := .int .i64 x.services.length) rfl (by kernel_rfl) (by kernel_rfl) (by kernel_rfl) (fun _ _ _ h => h) (Or.inl ⟨by rfl, ?_⟩) hS ?_
  · intro wy hy
    clear hy
    go_simp
  simp only [Act.put, List.setIfInBounds_toArray, List.set_cons_zero, List.set_cons_succ]
  refine wpAnyH_take (i := 4) (oi := { dst := some 12, op := _, type := _, pos := _, after := _, guard := none }) (v := .pointer (some ⟨w.heap.size, 3, none⟩)) rfl (by kernel_rfl) (by kernel_rfl) (by kernel_rfl) (fun _ _ _ h => h) (Or.inl ⟨by rfl, ?_⟩) hS ?_
  · intro wy hy
    clear hy
    go_simp
  simp only [Act.put, List.setIfInBounds_toArray, List.set_cons_zero, List.set_cons_succ]
  refine wpAnyH_take (i := 5) (oi := { dst := some 13, op := _, type := _, pos := _, after := _, guard := none }) (v := .slice a3 x.berths.length c3) rfl (by kernel_rfl) (by kernel_rfl) (by kernel_rfl) (fun _ _ _ h => h) (Or.inl ⟨by rfl, ?_⟩) hS ?_
  · intro wy hy
    have h0 : wy.cell? ⟨w.heap.size, 3, none⟩ = some (.slice a3 x.berths.length c3) := hy.cell rfl
    clear hy
    go_simp
  simp only [Act.put, List.setIfInBounds_toArray, List.set_cons_zero, List.set_cons_succ]
  refine wpAnyH_take (i := 6) (oi := { dst := some 14, op := _, type := _, pos := _, after := _, guard := none }) (v := .int .i64 x.berths.length) rfl (by kernel_rfl) (by kernel_rfl) (by kernel_rfl) (fun _ _ _ h => h) (Or.inl ⟨by rfl, ?_⟩) hS ?_
  · intro wy hy
    clear hy
    go_simp
  simp only [Act.put, List.setIfInBounds_toArray, List.set_cons_zero, List.set_cons_succ]
  refine wpAnyH_take (i := 7) (oi := { dst := some 15, op := _, type := _, pos := _, after := _, guard := none }) (v := .int .i64 ((x.services.length : Int) + x.berths.length)) rfl (by kernel_rfl) (by kernel_rfl) (by kernel_rfl) (fun _ _ _ h => h) (Or.inl ⟨by rfl, ?_⟩) hS ?_
  · intro wy hy
    clear hy
    (go_simp; rw [IntKind.wrap_i64]; omega)
  simp only [Act.put, List.setIfInBounds_toArray, List.set_cons_zero, List.set_cons_succ]
  refine wpAnyH_ready (rs := [8]) (by kernel_rfl) (by simp) (AllReadyH.cons (o := { dst := some 16, op := _, type := _, pos := _, after := _, guard := none }) rfl (fun K hK => ?_) AllReadyH.nil)
  go_simp
  have HM3 : Hid (OwnK (w2.alloc (.map #[] 0)) w2.heap.size 0 (plS (x.services.map (·.name)) 0)) := World.ownsMap_made _ _ _ _
  have hB3 : Below w.heap.size w (w2.alloc (.map #[] 0)) := hB2.alloc hB2.size _
  have hlt3 : w2.heap.size < (w2.alloc (Obj.map #[] 0)).heap.size := HM3.out.lt
  refine hK.out _ _ (hS.below ((Below.refl _ w2).alloc (Nat.le_refl _) _) hS.lt) (fun hS => ?_)
  clear hK K
  generalize w2.alloc (Obj.map #[] 0) = w3 at *
  have hmw : w.heap.size ≤ w2.heap.size := hB2.size
  generalize w2.heap.size = m at *
  refine wpAnyH_take (i := 9) (oi := { dst := some 17, op := _, type := _, pos := _, after := _, guard := none }) (v := .agg #[.int .i64 x.now, .slice a1 x.services.length c1, .slice a2 x.copies.length c2, .slice a3 x.berths.length c3, .map (some m)]) rfl (by kernel_rfl) (by kernel_rfl) (by kernel_rfl) (fun _ _ _ h => h) (Or.inl ⟨by rfl, ?_⟩) hS ?_
  · intro wy hy
    clear hy
    go_simp
  simp only [Act.put, List.setIfInBounds_toArray, List.set_cons_zero, List.set_cons_succ]
  refine wpAnyH_ready (rs := [10]) (by kernel_rfl) (by simp) (AllReadyH.cons (o := { dst := some 18, op := _, type := _, pos := _, after := _, guard := none }) rfl (fun K hK => ?_) AllReadyH.nil)
  go_simp
  have HP4 : Hid (Blk w3.heap.size #[.int .i64 x.now, .slice a1 x.services.length c1, .slice a2 x.copies.length c2, .slice a3 x.berths.length c3, .map (some m)] 87 (w3.alloc (Obj.cells #[.int .i64 x.now, .slice a1 x.services.length c1, .slice a2 x.copies.length c2, .slice a3 x.berths.length c3, .map (some m)] 87))) := Blk.alloc _ _ _
  have HM4 : Hid (OwnK (w3.alloc (Obj.cells #[.int .i64 x.now, .slice a1 x.services.length c1, .slice a2 x.copies.length c2, .slice a3 x.berths.length c3, .map (some m)] 87)) m 0 (plS (x.services.map (·.name)) 0)) := HM3.out.alloc _
  have hB4 : Below w.heap.size w (w3.alloc (Obj.cells #[.int .i64 x.now, .slice a1 x.services.length c1, .slice a2 x.copies.length c2, .slice a3 x.berths.length c3, .map (some m)] 87)) := hB3.alloc hB3.size _
  have hpm : m < w3.heap.size := hlt3
  refine hK.out _ _ (hS.below ((Below.refl _ w3).alloc (Nat.le_refl _) _) hS.lt) (fun hS => ?_)
  clear hK K
  have HBK : Hid (Blk w.heap.size #[.int .i64 x.now, .slice a1 x.services.length c1, .slice a2 x.copies.length c2, .slice a3 x.berths.length c3] 33 (w3.alloc (Obj.cells #[.int .i64 x.now, .slice a1 x.services.length c1, .slice a2 x.copies.length c2, .slice a3 x.berths.length c3, .map (some m)] 87))) := hS
  generalize w3.alloc (Obj.cells #[.int .i64 x.now, .slice a1 x.services.length c1, .slice a2 x.copies.length c2, .slice a3 x.berths.length c3, .map (some m)] 87) = w4 at *
  have hpw : w.heap.size ≤ w3.heap.size := hB3.size
  generalize w3.heap.size = p at *
  refine wpAnyH_take (i := 11) (oi := { dst := some 3, op := _, type := _, pos := _, after := _, guard := none }) (v := .pointer (some ⟨p, 0, none⟩)) rfl (by kernel_rfl) (by kernel_rfl) (by kernel_rfl) (fun _ _ _ h => h) (Or.inl ⟨by rfl, ?_⟩) hS ?_
  · intro wy hy
    clear hy
    go_simp
  simp only [Act.put, List.setIfInBounds_toArray, List.set_cons_zero, List.set_cons_succ]
  refine wpAnyH_done (by kernel_rfl) ?_ _
  clear hS
  clear hmm HM3 hB3 hlt3
  have hgw : w.heap.size < w4.heap.size := HBK.out.lt
  have hgm : ¬ w.heap.size = m := by
    intro e
    have h1 := HBK.out
    obtain ⟨es, clock, h2, _⟩ := HM4.out
    unfold Blk at h1
    rw [e, h2] at h1
    cases h1
  have b1 : w4.cell? ⟨w.heap.size, 1, none⟩ = some (.slice a1 x.services.length c1) := HBK.out.cell rfl
  go_wp2_with fail
  clear b1
  go_loopw [22] (fun i wr => ∃ k : Nat, k ≤ x.services.length ∧ i = .int .i64 k ∧ Hid (Blk w.heap.size #[.int .i64 x.now, .slice a1 x.services.length c1, .slice a2 x.copies.length c2, .slice a3 x.berths.length c3] 33 wr) ∧ Hid (Blk p #[.int .i64 x.now, .slice a1 x.services.length c1, .slice a2 x.copies.length c2, .slice a3 x.berths.length c3, .map (some m)] 87 wr) ∧ Hid (OwnK wr m (k) (plS (x.services.map (·.name)) k)) ∧ Below w.heap.size w wr) (fun i _ => x.services.length - (intOf i).toNat)
  case atStart => exact ⟨0, Nat.zero_le _, rfl, HBK, HP4, HM4, hB4⟩
  case round =>
    obtain ⟨k, hk, rfl, hBK, hP, hO, hB⟩ := hrel
    by_cases hlt : k < x.services.length
    case neg =>
      have hke : k = x.services.length := by omega
      subst hke
      have HBK2 := hBK
      have hgm2 := hgm
      have b1 : wr.cell? ⟨w.heap.size, 3, none⟩ = some (.slice a3 x.berths.length c3) := hBK.out.cell rfl
      clear hlt hk HN1
      go_wp2_with fail
      clear b1
      go_loopw [39] (fun i wr => ∃ k : Nat, k ≤ x.berths.length ∧ i = .int .i64 k ∧ Hid (Blk w.heap.size #[.int .i64 x.now, .slice a1 x.services.length c1, .slice a2 x.copies.length c2, .slice a3 x.berths.length c3] 33 wr) ∧ Hid (Blk p #[.int .i64 x.now, .slice a1 x.services.length c1, .slice a2 x.copies.length c2, .slice a3 x.berths.length c3, .map (some m)] 87 wr) ∧ Hid (OwnK wr m (x.services.length + k) (plB (plS (x.services.map (·.name)) x.services.length) (x.berths.map (·.name)) k)) ∧ Below w.heap.size w wr) (fun i _ => x.berths.length - (intOf i).toNat)
      case atStart => exact ⟨0, Nat.zero_le _, rfl, hBK, hP, hO, hB⟩
      case round =>
        obtain ⟨k, hk, rfl, hBK, hP, hO, hB⟩ := hrel
        by_cases hlt : k < x.berths.length
        case neg =>
          have hke : k = x.berths.length := by omega
          subst hke
          go_wp2_with fail
          go_ret
          exact ⟨p, m, _, rfl, hP.out, hO.out, hB⟩
        obtain ⟨y, hy⟩ : ∃ y, x.berths[k]? = some y := ⟨x.berths[k], List.getElem?_eq_getElem hlt⟩
        obtain ⟨b, o, ea, _, hbl, hc⟩ := (HN3.out.below SbtC.holds hB (Nat.le_refl _)).at hy
        subst ea
        have hz := hc
        obtain ⟨_, _, z0⟩ := hz
        have HRY := Hid.intro (rngSbt hc)
        have Z0 := Hid.intro z0
        have HP1 : Hid (plB (plS (x.services.map (·.name)) x.services.length) (x.berths.map (·.name)) (k + 1) = (plB (plS (x.services.map (·.name)) x.services.length) (x.berths.map (·.name)) k).put (kK 1 y.name) (.lit (.int .i64 k))) := by
          show _ = _
          simp [plB, hy]
        clear hc hy z0
        have hza : Blk wr.heap.size #[.string ⟨#[]⟩, .bool false] 51 (wr.alloc (Obj.cells #[.string ⟨#[]⟩, .bool false] 51)) := Blk.alloc _ _ _
        have HTS : Hid ((wr.alloc (Obj.cells #[.string ⟨#[]⟩, .bool false] 51)).there wr.heap.size 0 2) := hza.there
        obtain ⟨w5, HW5⟩ : ∃ w5, Hid (w5 = (wr.alloc (Obj.cells #[.string ⟨#[]⟩, .bool false] 51)).setCells wr.heap.size 0 [.string y.name, .bool y.drain]) := ⟨_, rfl⟩
        have HK5 : Hid (Blk wr.heap.size #[.string y.name, .bool y.drain] 51 w5) := by
          show Blk _ _ _ _
          rw [HW5.out]
          exact hza.setAll #[.string y.name, .bool y.drain] rfl
        have hbx : Below wr.heap.size wr w5 := by
          rw [HW5.out]
          exact below_setCells (Nat.le_refl _) _ _ _ ((Below.refl _ wr).alloc (Nat.le_refl _) _)
        have hB5 : Below w.heap.size w w5 := hB.trans (hbx.mono hB.size)
        have HB5 := Hid.intro (hBK.out.below hbx hBK.out.lt)
        have HP5 := Hid.intro (hP.out.below hbx hP.out.lt)
        have HO5 := Hid.intro (ownsMap_below hO.out hbx hO.out.lt)
        have hne1 : ¬ wr.heap.size = m := by have := hO.out.lt; omega
        clear hza hbx hB hO hP hBK
        go_upto_region 10 with (first | (refine wpList_load_mid rfl 51 _ rfl b (o + k * 2) (by first | rfl | (simp [go_sem]; done)) [.string y.name, .bool y.drain] _ HRY.out Try.underlying51 rfl isz_Sbt ?_) | (refine wpList_store_to rfl 51 _ _ rfl wr.heap.size 0 #[.string y.name, .bool y.drain] rfl rfl HTS.out isz_Sbt (by simp [Value.oneCell']) w5 HW5.out ?_))
        clear HRY HTS HW5
        generalize wr.heap.size = g at *
        refine wp_region_held_drew (S := fun wy => Blk p #[.int .i64 x.now, .slice a1 x.services.length c1, .slice a2 x.copies.length c2, .slice (some ⟨b, o, none⟩) x.berths.length c3, .map (some m)] 87 wy ∧ Blk g #[.string y.name, .bool y.drain] 51 wy) (by kernel_rfl) ⟨HP5.out.drew, HK5.out.drew⟩ (fun hS => ?_)
        have hB6 : Below w.heap.size w w5.drew := hB5.drew
        have HB6 := Hid.intro HB5.out.drew
        have HO6 : Hid (OwnK w5.drew m (x.services.length + k) (plB (plS (x.services.map (·.name)) x.services.length) (x.berths.map (·.name)) k)) := HO5.out.drew
        clear hB5 HB5 HO5 HP5 HK5
        generalize w5.drew = w6 at *
        refine wpAnyH_take (i := 0) (oi := { dst := some 44, op := _, type := _, pos := _, after := _, guard := none }) (v := .pointer (some ⟨p, 0, none⟩)) rfl (by kernel_rfl) (by kernel_rfl) (by kernel_rfl) (fun _ _ _ h => h) (Or.inl ⟨by rfl, ?_⟩) hS ?_
        · intro wy hy
          clear hy
          go_simp
        simp only [Act.put, List.setIfInBounds_toArray, List.set_cons_zero, List.set_cons_succ]
        refine wpAnyH_take (i := 1) (oi := { dst := some 45, op := _, type := _, pos := _, after := _, guard := none }) (v := .pointer (some ⟨p, 0, none⟩)) rfl (by kernel_rfl) (by kernel_rfl) (by kernel_rfl) (fun _ _ _ h => h) (Or.inl ⟨by rfl, ?_⟩) hS ?_
        · intro wy hy
          clear hy
          go_simp
        simp only [Act.put, List.setIfInBounds_toArray, List.set_cons_zero, List.set_cons_succ]
        refine wpAnyH_take (i := 2) (oi := { dst := some 46, op := _, type := _, pos := _, after := _, guard := none }) (v := .pointer (some ⟨p, 4, none⟩)) rfl (by kernel_rfl) (by kernel_rfl) (by kernel_rfl) (fun _ _ _ h => h) (Or.inl ⟨by rfl, ?_⟩) hS ?_
        · intro wy hy
          clear hy
          go_simp
        simp only [Act.put, List.setIfInBounds_toArray, List.set_cons_zero, List.set_cons_succ]
        refine wpAnyH_take (i := 3) (oi := { dst := some 47, op := _, type := _, pos := _, after := _, guard := none }) (v := .map (some m)) rfl (by kernel_rfl) (by kernel_rfl) (by kernel_rfl) (fun _ _ _ h => h) (Or.inl ⟨by rfl, ?_⟩) hS ?_
        · intro wy hy
          have h0 : wy.cell? ⟨p, 4, none⟩ = some (.map (some m)) := hy.1.cell rfl
          clear hy
          go_simp
        simp only [Act.put, List.setIfInBounds_toArray, List.set_cons_zero, List.set_cons_succ]
        refine wpAnyH_take (i := 4) (oi := { dst := some 48, op := _, type := _, pos := _, after := _, guard := none }) (v := .pointer (some ⟨g, 0, none⟩)) rfl (by kernel_rfl) (by kernel_rfl) (by kernel_rfl) (fun _ _ _ h => h) (Or.inl ⟨by rfl, ?_⟩) hS ?_
        · intro wy hy
          clear hy
          go_simp
        simp only [Act.put, List.setIfInBounds_toArray, List.set_cons_zero, List.set_cons_succ]
        refine wpAnyH_take (i := 5) (oi := { dst := some 49, op := _, type := _, pos := _, after := _, guard := none }) (v := .string y.name) rfl (by kernel_rfl) (by kernel_rfl) (by kernel_rfl) (fun _ _ _ h => h) (Or.inl ⟨by rfl, ?_⟩) hS ?_
        · intro wy hy
          have h0 : wy.cell? ⟨g, 0, none⟩ = some (.string y.name) := hy.2.cell rfl
          clear hy
          go_simp
        simp only [Act.put, List.setIfInBounds_toArray, List.set_cons_zero, List.set_cons_succ]
        refine wpAnyH_take (i := 6) (oi := { dst := some 50, op := _, type := _, pos := _, after := _, guard := none }) (v := .agg #[.int .i64 1, .string y.name]) rfl (by kernel_rfl) (by kernel_rfl) (by kernel_rfl) (fun _ _ _ h => h) (Or.inl ⟨by rfl, ?_⟩) hS ?_
        · intro wy hy
          clear hy
          go_simp
        simp only [Act.put, List.setIfInBounds_toArray, List.set_cons_zero, List.set_cons_succ]
        refine wpAnyH_take (i := 7) (oi := { dst := some 51, op := _, type := _, pos := _, after := _, guard := none }) (v := .int .i64 k) rfl (by kernel_rfl) (by kernel_rfl) (by kernel_rfl) (fun _ _ _ h => h) (Or.inl ⟨by rfl, ?_⟩) hS ?_
        · intro wy hy
          clear hy
          go_simp
        simp only [Act.put, List.setIfInBounds_toArray, List.set_cons_zero, List.set_cons_succ]
        have hkey : keyOf Try.prog 90 (.agg #[.int .i64 1, .string y.name]) = some (kK 1 y.name) := keyOf_key (by decide) Z0.out
        obtain ⟨w7, hrun, hown, hgrow⟩ := HO6.out.update law_key Try.underlying85 (by unfold maxLen; omega) hkey (plainElem_int Try.underlying3 (a := (k : Int)) (WalkArith.wf_i64 (by omega)))
        have HP7 := Hid.intro (blk_grown hS.1 hgrow (by omega))
        have HG7 := Hid.intro (blk_grown hS.2 hgrow (by omega))
        have HB7 := Hid.intro (blk_grown HB6.out hgrow hgm)
        have hB7 : Below w.heap.size w w7 := hB6.grown hgrow hB6.size (fun j hj => by cases hj; omega)
        have HO7 : Hid (OwnK w7 m (x.services.length + (k + 1)) (plB (plS (x.services.map (·.name)) x.services.length) (x.berths.map (·.name)) (k + 1))) := by
          show World.ownsMap _ _ _ _ _ _ _
          rw [HP1.out]
          exact hown
        refine wpAnyH_ready (rs := [8]) (by kernel_rfl) (by simp) (AllReadyH.cons (o := { dst := none, op := _, type := _, pos := _, after := _, guard := none }) rfl (fun K hK => ?_) AllReadyH.nil)
        rw [if_pos (by rfl)]
        refine wp_mapUpdate (.tmp 47) (.tmp 50) (.tmp 51) 85 (by rfl) m _ _ (by rfl) (by rfl) (by rfl) hrun ?_
        refine hK.out _ _ ⟨HP7.out, HG7.out⟩ (fun hS => ?_)
        clear hK K hrun hown hgrow HO6 HB6 hB6 hkey HP1
        refine wpAnyH_done (by kernel_rfl) ?_ _
        clear hS
        go_wp2_with fail
        go_roundw
        case rel => exact ⟨k + 1, by omega, by go_num, HB7, HP7, HO7, hB7⟩
        case measure => simp [intOf]; omega
    obtain ⟨y, hy⟩ : ∃ y, x.services[k]? = some y := ⟨x.services[k], List.getElem?_eq_getElem hlt⟩
    obtain ⟨b, o, ea, _, hbl, hc⟩ := (HN1.out.below SsvC.holds hB (Nat.le_refl _)).at hy
    subst ea
    have hz := hc
    obtain ⟨_, _, _, _, _, _, _, _, _, _, _, _, _, z0⟩ := hz
    have HRY := Hid.intro (rngSsv hc)
    have Z0 := Hid.intro z0
    have HP1 : Hid (plS (x.services.map (·.name)) (k + 1) = (plS (x.services.map (·.name)) k).put (kK 0 y.name) (.lit (.int .i64 k))) := by
      show _ = _
      simp [plS, hy]
    clear hc hy z0
    have hza : Blk wr.heap.size #[.string ⟨#[]⟩, .int .i64 0, .bool false, .int .i64 0, .int .i64 0, .int .i64 0, .int .i64 0, .int .i64 0, .int .i64 0, .int .i64 0, .int .i64 0, .int .i64 0, .int .i64 0] 48 (wr.alloc (Obj.cells #[.string ⟨#[]⟩, .int .i64 0, .bool false, .int .i64 0, .int .i64 0, .int .i64 0, .int .i64 0, .int .i64 0, .int .i64 0, .int .i64 0, .int .i64 0, .int .i64 0, .int .i64 0] 48)) := Blk.alloc _ _ _
    have HTS : Hid ((wr.alloc (Obj.cells #[.string ⟨#[]⟩, .int .i64 0, .bool false, .int .i64 0, .int .i64 0, .int .i64 0, .int .i64 0, .int .i64 0, .int .i64 0, .int .i64 0, .int .i64 0, .int .i64 0, .int .i64 0] 48)).there wr.heap.size 0 13) := hza.there
    obtain ⟨w5, HW5⟩ : ∃ w5, Hid (w5 = (wr.alloc (Obj.cells #[.string ⟨#[]⟩, .int .i64 0, .bool false, .int .i64 0, .int .i64 0, .int .i64 0, .int .i64 0, .int .i64 0, .int .i64 0, .int .i64 0, .int .i64 0, .int .i64 0, .int .i64 0] 48)).setCells wr.heap.size 0 [.string y.name, .int .i64 y.version, .bool y.gone, .int .i64 y.image, .int .i64 y.want, .int .i64 y.down, .int .i64 y.over, .int .i64 y.next, .int .i64 y.per, .int .i64 y.least, .int .i64 y.most, .int .i64 y.load, .int .i64 y.cool]) := ⟨_, rfl⟩
    have HK5 : Hid (Blk wr.heap.size #[.string y.name, .int .i64 y.version, .bool y.gone, .int .i64 y.image, .int .i64 y.want, .int .i64 y.down, .int .i64 y.over, .int .i64 y.next, .int .i64 y.per, .int .i64 y.least, .int .i64 y.most, .int .i64 y.load, .int .i64 y.cool] 48 w5) := by
      show Blk _ _ _ _
      rw [HW5.out]
      exact hza.setAll #[.string y.name, .int .i64 y.version, .bool y.gone, .int .i64 y.image, .int .i64 y.want, .int .i64 y.down, .int .i64 y.over, .int .i64 y.next, .int .i64 y.per, .int .i64 y.least, .int .i64 y.most, .int .i64 y.load, .int .i64 y.cool] rfl
    have hbx : Below wr.heap.size wr w5 := by
      rw [HW5.out]
      exact below_setCells (Nat.le_refl _) _ _ _ ((Below.refl _ wr).alloc (Nat.le_refl _) _)
    have hB5 : Below w.heap.size w w5 := hB.trans (hbx.mono hB.size)
    have HB5 := Hid.intro (hBK.out.below hbx hBK.out.lt)
    have HP5 := Hid.intro (hP.out.below hbx hP.out.lt)
    have HO5 := Hid.intro (ownsMap_below hO.out hbx hO.out.lt)
    have hne1 : ¬ wr.heap.size = m := by have := hO.out.lt; omega
    clear hza hbx hB hO hP hBK
    go_upto_region 5 with (first | (refine wpList_load_mid rfl 48 _ rfl b (o + k * 13) (by first | rfl | (simp [go_sem]; done)) [.string y.name, .int .i64 y.version, .bool y.gone, .int .i64 y.image, .int .i64 y.want, .int .i64 y.down, .int .i64 y.over, .int .i64 y.next, .int .i64 y.per, .int .i64 y.least, .int .i64 y.most, .int .i64 y.load, .int .i64 y.cool] _ HRY.out Try.underlying48 rfl isz_Ssv ?_) | (refine wpList_store_to rfl 48 _ _ rfl wr.heap.size 0 #[.string y.name, .int .i64 y.version, .bool y.gone, .int .i64 y.image, .int .i64 y.want, .int .i64 y.down, .int .i64 y.over, .int .i64 y.next, .int .i64 y.per, .int .i64 y.least, .int .i64 y.most, .int .i64 y.load, .int .i64 y.cool] rfl rfl HTS.out isz_Ssv (by simp [Value.oneCell']) w5 HW5.out ?_))
    clear HRY HTS HW5
    generalize wr.heap.size = g at *
    refine wp_region_held_drew (S := fun wy => Blk p #[.int .i64 x.now, .slice (some ⟨b, o, none⟩) x.services.length c1, .slice a2 x.copies.length c2, .slice a3 x.berths.length c3, .map (some m)] 87 wy ∧ Blk g #[.string y.name, .int .i64 y.version, .bool y.gone, .int .i64 y.image, .int .i64 y.want, .int .i64 y.down, .int .i64 y.over, .int .i64 y.next, .int .i64 y.per, .int .i64 y.least, .int .i64 y.most, .int .i64 y.load, .int .i64 y.cool] 48 wy) (by kernel_rfl) ⟨HP5.out.drew, HK5.out.drew⟩ (fun hS => ?_)
    have hB6 : Below w.heap.size w w5.drew := hB5.drew
    have HB6 := Hid.intro HB5.out.drew
    have HO6 : Hid (OwnK w5.drew m (k) (plS (x.services.map (·.name)) k)) := HO5.out.drew
    clear hB5 HB5 HO5 HP5 HK5
    generalize w5.drew = w6 at *
    refine wpAnyH_take (i := 0) (oi := { dst := some 27, op := _, type := _, pos := _, after := _, guard := none }) (v := .pointer (some ⟨p, 0, none⟩)) rfl (by kernel_rfl) (by kernel_rfl) (by kernel_rfl) (fun _ _ _ h => h) (Or.inl ⟨by rfl, ?_⟩) hS ?_
    · intro wy hy
      clear hy
      go_simp
    simp only [Act.put, List.setIfInBounds_toArray, List.set_cons_zero, List.set_cons_succ]
    refine wpAnyH_take (i := 1) (oi := { dst := some 28, op := _, type := _, pos := _, after := _, guard := none }) (v := .pointer (some ⟨p, 0, none⟩)) rfl (by kernel_rfl) (by kernel_rfl) (by kernel_rfl) (fun _ _ _ h => h) (Or.inl ⟨by rfl, ?_⟩) hS ?_
    · intro wy hy
      clear hy
      go_simp
    simp only [Act.put, List.setIfInBounds_toArray, List.set_cons_zero, List.set_cons_succ]
    refine wpAnyH_take (i := 2) (oi := { dst := some 29, op := _, type := _, pos := _, after := _, guard := none }) (v := .pointer (some ⟨p, 4, none⟩)) rfl (by kernel_rfl) (by kernel_rfl) (by kernel_rfl) (fun _ _ _ h => h) (Or.inl ⟨by rfl, ?_⟩) hS ?_
    · intro wy hy
      clear hy
      go_simp
    simp only [Act.put, List.setIfInBounds_toArray, List.set_cons_zero, List.set_cons_succ]
    refine wpAnyH_take (i := 3) (oi := { dst := some 30, op := _, type := _, pos := _, after := _, guard := none }) (v := .map (some m)) rfl (by kernel_rfl) (by kernel_rfl) (by kernel_rfl) (fun _ _ _ h => h) (Or.inl ⟨by rfl, ?_⟩) hS ?_
    · intro wy hy
      have h0 : wy.cell? ⟨p, 4, none⟩ = some (.map (some m)) := hy.1.cell rfl
      clear hy
      go_simp
    simp only [Act.put, List.setIfInBounds_toArray, List.set_cons_zero, List.set_cons_succ]
    refine wpAnyH_take (i := 4) (oi := { dst := some 31, op := _, type := _, pos := _, after := _, guard := none }) (v := .pointer (some ⟨g, 0, none⟩)) rfl (by kernel_rfl) (by kernel_rfl) (by kernel_rfl) (fun _ _ _ h => h) (Or.inl ⟨by rfl, ?_⟩) hS ?_
    · intro wy hy
      clear hy
      go_simp
    simp only [Act.put, List.setIfInBounds_toArray, List.set_cons_zero, List.set_cons_succ]
    refine wpAnyH_take (i := 5) (oi := { dst := some 32, op := _, type := _, pos := _, after := _, guard := none }) (v := .string y.name) rfl (by kernel_rfl) (by kernel_rfl) (by kernel_rfl) (fun _ _ _ h => h) (Or.inl ⟨by rfl, ?_⟩) hS ?_
    · intro wy hy
      have h0 : wy.cell? ⟨g, 0, none⟩ = some (.string y.name) := hy.2.cell rfl
      clear hy
      go_simp
    simp only [Act.put, List.setIfInBounds_toArray, List.set_cons_zero, List.set_cons_succ]
    refine wpAnyH_take (i := 6) (oi := { dst := some 33, op := _, type := _, pos := _, after := _, guard := none }) (v := .agg #[.int .i64 0, .string y.name]) rfl (by kernel_rfl) (by kernel_rfl) (by kernel_rfl) (fun _ _ _ h => h) (Or.inl ⟨by rfl, ?_⟩) hS ?_
    · intro wy hy
      clear hy
      go_simp
    simp only [Act.put, List.setIfInBounds_toArray, List.set_cons_zero, List.set_cons_succ]
    refine wpAnyH_take (i := 7) (oi := { dst := some 34, op := _, type := _, pos := _, after := _, guard := none }) (v := .int .i64 k) rfl (by kernel_rfl) (by kernel_rfl) (by kernel_rfl) (fun _ _ _ h => h) (Or.inl ⟨by rfl, ?_⟩) hS ?_
    · intro wy hy
      clear hy
      go_simp
    simp only [Act.put, List.setIfInBounds_toArray, List.set_cons_zero, List.set_cons_succ]
    have hkey : keyOf Try.prog 90 (.agg #[.int .i64 0, .string y.name]) = some (kK 0 y.name) := keyOf_key (by decide) Z0.out
    obtain ⟨w7, hrun, hown, hgrow⟩ := HO6.out.update law_key Try.underlying85 (by unfold maxLen; omega) hkey (plainElem_int Try.underlying3 (a := (k : Int)) (WalkArith.wf_i64 (by omega)))
    have HP7 := Hid.intro (blk_grown hS.1 hgrow (by omega))
    have HG7 := Hid.intro (blk_grown hS.2 hgrow (by omega))
    have HB7 := Hid.intro (blk_grown HB6.out hgrow hgm)
    have hB7 : Below w.heap.size w w7 := hB6.grown hgrow hB6.size (fun j hj => by cases hj; omega)
    have HO7 : Hid (OwnK w7 m ((k + 1)) (plS (x.services.map (·.name)) (k + 1))) := by
      show World.ownsMap _ _ _ _ _ _ _
      rw [HP1.out]
      exact hown
    refine wpAnyH_ready (rs := [8]) (by kernel_rfl) (by simp) (AllReadyH.cons (o := { dst := none, op := _, type := _, pos := _, after := _, guard := none }) rfl (fun K hK => ?_) AllReadyH.nil)
    rw [if_pos (by rfl)]
    refine wp_mapUpdate (.tmp 30) (.tmp 33) (.tmp 34) 85 (by rfl) m _ _ (by rfl) (by rfl) (by rfl) hrun ?_
    refine hK.out _ _ ⟨HP7.out, HG7.out⟩ (fun hS => ?_)
    clear hK K hrun hown hgrow HO6 HB6 hB6 hkey HP1
    refine wpAnyH_done (by kernel_rfl) ?_ _
    clear hS
    go_wp2_with fail
    go_roundw
    case rel => exact ⟨k + 1, by omega, by go_num, HB7, HP7, HO7, hB7⟩
    case measure => simp [intOf]; omega

end Go.Proofs.Ytglacihhkoiigaa
