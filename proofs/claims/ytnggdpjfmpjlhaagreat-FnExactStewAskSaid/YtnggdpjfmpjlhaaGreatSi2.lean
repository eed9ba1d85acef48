import Derived.Test.YtnggdpjfmpjlhaaGreatTkw
import Derived.Test.YtnggdpjfmpjlhaaGreatSt4
import Derived.Test.YtnggdpjfmpjlhaaGreatSi1
import Derived.Maps.Own
import Derived.Maps.OwnSet
import Derived.Maps.Views
import Derived.DeepKeys4
import Derived.ChangeKeys
import Derived.Deep.RegionHeld3
namespace Go.Proofs.YtnggdpjfmpjlhaaGreat
open Go.RowKit Go.WideMaps Go.Maps

theorem bl_irr : ∀ x, Op.bytesLess x x = false
 | [] => rfl
 | a :: x => by simp [Op.bytesLess, bl_irr x]

theorem bl_tr : ∀ x y z, Op.bytesLess x y = true → Op.bytesLess y z = true → Op.bytesLess x z = true
 | _, _, [], _, h => by simp [Op.bytesLess] at h
 | [], _, _ :: _, _, _ => rfl
 | a :: x, [], c :: z, h, _ => by simp [Op.bytesLess] at h
 | a :: x, b :: y, c :: z, h1, h2 => by
  simp only [Op.bytesLess, Bool.or_eq_true, Bool.and_eq_true, decide_eq_true_eq, beq_iff_eq] at h1 h2 ⊢
  rcases h1 with h1 | ⟨rfl, h1⟩
  ·rcases h2 with h2 | ⟨rfl, h2⟩
   ·exact Or.inl (UInt8.lt_trans h1 h2)
   ·exact Or.inl h1
  ·rcases h2 with h2 | ⟨rfl, h2⟩
   ·exact Or.inl h2
   ·exact Or.inr ⟨rfl, bl_tr x y z h1 h2⟩

theorem law_key : Keyed Tryz.prog 133 := Keyed.of_law (deep_law (m := 3) (by omega) (by kernel_rfl) (by kernel_rfl) (by kernel_rfl))
theorem zero_int (w : World) : (zeroValue 3).run Tryz.prog w = .ok (.int .i64 0) w := by kernel_rfl
theorem isz_key : (Tryz.prog.info? 133).map (·.size) = some 3 := by kernel_rfl

theorem run_makeMapHint {P : Program} {t k e : TypeId} (hu : P.underlying t = some (.map k e)) (q : IntKind) (n : Int) (w : World) : (Instr.makeMap t (some (.int q n))).run P w = .ok (.map (some w.heap.size)) (w.alloc (.map #[] 0)) := by
 simp [Instr.makeMap, run_underlying hu, asInt, asIntOf, Result.andThen]

def kK (q : Int) (s : ByteArray) (n : Int) : Lit := .string (keyBytes [.int .i64 q, .string s.data.toList, .int .i64 n])

theorem kK_bytes (q : Int) (s : ByteArray) (n : Int) : keyBytes [.int .i64 q, .string s.data.toList, .int .i64 n] = bytesBE 8 (q % 2 ^ 64).toNat ++ (bytesBE 8 s.data.toList.length ++ (s.data.toList ++ bytesBE 8 (n % 2 ^ 64).toNat)) := by
 simp [keyBytes, Lit.keyBytes, IntKind.bits]

abbrev Wf (n : Int) : Prop := (Lit.int .i64 n).wf = true

theorem kK_inj {q : Int} {s t : ByteArray} {n m : Int} (hn : Wf n) (hm : Wf m) (h : kK q s n = kK q t m) : s = t ∧ n = m := by
 unfold kK at h
 injection h with h
 rw [kK_bytes, kK_bytes] at h
 have h2 := List.append_cancel_left h
 obtain ⟨_, h3⟩ := List.append_inj h2 (by rw [length_bytesBE, length_bytesBE])
 have hl : s.data.toList.length = t.data.toList.length := by
  have := congrArg List.length h3
  simp only [List.length_append, length_bytesBE] at this
  omega
 obtain ⟨h4, h5⟩ := List.append_inj h3 hl
 refine ⟨?_, int_inj (k := .i64) hn hm (bytesBE_inj (int_lt .i64 n) (int_lt .i64 m) h5)⟩
 cases s with | mk a => cases t with | mk b => cases a; cases b; simp at h4; simp [h4]

theorem kK_apart {q r : Int} (hd : bytesBE 8 (q % 2 ^ 64).toNat ≠ bytesBE 8 (r % 2 ^ 64).toNat) (s t : ByteArray) (n m : Int) : kK q s n ≠ kK r t m := by
 intro h
 unfold kK at h
 injection h with h
 rw [kK_bytes, kK_bytes] at h
 exact hd (List.append_inj h (by rw [length_bytesBE, length_bytesBE])).1

theorem kK_key (q : Int) (s : ByteArray) (n : Int) : WideAt.IsKeyLit (kK q s n) := trivial

theorem keyOf_key {q n : Int} {s : ByteArray} (hq : Wf q) (hs : s.size ≤ maxLen) (hn : Wf n) : keyOf Tryz.prog 133 (.agg #[.int .i64 q, .string s, .int .i64 n]) = some (kK q s n) := by
 have e1 : Tryz.prog.keyType 133 = true := by kernel_rfl
 have e2 : (Value.agg #[.int .i64 q, .string s, .int .i64 n]).formed Tryz.prog 133 = true := by kernel_rfl
 have u1 := Tryz.underlying133
 have u2 := Tryz.underlying131
 have u3 := Tryz.underlying9
 have u4 := Tryz.underlying3
 have k1 : Tryz.prog.cellsOf 133 = 3 := by kernel_rfl
 have k2 : Tryz.prog.cellsOf 131 = 1 := by kernel_rfl
 have k3 : Tryz.prog.cellsOf 9 = 1 := by kernel_rfl
 have k4 : Tryz.prog.cellsOf 3 = 1 := by kernel_rfl
 have e3 : ∀ d, Tryz.prog.keyLits (d + 2) 133 [.int .i64 q, .string s, .int .i64 n] = some [.int .i64 q, .string s.data.toList, .int .i64 n] := by
  intro d
  simp [Program.keyLits, u1, k1, k2, k3, k4, u2, u3, u4, hq, hs, hn]
 obtain ⟨d, hd⟩ : ∃ d, Tryz.prog.types.size + 1 = d + 2 := ⟨Tryz.prog.types.size - 1, by have : 1 ≤ Tryz.prog.types.size := of_decide_eq_true (by kernel_rfl); omega⟩
 unfold keyOf
 rw [u1]
 simp only [e1, e2, Bool.and_self, if_true]
 rw [hd, show (Value.agg #[.int .i64 q, .string s, .int .i64 n]).cells.toList = [.int .i64 q, .string s, .int .i64 n] from rfl, e3 d]
 rfl

def pl (q : Int) (D : DataW Unit) (ks : List (ByteArray × Int)) : Nat → DataW Unit
 | 0 => D
 | k + 1 => match ks[k]? with
  | some p => (pl q D ks k).put (kK q p.1 p.2) (.lit (.int .i64 k))
  | none => pl q D ks k

theorem pl_isMap {D : DataW Unit} (hD : IsMap D) (q : Int) (ks : List (ByteArray × Int)) : ∀ k, IsMap (pl q D ks k)
 | 0 => hD
 | k + 1 => by
  unfold pl
  split
  ·exact IsMap.put (pl_isMap hD q ks k) _ _
  ·exact pl_isMap hD q ks k

def lastOf {α : Type} [DecidableEq α] (ns : List α) (s : α) : Nat → Option Nat
 | 0 => none
 | k + 1 => if ns[k]? = some s then some k else lastOf ns s k

theorem has_pl {D : DataW Unit} (hD : IsMap D) {q : Int} {ks : List (ByteArray × Int)} (hk : ∀ p ∈ ks, Wf p.2) {s : ByteArray} {n : Int} (hn : Wf n) (h0 : has D (kK q s n) = false) : ∀ k, has (pl q D ks k) (kK q s n) = (lastOf ks (s, n) k).isSome
 | 0 => h0
 | k + 1 => by
  unfold pl lastOf
  cases hx : ks[k]? with
  | none => simp; exact has_pl hD hk hn h0 k
  | some t =>
   by_cases e : t = (s, n)
   ·subst e
    simp
    exact has_put_same (pl_isMap hD q ks k) (kK_key _ _ _) _
   ·simp [e]
    rw [has_put_other (fun h => e (by have := kK_inj hn (hk t (List.mem_of_getElem? hx)) h; exact Prod.ext this.1.symm this.2.symm))]
    exact has_pl hD hk hn h0 k

theorem at_pl {D : DataW Unit} (hD : IsMap D) {q : Int} {ks : List (ByteArray × Int)} (hk : ∀ p ∈ ks, Wf p.2) {s : ByteArray} {n : Int} (hn : Wf n) (h0 : D.atKey (kK q s n) (.lit (.int .i64 0)) = .lit (.int .i64 0)) : ∀ k, (pl q D ks k).atKey (kK q s n) (.lit (.int .i64 0)) = .lit (.int .i64 (((lastOf ks (s, n) k).getD 0 : Nat) : Int))
 | 0 => h0
 | k + 1 => by
  unfold pl lastOf
  cases hx : ks[k]? with
  | none => simp; exact at_pl hD hk hn h0 k
  | some t =>
   by_cases e : t = (s, n)
   ·subst e
    simp
    exact atKey_put_same (pl_isMap hD q ks k) (kK_key _ _ _) _ _
   ·simp [e]
    rw [atKey_put_other (fun h => e (by have := kK_inj hn (hk t (List.mem_of_getElem? hx)) h; exact Prod.ext this.1.symm this.2.symm))]
    exact at_pl hD hk hn h0 k

theorem has_pl_other {q r : Int} (hd : bytesBE 8 (r % 2 ^ 64).toNat ≠ bytesBE 8 (q % 2 ^ 64).toNat) (D : DataW Unit) (ks : List (ByteArray × Int)) (s : ByteArray) (n : Int) : ∀ k, has (pl q D ks k) (kK r s n) = has D (kK r s n)
 | 0 => rfl
 | k + 1 => by
  unfold pl
  split
  ·rw [has_put_other (kK_apart hd _ _ _ _)]
   exact has_pl_other hd D ks s n k
  ·exact has_pl_other hd D ks s n k

theorem at_pl_other {q r : Int} (hd : bytesBE 8 (r % 2 ^ 64).toNat ≠ bytesBE 8 (q % 2 ^ 64).toNat) (D : DataW Unit) (ks : List (ByteArray × Int)) (s : ByteArray) (n : Int) (z : DataW Unit) : ∀ k, (pl q D ks k).atKey (kK r s n) z = D.atKey (kK r s n) z
 | 0 => rfl
 | k + 1 => by
  unfold pl
  split
  ·rw [atKey_put_other (kK_apart hd _ _ _ _)]
   exact at_pl_other hd D ks s n z k
  ·exact at_pl_other hd D ks s n z k

theorem lastOf_no {α : Type} [DecidableEq α] {ns : List α} {s : α} : ∀ k, lastOf ns s k = none → ∀ j, j < k → ns[j]? ≠ some s
 | 0, _, j, hj => by omega
 | k + 1, h, j, hj => by
  unfold lastOf at h
  by_cases e : ns[k]? = some s
  ·rw [if_pos e] at h; cases h
  ·rw [if_neg e] at h
   by_cases ej : j = k
   ·subst ej; exact e
   ·exact lastOf_no k h j (by omega)

theorem lastOf_at {α : Type} [DecidableEq α] {ns : List α} {s : α} : ∀ k q, lastOf ns s k = some q → q < k ∧ ns[q]? = some s
 | 0, _, h => by cases h
 | k + 1, q, h => by
  unfold lastOf at h
  by_cases e : ns[k]? = some s
  ·rw [if_pos e] at h; cases h; exact ⟨by omega, e⟩
  ·rw [if_neg e] at h
   have := lastOf_at k q h
   exact ⟨by omega, this.2⟩

theorem last_gen {α β : Type} [DecidableEq β] (f : α → β) {xs : List α} {s : β} (hu : ∀ (j k : Nat) u v, xs[j]? = some u → xs[k]? = some v → f u = f v → j = k) :
  (lastOf (xs.map f) s xs.length = none ∧ xs.find? (fun b => decide (f b = s)) = none) ∨ ∃ (k : Nat) (v : α), lastOf (xs.map f) s xs.length = some k ∧ xs[k]? = some v ∧ f v = s ∧ xs.find? (fun b => decide (f b = s)) = some v := by
 cases h : lastOf (xs.map f) s xs.length with
 | none =>
  refine .inl ⟨rfl, ?_⟩
  rw [List.find?_eq_none]
  intro b hb
  obtain ⟨j, hj⟩ := List.getElem?_of_mem hb
  have := lastOf_no _ h j (lt_of_some hj)
  rw [List.getElem?_map, hj] at this
  simpa using this
 | some k =>
  obtain ⟨hk, he⟩ := lastOf_at _ _ h
  have hx : xs[k]? = some xs[k] := List.getElem?_eq_getElem hk
  rw [List.getElem?_map, hx] at he
  have hn : f xs[k] = s := by simpa using he
  refine .inr ⟨k, xs[k], rfl, hx, hn, ?_⟩
  rw [List.find?_eq_some_iff_getElem]
  refine ⟨decide_eq_true hn, k, hk, rfl, fun j hj => ?_⟩
  have hjl : j < xs.length := by omega
  have : ¬ f xs[j] = s := fun e => by
   have := hu j k _ _ (List.getElem?_eq_getElem hjl) hx (e.trans hn.symm)
   omega
  simpa using this

abbrev ksS (x : Sbk) : List (ByteArray × Int) := x.services.map (fun v => (v.name, (0 : Int)))
abbrev ksC (x : Sbk) : List (ByteArray × Int) := x.copies.map (fun c => (c.service, c.number))
abbrev ksB (x : Sbk) : List (ByteArray × Int) := x.berths.map (fun t => (t.name, (0 : Int)))

theorem last_svc {x : Sbk} {s : ByteArray} (hu : ∀ (j k : Nat) u v, x.services[j]? = some u → x.services[k]? = some v → u.name = v.name → j = k) :
  (lastOf (ksS x) (s, 0) x.services.length = none ∧ x.services.find? (fun b => decide (b.name = s)) = none) ∨ ∃ (k : Nat) (v : Ssv), lastOf (ksS x) (s, 0) x.services.length = some k ∧ x.services[k]? = some v ∧ v.name = s ∧ x.services.find? (fun b => decide (b.name = s)) = some v := by
 have e : (fun b : Ssv => decide ((b.name, (0 : Int)) = (s, 0))) = fun b => decide (b.name = s) := by funext b; simp
 have h := last_gen (fun v : Ssv => (v.name, (0 : Int))) (xs := x.services) (s := (s, 0)) (fun j k u v h1 h2 h3 => hu j k u v h1 h2 (congrArg Prod.fst h3))
 rw [e] at h
 rcases h with h | ⟨k, v, h1, h2, h3, h4⟩
 ·exact .inl h
 ·exact .inr ⟨k, v, h1, h2, congrArg Prod.fst h3, h4⟩

theorem last_bth (x : Sbk) (s : ByteArray) : (lastOf (ksB x) (s, 0) x.berths.length).isSome = x.berths.any (fun t => decide (t.name = s)) := by
 cases h : lastOf (ksB x) (s, 0) x.berths.length with
 | none =>
  symm
  show _ = false
  rw [List.any_eq_false]
  intro b hb
  obtain ⟨j, hj⟩ := List.getElem?_of_mem hb
  have := lastOf_no _ h j (lt_of_some hj)
  rw [List.getElem?_map, hj] at this
  simpa using this
 | some k =>
  obtain ⟨hk, he⟩ := lastOf_at _ _ h
  have hx : x.berths[k]? = some x.berths[k] := List.getElem?_eq_getElem hk
  rw [List.getElem?_map, hx] at he
  have hn : x.berths[k].name = s := by simpa using he
  have : x.berths.any (fun t => decide (t.name = s)) = true := List.any_eq_true.2 ⟨x.berths[k], List.getElem_mem hk, decide_eq_true hn⟩
  rw [this]
  rfl

theorem blk_grown {p b : Nat} {cs : Array Value} {t : TypeId} {w w' : World} (h : Blk p cs t w) (hg : w.grownBy w' (some b)) (hne : p ≠ b) : Blk p cs t w' :=
 (hg.block p h.lt (fun e => hne (Option.some.inj e))).trans h

theorem ownsMap_below {H : Type} {P : Program} {k : TypeId} {R : Value → Option (DataW H × List MemPlace)} {b n : Nat} {D : DataW H} {w w' : World} {B : Nat} (h : w.ownsMap P k R b n D) (hb : Below B w w') (hB : b < B) : w'.ownsMap P k R b n D := by
 obtain ⟨es, clock, h1, h2, h3, h4⟩ := h
 exact ⟨es, clock, (hb.block b hB).trans h1, h2, h3, h4⟩

theorem wp_mapUpdate {P : Program} {op : Oper} {a : Act} {w w' : World} {K : Act → World → Prop} {Q : Exit → Act → World → Prop} (m x v : Operand) (t : TypeId) (hop : op.op = Op.mapUpdate t m x v) (b : Nat) (key val : Value)
  (hm : a.eval m = .map (some b)) (hx : a.eval x = key) (hv : a.eval v = val) (hrun : (Instr.mapUpdate t (.map (some b)) key val).run P w = .ok () w') (hK : K (a.put op.dst undef) w') : op.wp P a w K Q := by
 unfold Oper.wp
 simp [execOp, hop, hm, hx, hv, hrun, Result.andThen]
 exact hK

abbrev plS (x : Sbk) (k : Nat) : DataW Unit := pl 0 (.map []) (ksS x) k
abbrev plC (x : Sbk) (k : Nat) : DataW Unit := pl 1 (plS x x.services.length) (ksC x) k
abbrev plB (x : Sbk) (k : Nat) : DataW Unit := pl 2 (plC x x.copies.length) (ksB x) k
abbrev plOf (x : Sbk) : DataW Unit := plB x x.berths.length
abbrev NumOk (x : Sbk) : Prop := ∀ c ∈ x.copies, Wf c.number
abbrev OwnK (w : World) (m n : Nat) (D : DataW Unit) : Prop := w.ownsMap Tryz.prog 133 (plainElem Tryz.prog 3) m n D

def FndRes (x : Sbk) (a1 : Option Addr) (c1 : Nat) (a2 : Option Addr) (c2 : Nat) (a3 : Option Addr) (c3 : Nat) (w : World) (e : Ending) (w' : World) : Prop := ∃ p m n : Nat, e = .returned (.pointer (some ⟨p, 0, none⟩)) ∧ Blk p #[.int .i64 x.now, .slice a1 x.services.length c1, .slice a2 x.copies.length c2, .slice a3 x.berths.length c3, .map (some m)] 60 w' ∧ OwnK w' m n (plOf x) ∧ Below w.heap.size w w'

set_option maxHeartbeats 1000000 in
theorem svcKey_any (s : ByteArray) (w : World) : Calls Tryz.prog 75 #[.string s] w fun e w' => e = .returned (.agg #[.int .i64 0, .string s, .int .i64 0]) ∧ Below w.heap.size w w' := by
 have hza : Blk w.heap.size #[.int .i64 0, .string ⟨#[]⟩, .int .i64 0] 133 (w.alloc (Obj.cells #[.int .i64 0, .string ⟨#[]⟩, .int .i64 0] 133)) := Blk.alloc _ _ _
 have HTS : Hid ((w.alloc (Obj.cells #[.int .i64 0, .string ⟨#[]⟩, .int .i64 0] 133)).there w.heap.size 0 3) := hza.there
 obtain ⟨w5, HW5⟩ : ∃ w5, Hid (w5 = (w.alloc (Obj.cells #[.int .i64 0, .string ⟨#[]⟩, .int .i64 0] 133)).setCells w.heap.size 0 [.int .i64 0, .string s, .int .i64 0]) := ⟨_, rfl⟩
 have HK5 : Hid (Blk w.heap.size #[.int .i64 0, .string s, .int .i64 0] 133 w5) := by
  show Blk _ _ _ _
  rw [HW5.out]
  exact hza.setAll #[.int .i64 0, .string s, .int .i64 0] rfl
 have hbx : Below w.heap.size w w5 := by
  rw [HW5.out]
  exact below_setCells (Nat.le_refl _) _ _ _ ((Below.refl _ w).alloc (Nat.le_refl _) _)
 clear hza
 go_enter Tryz.func75, Tryz.ntmps75
 go_wp2_with (refine wpList_store_to rfl 133 _ _ rfl w.heap.size 0 #[.int .i64 0, .string s, .int .i64 0] (by first | rfl | (simp [go_sem]; done)) rfl HTS.out isz_key (by simp [Value.oneCell']) w5 HW5.out ?_)
 exact bodyPost_ret (results_cell_mid rfl _ _ w.heap.size [.int .i64 0, .string s, .int .i64 0] _ rfl HK5.out.rangeA Tryz.underlying133 rfl isz_key) rfl ⟨rfl, hbx⟩

set_option maxHeartbeats 1000000 in
theorem cpyKey_any (s : ByteArray) (n : Int) (w : World) : Calls Tryz.prog 76 #[.string s, .int .i64 n] w fun e w' => e = .returned (.agg #[.int .i64 1, .string s, .int .i64 n]) ∧ Below w.heap.size w w' := by
 have hza : Blk w.heap.size #[.int .i64 0, .string ⟨#[]⟩, .int .i64 0] 133 (w.alloc (Obj.cells #[.int .i64 0, .string ⟨#[]⟩, .int .i64 0] 133)) := Blk.alloc _ _ _
 have HTS : Hid ((w.alloc (Obj.cells #[.int .i64 0, .string ⟨#[]⟩, .int .i64 0] 133)).there w.heap.size 0 3) := hza.there
 obtain ⟨w5, HW5⟩ : ∃ w5, Hid (w5 = (w.alloc (Obj.cells #[.int .i64 0, .string ⟨#[]⟩, .int .i64 0] 133)).setCells w.heap.size 0 [.int .i64 1, .string s, .int .i64 n]) := ⟨_, rfl⟩
 have HK5 : Hid (Blk w.heap.size #[.int .i64 1, .string s, .int .i64 n] 133 w5) := by
  show Blk _ _ _ _
  rw [HW5.out]
  exact hza.setAll #[.int .i64 1, .string s, .int .i64 n] rfl
 have hbx : Below w.heap.size w w5 := by
  rw [HW5.out]
  exact below_setCells (Nat.le_refl _) _ _ _ ((Below.refl _ w).alloc (Nat.le_refl _) _)
 clear hza
 go_enter Tryz.func76, Tryz.ntmps76
 go_wp2_with (refine wpList_store_to rfl 133 _ _ rfl w.heap.size 0 #[.int .i64 1, .string s, .int .i64 n] (by first | rfl | (simp [go_sem]; done)) rfl HTS.out isz_key (by simp [Value.oneCell']) w5 HW5.out ?_)
 exact bodyPost_ret (results_cell_mid rfl _ _ w.heap.size [.int .i64 1, .string s, .int .i64 n] _ rfl HK5.out.rangeA Tryz.underlying133 rfl isz_key) rfl ⟨rfl, hbx⟩

set_option maxHeartbeats 1000000 in
theorem bthKey_any (s : ByteArray) (w : World) : Calls Tryz.prog 77 #[.string s] w fun e w' => e = .returned (.agg #[.int .i64 2, .string s, .int .i64 0]) ∧ Below w.heap.size w w' := by
 have hza : Blk w.heap.size #[.int .i64 0, .string ⟨#[]⟩, .int .i64 0] 133 (w.alloc (Obj.cells #[.int .i64 0, .string ⟨#[]⟩, .int .i64 0] 133)) := Blk.alloc _ _ _
 have HTS : Hid ((w.alloc (Obj.cells #[.int .i64 0, .string ⟨#[]⟩, .int .i64 0] 133)).there w.heap.size 0 3) := hza.there
 obtain ⟨w5, HW5⟩ : ∃ w5, Hid (w5 = (w.alloc (Obj.cells #[.int .i64 0, .string ⟨#[]⟩, .int .i64 0] 133)).setCells w.heap.size 0 [.int .i64 2, .string s, .int .i64 0]) := ⟨_, rfl⟩
 have HK5 : Hid (Blk w.heap.size #[.int .i64 2, .string s, .int .i64 0] 133 w5) := by
  show Blk _ _ _ _
  rw [HW5.out]
  exact hza.setAll #[.int .i64 2, .string s, .int .i64 0] rfl
 have hbx : Below w.heap.size w w5 := by
  rw [HW5.out]
  exact below_setCells (Nat.le_refl _) _ _ _ ((Below.refl _ w).alloc (Nat.le_refl _) _)
 clear hza
 go_enter Tryz.func77, Tryz.ntmps77
 go_wp2_with (refine wpList_store_to rfl 133 _ _ rfl w.heap.size 0 #[.int .i64 2, .string s, .int .i64 0] (by first | rfl | (simp [go_sem]; done)) rfl HTS.out isz_key (by simp [Value.oneCell']) w5 HW5.out ?_)
 exact bodyPost_ret (results_cell_mid rfl _ _ w.heap.size [.int .i64 2, .string s, .int .i64 0] _ rfl HK5.out.rangeA Tryz.underlying133 rfl isz_key) rfl ⟨rfl, hbx⟩

set_option maxHeartbeats 8000000 in
set_option maxRecDepth 100000 in
theorem sfind_any (x : Sbk) (a1 : Option Addr) (c1 : Nat) (a2 : Option Addr) (c2 : Nat) (a3 : Option Addr) (c3 : Nat) (lo : Nat) (w : World) (n1 : SliceC SsvC 13 lo w a1 x.services) (n2 : SliceC ScpC 7 lo w a2 x.copies) (n3 : SliceC SbtC 2 lo w a3 x.berths) (l1 : x.services.length ≤ 8) (l2 : x.copies.length ≤ 200) (l3 : x.berths.length ≤ 6) (hw : NumOk x) :
  Calls Tryz.prog 54 #[.agg #[.int .i64 x.now, .slice a1 x.services.length c1, .slice a2 x.copies.length c2, .slice a3 x.berths.length c3]] w fun e w' => FndRes x a1 c1 a2 c2 a3 c3 w e w' := by
 have hmm : ∀ q n w, (Instr.makeMap 58 (some (.int q n))).run Tryz.prog w = .ok (.map (some w.heap.size)) (w.alloc (.map #[] 0)) := fun q n w => run_makeMapHint Tryz.underlying58 q n w
 have HN1 := Hid.intro n1
 have HN2 := Hid.intro n2
 have HN3 := Hid.intro n3
 have HW := Hid.intro hw
 clear n1 n2 n3 hw
 have HK1 : Hid (Blk w.heap.size #[.int .i64 x.now, .slice a1 x.services.length c1, .slice a2 x.copies.length c2, .slice a3 x.berths.length c3] 34 (w.alloc (Obj.cells #[.int .i64 x.now, .slice a1 x.services.length c1, .slice a2 x.copies.length c2, .slice a3 x.berths.length c3] 34))) := Blk.alloc _ _ _
 have hB1 : Below w.heap.size w (w.alloc (Obj.cells #[.int .i64 x.now, .slice a1 x.services.length c1, .slice a2 x.copies.length c2, .slice a3 x.berths.length c3] 34)) := by go_grown
 go_enter Tryz.func54, Tryz.ntmps54
 go_upto_region 1 with fail
 generalize w.alloc (Obj.cells #[.int .i64 x.now, .slice a1 x.services.length c1, .slice a2 x.copies.length c2, .slice a3 x.berths.length c3] 34) = w1 at *
 refine wp_region_held_drew (S := fun wy => Blk w.heap.size #[.int .i64 x.now, .slice a1 x.services.length c1, .slice a2 x.copies.length c2, .slice a3 x.berths.length c3] 34 wy) (by kernel_rfl) HK1.out.drew (fun hS => ?_)
 have hB2 : Below w.heap.size w w1.drew := hB1.drew
 clear HK1 hB1
 generalize w1.drew = w2 at *
 refine tm 0 10 w.heap.size 0 [.int .i64 x.now, .slice a1 x.services.length c1, .slice a2 x.copies.length c2, .slice a3 x.berths.length c3] rfl (fun _ h => h.rangeA) Tryz.underlying34 isz_Sbk hS ?_
 simp only [pA,pB,pC,pD]
 refine tz 1 11 (.pointer (some ⟨w.heap.size, 1, none⟩)) rfl hS ?_
 simp only [pA,pB,pC,pD]
 refine tl 2 12 (.slice a1 x.services.length c1) ⟨w.heap.size, 1, none⟩ rfl (fun wy hy => hy.cell rfl) hS ?_
 simp only [pA,pB,pC,pD]
 refine tz 3 13 (.int .i64 x.services.length) rfl hS ?_
 simp only [pA,pB,pC,pD]
 refine tz 4 14 (.pointer (some ⟨w.heap.size, 2, none⟩)) rfl hS ?_
 simp only [pA,pB,pC,pD]
 refine tl 5 15 (.slice a2 x.copies.length c2) ⟨w.heap.size, 2, none⟩ rfl (fun wy hy => hy.cell rfl) hS ?_
 simp only [pA,pB,pC,pD]
 refine tz 6 16 (.int .i64 x.copies.length) rfl hS ?_
 simp only [pA,pB,pC,pD]
 refine ty 7 ⟨some 17, _, _, _, _, none⟩ (.int .i64 ((x.services.length : Int) + x.copies.length)) rfl (by rfl) ?_ hS ?_
 ·intro wy hy
  clear hy
  (go_simp; rw [IntKind.wrap_i64]; omega)
 simp only [pA,pB,pC,pD]
 refine tz 8 18 (.pointer (some ⟨w.heap.size, 3, none⟩)) rfl hS ?_
 simp only [pA,pB,pC,pD]
 refine tl 9 19 (.slice a3 x.berths.length c3) ⟨w.heap.size, 3, none⟩ rfl (fun wy hy => hy.cell rfl) hS ?_
 simp only [pA,pB,pC,pD]
 refine tz 10 20 (.int .i64 x.berths.length) rfl hS ?_
 simp only [pA,pB,pC,pD]
 refine ty 11 ⟨some 21, _, _, _, _, none⟩ (.int .i64 ((x.services.length : Int) + x.copies.length + x.berths.length)) rfl (by rfl) ?_ hS ?_
 ·intro wy hy
  clear hy
  (go_simp; rw [IntKind.wrap_i64]; omega)
 simp only [pA,pB,pC,pD]
 refine rd1 12 ⟨some 22, _, _, _, _, none⟩ rfl (fun K hK => ?_)
 go_simp
 have HM3 : Hid (OwnK (w2.alloc (.map #[] 0)) w2.heap.size 0 (plS x 0)) := World.ownsMap_made _ _ _ _
 have hB3 : Below w.heap.size w (w2.alloc (.map #[] 0)) := hB2.alloc hB2.size _
 have hlt3 : w2.heap.size < (w2.alloc (Obj.map #[] 0)).heap.size := HM3.out.lt
 refine hK.out _ _ (hS.below ((Below.refl _ w2).alloc (Nat.le_refl _) _) hS.lt) (fun hS => ?_)
 clear hK K
 generalize w2.alloc (Obj.map #[] 0) = w3 at *
 have hmw : w.heap.size ≤ w2.heap.size := hB2.size
 generalize w2.heap.size = m at *
 refine tz 13 23 (.agg #[.int .i64 x.now, .slice a1 x.services.length c1, .slice a2 x.copies.length c2, .slice a3 x.berths.length c3, .map (some m)]) rfl hS ?_
 simp only [pA,pB,pC,pD]
 refine rd1 14 ⟨some 24, _, _, _, _, none⟩ rfl (fun K hK => ?_)
 go_simp
 have HP4 : Hid (Blk w3.heap.size #[.int .i64 x.now, .slice a1 x.services.length c1, .slice a2 x.copies.length c2, .slice a3 x.berths.length c3, .map (some m)] 60 (w3.alloc (Obj.cells #[.int .i64 x.now, .slice a1 x.services.length c1, .slice a2 x.copies.length c2, .slice a3 x.berths.length c3, .map (some m)] 60))) := Blk.alloc _ _ _
 have HM4 : Hid (OwnK (w3.alloc (Obj.cells #[.int .i64 x.now, .slice a1 x.services.length c1, .slice a2 x.copies.length c2, .slice a3 x.berths.length c3, .map (some m)] 60)) m 0 (plS x 0)) := HM3.out.alloc _
 have hB4 : Below w.heap.size w (w3.alloc (Obj.cells #[.int .i64 x.now, .slice a1 x.services.length c1, .slice a2 x.copies.length c2, .slice a3 x.berths.length c3, .map (some m)] 60)) := hB3.alloc hB3.size _
 have hpm : m < w3.heap.size := hlt3
 refine hK.out _ _ (hS.below ((Below.refl _ w3).alloc (Nat.le_refl _) _) hS.lt) (fun hS => ?_)
 clear hK K
 have HBK : Hid (Blk w.heap.size #[.int .i64 x.now, .slice a1 x.services.length c1, .slice a2 x.copies.length c2, .slice a3 x.berths.length c3] 34 (w3.alloc (Obj.cells #[.int .i64 x.now, .slice a1 x.services.length c1, .slice a2 x.copies.length c2, .slice a3 x.berths.length c3, .map (some m)] 60))) := hS
 generalize w3.alloc (Obj.cells #[.int .i64 x.now, .slice a1 x.services.length c1, .slice a2 x.copies.length c2, .slice a3 x.berths.length c3, .map (some m)] 60) = w4 at *
 have hpw : w.heap.size ≤ w3.heap.size := hB3.size
 generalize w3.heap.size = p at *
 refine tz 15 3 (.pointer (some ⟨p, 0, none⟩)) rfl hS ?_
 simp only [pA,pB,pC,pD]
 refine wpAnyH_done (by kernel_rfl) ?_ _
 clear hS
 clear hmm HM3 hB3 hlt3
 have hgw : w.heap.size < w4.heap.size := HBK.out.lt
 have hgm : ¬ w.heap.size = m := by
  intro e
  have h1 := HBK.out
  obtain ⟨es, clock, h2, _⟩ := HM4.out
  unfold Blk at h1
  rw [e, h2] at h1
  cases h1
 have b1 : w4.cell? ⟨w.heap.size, 1, none⟩ = some (.slice a1 x.services.length c1) := HBK.out.cell rfl
 go_wp2_with fail
 clear b1
 go_loopw [28] (fun i wr => ∃ k : Nat, k ≤ x.services.length ∧ i = .int .i64 k ∧ Hid (Blk w.heap.size #[.int .i64 x.now, .slice a1 x.services.length c1, .slice a2 x.copies.length c2, .slice a3 x.berths.length c3] 34 wr) ∧ Hid (Blk p #[.int .i64 x.now, .slice a1 x.services.length c1, .slice a2 x.copies.length c2, .slice a3 x.berths.length c3, .map (some m)] 60 wr) ∧ Hid (OwnK wr m (k) (plS x k)) ∧ Below w.heap.size w wr) (fun i _ => x.services.length - (intOf i).toNat)
 case atStart => exact ⟨0, Nat.zero_le _, rfl, HBK, HP4, HM4, hB4⟩
 case round =>
  obtain ⟨k, hk, rfl, hBK, hP, hO, hB⟩ := hrel
  by_cases hlt : k < x.services.length
  case neg =>
   have hke : k = x.services.length := by omega
   subst hke
   have b1 : wr.cell? ⟨w.heap.size, 2, none⟩ = some (.slice a2 x.copies.length c2) := hBK.out.cell rfl
   clear hlt hk HN1
   go_wp2_with fail
   clear b1
   go_loopw [45] (fun i wr => ∃ k : Nat, k ≤ x.copies.length ∧ i = .int .i64 k ∧ Hid (Blk w.heap.size #[.int .i64 x.now, .slice a1 x.services.length c1, .slice a2 x.copies.length c2, .slice a3 x.berths.length c3] 34 wr) ∧ Hid (Blk p #[.int .i64 x.now, .slice a1 x.services.length c1, .slice a2 x.copies.length c2, .slice a3 x.berths.length c3, .map (some m)] 60 wr) ∧ Hid (OwnK wr m (x.services.length + k) (plC x k)) ∧ Below w.heap.size w wr) (fun i _ => x.copies.length - (intOf i).toNat)
   case atStart => exact ⟨0, Nat.zero_le _, rfl, hBK, hP, hO, hB⟩
   case round =>
    obtain ⟨k, hk, rfl, hBK, hP, hO, hB⟩ := hrel
    by_cases hlt : k < x.copies.length
    case neg =>
     have hke : k = x.copies.length := by omega
     subst hke
     have b1 : wr.cell? ⟨w.heap.size, 3, none⟩ = some (.slice a3 x.berths.length c3) := hBK.out.cell rfl
     clear hlt hk HN2
     go_wp2_with fail
     clear b1
     go_loopw [64] (fun i wr => ∃ k : Nat, k ≤ x.berths.length ∧ i = .int .i64 k ∧ Hid (Blk w.heap.size #[.int .i64 x.now, .slice a1 x.services.length c1, .slice a2 x.copies.length c2, .slice a3 x.berths.length c3] 34 wr) ∧ Hid (Blk p #[.int .i64 x.now, .slice a1 x.services.length c1, .slice a2 x.copies.length c2, .slice a3 x.berths.length c3, .map (some m)] 60 wr) ∧ Hid (OwnK wr m (x.services.length + x.copies.length + k) (plB x k)) ∧ Below w.heap.size w wr) (fun i _ => x.berths.length - (intOf i).toNat)
     case atStart => exact ⟨0, Nat.zero_le _, rfl, hBK, hP, hO, hB⟩
     case round =>
      obtain ⟨k, hk, rfl, hBK, hP, hO, hB⟩ := hrel
      by_cases hlt : k < x.berths.length
      case neg =>
       have hke : k = x.berths.length := by omega
       subst hke
       go_wp2_with fail
       go_ret
       exact ⟨p, m, _, rfl, hP.out, hO.out, hB⟩
      obtain ⟨y, hy⟩ : ∃ y, x.berths[k]? = some y := ⟨x.berths[k], List.getElem?_eq_getElem hlt⟩
      obtain ⟨b, o, ea, _, hbl, hc⟩ := (HN3.out.below SbtC.holds hB (Nat.le_refl _)).at hy
      subst ea
      have hz := hc
      obtain ⟨_, _, z0⟩ := hz
      have HRY := Hid.intro (rngSbt hc)
      have Z0 := Hid.intro z0
      have HP1 : Hid (plB x (k + 1) = (plB x k).put (kK 2 y.name 0) (.lit (.int .i64 k))) := by
       show _ = _
       simp [pl, hy]
      clear hc hy z0
      have hza : Blk wr.heap.size #[.string ⟨#[]⟩, .bool false] 85 (wr.alloc (Obj.cells #[.string ⟨#[]⟩, .bool false] 85)) := Blk.alloc _ _ _
      have HTS : Hid ((wr.alloc (Obj.cells #[.string ⟨#[]⟩, .bool false] 85)).there wr.heap.size 0 2) := hza.there
      obtain ⟨w5, HW5⟩ : ∃ w5, Hid (w5 = (wr.alloc (Obj.cells #[.string ⟨#[]⟩, .bool false] 85)).setCells wr.heap.size 0 [.string y.name, .bool y.drain]) := ⟨_, rfl⟩
      have HK5 : Hid (Blk wr.heap.size #[.string y.name, .bool y.drain] 85 w5) := by
       show Blk _ _ _ _
       rw [HW5.out]
       exact hza.setAll #[.string y.name, .bool y.drain] rfl
      have hbx : Below wr.heap.size wr w5 := by
       rw [HW5.out]
       exact below_setCells (Nat.le_refl _) _ _ _ ((Below.refl _ wr).alloc (Nat.le_refl _) _)
      have hB5 : Below w.heap.size w w5 := hB.trans (hbx.mono hB.size)
      have HB5 := Hid.intro (hBK.out.below hbx hBK.out.lt)
      have HP5 := Hid.intro (hP.out.below hbx hP.out.lt)
      have HO5 := Hid.intro (ownsMap_below hO.out hbx hO.out.lt)
      have hne1 : ¬ wr.heap.size = m := by have := hO.out.lt; omega
      clear hza hbx hB hO hP hBK
      go_upto_region 15 with (first | (refine wpList_load_mid rfl 85 _ rfl b (o + k * 2) (by first | rfl | (simp [go_sem]; done)) [.string y.name, .bool y.drain] _ HRY.out Tryz.underlying85 rfl isz_Sbt ?_) | (refine wpList_store_to rfl 85 _ _ rfl wr.heap.size 0 #[.string y.name, .bool y.drain] rfl rfl HTS.out isz_Sbt (by simp [Value.oneCell']) w5 HW5.out ?_))
      clear HRY HTS HW5
      generalize wr.heap.size = g at *
      refine wp_region_held_drew (S := fun wy => Blk p #[.int .i64 x.now, .slice a1 x.services.length c1, .slice a2 x.copies.length c2, .slice (some ⟨b, o, none⟩) x.berths.length c3, .map (some m)] 60 wy ∧ Blk g #[.string y.name, .bool y.drain] 85 wy) (by kernel_rfl) ⟨HP5.out.drew, HK5.out.drew⟩ (fun hS => ?_)
      have hB6 : Below w.heap.size w w5.drew := hB5.drew
      have HB6 := Hid.intro HB5.out.drew
      have HO6 : Hid (OwnK w5.drew m (x.services.length + x.copies.length + k) (plB x k)) := HO5.out.drew
      clear hB5 HB5 HO5 HP5 HK5
      generalize w5.drew = w6 at *
      refine tz 0 69 (.pointer (some ⟨p, 0, none⟩)) rfl hS ?_
      simp only [pN,pA,pB,pC,pD]
      refine tz 1 70 (.pointer (some ⟨p, 0, none⟩)) rfl hS ?_
      simp only [pA,pB,pC,pD]
      refine tz 2 71 (.pointer (some ⟨p, 4, none⟩)) rfl hS ?_
      simp only [pA,pB,pC,pD]
      refine tl 3 72 (.map (some m)) ⟨p, 4, none⟩ rfl (fun wy hy => hy.1.cell rfl) hS ?_
      simp only [pA,pB,pC,pD]
      refine tz 4 73 (.pointer (some ⟨g, 0, none⟩)) rfl hS ?_
      simp only [pA,pB,pC,pD]
      refine tl 5 74 (.string y.name) ⟨g, 0, none⟩ rfl (fun wy hy => hy.2.cell rfl) hS ?_
      simp only [pA,pB,pC,pD]
      refine tz 7 76 (.int .i64 k) rfl hS ?_
      simp only [pA,pB,pC,pD]
      refine rd1 6 ⟨some 75, _, _, _, _, none⟩ rfl (fun K hK => ?_)
      go_simp
      refine (bthKey_any y.name _).mono ?_
      rintro e w6b ⟨rfl, hbk⟩
      have hB6b : Below w.heap.size w w6b := hB6.trans (hbk.mono hB6.size)
      have HB6b := Hid.intro (HB6.out.below hbk HB6.out.lt)
      have HO6b : Hid (OwnK w6b m (x.services.length + x.copies.length + k) (plB x k)) := ownsMap_below HO6.out hbk HO6.out.lt
      clear hB6 HB6 HO6
      refine hK.out _ _ ⟨hS.1.below hbk hS.1.lt, hS.2.below hbk hS.2.lt⟩ (fun hS => ?_)
      clear hK K
      clear hbk
      have hkey : keyOf Tryz.prog 133 (.agg #[.int .i64 2, .string y.name, .int .i64 0]) = some (kK 2 y.name 0) := keyOf_key (by decide) Z0.out (by decide)
      obtain ⟨w7, hrun, hown, hgrow⟩ := HO6b.out.update law_key Tryz.underlying58 (by unfold maxLen; omega) hkey (plainElem_int Tryz.underlying3 (a := (k : Int)) (WalkArith.wf_i64 (by omega)))
      have HP7 := Hid.intro (blk_grown hS.1 hgrow (by omega))
      have HG7 := Hid.intro (blk_grown hS.2 hgrow (by omega))
      have HB7 := Hid.intro (blk_grown HB6b.out hgrow hgm)
      have hB7 : Below w.heap.size w w7 := hB6b.grown hgrow hB6b.size (fun j hj => by cases hj; omega)
      have HO7 : Hid (OwnK w7 m (x.services.length + x.copies.length + (k + 1)) (plB x (k + 1))) := by
       show World.ownsMap _ _ _ _ _ _ _
       rw [HP1.out]
       exact hown
      refine rd1 8 ⟨none, _, _, _, _, none⟩ rfl (fun K hK => ?_)
      rw [if_pos (by rfl)]
      refine wp_mapUpdate (.tmp 72) (.tmp 75) (.tmp 76) 58 (by rfl) m _ _ (by rfl) (by rfl) (by rfl) hrun ?_
      refine hK.out _ _ ⟨HP7.out, HG7.out⟩ (fun hS => ?_)
      clear hK K hrun hown hgrow HO6b HB6b hB6b hkey HP1
      refine wpAnyH_done (by kernel_rfl) ?_ _
      clear hS
      go_wp2_with fail
      go_roundw
      case rel => exact ⟨k + 1, by omega, by go_num, HB7, HP7, HO7, hB7⟩
      case measure => simp [intOf]; omega
    obtain ⟨y, hy⟩ : ∃ y, x.copies[k]? = some y := ⟨x.copies[k], List.getElem?_eq_getElem hlt⟩
    obtain ⟨b, o, ea, _, hbl, hc⟩ := (HN2.out.below ScpC.holds hB (Nat.le_refl _)).at hy
    subst ea
    have hz := hc
    obtain ⟨_, _, _, _, _, _, _, z0, _⟩ := hz
    have HRY := Hid.intro (rngScp hc)
    have Z0 := Hid.intro z0
    have HP1 : Hid (plC x (k + 1) = (plC x k).put (kK 1 y.service y.number) (.lit (.int .i64 k))) := by
     show _ = _
     simp [pl, hy]
    have Z1 : Hid (Wf y.number) := HW.out y (List.mem_of_getElem? hy)
    clear hc hy z0
    have hza : Blk wr.heap.size #[.string ⟨#[]⟩, .int .i64 0, .int .i64 0, .int .i64 0, .int .i64 0, .bool false, .string ⟨#[]⟩] 87 (wr.alloc (Obj.cells #[.string ⟨#[]⟩, .int .i64 0, .int .i64 0, .int .i64 0, .int .i64 0, .bool false, .string ⟨#[]⟩] 87)) := Blk.alloc _ _ _
    have HTS : Hid ((wr.alloc (Obj.cells #[.string ⟨#[]⟩, .int .i64 0, .int .i64 0, .int .i64 0, .int .i64 0, .bool false, .string ⟨#[]⟩] 87)).there wr.heap.size 0 7) := hza.there
    obtain ⟨w5, HW5⟩ : ∃ w5, Hid (w5 = (wr.alloc (Obj.cells #[.string ⟨#[]⟩, .int .i64 0, .int .i64 0, .int .i64 0, .int .i64 0, .bool false, .string ⟨#[]⟩] 87)).setCells wr.heap.size 0 [.string y.service, .int .i64 y.number, .int .i64 y.version, .int .i64 y.image, .int .i64 y.state, .bool y.ending, .string y.berth]) := ⟨_, rfl⟩
    have HK5 : Hid (Blk wr.heap.size #[.string y.service, .int .i64 y.number, .int .i64 y.version, .int .i64 y.image, .int .i64 y.state, .bool y.ending, .string y.berth] 87 w5) := by
     show Blk _ _ _ _
     rw [HW5.out]
     exact hza.setAll #[.string y.service, .int .i64 y.number, .int .i64 y.version, .int .i64 y.image, .int .i64 y.state, .bool y.ending, .string y.berth] rfl
    have hbx : Below wr.heap.size wr w5 := by
     rw [HW5.out]
     exact below_setCells (Nat.le_refl _) _ _ _ ((Below.refl _ wr).alloc (Nat.le_refl _) _)
    have hB5 : Below w.heap.size w w5 := hB.trans (hbx.mono hB.size)
    have HB5 := Hid.intro (hBK.out.below hbx hBK.out.lt)
    have HP5 := Hid.intro (hP.out.below hbx hP.out.lt)
    have HO5 := Hid.intro (ownsMap_below hO.out hbx hO.out.lt)
    have hne1 : ¬ wr.heap.size = m := by have := hO.out.lt; omega
    clear hza hbx hB hO hP hBK
    go_upto_region 10 with (first | (refine wpList_load_mid rfl 87 _ rfl b (o + k * 7) (by first | rfl | (simp [go_sem]; done)) [.string y.service, .int .i64 y.number, .int .i64 y.version, .int .i64 y.image, .int .i64 y.state, .bool y.ending, .string y.berth] _ HRY.out Tryz.underlying87 rfl isz_Scp ?_) | (refine wpList_store_to rfl 87 _ _ rfl wr.heap.size 0 #[.string y.service, .int .i64 y.number, .int .i64 y.version, .int .i64 y.image, .int .i64 y.state, .bool y.ending, .string y.berth] rfl rfl HTS.out isz_Scp (by simp [Value.oneCell']) w5 HW5.out ?_))
    clear HRY HTS HW5
    generalize wr.heap.size = g at *
    refine wp_region_held_drew (S := fun wy => Blk p #[.int .i64 x.now, .slice a1 x.services.length c1, .slice (some ⟨b, o, none⟩) x.copies.length c2, .slice a3 x.berths.length c3, .map (some m)] 60 wy ∧ Blk g #[.string y.service, .int .i64 y.number, .int .i64 y.version, .int .i64 y.image, .int .i64 y.state, .bool y.ending, .string y.berth] 87 wy) (by kernel_rfl) ⟨HP5.out.drew, HK5.out.drew⟩ (fun hS => ?_)
    have hB6 : Below w.heap.size w w5.drew := hB5.drew
    have HB6 := Hid.intro HB5.out.drew
    have HO6 : Hid (OwnK w5.drew m (x.services.length + k) (plC x k)) := HO5.out.drew
    clear hB5 HB5 HO5 HP5 HK5
    generalize w5.drew = w6 at *
    refine tz 0 50 (.pointer (some ⟨p, 0, none⟩)) rfl hS ?_
    simp only [pN,pA,pB,pC,pD]
    refine tz 1 51 (.pointer (some ⟨p, 0, none⟩)) rfl hS ?_
    simp only [pA,pB,pC,pD]
    refine tz 2 52 (.pointer (some ⟨p, 4, none⟩)) rfl hS ?_
    simp only [pA,pB,pC,pD]
    refine tl 3 53 (.map (some m)) ⟨p, 4, none⟩ rfl (fun wy hy => hy.1.cell rfl) hS ?_
    simp only [pA,pB,pC,pD]
    refine tz 4 54 (.pointer (some ⟨g, 0, none⟩)) rfl hS ?_
    simp only [pA,pB,pC,pD]
    refine tl 5 55 (.string y.service) ⟨g, 0, none⟩ rfl (fun wy hy => hy.2.cell rfl) hS ?_
    simp only [pA,pB,pC,pD]
    refine tz 6 56 (.pointer (some ⟨g, 1, none⟩)) rfl hS ?_
    simp only [pA,pB,pC,pD]
    refine tl 7 57 (.int .i64 y.number) ⟨g, 1, none⟩ rfl (fun wy hy => hy.2.cell rfl) hS ?_
    simp only [pA,pB,pC,pD]
    refine tz 9 59 (.int .i64 k) rfl hS ?_
    simp only [pA,pB,pC,pD]
    refine rd1 8 ⟨some 58, _, _, _, _, none⟩ rfl (fun K hK => ?_)
    go_simp
    refine (cpyKey_any y.service y.number _).mono ?_
    rintro e w6b ⟨rfl, hbk⟩
    have hB6b : Below w.heap.size w w6b := hB6.trans (hbk.mono hB6.size)
    have HB6b := Hid.intro (HB6.out.below hbk HB6.out.lt)
    have HO6b : Hid (OwnK w6b m (x.services.length + k) (plC x k)) := ownsMap_below HO6.out hbk HO6.out.lt
    clear hB6 HB6 HO6
    refine hK.out _ _ ⟨hS.1.below hbk hS.1.lt, hS.2.below hbk hS.2.lt⟩ (fun hS => ?_)
    clear hK K
    clear hbk
    have hkey : keyOf Tryz.prog 133 (.agg #[.int .i64 1, .string y.service, .int .i64 y.number]) = some (kK 1 y.service y.number) := keyOf_key (by decide) Z0.out Z1.out
    obtain ⟨w7, hrun, hown, hgrow⟩ := HO6b.out.update law_key Tryz.underlying58 (by unfold maxLen; omega) hkey (plainElem_int Tryz.underlying3 (a := (k : Int)) (WalkArith.wf_i64 (by omega)))
    have HP7 := Hid.intro (blk_grown hS.1 hgrow (by omega))
    have HG7 := Hid.intro (blk_grown hS.2 hgrow (by omega))
    have HB7 := Hid.intro (blk_grown HB6b.out hgrow hgm)
    have hB7 : Below w.heap.size w w7 := hB6b.grown hgrow hB6b.size (fun j hj => by cases hj; omega)
    have HO7 : Hid (OwnK w7 m (x.services.length + (k + 1)) (plC x (k + 1))) := by
     show World.ownsMap _ _ _ _ _ _ _
     rw [HP1.out]
     exact hown
    refine rd1 10 ⟨none, _, _, _, _, none⟩ rfl (fun K hK => ?_)
    rw [if_pos (by rfl)]
    refine wp_mapUpdate (.tmp 53) (.tmp 58) (.tmp 59) 58 (by rfl) m _ _ (by rfl) (by rfl) (by rfl) hrun ?_
    refine hK.out _ _ ⟨HP7.out, HG7.out⟩ (fun hS => ?_)
    clear hK K hrun hown hgrow HO6b HB6b hB6b hkey HP1
    refine wpAnyH_done (by kernel_rfl) ?_ _
    clear hS
    go_wp2_with fail
    go_roundw
    case rel => exact ⟨k + 1, by omega, by go_num, HB7, HP7, HO7, hB7⟩
    case measure => simp [intOf]; omega
  obtain ⟨y, hy⟩ : ∃ y, x.services[k]? = some y := ⟨x.services[k], List.getElem?_eq_getElem hlt⟩
  obtain ⟨b, o, ea, _, hbl, hc⟩ := (HN1.out.below SsvC.holds hB (Nat.le_refl _)).at hy
  subst ea
  have hz := hc
  obtain ⟨_, _, _, _, _, _, _, _, _, _, _, _, _, z0⟩ := hz
  have HRY := Hid.intro (rngSsv hc)
  have Z0 := Hid.intro z0
  have HP1 : Hid (plS x (k + 1) = (plS x k).put (kK 0 y.name 0) (.lit (.int .i64 k))) := by
   show _ = _
   simp [pl, hy]
  clear hc hy z0
  have hza : Blk wr.heap.size #[.string ⟨#[]⟩, .int .i64 0, .bool false, .int .i64 0, .int .i64 0, .int .i64 0, .int .i64 0, .int .i64 0, .int .i64 0, .int .i64 0, .int .i64 0, .int .i64 0, .int .i64 0] 50 (wr.alloc (Obj.cells #[.string ⟨#[]⟩, .int .i64 0, .bool false, .int .i64 0, .int .i64 0, .int .i64 0, .int .i64 0, .int .i64 0, .int .i64 0, .int .i64 0, .int .i64 0, .int .i64 0, .int .i64 0] 50)) := Blk.alloc _ _ _
  have HTS : Hid ((wr.alloc (Obj.cells #[.string ⟨#[]⟩, .int .i64 0, .bool false, .int .i64 0, .int .i64 0, .int .i64 0, .int .i64 0, .int .i64 0, .int .i64 0, .int .i64 0, .int .i64 0, .int .i64 0, .int .i64 0] 50)).there wr.heap.size 0 13) := hza.there
  obtain ⟨w5, HW5⟩ : ∃ w5, Hid (w5 = (wr.alloc (Obj.cells #[.string ⟨#[]⟩, .int .i64 0, .bool false, .int .i64 0, .int .i64 0, .int .i64 0, .int .i64 0, .int .i64 0, .int .i64 0, .int .i64 0, .int .i64 0, .int .i64 0, .int .i64 0] 50)).setCells wr.heap.size 0 [.string y.name, .int .i64 y.version, .bool y.gone, .int .i64 y.image, .int .i64 y.want, .int .i64 y.down, .int .i64 y.over, .int .i64 y.next, .int .i64 y.per, .int .i64 y.least, .int .i64 y.most, .int .i64 y.load, .int .i64 y.cool]) := ⟨_, rfl⟩
  have HK5 : Hid (Blk wr.heap.size #[.string y.name, .int .i64 y.version, .bool y.gone, .int .i64 y.image, .int .i64 y.want, .int .i64 y.down, .int .i64 y.over, .int .i64 y.next, .int .i64 y.per, .int .i64 y.least, .int .i64 y.most, .int .i64 y.load, .int .i64 y.cool] 50 w5) := by
   show Blk _ _ _ _
   rw [HW5.out]
   exact hza.setAll #[.string y.name, .int .i64 y.version, .bool y.gone, .int .i64 y.image, .int .i64 y.want, .int .i64 y.down, .int .i64 y.over, .int .i64 y.next, .int .i64 y.per, .int .i64 y.least, .int .i64 y.most, .int .i64 y.load, .int .i64 y.cool] rfl
  have hbx : Below wr.heap.size wr w5 := by
   rw [HW5.out]
   exact below_setCells (Nat.le_refl _) _ _ _ ((Below.refl _ wr).alloc (Nat.le_refl _) _)
  have hB5 : Below w.heap.size w w5 := hB.trans (hbx.mono hB.size)
  have HB5 := Hid.intro (hBK.out.below hbx hBK.out.lt)
  have HP5 := Hid.intro (hP.out.below hbx hP.out.lt)
  have HO5 := Hid.intro (ownsMap_below hO.out hbx hO.out.lt)
  have hne1 : ¬ wr.heap.size = m := by have := hO.out.lt; omega
  clear hza hbx hB hO hP hBK
  go_upto_region 5 with (first | (refine wpList_load_mid rfl 50 _ rfl b (o + k * 13) (by first | rfl | (simp [go_sem]; done)) [.string y.name, .int .i64 y.version, .bool y.gone, .int .i64 y.image, .int .i64 y.want, .int .i64 y.down, .int .i64 y.over, .int .i64 y.next, .int .i64 y.per, .int .i64 y.least, .int .i64 y.most, .int .i64 y.load, .int .i64 y.cool] _ HRY.out Tryz.underlying50 rfl isz_Ssv ?_) | (refine wpList_store_to rfl 50 _ _ rfl wr.heap.size 0 #[.string y.name, .int .i64 y.version, .bool y.gone, .int .i64 y.image, .int .i64 y.want, .int .i64 y.down, .int .i64 y.over, .int .i64 y.next, .int .i64 y.per, .int .i64 y.least, .int .i64 y.most, .int .i64 y.load, .int .i64 y.cool] rfl rfl HTS.out isz_Ssv (by simp [Value.oneCell']) w5 HW5.out ?_))
  clear HRY HTS HW5
  generalize wr.heap.size = g at *
  refine wp_region_held_drew (S := fun wy => Blk p #[.int .i64 x.now, .slice (some ⟨b, o, none⟩) x.services.length c1, .slice a2 x.copies.length c2, .slice a3 x.berths.length c3, .map (some m)] 60 wy ∧ Blk g #[.string y.name, .int .i64 y.version, .bool y.gone, .int .i64 y.image, .int .i64 y.want, .int .i64 y.down, .int .i64 y.over, .int .i64 y.next, .int .i64 y.per, .int .i64 y.least, .int .i64 y.most, .int .i64 y.load, .int .i64 y.cool] 50 wy) (by kernel_rfl) ⟨HP5.out.drew, HK5.out.drew⟩ (fun hS => ?_)
  have hB6 : Below w.heap.size w w5.drew := hB5.drew
  have HB6 := Hid.intro HB5.out.drew
  have HO6 : Hid (OwnK w5.drew m (k) (plS x k)) := HO5.out.drew
  clear hB5 HB5 HO5 HP5 HK5
  generalize w5.drew = w6 at *
  refine tz 0 33 (.pointer (some ⟨p, 0, none⟩)) rfl hS ?_
  simp only [pN,pA,pB,pC,pD]
  refine tz 1 34 (.pointer (some ⟨p, 0, none⟩)) rfl hS ?_
  simp only [pA,pB,pC,pD]
  refine tz 2 35 (.pointer (some ⟨p, 4, none⟩)) rfl hS ?_
  simp only [pA,pB,pC,pD]
  refine tl 3 36 (.map (some m)) ⟨p, 4, none⟩ rfl (fun wy hy => hy.1.cell rfl) hS ?_
  simp only [pA,pB,pC,pD]
  refine tz 4 37 (.pointer (some ⟨g, 0, none⟩)) rfl hS ?_
  simp only [pA,pB,pC,pD]
  refine tl 5 38 (.string y.name) ⟨g, 0, none⟩ rfl (fun wy hy => hy.2.cell rfl) hS ?_
  simp only [pA,pB,pC,pD]
  refine tz 7 40 (.int .i64 k) rfl hS ?_
  simp only [pA,pB,pC,pD]
  refine rd1 6 ⟨some 39, _, _, _, _, none⟩ rfl (fun K hK => ?_)
  go_simp
  refine (svcKey_any y.name _).mono ?_
  rintro e w6b ⟨rfl, hbk⟩
  have hB6b : Below w.heap.size w w6b := hB6.trans (hbk.mono hB6.size)
  have HB6b := Hid.intro (HB6.out.below hbk HB6.out.lt)
  have HO6b : Hid (OwnK w6b m (k) (plS x k)) := ownsMap_below HO6.out hbk HO6.out.lt
  clear hB6 HB6 HO6
  refine hK.out _ _ ⟨hS.1.below hbk hS.1.lt, hS.2.below hbk hS.2.lt⟩ (fun hS => ?_)
  clear hK K
  clear hbk
  have hkey : keyOf Tryz.prog 133 (.agg #[.int .i64 0, .string y.name, .int .i64 0]) = some (kK 0 y.name 0) := keyOf_key (by decide) Z0.out (by decide)
  obtain ⟨w7, hrun, hown, hgrow⟩ := HO6b.out.update law_key Tryz.underlying58 (by unfold maxLen; omega) hkey (plainElem_int Tryz.underlying3 (a := (k : Int)) (WalkArith.wf_i64 (by omega)))
  have HP7 := Hid.intro (blk_grown hS.1 hgrow (by omega))
  have HG7 := Hid.intro (blk_grown hS.2 hgrow (by omega))
  have HB7 := Hid.intro (blk_grown HB6b.out hgrow hgm)
  have hB7 : Below w.heap.size w w7 := hB6b.grown hgrow hB6b.size (fun j hj => by cases hj; omega)
  have HO7 : Hid (OwnK w7 m ((k + 1)) (plS x (k + 1))) := by
   show World.ownsMap _ _ _ _ _ _ _
   rw [HP1.out]
   exact hown
  refine rd1 8 ⟨none, _, _, _, _, none⟩ rfl (fun K hK => ?_)
  rw [if_pos (by rfl)]
  refine wp_mapUpdate (.tmp 36) (.tmp 39) (.tmp 40) 58 (by rfl) m _ _ (by rfl) (by rfl) (by rfl) hrun ?_
  refine hK.out _ _ ⟨HP7.out, HG7.out⟩ (fun hS => ?_)
  clear hK K hrun hown hgrow HO6b HB6b hB6b hkey HP1
  refine wpAnyH_done (by kernel_rfl) ?_ _
  clear hS
  go_wp2_with fail
  go_roundw
  case rel => exact ⟨k + 1, by omega, by go_num, HB7, HP7, HO7, hB7⟩
  case measure => simp [intOf]; omega

end Go.Proofs.YtnggdpjfmpjlhaaGreat
