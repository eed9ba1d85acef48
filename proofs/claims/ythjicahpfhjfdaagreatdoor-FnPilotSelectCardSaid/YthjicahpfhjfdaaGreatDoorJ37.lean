/-
  Several texts in one: Ask, Tre, Lsl.
-/
import Derived.Test.YthjicahpfhjfdaaGreatDoorMts
import Derived.Deep.AppendLies
import Derived.Deep.Onto
import Derived.Lib.Walk
import Derived.Lib.SliceRun
import Derived.Test.YthjicahpfhjfdaaGreatDoorPst
import Derived.Test.YthjicahpfhjfdaaGreatDoorJ35
import Derived.Test.YthjicahpfhjfdaaGreatDoorJ18
namespace Go.Proofs.YthjicahpfhjfdaaGreatDoor
open Go.RowKit Go.WideMaps Go.Maps

theorem strRow_at {ms : List ByteArray} {j : Nat} {u : Value} (h : (ms.map Value.string)[j]? = some u) : ∃ s, ms[j]? = some s ∧ u = .string s := by
  rw [List.getElem?_map] at h
  cases e : ms[j]? with
  | none => rw [e] at h; cases h
  | some s => rw [e] at h; cases h; exact ⟨s, rfl, rfl⟩

theorem strRow_one (ms : List ByteArray) : ∀ u ∈ ms.map Value.string, u.oneCell' = true := by
  intro u hu
  obtain ⟨x, _, rfl⟩ := List.mem_map.1 hu
  rfl

/-- a row of texts is a slice of texts -/
theorem sliceC_of_strs {w : World} {base g cap lo : Nat} {e : TypeId} {ms : List ByteArray} (h : w.ownsRow base e 1 (.slice (some ⟨g, 0, none⟩) ms.length cap) ms.length (ms.map Value.string)) (hz : ∀ s ∈ ms, s.size ≤ maxLen) (hm : ms.length ≤ maxLen) (hlo : lo ≤ base) : SliceC StrC 1 lo w (some ⟨g, 0, none⟩) ms := by
  have hg := h.lt g rfl
  refine ⟨hm, .inr ⟨g, 0, rfl, ⟨by omega, fun _ p => h.frozenAt p⟩, hg.2, fun j x hj => ⟨?_, hz x (List.mem_of_getElem? hj)⟩⟩⟩
  have hlt := lt_of_some hj
  have := h.cellAt (j * 1 + 0) (by simp; omega)
  simp only [Nat.mul_one, Nat.add_zero, List.getElem?_map, hj, Option.map_some] at this
  simpa using this

abbrev zoneB : ByteArray := ⟨#[122, 111, 110, 101, 61]⟩
/-- the marks of a berth with its zone -/
def zMarks (ms : List ByteArray) (z : ByteArray) : List ByteArray := ms ++ [zoneB ++ z]
/-- whether a berth is as a text asks -/
def asksI (t : ByteArray) (ms : List ByteArray) (z : ByteArray) : Bool := decide (codeOf t = 0) && meetsK (keysR (zMarks ms z) (zMarks ms z).length) (treeOf t)

/-- two cells of a berth's block: its zone and its marks -/
def TwoZ (p : Nat) (l r : Value) (w : World) : Prop := w.cell? ⟨p, 1, none⟩ = some l ∧ w.cell? ⟨p, 2, none⟩ = some r

theorem TwoZ.below {p : Nat} {l r : Value} {w w' : World} (h : TwoZ p l r w) (hb : Below w.heap.size w w') : TwoZ p l r w' := ⟨(hb.cell (p := ⟨p, 1, none⟩) (block_lt_of_cell h.1)).trans h.1, (hb.cell (p := ⟨p, 2, none⟩) (block_lt_of_cell h.2)).trans h.2⟩

theorem TwoZ.grownZ {p : Nat} {l r v : Value} {w w' : World} (h : TwoZ p l r w) (g : w.grownBy w' v.ownBlock) (hn : v.ownBlock ≠ some p) : TwoZ p l r w' := ⟨g.cell h.1 (fun e => hn e.symm), g.cell h.2 (fun e => hn e.symm)⟩

theorem step_methA {P : Program} {ops : Array Oper} {o : Oper} {a : Act} {K : Act → World → Prop} {Q : Exit → Act → World → Prop} {E : Prop} {w : World}
    (hg : o.guard = none) (x : Operand) (name : String) (qs : Array Operand) (ts : Array TypeId)
    (ho : o.op = .call { callee := .invoke x name, args := qs, argTypes := ts })
    (xv : Value) (hx : a.eval x = xv) (bs : Array Value) (hq : qs.map a.eval = bs) (R : Value → World → Prop) (hm : Meth P xv name bs w R)
    (h : ∀ u w', R u w' → K (a.put o.dst u) w') : if Region.wanted o (yielded ops a.tmps) = true then Oper.wp P o a w K Q else E := by
  rw [if_pos (by simp [Region.wanted, hg])]
  obtain ⟨f, bs', hr, hc⟩ := hm
  subst hx
  subst hq
  have hrun : (execOp a.eval o).run P w = .ok (.enter f bs') w := by
    unfold execOp
    simp only [ho, resolve, invoke, Sem.run_bind, Sem.run_pure, Result.andThen_ok]
    rw [extract_one]
    simp only [Array.getElem?_append, List.size_toArray, List.length_cons, List.length_nil]
    simp only [Nat.zero_add, Nat.lt_one_iff, if_true]
    exact hr
  unfold Oper.wp
  rw [hrun, Oper.upon_enter]
  refine hc.mono ?_
  rintro e w' ⟨u, rfl, hR⟩
  exact h u w' hR

/-- the method's receiver is no nil pointer -/
structure MeetsNil (name : String) : Prop where
  c0 : ∀ w, (nilAhead (Tryz.prog.types.size + Made.depth) 89 (.agg #[]) name).run Tryz.prog w = .ok (some false) w
  c1 : ∀ n w, (nilAhead (Tryz.prog.types.size + Made.depth) 124 (.agg #[.string n]) name).run Tryz.prog w = .ok (some false) w
  c2 : ∀ n m w, (nilAhead (Tryz.prog.types.size + Made.depth) 126 (.agg #[.string n, .string m]) name).run Tryz.prog w = .ok (some false) w
  c3 : ∀ x h w, (nilAhead (Tryz.prog.types.size + Made.depth) 147 (.agg #[x, .int .i64 h]) name).run Tryz.prog w = .ok (some false) w
  c4 : ∀ x y h w, (nilAhead (Tryz.prog.types.size + Made.depth) 152 (.agg #[x, y, .int .i64 h]) name).run Tryz.prog w = .ok (some false) w
  c5 : ∀ x y h w, (nilAhead (Tryz.prog.types.size + Made.depth) 153 (.agg #[x, y, .int .i64 h]) name).run Tryz.prog w = .ok (some false) w

theorem nil_ok {name : String} (H : MeetsNil name) {t : P.Tr} (hw : P.wf t) {ty : TypeId} {x : Value} (hv : Hid (val t = .iface ty x)) (w : World) : (nilAhead (Tryz.prog.types.size + Made.depth) ty x name).run Tryz.prog w = .ok (some false) w := by
  have hv := hv.out
  rcases P.wf_cases hw with rfl | ⟨n, rfl⟩ | ⟨n, v, rfl⟩ | ⟨k, hk, rfl⟩ | ⟨a, b, ha, hb, rfl⟩ | ⟨a, b, ha, hb, rfl⟩
  · rw [val_non] at hv; cases hv; exact H.c0 w
  · rw [val_nm] at hv; cases hv; exact H.c1 _ w
  · rw [val_vl] at hv; cases hv; exact H.c2 _ _ w
  · rw [val_nt] at hv; cases hv; exact H.c3 _ _ w
  · rw [val_an] at hv; cases hv; exact H.c4 _ _ _ w
  · rw [val_or] at hv; cases hv; exact H.c5 _ _ _ w

theorem run_nilCheck_meth {P : Program} {ρ ρ' : Operand → Value} {o : Oper} {x q : Operand} {name : String} {caps : Array Value} {ty : TypeId} {y : Value} (ho : o.op = .nilCheck x) (hx : ρ x = .func (.method name) (#[q].map ρ') caps) (hq : ρ' q = .iface ty y)
    (hn : ∀ w, (nilAhead (P.types.size + Made.depth) ty y name).run P w = .ok (some false) w) (w : World) : (execOp ρ o).run P w = .ok (.value (.func (.method name) (#[q].map ρ') caps)) w := by
  have hp : Sem.run P program w = .ok P w := rfl
  unfold execOp
  simp [ho, hx, hq, hp, hn, Result.andThen]

theorem zMarks_sl {w : World} {base g cap : Nat} {ms : List ByteArray} {z : ByteArray} (h : w.ownsRow base 9 1 (.slice (some ⟨g, 0, none⟩) (ms.length + 1) cap) (ms.length + 1) (ms.map Value.string ++ [.string (zoneB ++ z)])) (hz : ∀ s ∈ ms, s.size ≤ maxLen) (hs : z.size ≤ 1000) (hl : ms.length ≤ 1000) : SliceC StrC 1 0 w (some ⟨g, 0, none⟩) (zMarks ms z) := by
  have hlen : (zMarks ms z).length = ms.length + 1 := by simp [zMarks]
  have hmap : (zMarks ms z).map Value.string = ms.map Value.string ++ [.string (zoneB ++ z)] := by simp [zMarks]
  refine sliceC_of_strs (cap := cap) (base := base) (e := 9) ?_ ?_ ?_ (Nat.zero_le _)
  · rw [hlen, hmap]; exact h
  · intro s hs'
    rcases List.mem_append.1 hs' with h | h
    · exact hz s h
    · rw [List.mem_singleton.1 h, ByteArray.size_append]
      have : zoneB.size = 5 := rfl
      unfold maxLen
      omega
  · rw [hlen]; unfold maxLen; omega

theorem oneStr {w : World} {sb : Nat} {u : Value} (h : w.cell? ⟨sb, 0, none⟩ = some u) : ∀ j x, [u][j]? = some x → w.cell? ((⟨sb, 0, none⟩ : Addr).add j) = some x := by
  intro j x hj
  cases j with
  | zero => cases hj; rw [Addr.add_lit]; exact h
  | succ j => simp at hj

end Go.Proofs.YthjicahpfhjfdaaGreatDoor

namespace Go.Proofs.YthjicahpfhjfdaaGreatDoor
open Go.RowKit

theorem shortT_of (y : P.Tr) (hw : P.wf y) : nOk y → shortT y := by
  refine P.wf_ind (p := fun y => nOk y → shortT y) ?_ ?_ ?_ ?_ ?_ ?_ y hw
  · intro _; exact ⟨Nat.zero_le _, Nat.zero_le _, trivial, trivial⟩
  · intro n hn
    exact ⟨Nat.le_trans (P.nameOk_pos (hn.2.1 rfl)).2 (by decide), Nat.zero_le _, trivial, trivial⟩
  · intro n v hn
    obtain ⟨h1, h2⟩ := hn.2.2.1 rfl
    exact ⟨Nat.le_trans (P.nameOk_pos h1).2 (by decide), Nat.le_trans (P.nameOk_pos h2).2 (by decide), trivial, trivial⟩
  · intro k _ ih hn; exact ⟨Nat.zero_le _, Nat.zero_le _, ih hn.2.2.2.1, trivial⟩
  · intro a b _ _ ia ib hn; exact ⟨Nat.zero_le _, Nat.zero_le _, ia hn.2.2.2.1, ib hn.2.2.2.2⟩
  · intro a b _ _ ia ib hn; exact ⟨Nat.zero_le _, Nat.zero_le _, ia hn.2.2.2.1, ib hn.2.2.2.2⟩

theorem tree_facts {t : ByteArray} (h : codeOf t = 0) : P.wf (treeOf t) ∧ (treeOf t = P.nonT ∨ nOk (treeOf t)) ∧ P.tall (treeOf t) ≤ 20 ∧ P.count (treeOf t) ≤ 200 := by
  have ht : ¬ 200 < t.size := by
    intro hb
    unfold codeOf at h
    rw [if_pos hb] at h
    cases h
  have hl := toksAt_le (i := 0) (t := t) (by omega)
  unfold codeOf at h
  rw [if_neg ht] at h
  unfold treeOf
  by_cases hL : toksAt t 0 = []
  · rw [if_pos hL]
    exact ⟨P.wf_non, .inl rfl, by decide, by decide⟩
  · rw [if_neg hL] at h ⊢
    cases hr : P.rd 1000 2 P.nonT (toksAt t 0) with
    | none => rw [hr] at h; cases h
    | some yr =>
      obtain ⟨y, r⟩ := yr
      obtain ⟨_, _, a3, _, a5, a6⟩ := P.rd_rd 1000 2 P.nonT _ _ _ (fun h => by omega) hr
      rw [if_pos (by omega)] at a5
      have hn := (rd_rd2 1000 2 P.nonT _ _ _ (fun h => by omega) hr).1
      refine ⟨a3, .inr hn, ?_, ?_⟩
      · show P.tall y ≤ 20
        rw [hr] at h
        cases r with
        | nil =>
          by_cases h20 : 20 < P.tall y
          · simp [h20] at h
          · omega
        | cons a b => simp at h
      · show P.count y ≤ 200
        omega

theorem tree_short {t : ByteArray} (h : codeOf t = 0) : shortT (treeOf t) := by
  obtain ⟨hw, hn, _, _⟩ := tree_facts h
  rcases hn with e | hn
  · rw [e]; exact ⟨Nat.zero_le _, Nat.zero_le _, trivial, trivial⟩
  · exact shortT_of _ hw hn

end Go.Proofs.YthjicahpfhjfdaaGreatDoor

namespace Go.Proofs.YthjicahpfhjfdaaGreatDoor
open Go.RowKit Go.WideMaps Go.Maps

theorem run_append_none_any {P : Program} {w : World} (base : Nat) (t ty e : TypeId) (i : TypeInfo) (size : Nat) (ht : P.underlying t = some (.slice e)) (hi : P.info? e = some i)
    (v : Value) (n c : Nat) (xs : List Value) (hown : w.ownsRow base e size v n xs) :
    (Builtin.append_ #[t, t] ty #[v, .slice none 0 c]).run P w = .ok v w := by
  rcases hown.2 with ⟨rfl, rfl⟩ | ⟨g, cap, cur, rfl, _, _, hnc, _⟩
  · simp [Builtin.append_, run_underlying ht, sizeOf, typeInfo, hi, Builtin.lenOf, Builtin.firstCells]
  · simp [Builtin.append_, run_underlying ht, sizeOf, typeInfo, hi, Builtin.lenOf, Builtin.firstCells, hnc, storeCells]

/-- texts appended to a row of the call's own, in a region that draws -/
theorem step_append_strs {ops : Array Oper} {o : Oper} {ac : Act} {w : World} {K : Act → World → Prop} {Q : Exit → Act → World → Prop} {E : Prop} (hgd : o.guard = none) (s x : Operand)
    (ho : o.op = .call { callee := .builtin .append, args := #[s, x], argTypes := #[26, 26] })
    (base : Nat) (v : Value) (n : Nat) (xs : List Value) (hs : ac.eval s = v) (hown : w.ownsRow base 9 1 v n xs)
    (ms : List ByteArray) (a : Option Addr) (cap lo : Nat) (hx : ac.eval x = .slice a ms.length cap) (hin : SliceC StrC 1 lo w a ms) (hb : n + ms.length ≤ 100000) (hbase : base ≤ w.heap.size)
    (h : ∀ v' w', w'.ownsRow base 9 1 v' (n + ms.length) (xs ++ ms.map Value.string) → w.grownBy w' v.ownBlock → (v'.ownBlock = v.ownBlock ∨ v'.ownBlock = some w.heap.size) → K (ac.put o.dst v') w') :
    if Region.wanted o (yielded ops ac.tmps) = true then Oper.wp Tryz.prog o ac w K Q else E := by
  obtain ⟨i0, hi, hz0, hz1, hz2⟩ := info_parts info_str
  have hw : Region.wanted o (yielded ops ac.tmps) = true := by simp [Region.wanted, hgd]
  rw [if_pos hw]
  cases a with
  | none =>
    have hm0 : ms = [] := by
      rcases hin.2 with h | ⟨b, o, h, _⟩
      · exact h
      · cases h
    subst hm0
    have hr := run_append_none_any (P := Tryz.prog) (w := w) base 26 o.type 9 i0 1 Tryz.underlying26 hi v n cap xs hown
    unfold Oper.wp execOp
    simp only [List.length_nil] at hx
    simp only [ho, resolve, invoke, builtin, Sem.run_bind, Sem.run_pure, Result.andThen_ok, List.map_toArray, List.map_cons, List.map_nil, hs, hx, hr]
    exact h v w (by simpa using hown) ⟨rfl, rfl, rfl, Nat.le_refl _, fun _ _ _ => rfl⟩ (.inl rfl)
  | some ad =>
    obtain ⟨v', w', hr, h2, h3, _, h5⟩ := run_append_own_at (P := Tryz.prog) w base 26 o.type 9 i0 (.string ⟨#[]⟩) 1 16 Tryz.underlying26 hi hz0 hz1 hz2 rfl (by decide) v n xs hown ad ms.length cap (ms.map Value.string) (by simp)
      (fun j u hj => by
        obtain ⟨s, hs, rfl⟩ := strRow_at hj
        obtain ⟨b, o, e, _, _, hc⟩ := hin.at hs
        cases e
        have := hc.1
        simp only [Nat.mul_one, Nat.add_zero] at this
        rw [Addr.add_lit]
        exact this) (strRow_one ms) (by unfold maxLen; omega) (by omega) hbase
    unfold Oper.wp execOp
    simp only [ho, resolve, invoke, builtin, Sem.run_bind, Sem.run_pure, Result.andThen_ok, List.map_toArray, List.map_cons, List.map_nil, hs, hx, hr]
    exact h v' w' h2 h3 (by
      rcases h5 with h5 | h5
      · exact .inl h5
      · exact .inr h5)

end Go.Proofs.YthjicahpfhjfdaaGreatDoor
