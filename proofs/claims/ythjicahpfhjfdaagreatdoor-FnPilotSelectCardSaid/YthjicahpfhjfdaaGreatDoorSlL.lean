/-
  PilotPrint without nodes; selects held against each other (made by mksll.py).
-/
import Derived.Test.YthjicahpfhjfdaaGreatDoorSlK
import Derived.Deep.MidRow
import Derived.Laws.StructEq
namespace Go.Proofs.YthjicahpfhjfdaaGreatDoor
open Go.RowKit

set_option maxHeartbeats 1000000 in
theorem treeNil_any (c : Nat) (w : World) : Calls Tryz.prog 17 #[.slice none 0 c] w fun e w' => e = .returned (.tuple #[.nilIface, .bool false]) ∧ Below w.heap.size w w' := by
  go_enter Tryz.func17, Tryz.ntmps17
  go_wp2_with fail
  go_loopw [4, 24] (fun v i wr => v = .slice none 0 0 ∧ i = .int .i64 0 ∧ wr = w) (fun _ _ _ => 0)
  case atStart => exact ⟨rfl, rfl, rfl⟩
  case round =>
    obtain ⟨rfl, rfl, rfl⟩ := hrel
    go_wp2_with fail
    go_ret2
    exact ⟨rfl, Below.refl _ _⟩

set_option maxHeartbeats 1000000 in
theorem printNil_any (c : Nat) (w : World) : Calls Tryz.prog 5 #[.agg #[.slice none 0 c]] w fun e w' => e = .returned (.string ⟨#[]⟩) ∧ Below w.heap.size w w' := by
  have hb0 : Below w.heap.size w (w.alloc (Obj.cells #[.slice none 0 c] 25)) := (Below.refl _ _).alloc (Nat.le_refl _) _
  have HB := Hid.intro hb0
  clear hb0
  go_enter Tryz.func5, Tryz.ntmps5
  go_wp2_with fail
  refine (treeNil_any c _).mono ?_
  rintro e w1 ⟨rfl, hb⟩
  replace HB := Hid.intro (HB.out.trans (hb.mono HB.out.size))
  clear hb
  go_wp2_with fail
  go_ret
  exact ⟨rfl, HB.out⟩

/-- a slice that holds nodes from its block's head on, or holds none -/
def NdSl (w : World) (a : Option Addr) (ns : List P.Nd) : Prop := (ns = [] ∧ a = none) ∨ ∃ g, a = some ⟨g, 0, none⟩ ∧ Nodes0 w g ns

theorem NdSl.grown {w w' : World} {a : Option Addr} {ns : List P.Nd} (h : NdSl w a ns) (hb : Below w.heap.size w w') : NdSl w' a ns := by
  rcases h with h | ⟨g, rfl, h⟩
  · exact .inl h
  · exact .inr ⟨g, rfl, h.grown hb⟩

theorem NdOwn.atS {w : World} {B : Nat} {v : Value} {ns : List P.Nd} (h : NdOwn w B v ns) : ∃ a c, v = .slice a ns.length c ∧ NdSl w a ns := by
  rcases h.2 with ⟨rfl, h0⟩ | ⟨g, cap, cur, rfl, hg, hblk, hcap, hcap2, hcur, htake⟩
  · have e : ns = [] := List.eq_nil_of_length_eq_zero h0
    subst e
    exact ⟨none, 0, rfl, .inl ⟨rfl, rfl⟩⟩
  · have hN : NdRow w B (.slice (some ⟨g, 0, none⟩) ns.length cap) ns := ndRow_own h
    exact ⟨some ⟨g, 0, none⟩, cap, rfl, .inr ⟨g, rfl, hN.nodes⟩⟩

theorem NdIn.atS {w : World} {B : Nat} {a : Option Addr} {ns : List P.Nd} (h : NdIn w B a ns) : NdSl w a ns := by
  rcases h with h | ⟨g, rfl, _, h⟩
  · exact .inl h
  · exact .inr ⟨g, rfl, h⟩

theorem printAt_any (ns : List P.Nd) (a : Option Addr) (c : Nat) (w : World) (h : NdSl w a ns) (hsm : Small ns) :
    Calls Tryz.prog 5 #[.agg #[.slice a ns.length c]] w fun e w' => e = .returned (.string (P.outI ns)) ∧ Below w.heap.size w w' := by
  rcases h with ⟨rfl, rfl⟩ | ⟨g, rfl, h⟩
  · exact printNil_any c w
  · exact implPrint_any ns g c w h hsm

theorem guardNd : Tryz.prog.eqGuardType Tryz.prog.depth 36 = false := by kernel_rfl
theorem fieldsNd : Tryz.prog.underlying 36 = some (.struct (Tryz.prog.fieldsOf 36)) := by kernel_rfl
theorem stoodNd : Tryz.prog.stoodInHeld 36 = false := by kernel_rfl
theorem isz_Nd : (Tryz.prog.info? 36).map (·.size) = some 4 := by kernel_rfl

set_option maxHeartbeats 1000000 in
theorem equalNd (x : P.Nd) (w : World) : (Op.equalIn 10000 36 (.agg #[.int .i64 x.kind, .string x.name, .string x.value, .int .i64 x.kids]) (.agg #[.int .i64 x.kind, .string x.name, .string x.value, .int .i64 x.kids])).run Tryz.prog w = .ok true w := by
  rw [show (10000 : Nat) = 9999 + 1 from rfl, run_equalIn_struct w 9999 _ _ _ fieldsNd stoodNd]
  simp [go_sem, Program.fieldsOf, Tryz.underlying36, Tryz.underlying3, Tryz.underlying9]

theorem Nodes0.range {w : World} {g : Nat} {ns : List P.Nd} (h : Nodes0 w g ns) {k : Nat} {x : P.Nd} (hx : ns[k]? = some x) : w.rangeAt g (k * 4) [.int .i64 x.kind, .string x.name, .string x.value, .int .i64 x.kids] := by
  obtain ⟨q0, q1, q2, q3⟩ := h.2 k x hx
  intro j v hj
  match j, hj with
  | 0, hj => cases hj; exact q0
  | 1, hj => cases hj; exact q1
  | 2, hj => cases hj; exact q2
  | 3, hj => cases hj; exact q3
  | j + 4, hj => cases hj

theorem rangeN_drew {w : World} {g o : Nat} {l : List Value} (h : w.rangeAt g o l) : w.drew.rangeAt g o l := by
  intro j v hj
  have := h j v hj
  simpa using this

set_option maxHeartbeats 4000000 in
set_option maxRecDepth 100000 in
theorem wpSelect_any (ns : List P.Nd) (a a' : Option Addr) (c c' : Nat) (w : World) (hin : NdSl w a ns) (hin' : NdSl w a' ns) (hsm : ns.length ≤ 1048576) :
    Calls Tryz.prog 8 #[.agg #[.slice a ns.length c], .agg #[.slice a' ns.length c']] w fun e w' => e = .returned (.bool true) ∧ Below w.heap.size w w' := by
  have hb0 : Below w.heap.size w ((w.alloc (Obj.cells #[.slice a ns.length c] 25)).alloc (Obj.cells #[.slice a' ns.length c'] 25)) := by go_grown
  have C2 : ((w.alloc (Obj.cells #[.slice a ns.length c] 25)).alloc (Obj.cells #[.slice a' ns.length c'] 25)).cell? ⟨w.heap.size, 0, none⟩ = some (.slice a ns.length c) := by go_simp
  have C3 : ((w.alloc (Obj.cells #[.slice a ns.length c] 25)).alloc (Obj.cells #[.slice a' ns.length c'] 25)).cell? ⟨w.heap.size + 1, 0, none⟩ = some (.slice a' ns.length c') := by go_simp
  have HB := Hid.intro hb0
  have HI := Hid.intro (hin.grown hb0)
  have HI' := Hid.intro (hin'.grown hb0)
  have hgt := guardNd
  clear hin hin' hb0
  go_enter Tryz.func8, Tryz.ntmps8
  go_wp2_with fail
  try simp only [World.size_alloc]
  generalize (w.alloc (Obj.cells #[.slice a ns.length c] 25)).alloc (Obj.cells #[.slice a' ns.length c'] 25) = W at *
  have z2 := block_lt_of_cell C2
  have z3 := block_lt_of_cell C3
  go_loopw [5] (fun i wr => ∃ k : Nat, k ≤ ns.length ∧ i = .int .i64 k ∧ Below W.heap.size W wr) (fun i _ => ns.length - (intOf i).toNat)
  case atStart => exact ⟨0, Nat.zero_le _, rfl, Below.refl _ _⟩
  case round =>
    obtain ⟨k, hk, rfl, hB⟩ := hrel
    have D2 := (hB.cell (p := ⟨w.heap.size, 0, none⟩) z2).trans C2
    have D3 := (hB.cell (p := ⟨w.heap.size + 1, 0, none⟩) z3).trans C3
    by_cases hlt : k < ns.length
    case neg =>
      go_wp2_with fail
      go_ret
      exact ⟨rfl, HB.out.trans (hB.mono HB.out.size)⟩
    obtain ⟨x, hx⟩ : ∃ x, ns[k]? = some x := ⟨ns[k], List.getElem?_eq_getElem hlt⟩
    rcases HI.out.grown hB with ⟨e, _⟩ | ⟨b, rfl, hN⟩
    · subst e; simp at hlt
    rcases HI'.out.grown hB with ⟨e, _⟩ | ⟨b', rfl, hN'⟩
    · subst e; simp at hlt
    have HRA := Hid.intro (hN.range hx)
    have HRB := Hid.intro (hN'.range hx)
    clear hN hN' hx
    go_upto_region 6 with fail
    refine wp_region_held_drew (S := fun wy => (wy.rangeAt b (k * 4) [.int .i64 x.kind, .string x.name, .string x.value, .int .i64 x.kids] ∧ wy.rangeAt b' (k * 4) [.int .i64 x.kind, .string x.name, .string x.value, .int .i64 x.kids]) ∧ wy.cell? ⟨w.heap.size, 0, none⟩ = some (.slice (some ⟨b, 0, none⟩) ns.length c) ∧ wy.cell? ⟨w.heap.size + 1, 0, none⟩ = some (.slice (some ⟨b', 0, none⟩) ns.length c')) (by kernel_rfl) ⟨⟨rangeN_drew HRA.out, rangeN_drew HRB.out⟩, D2, D3⟩ (fun hS => ?_)
    have hB2 : Below W.heap.size W wr.drew := hB.drew
    clear HRA HRB hB D2 D3
    generalize wr.drew = wd at *
    refine wpAnyH_take (i := 0) (oi := { dst := some 20, op := _, type := _, pos := _, after := _, guard := none }) (v := .pointer (some ⟨w.heap.size, 0, none⟩)) rfl (by kernel_rfl) (by kernel_rfl) (by kernel_rfl) (fun _ _ _ h => h) (Or.inl ⟨by rfl, ?_⟩) hS ?_
    · intro wy hy
      clear hy
      go_simp
    simp only [Act.put, List.setIfInBounds_toArray, List.set_cons_zero, List.set_cons_succ]
    refine wpAnyH_take (i := 1) (oi := { dst := some 21, op := _, type := _, pos := _, after := _, guard := none }) (v := .slice (some ⟨b, 0, none⟩) ns.length c) rfl (by kernel_rfl) (by kernel_rfl) (by kernel_rfl) (fun _ _ _ h => h) (Or.inl ⟨by rfl, ?_⟩) hS ?_
    · intro wy hy
      have hq := hy.2.1
      clear hy
      go_simp
    simp only [Act.put, List.setIfInBounds_toArray, List.set_cons_zero, List.set_cons_succ]
    refine wpAnyH_take (i := 2) (oi := { dst := some 22, op := _, type := _, pos := _, after := _, guard := none }) (v := .int .i64 (k : Int)) rfl (by kernel_rfl) (by kernel_rfl) (by kernel_rfl) (fun _ _ _ h => h) (Or.inl ⟨by rfl, ?_⟩) hS ?_
    · intro wy hy
      clear hy
      go_simp
    simp only [Act.put, List.setIfInBounds_toArray, List.set_cons_zero, List.set_cons_succ]
    refine wpAnyH_take (i := 3) (oi := { dst := some 23, op := _, type := _, pos := _, after := _, guard := none }) (v := .pointer (some ⟨b, k * 4, none⟩)) rfl (by kernel_rfl) (by kernel_rfl) (by kernel_rfl) (fun _ _ _ h => h) (Or.inl ⟨by rfl, ?_⟩) hS ?_
    · intro wy hy
      clear hy
      first | (go_simp; done) | (go_simp; intro hh; omega)
    simp only [Act.put, List.setIfInBounds_toArray, List.set_cons_zero, List.set_cons_succ]
    refine wpAnyH_take (i := 4) (oi := { dst := some 24, op := _, type := _, pos := _, after := _, guard := none }) (v := .agg #[.int .i64 x.kind, .string x.name, .string x.value, .int .i64 x.kids]) rfl (by kernel_rfl) (by kernel_rfl) (by kernel_rfl) (fun _ _ _ h => h) (yieldsIf_load_mid (by rfl) _ _ rfl b (k * 4) rfl [.int .i64 x.kind, .string x.name, .string x.value, .int .i64 x.kids] _ (fun _ h => h.1.1) Tryz.underlying36 rfl isz_Nd) hS ?_
    simp only [Act.put, List.setIfInBounds_toArray, List.set_cons_zero, List.set_cons_succ]
    refine wpAnyH_take (i := 5) (oi := { dst := some 25, op := _, type := _, pos := _, after := _, guard := none }) (v := .pointer (some ⟨w.heap.size + 1, 0, none⟩)) rfl (by kernel_rfl) (by kernel_rfl) (by kernel_rfl) (fun _ _ _ h => h) (Or.inl ⟨by rfl, ?_⟩) hS ?_
    · intro wy hy
      clear hy
      go_simp
    simp only [Act.put, List.setIfInBounds_toArray, List.set_cons_zero, List.set_cons_succ]
    refine wpAnyH_take (i := 6) (oi := { dst := some 26, op := _, type := _, pos := _, after := _, guard := none }) (v := .slice (some ⟨b', 0, none⟩) ns.length c') rfl (by kernel_rfl) (by kernel_rfl) (by kernel_rfl) (fun _ _ _ h => h) (Or.inl ⟨by rfl, ?_⟩) hS ?_
    · intro wy hy
      have hq := hy.2.2
      clear hy
      go_simp
    simp only [Act.put, List.setIfInBounds_toArray, List.set_cons_zero, List.set_cons_succ]
    refine wpAnyH_take (i := 7) (oi := { dst := some 27, op := _, type := _, pos := _, after := _, guard := none }) (v := .int .i64 (k : Int)) rfl (by kernel_rfl) (by kernel_rfl) (by kernel_rfl) (fun _ _ _ h => h) (Or.inl ⟨by rfl, ?_⟩) hS ?_
    · intro wy hy
      clear hy
      go_simp
    simp only [Act.put, List.setIfInBounds_toArray, List.set_cons_zero, List.set_cons_succ]
    refine wpAnyH_take (i := 8) (oi := { dst := some 28, op := _, type := _, pos := _, after := _, guard := none }) (v := .pointer (some ⟨b', k * 4, none⟩)) rfl (by kernel_rfl) (by kernel_rfl) (by kernel_rfl) (fun _ _ _ h => h) (Or.inl ⟨by rfl, ?_⟩) hS ?_
    · intro wy hy
      clear hy
      first | (go_simp; done) | (go_simp; intro hh; omega)
    simp only [Act.put, List.setIfInBounds_toArray, List.set_cons_zero, List.set_cons_succ]
    refine wpAnyH_take (i := 9) (oi := { dst := some 29, op := _, type := _, pos := _, after := _, guard := none }) (v := .agg #[.int .i64 x.kind, .string x.name, .string x.value, .int .i64 x.kids]) rfl (by kernel_rfl) (by kernel_rfl) (by kernel_rfl) (fun _ _ _ h => h) (yieldsIf_load_mid (by rfl) _ _ rfl b' (k * 4) rfl [.int .i64 x.kind, .string x.name, .string x.value, .int .i64 x.kids] _ (fun _ h => h.1.2) Tryz.underlying36 rfl isz_Nd) hS ?_
    simp only [Act.put, List.setIfInBounds_toArray, List.set_cons_zero, List.set_cons_succ]
    refine wpAnyH_take (i := 10) (oi := { dst := some 30, op := _, type := _, pos := _, after := _, guard := none }) (v := .bool false) rfl (by kernel_rfl) (by kernel_rfl) (by kernel_rfl) (fun _ _ _ h => h) (Or.inl ⟨by rfl, ?_⟩) hS ?_
    · intro wy hy
      have hq := equalNd x wy
      clear hy
      first | (go_simp; done) | (simp [go_sem, hq]; done)
    simp only [Act.put, List.setIfInBounds_toArray, List.set_cons_zero, List.set_cons_succ]
    refine wpAnyH_done (by kernel_rfl) ?_ _
    clear hS
    go_wp2_with fail
    go_roundw
    case rel => first | exact ⟨k + 1, by omega, by go_num, hB2⟩ | ((repeat apply Exists.intro); exact ⟨⟨k + 1, by omega, by go_num, hB2⟩, rfl⟩)
    case measure => simp [intOf]; omega

end Go.Proofs.YthjicahpfhjfdaaGreatDoor
