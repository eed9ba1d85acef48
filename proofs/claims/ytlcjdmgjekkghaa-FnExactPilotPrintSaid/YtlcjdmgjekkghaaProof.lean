/-
  The row of the law FnExactPilotPrint.
-/
import Derived.Test.YtlcjdmgjekkghaaRows
import Derived.Test.YtlcjdmgjekkghaaWalkU
import Derived.WalkKit
import Derived.ProofKit
import Derived.OpenShut
import Derived.ShutString
import Derived.ChangeOld
import Derived.ChangeSame
import Derived.Below
import Derived.SizedLaws
import Derived.Deep.Slices
import Derived.Lib.SmallJoins
namespace Go.Proofs.Ytlcjdmgjekkghaa
open Go.ChangeShapes Go.WideShapes Go.ChangeAt Go.RowKit

theorem ownX : ownKnob Try.prog.godebug = none := by kernel_rfl
theorem laidOutX : laidOutB Try.prog = true := by kernel_rfl
theorem cells_nd : Try.prog.cellsOf 56 = 4 := by kernel_rfl
theorem bytes_nd : Try.prog.bytesOf 56 = 48 := by kernel_rfl
theorem cells_sel : Try.prog.cellsOf 24 = 1 := by kernel_rfl
theorem cells_ns : Try.prog.cellsOf 22 = 1 := by kernel_rfl
theorem cells_int : Try.prog.cellsOf 3 = 1 := by kernel_rfl
theorem cells_str : Try.prog.cellsOf 9 = 1 := by kernel_rfl

theorem list_of {α : Type} {p : Nat → α → Prop} : ∀ (len : Nat), (∀ i, i < len → ∃ x, p i x) → ∃ l : List α, l.length = len ∧ ∀ i x, l[i]? = some x → p i x
  | 0, _ => ⟨[], rfl, fun i x h => by simp at h⟩
  | n + 1, h => by
    obtain ⟨l, hl, hp⟩ := list_of n (fun i hi => h i (by omega))
    obtain ⟨x, hx⟩ := h n (by omega)
    refine ⟨l ++ [x], by simp [hl], fun i y hy => ?_⟩
    by_cases hi : i < l.length
    · rw [List.getElem?_append_left hi] at hy
      exact hp i y hy
    · have hie : i = l.length := by have := P.getElem?_lt hy; simp at this; omega
      subst hie
      simp at hy
      subst hy
      rw [hl]
      exact hx

theorem array1 {cs : Array Value} (h : cs.size = 1) : ∃ c, cs = #[c] := by
  obtain ⟨l⟩ := cs
  match l, h with
  | [c], _ => exact ⟨c, rfl⟩

/-- a node as it came in -/
def NodeAt (w : World) (a : Addr) (i : Nat) (n : P.Nd) : Prop :=
  w.cell? ((a.add (i * 4)).add 0) = some (.int .i64 n.kind) ∧ w.cell? ((a.add (i * 4)).add 1) = some (.string n.name) ∧ w.cell? ((a.add (i * 4)).add 2) = some (.string n.value) ∧ w.cell? ((a.add (i * 4)).add 3) = some (.int .i64 n.kids) ∧
    n.name.size ≤ maxLen ∧ n.value.size ≤ maxLen

theorem slice_of {w : World} {a : Addr} {ns : List P.Nd} (h : ∀ i n, ns[i]? = some n → NodeAt w a i n) : SliceAt w (some a) ns := by
  match ns, h with
  | [], _ => exact .inl rfl
  | n :: r, h =>
    obtain ⟨b, o, spot⟩ := a
    have h0 := (h 0 n rfl).1
    have hspot : spot = none := by simpa [Addr.add] using World.cell?_spot h0
    subst hspot
    refine .inr ⟨b, o, rfl, ?_⟩
    intro j m hj
    obtain ⟨c0, c1, c2, c3, _, _⟩ := h j m hj
    have key : ∀ x y, ((⟨b, o, none⟩ : Addr).add x).add y = ⟨b, o + x + y, none⟩ := fun x y => by cases x <;> cases y <;> simp [Addr.add]
    refine ⟨?_, ?_, ?_, ?_⟩
    · rw [key] at c0; exact c0
    · rw [key] at c1; exact c1
    · rw [key] at c2; exact c2
    · rw [key] at c3; exact c3

section
variable {H : Type} {enc : TypeId × Value → H} {w : World} {base : Nat} {spare : Nat → Bool} {held : Bool}

theorem node_of {fuel i : Nat} {a : Addr} {cs : List Value} {x : DataW H × List MemPlace} (hc : w.cells? base (a.add (i * 4)) 4 = some cs) (h : DataW.trod enc Try.prog w base spare held fuel 56 cs = some x) : ∃ n, NodeAt w a i n := by
  obtain ⟨_, hl, hcell⟩ := World.cells?_some hc
  obtain ⟨y0, y1, y2, y3, n, _, _, h0, h1, h2, h3⟩ := Go.Joins.trod_struct4 Try.underlying56 h
  match cs, hl with
  | [c0, c1, c2, c3], _ =>
    simp only [cells_int, cells_str] at h0 h1 h2 h3
    obtain ⟨k, e0, _, _⟩ := DataW.trod_int Try.underlying3 h0
    obtain ⟨s, e1, _, hs⟩ := DataW.trod_string Try.underlying9 h1
    obtain ⟨v, e2, _, hv⟩ := DataW.trod_string Try.underlying9 h2
    obtain ⟨d, e3, _, _⟩ := DataW.trod_int Try.underlying3 h3
    simp at e0 e1 e2 e3
    subst e0 e1 e2 e3
    exact ⟨⟨k, s, v, d⟩, by simpa using hcell 0 (by omega), by simpa using hcell 1 (by omega), by simpa using hcell 2 (by omega), by simpa using hcell 3 (by omega), hs, hv⟩
end

set_option maxHeartbeats 400000 in
set_option maxRecDepth 100000 in
theorem lifted (os : Os) (started : os.Started) (H : Type) (enc : TypeId × Value → H) :
    ReturnsInHanded {} Try.checked os 3 .any (Rows.fnExactPilotPrintSpec.pre6 enc Try.prog Try.f3 Rows.fnExactPilotPrintRow.domain false) (Rows.fnExactPilotPrintSpec.post enc Try.prog Try.f3 false true false false) := by
  refine returnsInHanded_of_change_sized (C := Try.checked) ownX started (by kernel_rfl) Try.func3
    (ChangeSpec.witness6 (enc := enc) (C := Try.checked) false ⟨#[], #[.agg #[.slice none 0 0]], []⟩ 8 (by kernel_rfl) (by kernel_rfl) (by kernel_rfl) (by kernel_rfl)) ?_
  intro W base args ds gs before hval0 hW _ hsz0 _
  have hsz : (DataW.weightsEach Try.prog (Try.f3.params.toList ++ Rows.fnExactPilotPrintSpec.plain.varTypes Try.prog) (ds ++ gs)).all (· ≤ reachBytes) = true := hsz0
  clear hsz0
  have hval : ∀ (j : Nat) t v, Try.f3.params[j]? = some t → args[j]? = some v → Value.okWide Try.prog W .any base t v := hval0
  have hW' := hW
  obtain ⟨p, q, hA0, hV, rfl, _, _⟩ := hW
  have hA : DataW.TrodAll enc Try.prog W 0 (fun _ => true) true Try.f3.params.toList args.toList ds p := hA0
  rw [Try.params3] at hA hval hsz
  obtain ⟨v0, d0, rfl, rfl, h0⟩ := trodAll_one hA
  obtain ⟨rfl, rfl⟩ := trodVars_none hV
  obtain ⟨cs, rfl, hcs⟩ := okWide_struct Try.underlying24 (hval 0 24 v0 rfl rfl)
  rw [cells_sel] at hcs
  obtain ⟨c0, rfl⟩ := array1 hcs
  have h0k := h0
  have hlt : ∀ x ∈ p, x.block < W.heap.size := by obtain ⟨m, hm⟩ := h0k; exact DataW.trod_lt m _ _ _ hm
  obtain ⟨fuel, hf⟩ := h0
  clear hA0 hval0
  have fin : ∀ e W', (e = Ending.returned (.bool true) ∧ Below W.heap.size W W') → ∃ v, e = Ending.returned v ∧ Rows.fnExactPilotPrintSpec.post enc Try.checked.prog Try.f3 false true false false W #[.agg #[c0]] v W' := by
    rintro e W' ⟨he, bel⟩
    subst he
    exact ⟨_, rfl, _, _, _, [], _, [], hW', trodAll_mk1 (shut_bool Try.underlying4 _), trodAll_mk1 (Below.trod laidOutX (by kernel_rfl) (of_decide_eq_true (by kernel_rfl)) h0k bel hlt), rfl, bel.frame _, fun h => by cases h⟩
  obtain ⟨y0, n, hx, _, hfld⟩ := trod_struct1 Try.underlying24 hf
  simp only [Prod.mk.injEq] at hx
  obtain ⟨rfl, rfl⟩ := hx
  simp only [cells_ns] at hfld
  rcases Go.Deep.open_slice Try.underlying22 hfld with ⟨hc, _⟩ | ⟨a, len, cap, m, n', D, Pl, hc, _, hl, _, hm, hy, hall⟩
  · simp [Value.cells] at hc
    subst hc
    exact (law_any [] none 0 W (.inl rfl) (Nat.le_refl _) (by omega) (fun n hn => by cases hn)).mono fin
  · simp [Value.cells] at hc
    subst hc
    simp only [if_true] at hm
    subst hm
    rw [cells_nd] at hall
    obtain ⟨ns, hns, hat⟩ := list_of (p := NodeAt W a) len (fun i hi => by
      obtain ⟨cs', h1, h2⟩ := hall i (by omega)
      exact node_of h1 h2)
    have hreach : m * 48 ≤ 140737488351232 := by
      have := List.all_eq_true.1 hsz (m * 48) (DataW.weights_mem_each (j := 0) rfl rfl _ (by
        rw [hy]
        simp [DataW.weights, DataW.weightsEach, Try.underlying24, Try.underlying22, bytes_nd]
        left
        omega))
      have this2 : m * 48 ≤ reachBytes := of_decide_eq_true this
      exact this2
    subst hns
    exact (law_any ns (some a) m W (slice_of hat) hl hreach (fun n hn => by
      obtain ⟨j, hj⟩ := List.getElem?_of_mem hn
      exact ⟨(hat j n hj).2.2.2.2.1, (hat j n hj).2.2.2.2.2⟩)).mono fin

theorem x_holds : Rows.FnExactPilotPrintSaid :=
  OpenClaim.holds_of_wide 3 Try.f3 rfl rfl rfl rfl rfl rfl rfl ⟨rfl, rfl, rfl, rfl, rfl⟩ rfl rfl rfl rfl rfl (by kernel_rfl) Try.func3 (by kernel_rfl)
    (of_decide_eq_true (by kernel_rfl)) (by unfold Func.isWrapper; first | (rw [if_pos (by decide +kernel)]; kernel_rfl) | (rw [if_neg (by decide +kernel)]; exact ⟨rfl, rfl⟩))
    (fun os started H enc _ => lifted os started H enc)

end Go.Proofs.Ytlcjdmgjekkghaa
