/-
  Walks: a part is printed.
-/
import Derived.Test.YthjicahpfhjfdaaGreatDoorJ16
import Derived.Test.YthjicahpfhjfdaaGreatDoorJ4
import Derived.Test.YthjicahpfhjfdaaGreatDoorJ14
import Derived.Lib.AppendStr
import Derived.Lib.Builder
import Derived.Laws.Externs
import Derived.Lib.OthersKept
namespace Go.Proofs.YthjicahpfhjfdaaGreatDoor
open Go.RowKit

/-- the text that grows: what it holds, or that it is over -/
def TextAt (B b : Nat) (st : Option ByteArray) (w : World) : Prop :=
  B ≤ b ∧ b < w.heap.size ∧ match st with
  | none => ∃ p v, w.heap[b]? = some (.cells #[p, v, .bool true] 51 (0, 0))
  | some s => s.size ≤ 200 ∧ ∃ p v, w.heap[b]? = some (.cells #[p, v, .bool false] 51 (0, 0)) ∧ (p = .pointer none ∨ p = .pointer (some ⟨b, 0, none⟩)) ∧ w.ownsRow B 5 1 v s.size (Lib.strCells s) ∧ v.ownBlock ≠ some b

/-- a text is put behind it, if it is not too long -/
def put (st : Option ByteArray) (s : ByteArray) : Option ByteArray :=
  match st with
  | none => none
  | some t => if 200 < t.size + s.size then none else some (t ++ s)

theorem info_byte : (Tryz.prog.info? 5).map (fun i => (i.zero, i.size, i.bytes)) = some (some (.int .u8 0), 1, 1) := by kernel_rfl

theorem text_set {w : World} {b : Nat} {p v o : Value} (h : w.heap[b]? = some (.cells #[p, v, o] 51 (0, 0))) (u : Value) :
    (w.setCell ⟨b, 0, none⟩ u).heap[b]? = some (.cells #[u, v, o] 51 (0, 0)) ∧ (w.setCell ⟨b, 1, none⟩ u).heap[b]? = some (.cells #[p, u, o] 51 (0, 0)) ∧ (w.setCell ⟨b, 2, none⟩ u).heap[b]? = some (.cells #[p, v, u] 51 (0, 0)) :=
  ⟨heap_setCell_same w b 0 _ _ u h, heap_setCell_same w b 1 _ _ u h, heap_setCell_same w b 2 _ _ u h⟩

theorem others_set (w : World) (b i : Nat) (u : Value) : Lib.OthersKept 5 (some b) w (w.setCell ⟨b, i, none⟩ u) :=
  (Lib.OthersKept.refl _ _ _).setCell (b := b) ⟨b, i, none⟩ rfl u

theorem size_builder : (Tryz.prog.info? 49).map (·.size) = some 2 := by kernel_rfl
theorem lies_builder : liesAt Tryz.prog Tryz.prog.depth 51 (3 / Tryz.prog.cellsOf 51) 0 49 1 = true := by kernel_rfl

theorem text_cells {w : World} {b : Nat} {p v o : Value} (h : w.heap[b]? = some (.cells #[p, v, o] 51 (0, 0))) :
    w.cell? ⟨b, 0, none⟩ = some p ∧ w.cell? ⟨b, 1, none⟩ = some v ∧ w.cell? ⟨b, 2, none⟩ = some o ∧ w.frozen? ⟨b, 0, none⟩ = false ∧ w.frozen? ⟨b, 1, none⟩ = false ∧ w.frozen? ⟨b, 2, none⟩ = false := by
  refine ⟨?_, ?_, ?_, ?_, ?_, ?_⟩ <;> simp [World.cell?, World.frozen?, h]

set_option maxHeartbeats 1000000 in
theorem addOver_any (s : ByteArray) (B b : Nat) (w : World) (h : TextAt B b none w) :
    Calls Tryz.prog 114 #[.pointer (some ⟨b, 0, none⟩), .string s] w fun e w' => e = .returned (.tuple #[]) ∧ TextAt B b none w' ∧ Below B w w' ∧ Lib.OthersKept 5 (some b) w w' := by
  obtain ⟨hB, hb, p, v, hblk⟩ := h
  obtain ⟨_, _, c2, _, _, f2⟩ := text_cells hblk
  have HB : Hid (w.heap[b]? = some (.cells #[p, v, .bool true] 51 (0, 0))) := hblk
  clear hblk
  go_enter Tryz.func114, Tryz.ntmps114
  go_wp2_with fail
  go_end0
  exact ⟨rfl, ⟨hB, by simpa [World.setCell] using hb, p, v, (text_set HB.out (.bool true)).2.2⟩, (Below.refl _ _).setCell hB _, others_set _ _ _ _⟩

set_option maxHeartbeats 1000000 in
theorem addOut_any (s t : ByteArray) (B b : Nat) (w : World) (h : TextAt B b (some t) w) (hs : s.size ≤ maxLen - 200) (hov : 200 < t.size + s.size) :
    Calls Tryz.prog 114 #[.pointer (some ⟨b, 0, none⟩), .string s] w fun e w' => e = .returned (.tuple #[]) ∧ TextAt B b none w' ∧ Below B w w' ∧ Lib.OthersKept 5 (some b) w w' := by
  obtain ⟨hB, hb, ht, p, v, hblk, hp, hown, hne⟩ := h
  obtain ⟨a, cap, rfl⟩ := buf_shape hown
  obtain ⟨_, c1, c2, _, _, f2⟩ := text_cells hblk
  have HB : Hid (w.heap[b]? = some (.cells #[p, .slice a t.size cap, .bool false] 51 (0, 0))) := hblk
  unfold maxLen at hs
  have j : (200 : Int) < (t.size : Int) + (s.size : Int) := by omega
  clear hblk hp hown hne
  go_enter Tryz.func114, Tryz.ntmps114
  go_wp2
  go_end0
  exact ⟨rfl, ⟨hB, by simpa [World.setCell] using hb, p, _, (text_set HB.out (.bool true)).2.2⟩, (Below.refl _ _).setCell hB _, others_set _ _ _ _⟩

set_option maxHeartbeats 1000000 in
set_option maxRecDepth 100000 in
theorem copyCheck_any (b : Nat) (p v o : Value) (w : World) (hblk : w.heap[b]? = some (.cells #[p, v, o] 51 (0, 0))) (hp : p = .pointer none ∨ p = .pointer (some ⟨b, 0, none⟩)) :
    Calls Tryz.prog 117 #[.pointer (some ⟨b, 0, none⟩)] w fun e w' => e = .returned (.tuple #[]) ∧ w'.heap[b]? = some (.cells #[.pointer (some ⟨b, 0, none⟩), v, o] 51 (0, 0)) ∧ (w' = w ∨ w' = w.setCell ⟨b, 0, none⟩ (.pointer (some ⟨b, 0, none⟩))) := by
  obtain ⟨c0, _, _, f0, _, _⟩ := text_cells hblk
  have HB : Hid (w.heap[b]? = some (.cells #[p, v, o] 51 (0, 0))) := hblk
  clear hblk
  obtain ⟨j, hj, hjs⟩ := Option.map_eq_some_iff.1 size_builder
  have hsh : w.shape? b = some (51, 3) := by simp [World.shape?, HB.out]
  have HSH : Hid (w.shape? b = some (51, 3)) := hsh
  have HJ : Hid (Tryz.prog.info? 49 = some j) := hj
  clear hsh hj
  rcases hp with rfl | rfl
  · go_enter Tryz.func117, Tryz.ntmps117
    go_wp2
    rw [Lib.run_to_unsafe w ⟨b, 0, none⟩ Tryz.underlying47 Tryz.underlying102 HJ.out (by rw [hjs]; decide) HSH.out (Nat.zero_lt_succ 2)]
    simp only [Result.andThen]
    rw [Oper.upon_value]
    go_wp2
    rw [run_callFunc_extern Tryz.func118 (by kernel_rfl) (by kernel_rfl) (by kernel_rfl) (e := Extern.AbiNoEscape.same) (by kernel_rfl)]
    rw [Lib.run_noEscape]
    simp only [Result.andThen]
    rw [Oper.upon_value]
    go_wp2
    rw [Lib.run_from_unsafe w ⟨b, 0, none⟩ Tryz.underlying102 Tryz.underlying47 HJ.out HSH.out lies_builder]
    simp only [Result.andThen]
    rw [Oper.upon_value]
    go_wp2
    go_end0
    exact ⟨rfl, (text_set HB.out _).1, .inr rfl⟩
  · go_enter Tryz.func117, Tryz.ntmps117
    go_wp2
    rw [Lib.run_neq_ptr_same w _ Tryz.underlying47 HJ.out]
    go_wp2
    go_end0
    exact ⟨rfl, HB.out, .inl rfl⟩

theorem text_heap {w w2 : World} {b : Nat} {o v : Value} {x : Obj} (h : w.heap[b]? = some x) (hv : v = o) (hne : v.ownBlock ≠ some b) (hg : w.grownBy w2 o.ownBlock) : w2.heap[b]? = some x := by
  subst hv
  rw [hg.block b (Array.getElem?_eq_some_iff.1 h).1 (fun e => hne e.symm)]
  exact h

theorem text_kept {w w2 : World} {b : Nat} {p v o u : Value} (h : w.heap[b]? = some (.cells #[p, v, o] 51 (0, 0))) (hv : v = u) (hne : v.ownBlock ≠ some b) (hg : w.grownBy w2 u.ownBlock) :
    w2.cell? ⟨b, 1, none⟩ = some u ∧ w2.frozen? ⟨b, 1, none⟩ = false := by
  have h2 := text_heap h hv hne hg
  rw [← hv]
  exact ⟨(text_cells h2).2.1, (text_cells h2).2.2.2.2.1⟩

theorem own_ne {w : World} {B n b : Nat} {v : Value} {xs : List Value} {c : Array Value} {fz : Nat × Nat} (h : w.ownsRow B 5 1 v n xs) (hb : w.heap[b]? = some (.cells c 51 fz)) : v.ownBlock ≠ some b := by
  intro e
  rcases h.2 with ⟨rfl, _⟩ | ⟨g, cap, cur, rfl, _, hg, _⟩
  · cases e
  · simp only [Value.ownBlock, Option.some.injEq] at e
    subst e
    rw [hg] at hb
    simp at hb

theorem own_row {w : World} {B n : Nat} {v : Value} {xs : List Value} (h : w.ownsRow B 5 1 v n xs) : ∀ g, v.ownBlock = some g → ∃ c fz, w.heap[g]? = some (.cells c 5 fz) := by
  intro g e
  rcases h.2 with ⟨rfl, _⟩ | ⟨g', cap, cur, rfl, _, hg, _⟩
  · cases e
  · simp only [Value.ownBlock, Option.some.injEq] at e
    subst e
    exact ⟨_, _, hg⟩

theorem strCells_append (s t : ByteArray) : Lib.strCells (s ++ t) = Lib.strCells s ++ Lib.strCells t := by
  simp [Lib.strCells]

set_option maxHeartbeats 1000000 in
set_option maxRecDepth 100000 in
theorem writeString_any (s t : ByteArray) (B b : Nat) (w : World) (h : TextAt B b (some t) w) (hsum : t.size + s.size ≤ 200) (hBw : B ≤ w.heap.size) :
    Calls Tryz.prog 116 #[.pointer (some ⟨b, 0, none⟩), .string s] w fun e w' => e = .returned (.tuple #[.int .i64 s.size, .nilIface]) ∧ TextAt B b (some (t ++ s)) w' ∧ Below B w w' ∧ Lib.OthersKept 5 (some b) w w' := by
  obtain ⟨hB, hb, ht, p, v, hblk, hp, hown, hne⟩ := h
  obtain ⟨i0, hi, hz0, hz1, hz2⟩ := info_parts info_byte
  have HO : Hid (w.ownsRow B 5 1 v t.size (Lib.strCells t)) := hown
  obtain ⟨a, cap, hv⟩ := buf_shape hown
  have HV : Hid (v = .slice a t.size cap) := hv
  have HNE : Hid (v.ownBlock ≠ some b) := hne
  have C := copyCheck_any b p v (.bool false) w hblk hp
  clear hblk hp hown hne hv
  go_enter Tryz.func116, Tryz.ntmps116
  go_wp2_with fail
  refine C.mono ?_
  rintro e w1 ⟨rfl, hb1, hw1⟩
  have hO1 : w1.ownsRow B 5 1 v t.size (Lib.strCells t) := by
    rcases hw1 with rfl | rfl
    · exact HO.out
    · exact ownsRow_setCell_other HO.out HNE.out _
  have hB1 : Below B w w1 := by
    rcases hw1 with rfl | rfl
    · exact Below.refl _ _
    · exact (Below.refl _ _).setCell hB _
  have hK1 : Lib.OthersKept 5 (some b) w w1 := by
    rcases hw1 with rfl | rfl
    · exact Lib.OthersKept.refl _ _ _
    · exact others_set _ _ _ _
  clear hw1 C
  obtain ⟨_, c1, _, _, f1, _⟩ := text_cells hb1
  have HB1 : Hid (w1.heap[b]? = some (.cells #[.pointer (some ⟨b, 0, none⟩), v, .bool false] 51 (0, 0))) := hb1
  have hsz1 : w.heap.size ≤ w1.heap.size := hB1.size
  clear hb1
  rw [HV.out] at c1
  have HO1 : Hid (w1.ownsRow B 5 1 (.slice a t.size cap) t.size (Lib.strCells t)) := by rw [← HV.out]; exact hO1
  clear hO1
  go_wp2_with (at_builtin; refine Lib.wpList_append_own_string _ rfl (.tmp 12) (.tmp 13) 22 9 rfl B 5 i0 Tryz.underlying22 Tryz.underlying9 hi hz0 hz1 hz2 _ t.size _ rfl HO1.out s rfl (by unfold maxLen; omega) (by omega) (by omega) ?_; intro v' w2 hown2 hgrow2 _; obtain ⟨a', cap', hv'⟩ := buf_shape hown2; rw [hv']; obtain ⟨d1, e1⟩ := text_kept HB1.out HV.out HNE.out hgrow2)
  have hg : w1.grownBy w2 (Value.ownBlock (.slice a t.size cap)) := hgrow2
  have hb2 := text_heap HB1.out HV.out HNE.out hg
  have hne2 : v'.ownBlock ≠ some b := own_ne hown2 hb2
  have hBB : Below B w w2 := hB1.trans ((Below.refl B w1).grown hg (by omega) (fun g hg' => (HO1.out.lt g hg').1))
  have hKK : Lib.OthersKept 5 (some b) w w2 := hK1.trans ((Lib.OthersKept.refl _ _ _).grown hg (own_row HO1.out))
  rw [← hv']
  go_ret2
  refine ⟨rfl, ⟨hB, ?_, ?_, .pointer (some ⟨b, 0, none⟩), v', (text_set hb2 v').2.1, .inr rfl, ?_, hne2⟩, hBB.setCell hB _, hKK.trans (others_set _ _ _ _)⟩
  · have := hBB.size
    simp [World.setCell]; omega
  · rw [ByteArray.size_append]; omega
  · rw [ByteArray.size_append, strCells_append]
    exact ownsRow_setCell_other hown2 hne2 _

theorem len_any (b n : Nat) (a : Option Addr) (cap : Nat) (w : World) (c1 : w.cell? ⟨b, 1, none⟩ = some (.slice a n cap)) :
    Calls Tryz.prog 115 #[.pointer (some ⟨b, 0, none⟩)] w fun e w' => e = .returned (.int .i64 n) ∧ w' = w := by
  go_enter Tryz.func115, Tryz.ntmps115
  go_wp2
  go_ret
  exact ⟨rfl, rfl⟩

set_option maxHeartbeats 1000000 in
set_option maxRecDepth 100000 in
theorem addIn_any (s t : ByteArray) (B b : Nat) (w : World) (h : TextAt B b (some t) w) (hsum : t.size + s.size ≤ 200) (hBw : B ≤ w.heap.size) :
    Calls Tryz.prog 114 #[.pointer (some ⟨b, 0, none⟩), .string s] w fun e w' => e = .returned (.tuple #[]) ∧ TextAt B b (some (t ++ s)) w' ∧ Below B w w' ∧ Lib.OthersKept 5 (some b) w w' := by
  have HT : Hid (TextAt B b (some t) w) := h
  obtain ⟨hB, hb, ht, p, v, hblk, hp, hown, hne⟩ := h
  have h2 : TextAt B b (some t) (w.setCell ⟨b, 2, none⟩ (.bool false)) :=
    ⟨hB, by simpa [World.setCell] using hb, ht, p, v, (text_set hblk (.bool false)).2.2, hp, ownsRow_setCell_other hown hne _, hne⟩
  have H2 : Hid (TextAt B b (some t) (w.setCell ⟨b, 2, none⟩ (.bool false))) := h2
  clear h2
  obtain ⟨a, cap, rfl⟩ := buf_shape hown
  obtain ⟨_, c1, c2, _, _, f2⟩ := text_cells hblk
  have j : decide ((200 : Int) < (t.size : Int) + (s.size : Int)) = false := by simp; omega
  clear hblk hp hown hne
  go_enter Tryz.func114, Tryz.ntmps114
  go_wp2_with fail
  refine (len_any b t.size a cap _ c1).mono ?_
  rintro e w0 ⟨rfl, rfl⟩
  go_wp2_with fail
  refine (writeString_any s t B b _ H2.out hsum (by simpa [World.setCell] using hBw)).mono ?_
  rintro e w1 ⟨rfl, hT1, hB1, hK1⟩
  go_wp2_with fail
  go_end0
  exact ⟨rfl, hT1, ((Below.refl _ _).setCell hB _).trans hB1, (others_set _ _ _ _).trans hK1⟩

theorem add_any (s : ByteArray) (st : Option ByteArray) (B b : Nat) (w : World) (h : TextAt B b st w) (hs : s.size ≤ maxLen - 200) (hBw : B ≤ w.heap.size) :
    Calls Tryz.prog 114 #[.pointer (some ⟨b, 0, none⟩), .string s] w fun e w' => e = .returned (.tuple #[]) ∧ TextAt B b (put st s) w' ∧ Below B w w' ∧ Lib.OthersKept 5 (some b) w w' := by
  match st, h with
  | none, h => exact addOver_any s B b w h
  | some t, h =>
    unfold put
    by_cases hov : 200 < t.size + s.size
    · simp only [hov, if_true]
      exact addOut_any s t B b w h hs hov
    · simp only [hov, if_false]
      exact addIn_any s t B b w h (by omega) hBw

end Go.Proofs.YthjicahpfhjfdaaGreatDoor
