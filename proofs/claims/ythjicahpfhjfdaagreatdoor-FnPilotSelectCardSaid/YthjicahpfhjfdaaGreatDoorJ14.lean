/-
  Several texts in one: Rdp, Pure2, VlB.
-/
import Derived.Test.YthjicahpfhjfdaaGreatDoorRdi
import Derived.Test.YthjicahpfhjfdaaGreatDoorPure
import Derived.Test.YthjicahpfhjfdaaGreatDoorJ3
import Derived.Lib.QuietBelow
import Derived.OwnWalk
import Derived.BigQuiet
namespace Go.Proofs.YthjicahpfhjfdaaGreatDoor
open Go.RowKit

/-- the code of a text -/
def codeOf (t : ByteArray) : Nat :=
  if 200 < t.size then 1
  else if toksAt t 0 = [] then 0
  else match P.rd 1000 2 P.nonT (toksAt t 0) with
    | some (y, []) => if 20 < P.tall y then 3 else 0
    | _ => 2

/-- the tree of a text that is read -/
def treeOf (t : ByteArray) : P.Tr :=
  if toksAt t 0 = [] then P.nonT
  else match P.rd 1000 2 P.nonT (toksAt t 0) with
    | some (y, _) => y
    | none => P.nonT

/-- what the program's reading answers -/
def ReadR (t : ByteArray) (w : World) (e : Ending) (w' : World) : Prop :=
  ((codeOf t = 0 ∧ e = .returned (.tuple #[val (treeOf t), .nilIface])) ∨ (codeOf t ≠ 0 ∧ ∃ q, e = .returned (.tuple #[.nilIface, .iface 65 (.agg #[.int .i64 (codeOf t : Nat), .int .i64 q])]))) ∧ Below w.heap.size w w'

theorem toks_ne {t : ByteArray} {k : Nat} (hk : k < t.size) (hs : Solid t k) : toksAt t k ≠ [] := by
  obtain ⟨l, r, e⟩ := toksAt_head hk (hs hk)
  rw [e]
  exact fun h => by cases h

set_option maxHeartbeats 2000000 in
set_option maxRecDepth 100000 in
theorem read_any (t : ByteArray) (w : World) (hm : t.size ≤ maxLen) :
    Calls Tryz.prog 22 #[.string t] w fun e w' => ReadR t w e w' := by
  unfold maxLen at hm
  by_cases hbig : (200 : Int) < t.size
  · have HC : Hid (codeOf t = 1) := by show _ = _; unfold codeOf; rw [if_pos (by omega)]
    go_enter Tryz.func22, Tryz.ntmps22
    go_wp2_with fail
    go_ret2
    exact ⟨.inr ⟨by rw [HC.out]; omega, 200, by rw [HC.out]; rfl⟩, Below.refl _ _⟩
  have ht : t.size ≤ 200 := by omega
  have HC : Hid (codeOf t = if toksAt t 0 = [] then 0 else match P.rd 1000 2 P.nonT (toksAt t 0) with
    | some (y, []) => if 20 < P.tall y then 3 else 0
    | _ => 2) := by show _ = _; unfold codeOf; rw [if_neg (by omega)]
  have HT : Hid (treeOf t = if toksAt t 0 = [] then P.nonT else match P.rd 1000 2 P.nonT (toksAt t 0) with
    | some (y, _) => y
    | none => P.nonT) := rfl
  go_enter Tryz.func22, Tryz.ntmps22
  go_wp2_with fail
  have W0 : Hid (RdAt (w.alloc (Obj.cells #[.string t, .int .i64 0] 98)) w.heap.size t 0) := ⟨by simp, by simp, by simp⟩
  have B0 : Hid (Below w.heap.size w (w.alloc (Obj.cells #[.string t, .int .i64 0] 98))) := (Below.refl _ _).alloc (Nat.le_refl _) _
  generalize w.alloc (Obj.cells #[.string t, .int .i64 0] 98) = w0 at *
  refine (ended_any w.heap.size t 0 _ W0.out (Nat.zero_le _) ht).mono ?_
  rintro e w1 ⟨k, rfl, _, k2, k3, k4, k5, k6⟩
  have H3 : Hid (toksAt t k = toksAt t 0) := k3
  have H4 : Hid (Solid t k) := k4
  have H5 : Hid (RdAt w1 w.heap.size t k) := k5
  have B1 : Hid (Below w.heap.size w w1) := B0.out.trans (k6.below B0.out.size (Nat.le_refl _))
  clear k3 k4 k5 k6 B0 W0
  by_cases hk : k = t.size
  · rw [decide_eq_true hk]
    have he : toksAt t 0 = [] := by rw [← H3.out, toksAt_end (by omega)]
    have HC0 : Hid (codeOf t = 0) := by rw [HC.out, if_pos he]; rfl
    have HT0 : Hid (treeOf t = P.nonT) := by rw [HT.out, if_pos he]; rfl
    clear he hk
    go_wp2_with fail
    go_ret2
    exact ⟨.inl ⟨HC0.out, by rw [HT0.out]; rfl⟩, B1.out⟩
  rw [decide_eq_false hk]
  have he : ¬ toksAt t 0 = [] := by rw [← H3.out]; exact toks_ne (by omega) H4.out
  have HC1 : Hid (codeOf t = match P.rd 1000 2 P.nonT (toksAt t k) with
    | some (y, []) => if 20 < P.tall y then 3 else 0
    | _ => 2) := by rw [HC.out, if_neg he, H3.out]; rfl
  have HT1 : Hid (treeOf t = match P.rd 1000 2 P.nonT (toksAt t k) with
    | some (y, _) => y
    | none => P.nonT) := by rw [HT.out, if_neg he, H3.out]; rfl
  clear he hk HC HT
  go_wp2_with fail
  refine ((all_ok w.heap.size t ht 1000 1000 (Nat.le_refl _)).2.2 k _ H5.out k2 (by have := toksAt_le (i := k) ht; omega)).mono ?_
  rintro e w2 (⟨y, k3, f1, rfl, f2, f3, f4⟩ | ⟨f1, q, rfl, f4⟩)
  · obtain ⟨b1, b2, b3, b4, b5, b6⟩ := P.rd_rd 1000 2 P.nonT _ _ _ (fun h => by omega) f1
    have HT2 : Hid (treeOf t = y) := by rw [HT1.out, f1]; rfl
    have HC2 : Hid (codeOf t = match toksAt t k3 with
      | [] => if 20 < P.tall y then 3 else 0
      | _ => 2) := by rw [HC1.out, f1]; cases toksAt t k3 <;> rfl
    have F3 : Hid (RdAt w2 w.heap.size t k3) := f3
    have B2 : Hid (Below w.heap.size w w2) := B1.out.trans (f4.below B1.out.size (Nat.le_refl _))
    have HW : Hid (P.wf y) := b3
    clear f1 f3 f4 HT1 HC1 b1 b2 b3 b4 b5 b6
    go_wp2_with fail
    refine (ended_any w.heap.size t k3 _ F3.out f2 ht).mono ?_
    rintro e w3 ⟨k4, rfl, _, d2, d3, d4, d5, d6⟩
    have D3 : Hid (toksAt t k4 = toksAt t k3) := d3
    have D4 : Hid (Solid t k4) := d4
    have D5 : Hid (RdAt w3 w.heap.size t k4) := d5
    have B3 : Hid (Below w.heap.size w w3) := B2.out.trans (d6.below B2.out.size (Nat.le_refl _))
    clear d3 d4 d5 d6 B2 F3
    by_cases hk : k4 = t.size
    · rw [decide_eq_true hk]
      have he : toksAt t k3 = [] := by rw [← D3.out, toksAt_end (by omega)]
      have HC3 : Hid (codeOf t = if 20 < P.tall y then 3 else 0) := by rw [HC2.out, he]; rfl
      clear he hk HC2 D3 D4 D5
      obtain ⟨ty, v, hv⟩ := val_iface HW.out
      have HV : Hid (val y = .iface ty v) := hv
      rw [hv]
      clear hv
      go_wp2_with (refine wpList_meth rfl (.tmp 32) _ #[] #[] rfl _ rfl #[] (map_none _) _ (tall_meth ⟨fun _ => by kernel_rfl, fun _ _ => by kernel_rfl, fun _ _ _ => by kernel_rfl, fun _ _ _ => by kernel_rfl, fun _ _ _ _ => by kernel_rfl, fun _ _ _ _ => by kernel_rfl⟩ HW.out HV _) ?_; rintro u w4 ⟨rfl, hb4⟩)
      · have hgt : 20 < P.tall y := by omega
        have HC4 : Hid (codeOf t = 3) := by rw [HC3.out, if_pos hgt]; rfl
        go_ret2
        exact ⟨.inr ⟨by rw [HC4.out]; omega, _, by rw [HC4.out]; rfl⟩, B3.out.trans (hb4.mono B3.out.size)⟩
      · have hgt : ¬ 20 < P.tall y := by omega
        have HC4 : Hid (codeOf t = 0) := by rw [HC3.out, if_neg hgt]; rfl
        go_ret2
        exact ⟨.inl ⟨HC4.out, by rw [HT2.out, HV.out]; rfl⟩, B3.out.trans (hb4.mono B3.out.size)⟩
    · rw [decide_eq_false hk]
      have he : toksAt t k3 ≠ [] := by rw [← D3.out]; exact toks_ne (by omega) D4.out
      have HC3 : Hid (codeOf t = 2) := by
        rw [HC2.out]
        cases h : toksAt t k3 with
        | nil => exact absurd h he
        | cons a l => rfl
      clear he hk HC2 D3 D4
      go_wp2_with fail
      refine (fault_any w.heap.size t k4 _ D5.out).mono ?_
      rintro e w4 ⟨rfl, hb4⟩
      have B4 : Hid (Below w.heap.size w w4) := B3.out.trans (hb4.below B3.out.size (Nat.le_refl _))
      clear hb4
      go_wp2_with fail
      go_ret2
      exact ⟨.inr ⟨by rw [HC3.out]; omega, _, by rw [HC3.out]; rfl⟩, B4.out⟩
  · have HC2 : Hid (codeOf t = 2) := by rw [HC1.out, f1]; rfl
    have B2 : Hid (Below w.heap.size w w2) := B1.out.trans (f4.below B1.out.size (Nat.le_refl _))
    clear f1 f4 HT1 HC1
    simp only [fltV]
    go_wp2_with fail
    go_ret2
    exact ⟨.inr ⟨by rw [HC2.out]; omega, q, by rw [HC2.out]; rfl⟩, B2.out⟩

end Go.Proofs.YthjicahpfhjfdaaGreatDoor

namespace Go.Proofs.YthjicahpfhjfdaaGreatDoor.P

/-- (A) what the specification holds for a tree is the program's tree, unless it is too high; its make and its size -/
theorem same_tree2 {ns : List Nd} (h : treeOk ns = true) : ∃ out r t, kidsOf ns = some (out, [r]) ∧ out.length = ns.length ∧ r + 1 = ns.length ∧ IsT ns out r t ∧
    (tall t ≤ 20 → treeI ns = some t) ∧ (20 < tall t → treeI ns = none) ∧ (t = nonT ∨ fine t) ∧ count t ≤ ns.length := by
  obtain ⟨out, r, t, e1, e2, e3, e4, e5, e6⟩ := same_tree h
  by_cases hl : lone ns = true
  · obtain ⟨n, rfl, k0, k1, k2, k3⟩ := lone_facts hl
    have hkk : kidsOf [n] = some ([[]], [0]) := by simp [kidsOf, runK, stepK, k1]
    rw [hkk] at e1
    simp only [Option.some.injEq, Prod.mk.injEq, List.cons.injEq, and_true] at e1
    obtain ⟨rfl, rfl⟩ := e1
    refine ⟨[[]], 0, nonT, hkk, rfl, rfl, isT_non rfl k0 rfl, ?_, ?_, .inl rfl, Nat.le_refl _⟩
    · intro _; simp [treeI, hl]
    · intro hh; simp [tall_non] at hh
  · simp only [treeOk, Bool.and_eq_true, decide_eq_true_eq, List.all_eq_true] at h
    obtain ⟨⟨h1, h2⟩, h3⟩ := h
    have hall : ∀ n ∈ ns, n.kind ≠ 0 ∧ nodeOk ns.length n = true := by
      intro n hn
      refine ⟨fun e => ?_, h3 n hn⟩
      have hk := h3 n hn
      simp only [nodeOk, e, arity, Bool.and_eq_true] at hk
      simp at hk
      obtain ⟨⟨⟨k1, k2⟩, k3⟩, k4⟩ := hk
      have hlen : ns.length = 1 := by
        have := List.length_pos_of_mem hn; omega
      match ns, hlen with
      | [m], _ =>
        simp at hn; subst hn
        exact hl (by simp [lone, e, k1, k3, k4])
    rcases sim ns hall ns 0 [] [] [] rfl rfl ⟨rfl, fun j a t h => by simp at h⟩ with ⟨ha, _⟩ | ⟨o, s, ts, a, b, c, d⟩
    · rw [show runK ns 0 [] [] = kidsOf ns from rfl, e1] at ha; cases ha
    · rw [show runK ns 0 [] [] = kidsOf ns from rfl, e1] at a
      simp only [Option.some.injEq, Prod.mk.injEq] at a
      obtain ⟨rfl, rfl⟩ := a
      obtain ⟨c1, c2⟩ := c
      match ts, c1 with
      | [u], _ =>
        obtain ⟨_, f2, f3, _⟩ := runN_facts ns [] [u] b
        simp at f2
        refine ⟨out, r, u, e1, e2, e3, (c2 0 r u rfl rfl).1, ?_, ?_, .inr (f3 (by intro x hx; cases hx) u (by simp)), by omega⟩
        · intro ht
          have := runN_runI ns [] [u] b (by intro x hx; simp at hx; subst hx; exact ht)
          simp [treeI, hl, this]
        · intro ht
          unfold treeI
          rw [if_neg hl]
          cases hi : runI ns [] with
          | none => rfl
          | some us =>
            obtain ⟨q1, q2⟩ := runI_runN ns [] us hi
            rw [b] at q1
            simp only [Option.some.injEq] at q1; subst q1
            have := q2 (by intro x hx; cases hx) u (by simp)
            omega

theorem tall_le_count : ∀ (t : Tr), tall t ≤ count t
  | .nil => Nat.le_refl _
  | .node b _ _ l r => by
    have h1 := tall_le_count l
    have h2 := tall_le_count r
    unfold tall count
    split
    · omega
    · split
      · omega
      · omega

theorem wr_le (l b : Nat) (s : ByteArray) : (wr l b s).size ≤ s.size + 2 := by
  unfold wr
  have e1 : (⟨#[40]⟩ : ByteArray).size = 1 := rfl
  have e2 : (⟨#[41]⟩ : ByteArray).size = 1 := rfl
  split
  · rw [ByteArray.size_append, ByteArray.size_append, e1, e2]; omega
  · omega

theorem pr_le (t : Tr) (hw : wf t) : (t = nonT ∨ good t) → (pr t).size + 2 ≤ 50 * count t := by
  have key : good t → (pr t).size + 2 ≤ 50 * count t := by
    refine wf_ind (p := fun t => good t → (pr t).size + 2 ≤ 50 * count t) ?_ ?_ ?_ ?_ ?_ ?_ t hw
    · intro h; exact h.elim
    · intro n h
      have h' : n.size ≤ 20 := h.2
      rw [pr_nm, count_nm]; omega
    · intro n v h
      have e : (⟨#[61]⟩ : ByteArray).size = 1 := rfl
      rw [pr_vl, count_vl, ByteArray.size_append, ByteArray.size_append, e]
      have h1 : n.size ≤ 20 := h.1.2
      have h2 : v.size ≤ 20 := h.2.2
      omega
    · intro k _ ih h
      have e : (⟨#[33]⟩ : ByteArray).size = 1 := rfl
      have := ih h; have := wr_le 3 (bindT k) (pr k)
      rw [pr_nt, count_nt, ByteArray.size_append, e]; omega
    · intro a b _ _ iha ihb h
      have e : (⟨#[32, 38, 32]⟩ : ByteArray).size = 3 := rfl
      have := iha h.1; have := ihb h.2; have := wr_le 2 (bindT a) (pr a); have := wr_le 3 (bindT b) (pr b)
      rw [pr_an, count_an, ByteArray.size_append, ByteArray.size_append, e]; omega
    · intro a b _ _ iha ihb h
      have e : (⟨#[32, 124, 32]⟩ : ByteArray).size = 3 := rfl
      have := iha h.1; have := ihb h.2; have := wr_le 1 (bindT a) (pr a); have := wr_le 2 (bindT b) (pr b)
      rw [pr_or, count_or, ByteArray.size_append, ByteArray.size_append, e]; omega
  rintro (rfl | h)
  · rw [pr_non]; decide
  · exact key h

end Go.Proofs.YthjicahpfhjfdaaGreatDoor.P

namespace Go.Proofs.YthjicahpfhjfdaaGreatDoor
open Go.RowKit

/-- what a list of nodes holds is small -/
def Small (ns : List P.Nd) : Prop := ns.length ≤ 1048576 ∧ ∀ n ∈ ns, n.name.size ≤ 1048576 ∧ n.value.size ≤ 1048576

/-- the nodes lie in a block from its head on -/
def Nodes0 (w : World) (g : Nat) (ns : List P.Nd) : Prop :=
  g < w.heap.size ∧ ∀ (j : Nat) (n : P.Nd), ns[j]? = some n → w.cell? ⟨g, j * 4, none⟩ = some (.int .i64 n.kind) ∧ w.cell? ⟨g, j * 4 + 1, none⟩ = some (.string n.name) ∧ w.cell? ⟨g, j * 4 + 2, none⟩ = some (.string n.value) ∧ w.cell? ⟨g, j * 4 + 3, none⟩ = some (.int .i64 n.kids)

theorem Nodes0.below {w wr : World} {g : Nat} {ns : List P.Nd} {B : Nat} (h : Nodes0 w g ns) (hb : Below B w wr) (hB : g < B) : Nodes0 wr g ns := by
  refine ⟨Nat.lt_of_lt_of_le h.1 hb.size, ?_⟩
  intro j n hj
  obtain ⟨q0, q1, q2, q3⟩ := h.2 j n hj
  exact ⟨(hb.cell (p := ⟨g, _, none⟩) hB).trans q0, (hb.cell (p := ⟨g, _, none⟩) hB).trans q1, (hb.cell (p := ⟨g, _, none⟩) hB).trans q2, (hb.cell (p := ⟨g, _, none⟩) hB).trans q3⟩

theorem Nodes0.grown {w wr : World} {g : Nat} {ns : List P.Nd} (h : Nodes0 w g ns) (hb : Below w.heap.size w wr) : Nodes0 wr g ns := h.below hb h.1

theorem Nodes0.setCell {w : World} {g : Nat} {ns : List P.Nd} (h : Nodes0 w g ns) {a : Addr} (ha : g ≠ a.block) (v : Value) : Nodes0 (w.setCell a v) g ns := by
  have hb : (w.setCell a v).heap[g]? = w.heap[g]? := Below.heap_setCell w a v g ha
  have key : ∀ o, (w.setCell a v).cell? ⟨g, o, none⟩ = w.cell? ⟨g, o, none⟩ := fun o => World.cell?_of_block (w := w) (a := ⟨g, o, none⟩) hb
  refine ⟨by simpa [World.setCell] using h.1, ?_⟩
  intro j n hj
  obtain ⟨q0, q1, q2, q3⟩ := h.2 j n hj
  exact ⟨(key _).trans q0, (key _).trans q1, (key _).trans q2, (key _).trans q3⟩

theorem ownsRow_belowV {w w' : World} {base : Nat} {e : TypeId} {size : Nat} {v : Value} {n : Nat} {xs : List Value} (h : w.ownsRow base e size v n xs) (hb : Below w.heap.size w w') : w'.ownsRow base e size v n xs := by
  refine ⟨h.1, ?_⟩
  rcases h.2 with h' | ⟨g, cap, cur, h1, h2, h3, h4⟩
  · exact .inl h'
  · refine .inr ⟨g, cap, cur, h1, h2, ?_, h4⟩
    rw [hb.block g (by
      rcases Nat.lt_or_ge g w.heap.size with h | h
      · exact h
      · rw [Array.getElem?_eq_none h] at h3; cases h3)]
    exact h3

theorem bcellV {W w1 : World} (hb : Below W.heap.size W w1) : (∀ b o, b < W.heap.size → w1.cell? ⟨b, o, none⟩ = W.cell? ⟨b, o, none⟩) ∧ (∀ b o, b < W.heap.size → w1.frozen? ⟨b, o, none⟩ = W.frozen? ⟨b, o, none⟩) :=
  ⟨fun b o h => hb.cell (p := ⟨b, o, none⟩) h, fun b o h => hb.frozen (p := ⟨b, o, none⟩) h⟩

theorem news_oneV (w : World) (x : Value) (T : TypeId) : ∀ j u, [x][j]? = some u → (w.alloc (.cells #[x] T)).cell? ((⟨w.heap.size, 0, none⟩ : Addr).add j) = some u := by
  intro j u hj
  match j, hj with
  | 0, hj => simp at hj; subst hj; simp [Addr.add]

theorem ownsRow_cut {w : World} {base : Nat} {e : TypeId} {g n cap : Nat} {xs : List Value} (h : w.ownsRow base e 1 (.slice (some ⟨g, 0, none⟩) n cap) n xs) (r : Nat) (hr : r ≤ n) :
    w.ownsRow base e 1 (.slice (some ⟨g, 0, none⟩) r cap) r (xs.take r) := by
  have hl := h.1
  refine ⟨by rw [List.length_take]; omega, ?_⟩
  rcases h.2 with ⟨h', _⟩ | ⟨g', cap', cur, h1, h2, h3, h4, h5, h6, h7⟩
  · simp at h'
  · simp only [Value.slice.injEq, Option.some.injEq, Addr.mk.injEq, and_true, true_and] at h1
    obtain ⟨rfl, rfl⟩ := h1
    refine .inr ⟨g, cap, cur, rfl, h2, h3, by omega, h5, h6, ?_⟩
    rw [← h7, List.take_take]
    congr 1
    omega

/-- the shape of the buffer -/
theorem buf_shape {w : World} {B n : Nat} {e : TypeId} {v : Value} {xs : List Value} (h : w.ownsRow B e 1 v n xs) : ∃ a cap, v = .slice a n cap := by
  rcases h.2 with ⟨rfl, rfl⟩ | ⟨g, cap, cur, rfl, _⟩
  · exact ⟨_, _, rfl⟩
  · exact ⟨_, _, rfl⟩

end Go.Proofs.YthjicahpfhjfdaaGreatDoor
