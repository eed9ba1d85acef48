/-
  A new world marked, and held. Made by mknwm.py.
-/
import Derived.Test.YtebcocejgenadaaGreatNwp
import Derived.Test.YtebcocejgenadaaGreatNws
import Derived.Test.YtebcocejgenadaaGreatNil
import Derived.Test.YtebcocejgenadaaGreatMkt
namespace Go.Proofs.YtebcocejgenadaaGreat
open Go.RowKit

/-- all blocks but that of a list are as they were -/
structure Bv (v : Value) (w w' : World) : Prop where
  os : w'.os = w.os
  tape : w'.tape = w.tape
  output : w'.output = w.output
  size : w.heap.size ≤ w'.heap.size
  block : ∀ b, b < w.heap.size → v.ownBlock ≠ some b → w'.heap[b]? = w.heap[b]?

theorem Bv.refl (v : Value) (w : World) : Bv v w w := ⟨rfl, rfl, rfl, Nat.le_refl _, fun _ _ _ => rfl⟩
theorem Bv.to {v : Value} {a b c : World} (h : Bv v a b) (k : Below b.heap.size b c) : Bv v a c :=
  ⟨k.os.trans h.os, k.tape.trans h.tape, k.output.trans h.output, Nat.le_trans h.size k.size, fun x hx hn => (k.block x (Nat.lt_of_lt_of_le hx h.size)).trans (h.block x hx hn)⟩
theorem Bv.set {g m q : Nat} {a w : World} (h : Bv (.slice (some ⟨g, 0, none⟩) m q) a w) (o : Nat) (u : Value) : Bv (.slice (some ⟨g, 0, none⟩) m q) a (w.setCell ⟨g, o, none⟩ u) :=
  ⟨h.os, h.tape, h.output, by simpa using h.size, fun x hx hn => (Below.heap_setCell w ⟨g, o, none⟩ u x (fun e => hn (by rw [e]; rfl))).trans (h.block x hx hn)⟩
theorem Bv.below {v : Value} {w w' : World} {B : Nat} (h : Bv v w w') (hB : B ≤ w.heap.size) (hv : ∀ b, v.ownBlock = some b → B ≤ b) : Below B w w' :=
  ⟨h.os, h.tape, h.output, h.size, fun k hk => h.block k (by omega) (fun e => by have := hv k e; omega)⟩
theorem Blk.bv {v : Value} {g : Nat} {cs : Array Value} {t : TypeId} {w w' : World} (h : Blk g cs t w) (hb : Bv v w w') (hn : v.ownBlock ≠ some g) : Blk g cs t w' := (hb.block g h.lt hn).trans h
theorem ownsRow_bv {v u : Value} {base n : Nat} {w w' : World} {e : TypeId} {s : Nat} {cs : List Value} (h : w.ownsRow base e s u n cs) (hb : Bv v w w') (hn : ∀ b, u.ownBlock = some b → v.ownBlock ≠ some b) : w'.ownsRow base e s u n cs := by
  have hlt := h.lt
  rcases h.2 with ⟨h1, h2⟩ | ⟨g', cap', cur, h1, h2, h3, h4⟩
  · exact ⟨h.1, .inl ⟨h1, h2⟩⟩
  · have e1 : u.ownBlock = some g' := by rw [h1]; rfl
    exact ⟨h.1, .inr ⟨g', cap', cur, h1, h2, (hb.block g' (hlt g' e1).2 (hn g' e1)).trans h3, h4⟩⟩

def b3 (t : Nat) : Bool := decide ((t : Int).tmod 3 = 0)
/-- the cells of a mate that is marked from t on -/
def mcl (t : Nat) : List Value := [.string (mtOf t), .bool (b3 (t + 1)), .int .i64 ((t + 2 : Nat) : Int), .bool (b3 (t + 3)), .int .i64 ((t + 4 : Nat) : Int), .slice none 0 0, .slice none 0 0, .slice none 0 0, .slice none 0 0]
def mvL (k : Nat) : Nat → List Value
  | 0 => []
  | i + 1 => mvL k i ++ mcl (k + 5 * i)

theorem mvL_len (k : Nat) : ∀ i, (mvL k i).length = i * 9
  | 0 => rfl
  | i + 1 => by
    have := mvL_len k i
    simp only [mvL, List.length_append, mcl, List.length_cons, List.length_nil]
    omega

theorem mvL_at (k : Nat) : ∀ (n i j : Nat), i < n → j < 9 → (mvL k n)[i * 9 + j]? = (mcl (k + 5 * i))[j]?
  | 0, _, _, h, _ => by omega
  | n + 1, i, j, h, hj => by
    simp only [mvL]
    by_cases e : i = n
    · subst e
      rw [List.getElem?_append_right (by rw [mvL_len]; omega), mvL_len]
      congr 1
      omega
    · rw [List.getElem?_append_left (by rw [mvL_len]; omega)]
      exact mvL_at k n i j (by omega) hj

theorem row_here {a r : List Value} {cs : List Value} {i j : Nat} (ha : a.length = i * 9) (hj : j < cs.length) : (a ++ (cs ++ r))[i * 9 + j]? = cs[j]? := by
  rw [List.getElem?_append_right (by omega), List.getElem?_append_left (by omega)]
  congr 1
  omega

theorem row_set {a r : List Value} {cs : List Value} {i j : Nat} {v : Value} (ha : a.length = i * 9) (hj : j < cs.length) : (a ++ (cs ++ r)).set (i * 9 + j) v = a ++ (cs.set j v ++ r) := by
  rw [List.set_append_right _ _ (by omega), List.set_append_left _ _ (by omega)]
  congr 3
  omega

theorem rv_drop {xs : List Nm} {i : Nat} {x : Nm} (h : xs[i]? = some x) : rvNm (xs.drop i) = rcNm x ++ rvNm (xs.drop (i + 1)) := by
  have hl := lt_of_some h
  have e : xs[i] = x := by rw [List.getElem?_eq_getElem hl] at h; exact Option.some.inj h
  rw [List.drop_eq_getElem_cons hl, e]
  rfl

set_option maxHeartbeats 8000000 in
set_option maxRecDepth 100000 in
theorem markMs_any (xs : List Nm) (k g q base : Nat) (w : World) (hO : w.ownsRow base 41 9 (.slice (some ⟨g, 0, none⟩) xs.length q) xs.length (rvNm xs)) (hl : xs.length ≤ 4) (hk : 0 < k ∧ k ≤ 100) :
    Calls Tryz.prog 20 #[.slice (some ⟨g, 0, none⟩) xs.length q, .int .i64 (k : Int)] w fun e w' => e = .returned (.int .i64 ((k + 5 * xs.length : Nat) : Int)) ∧ w'.ownsRow base 41 9 (.slice (some ⟨g, 0, none⟩) xs.length q) xs.length (mvL k xs.length) ∧ Bv (.slice (some ⟨g, 0, none⟩) xs.length q) w w' ∧ Below base w w' := by
  have HO0 := Hid.intro hO
  clear hO
  go_enter Tryz.func20, Tryz.ntmps20
  go_wp2_with fail
  go_loopw [1, 5] (fun l u wr => ∃ i : Nat, i ≤ xs.length ∧ l = .int .i64 ((k + 5 * i : Nat) : Int) ∧ u = .int .i64 i ∧ Hid (wr.ownsRow base 41 9 (.slice (some ⟨g, 0, none⟩) xs.length q) xs.length (mvL k i ++ rvNm (xs.drop i))) ∧ Hid (Bv (.slice (some ⟨g, 0, none⟩) xs.length q) w wr) ∧ Below base w wr) (fun _ u _ => xs.length - (intOf u).toNat)
  case atStart => exact ⟨0, Nat.zero_le _, rfl, rfl, HO0, Bv.refl _ _, Below.refl _ _⟩
  case round =>
    clear HO0
    obtain ⟨i, hi, rfl, rfl, HO, HV, hB⟩ := hrel
    by_cases hlt : i < xs.length
    case neg =>
      have hie : i = xs.length := by omega
      subst hie
      have HOE : Hid (wr.ownsRow base 41 9 (.slice (some ⟨g, 0, none⟩) xs.length q) xs.length (mvL k xs.length)) := by
        show World.ownsRow _ _ _ _ _ _ _
        have h := HO.out
        rw [List.drop_length] at h
        simpa [rvNm] using h
      go_wp2_with fail
      go_ret
      exact ⟨rfl, HOE.out, HV.out, hB⟩
    obtain ⟨x, hx⟩ : ∃ x, xs[i]? = some x := ⟨xs[i], List.getElem?_eq_getElem hlt⟩
    have HRV := Hid.intro (rv_drop hx)
    clear hx
    rw [HRV.out] at HO
    have hgw : base ≤ g := rowb HO.out
    obtain ⟨t, ht⟩ : ∃ t, t = k + 5 * i := ⟨_, rfl⟩
    have HT := Hid.intro ht
    rw [← ht]
    have ht0 : 0 < t ∧ t ≤ 1000 := by omega
    clear ht
    have i0 : (0 : Int) ≤ (i : Int) := by omega
    have i1 : (i : Int) < (xs.length : Int) := by omega
    go_wp2_with fail
    refine (markText_any t _ ht0.1 (by omega)).mono ?_
    rintro e w1 ⟨rfl, hb1⟩
    have HO1 := Hid.intro (ownsRow_below HO.out hb1)
    have HV1 := Hid.intro (HV.out.to hb1)
    have hB1 := hB.trans (hb1.mono (Nat.le_trans hgw (Nat.le_of_lt (HO.out.lt g rfl).2)))
    clear hb1 HO hB HV
    have c0 : w1.cell? ⟨g, i * 9, none⟩ = some (.string x.name) := (HO1.out.cellAt (i * 9 + 0) (by omega)).trans (row_here (mvL_len k i) (cs := rcNm x) (by simp [rcNm]))
    have c1 : w1.cell? ⟨g, i * 9 + 1, none⟩ = some (.bool true) := (HO1.out.cellAt (i * 9 + 1) (by omega)).trans (row_here (mvL_len k i) (cs := rcNm x) (by simp [rcNm]))
    have c2 : w1.cell? ⟨g, i * 9 + 2, none⟩ = some (.int .i64 0) := (HO1.out.cellAt (i * 9 + 2) (by omega)).trans (row_here (mvL_len k i) (cs := rcNm x) (by simp [rcNm]))
    have c3 : w1.cell? ⟨g, i * 9 + 3, none⟩ = some (.bool false) := (HO1.out.cellAt (i * 9 + 3) (by omega)).trans (row_here (mvL_len k i) (cs := rcNm x) (by simp [rcNm]))
    have c4 : w1.cell? ⟨g, i * 9 + 4, none⟩ = some (.int .i64 0) := (HO1.out.cellAt (i * 9 + 4) (by omega)).trans (row_here (mvL_len k i) (cs := rcNm x) (by simp [rcNm]))
    have c5 : w1.cell? ⟨g, i * 9 + 5, none⟩ = some (.slice none 0 0) := (HO1.out.cellAt (i * 9 + 5) (by omega)).trans (row_here (mvL_len k i) (cs := rcNm x) (by simp [rcNm]))
    have c6 : w1.cell? ⟨g, i * 9 + 6, none⟩ = some (.slice none 0 0) := (HO1.out.cellAt (i * 9 + 6) (by omega)).trans (row_here (mvL_len k i) (cs := rcNm x) (by simp [rcNm]))
    have c7 : w1.cell? ⟨g, i * 9 + 7, none⟩ = some (.slice none 0 0) := (HO1.out.cellAt (i * 9 + 7) (by omega)).trans (row_here (mvL_len k i) (cs := rcNm x) (by simp [rcNm]))
    have c8 : w1.cell? ⟨g, i * 9 + 8, none⟩ = some (.slice none 0 0) := (HO1.out.cellAt (i * 9 + 8) (by omega)).trans (row_here (mvL_len k i) (cs := rcNm x) (by simp [rcNm]))
    have f0 : w1.frozen? ⟨g, i * 9, none⟩ = false := HO1.out.frozenAt (i * 9 + 0)
    have f1 : w1.frozen? ⟨g, i * 9 + 1, none⟩ = false := HO1.out.frozenAt (i * 9 + 1)
    have f2 : w1.frozen? ⟨g, i * 9 + 2, none⟩ = false := HO1.out.frozenAt (i * 9 + 2)
    have f3 : w1.frozen? ⟨g, i * 9 + 3, none⟩ = false := HO1.out.frozenAt (i * 9 + 3)
    have f4 : w1.frozen? ⟨g, i * 9 + 4, none⟩ = false := HO1.out.frozenAt (i * 9 + 4)
    go_upto_region 14 with fail
    show Code.wp _ _ _ _ (((((w1.setCell ⟨g, i * 9, none⟩ (.string (mtOf t))).setCell ⟨g, i * 9 + 1, none⟩ (.bool (b3 (t + 1)))).setCell ⟨g, i * 9 + 2, none⟩ (.int .i64 ((t + 2 : Nat) : Int))).setCell ⟨g, i * 9 + 3, none⟩ (.bool (b3 (t + 3)))).setCell ⟨g, i * 9 + 4, none⟩ (.int .i64 ((t + 4 : Nat) : Int)))
    have s0 := (HO1.out.stored (i * 9 + 0) (.string (mtOf t))).1
    have s1 := (s0.stored (i * 9 + 1) (.bool (b3 (t + 1)))).1
    have s2 := (s1.stored (i * 9 + 2) (.int .i64 ((t + 2 : Nat) : Int))).1
    have s3 := (s2.stored (i * 9 + 3) (.bool (b3 (t + 3)))).1
    have s4 := (s3.stored (i * 9 + 4) (.int .i64 ((t + 4 : Nat) : Int))).1
    rw [row_set (mvL_len k i) (by simp [rcNm]), row_set (mvL_len k i) (by simp [rcNm]), row_set (mvL_len k i) (by simp [rcNm]), row_set (mvL_len k i) (by simp [rcNm]), row_set (mvL_len k i) (by simp [rcNm])] at s4
    have HO2 : Hid ((((((w1.setCell ⟨g, i * 9, none⟩ (.string (mtOf t))).setCell ⟨g, i * 9 + 1, none⟩ (.bool (b3 (t + 1)))).setCell ⟨g, i * 9 + 2, none⟩ (.int .i64 ((t + 2 : Nat) : Int))).setCell ⟨g, i * 9 + 3, none⟩ (.bool (b3 (t + 3)))).setCell ⟨g, i * 9 + 4, none⟩ (.int .i64 ((t + 4 : Nat) : Int))).ownsRow base 41 9 (.slice (some ⟨g, 0, none⟩) xs.length q) xs.length (mvL k i ++ (mcl t ++ rvNm (xs.drop (i + 1))))) := s4
    have HV2 : Hid (Bv (.slice (some ⟨g, 0, none⟩) xs.length q) w (((((w1.setCell ⟨g, i * 9, none⟩ (.string (mtOf t))).setCell ⟨g, i * 9 + 1, none⟩ (.bool (b3 (t + 1)))).setCell ⟨g, i * 9 + 2, none⟩ (.int .i64 ((t + 2 : Nat) : Int))).setCell ⟨g, i * 9 + 3, none⟩ (.bool (b3 (t + 3)))).setCell ⟨g, i * 9 + 4, none⟩ (.int .i64 ((t + 4 : Nat) : Int)))) := (((((HV1.out).set _ _).set _ _).set _ _).set _ _).set _ _
    have hB2 : Below base w (((((w1.setCell ⟨g, i * 9, none⟩ (.string (mtOf t))).setCell ⟨g, i * 9 + 1, none⟩ (.bool (b3 (t + 1)))).setCell ⟨g, i * 9 + 2, none⟩ (.int .i64 ((t + 2 : Nat) : Int))).setCell ⟨g, i * 9 + 3, none⟩ (.bool (b3 (t + 3)))).setCell ⟨g, i * 9 + 4, none⟩ (.int .i64 ((t + 4 : Nat) : Int))) := (((((hB1).setCell hgw _).setCell hgw _).setCell hgw _).setCell hgw _).setCell hgw _
    clear s0 s1 s2 s3 s4 HO1 hB1 HV1 c0 c1 c2 c3 c4 c5 c6 c7 c8 f0 f1 f2 f3 f4
    generalize (((((w1.setCell ⟨g, i * 9, none⟩ (.string (mtOf t))).setCell ⟨g, i * 9 + 1, none⟩ (.bool (b3 (t + 1)))).setCell ⟨g, i * 9 + 2, none⟩ (.int .i64 ((t + 2 : Nat) : Int))).setCell ⟨g, i * 9 + 3, none⟩ (.bool (b3 (t + 3)))).setCell ⟨g, i * 9 + 4, none⟩ (.int .i64 ((t + 4 : Nat) : Int))) = w2 at *
    have cc : w2.cell? ⟨g, i * 9 + 5, none⟩ = some (.slice none 0 0) := (HO2.out.cellAt (i * 9 + 5) (by omega)).trans (row_here (mvL_len k i) (cs := mcl t) (by simp [mcl]))
    go_wp2_with fail
    clear cc
    refine (markMateWantS_nil _ 0 _).mono ?_
    rintro e w3 ⟨rfl, hb⟩
    have HO3 := Hid.intro (ownsRow_below HO2.out hb)
    have HV3 := Hid.intro (HV2.out.to hb)
    have hB3 := hB2.trans (hb.mono (Nat.le_trans hgw (Nat.le_of_lt (HO2.out.lt g rfl).2)))
    clear hb HO2 hB2 HV2
    have cc : w3.cell? ⟨g, i * 9 + 6, none⟩ = some (.slice none 0 0) := (HO3.out.cellAt (i * 9 + 6) (by omega)).trans (row_here (mvL_len k i) (cs := mcl t) (by simp [mcl]))
    go_wp2_with fail
    clear cc
    refine (markMateRunS_nil _ 0 _).mono ?_
    rintro e w4 ⟨rfl, hb⟩
    have HO4 := Hid.intro (ownsRow_below HO3.out hb)
    have HV4 := Hid.intro (HV3.out.to hb)
    have hB4 := hB3.trans (hb.mono (Nat.le_trans hgw (Nat.le_of_lt (HO3.out.lt g rfl).2)))
    clear hb HO3 hB3 HV3
    have cc : w4.cell? ⟨g, i * 9 + 7, none⟩ = some (.slice none 0 0) := (HO4.out.cellAt (i * 9 + 7) (by omega)).trans (row_here (mvL_len k i) (cs := mcl t) (by simp [mcl]))
    go_wp2_with fail
    clear cc
    refine (markMateAskS_nil _ 0 _).mono ?_
    rintro e w5 ⟨rfl, hb⟩
    have HO5 := Hid.intro (ownsRow_below HO4.out hb)
    have HV5 := Hid.intro (HV4.out.to hb)
    have hB5 := hB4.trans (hb.mono (Nat.le_trans hgw (Nat.le_of_lt (HO4.out.lt g rfl).2)))
    clear hb HO4 hB4 HV4
    have cc : w5.cell? ⟨g, i * 9 + 8, none⟩ = some (.slice none 0 0) := (HO5.out.cellAt (i * 9 + 8) (by omega)).trans (row_here (mvL_len k i) (cs := mcl t) (by simp [mcl]))
    go_wp2_with fail
    clear cc
    refine (markMateAskS_nil _ 0 _).mono ?_
    rintro e w6 ⟨rfl, hb⟩
    have HO6 := Hid.intro (ownsRow_below HO5.out hb)
    have HV6 := Hid.intro (HV5.out.to hb)
    have hB6 := hB5.trans (hb.mono (Nat.le_trans hgw (Nat.le_of_lt (HO5.out.lt g rfl).2)))
    clear hb HO5 hB5 HV5
    have HO9 : Hid (w6.ownsRow base 41 9 (.slice (some ⟨g, 0, none⟩) xs.length q) xs.length (mvL k (i + 1) ++ rvNm (xs.drop (i + 1)))) := by
      show World.ownsRow _ _ _ _ _ _ _
      have h := HO6.out
      rw [← List.append_assoc, HT.out] at h
      exact h
    go_wp2_with fail
    go_roundw
    case rel => exact ⟨i + 1, by omega, by have := HT.out; go_num, by go_num, HO9, HV6, hB6⟩
    case measure => simp [intOf]; omega

end Go.Proofs.YtebcocejgenadaaGreat
