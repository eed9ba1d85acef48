/-
  One copy ahead of another by the specification; rows of copies. Made by mkhqa.py.
-/
import Derived.Test.YtggbhggnemlpnaaGreatJ43
import Derived.Test.YtggbhggnemlpnaaGreatFnd
namespace Go.Proofs.YtggbhggnemlpnaaGreat
open Go.RowKit

set_option maxHeartbeats 4000000 in
set_option maxRecDepth 100000 in
theorem ahead_any (c d : Cpy) (la : Option Addr) (lc : Nat) (ld : Option Addr) (ldc : Nat) (w : World) :
    Calls Tryz.prog 55 #[.agg #[.string c.name, .string c.service, .int .i64 c.rank, .int .i64 c.born, .int .i64 c.room, .int .i64 c.hold, .string c.select, .slice la c.likes.length lc, .int .i64 c.apart, .string c.near, .string c.fixed, .string c.at_], .agg #[.string d.name, .string d.service, .int .i64 d.rank, .int .i64 d.born, .int .i64 d.room, .int .i64 d.hold, .string d.select, .slice ld d.likes.length ldc, .int .i64 d.apart, .string d.near, .string d.fixed, .string d.at_]] w fun e w' => e = .returned (.bool (ahW c d)) ∧ Below w.heap.size w w' := by
  have HXa : Blk w.heap.size #[.string c.name, .string c.service, .int .i64 c.rank, .int .i64 c.born, .int .i64 c.room, .int .i64 c.hold, .string c.select, .slice la c.likes.length lc, .int .i64 c.apart, .string c.near, .string c.fixed, .string c.at_] 65 (w.alloc (Obj.cells #[.string c.name, .string c.service, .int .i64 c.rank, .int .i64 c.born, .int .i64 c.room, .int .i64 c.hold, .string c.select, .slice la c.likes.length lc, .int .i64 c.apart, .string c.near, .string c.fixed, .string c.at_] 65)) := Blk.alloc _ _ _
  have HY1 : Hid (Blk (w.heap.size + 1) #[.string d.name, .string d.service, .int .i64 d.rank, .int .i64 d.born, .int .i64 d.room, .int .i64 d.hold, .string d.select, .slice ld d.likes.length ldc, .int .i64 d.apart, .string d.near, .string d.fixed, .string d.at_] 65 ((w.alloc (Obj.cells #[.string c.name, .string c.service, .int .i64 c.rank, .int .i64 c.born, .int .i64 c.room, .int .i64 c.hold, .string c.select, .slice la c.likes.length lc, .int .i64 c.apart, .string c.near, .string c.fixed, .string c.at_] 65)).alloc (Obj.cells #[.string d.name, .string d.service, .int .i64 d.rank, .int .i64 d.born, .int .i64 d.room, .int .i64 d.hold, .string d.select, .slice ld d.likes.length ldc, .int .i64 d.apart, .string d.near, .string d.fixed, .string d.at_] 65))) := by
    have := Blk.alloc (w.alloc (Obj.cells #[.string c.name, .string c.service, .int .i64 c.rank, .int .i64 c.born, .int .i64 c.room, .int .i64 c.hold, .string c.select, .slice la c.likes.length lc, .int .i64 c.apart, .string c.near, .string c.fixed, .string c.at_] 65)) #[.string d.name, .string d.service, .int .i64 d.rank, .int .i64 d.born, .int .i64 d.room, .int .i64 d.hold, .string d.select, .slice ld d.likes.length ldc, .int .i64 d.apart, .string d.near, .string d.fixed, .string d.at_] 65
    show Blk _ _ _ _
    simpa using this
  have HX1 : Hid (Blk w.heap.size #[.string c.name, .string c.service, .int .i64 c.rank, .int .i64 c.born, .int .i64 c.room, .int .i64 c.hold, .string c.select, .slice la c.likes.length lc, .int .i64 c.apart, .string c.near, .string c.fixed, .string c.at_] 65 ((w.alloc (Obj.cells #[.string c.name, .string c.service, .int .i64 c.rank, .int .i64 c.born, .int .i64 c.room, .int .i64 c.hold, .string c.select, .slice la c.likes.length lc, .int .i64 c.apart, .string c.near, .string c.fixed, .string c.at_] 65)).alloc (Obj.cells #[.string d.name, .string d.service, .int .i64 d.rank, .int .i64 d.born, .int .i64 d.room, .int .i64 d.hold, .string d.select, .slice ld d.likes.length ldc, .int .i64 d.apart, .string d.near, .string d.fixed, .string d.at_] 65))) := HXa.below ((Below.refl _ _).alloc (Nat.le_refl _) _) HXa.lt
  have hB1 : Below w.heap.size w ((w.alloc (Obj.cells #[.string c.name, .string c.service, .int .i64 c.rank, .int .i64 c.born, .int .i64 c.room, .int .i64 c.hold, .string c.select, .slice la c.likes.length lc, .int .i64 c.apart, .string c.near, .string c.fixed, .string c.at_] 65)).alloc (Obj.cells #[.string d.name, .string d.service, .int .i64 d.rank, .int .i64 d.born, .int .i64 d.room, .int .i64 d.hold, .string d.select, .slice ld d.likes.length ldc, .int .i64 d.apart, .string d.near, .string d.fixed, .string d.at_] 65)) := by go_grown
  clear HXa
  go_enter Tryz.func55, Tryz.ntmps55
  go_upto_region 1 with fail
  generalize (w.alloc (Obj.cells #[.string c.name, .string c.service, .int .i64 c.rank, .int .i64 c.born, .int .i64 c.room, .int .i64 c.hold, .string c.select, .slice la c.likes.length lc, .int .i64 c.apart, .string c.near, .string c.fixed, .string c.at_] 65)).alloc (Obj.cells #[.string d.name, .string d.service, .int .i64 d.rank, .int .i64 d.born, .int .i64 d.room, .int .i64 d.hold, .string d.select, .slice ld d.likes.length ldc, .int .i64 d.apart, .string d.near, .string d.fixed, .string d.at_] 65) = w1 at *
  have c2 : w1.cell? ⟨w.heap.size, 2, none⟩ = some (.int .i64 c.rank) := HX1.out.cell rfl
  have c3 : w1.cell? ⟨w.heap.size, 3, none⟩ = some (.int .i64 c.born) := HX1.out.cell rfl
  have c0 : w1.cell? ⟨w.heap.size, 0, none⟩ = some (.string c.name) := HX1.out.cell rfl
  have d2 : w1.cell? ⟨w.heap.size + 1, 2, none⟩ = some (.int .i64 d.rank) := HY1.out.cell rfl
  have d3 : w1.cell? ⟨w.heap.size + 1, 3, none⟩ = some (.int .i64 d.born) := HY1.out.cell rfl
  have d0 : w1.cell? ⟨w.heap.size + 1, 0, none⟩ = some (.string d.name) := HY1.out.cell rfl
  have HB := Hid.intro hB1
  clear HX1 HY1 hB1
  by_cases h1 : c.rank = d.rank
  · by_cases h2 : c.born = d.born
    · have HE : Hid (ahW c d = Op.bytesLess c.name.toList d.name.toList) := by
        show _ = _
        unfold ahW
        rw [if_neg (by omega), if_neg (by omega), if_neg (by omega), if_neg (by omega)]
      rw [h1] at c2
      rw [h2] at c3
      clear h1 h2
      go_wp2_with fail
      go_ret
      exact ⟨ret_bool HE.out.symm, HB.out⟩
    · have HE : Hid (ahW c d = decide (c.born < d.born)) := by
        show _ = _
        unfold ahW
        rw [if_neg (by omega), if_neg (by omega)]
        by_cases h3 : c.born < d.born
        · rw [if_pos h3, decide_eq_true h3]
        · rw [if_neg h3, if_pos (by omega), decide_eq_false h3]
      rw [h1] at c2
      clear h1
      go_wp2_with fail
      go_ret
      exact ⟨ret_bool HE.out.symm, HB.out⟩
  · have HE : Hid (ahW c d = decide (d.rank < c.rank)) := by
      show _ = _
      unfold ahW
      by_cases h3 : d.rank < c.rank
      · rw [if_pos h3, decide_eq_true h3]
      · rw [if_neg h3, if_pos (by omega), decide_eq_false h3]
    go_wp2_with fail
    go_ret
    exact ⟨ret_bool HE.out.symm, HB.out⟩

/-- the likes of a place, as they lie there -/
def lkQ (w : World) (b o i : Nat) : Option Addr × Nat := match w.cell? ⟨b, o + i * 12 + 7, none⟩ with
  | some (.slice a _ c) => (a, c)
  | _ => (none, 0)
/-- the cells of a place's copy -/
def vcQ (x : Flt) (w : World) (b o : Nat) (i : Nat) : List Value := match x.copies[i]? with
  | some c => [.string c.name, .string c.service, .int .i64 c.rank, .int .i64 c.born, .int .i64 c.room, .int .i64 c.hold, .string c.select, .slice (lkQ w b o i).1 c.likes.length (lkQ w b o i).2, .int .i64 c.apart, .string c.near, .string c.fixed, .string c.at_]
  | none => [.bool false, .bool false, .bool false, .bool false, .bool false, .bool false, .bool false, .bool false, .bool false, .bool false, .bool false, .bool false]
theorem vcQ_len (x : Flt) (w : World) (b o i : Nat) : (vcQ x w b o i).length = 12 := by
  unfold vcQ
  cases x.copies[i]? <;> rfl
theorem vcQ_at {x : Flt} {w : World} {b o i : Nat} {c : Cpy} (h : x.copies[i]? = some c) : vcQ x w b o i = [.string c.name, .string c.service, .int .i64 c.rank, .int .i64 c.born, .int .i64 c.room, .int .i64 c.hold, .string c.select, .slice (lkQ w b o i).1 c.likes.length (lkQ w b o i).2, .int .i64 c.apart, .string c.near, .string c.fixed, .string c.at_] := by unfold vcQ; rw [h]
theorem vcQ_one (x : Flt) (w : World) (b o i : Nat) : ∀ u ∈ vcQ x w b o i, u.oneCell' = true := by
  intro u hu
  unfold vcQ at hu
  cases h : x.copies[i]? with
  | none =>
    rw [h] at hu
    simp at hu
    rw [hu]
    rfl
  | some c =>
    rw [h] at hu
    simp at hu
    rcases hu with rfl | rfl | rfl | rfl | rfl | rfl | rfl | rfl | rfl | rfl | rfl | rfl <;> rfl
/-- they lie there -/
theorem vcQ_lies {x : Flt} {w : World} {b o lo i : Nat} {c : Cpy} (n3 : SliceC CpyC 12 lo w (some ⟨b, o, none⟩) x.copies) (h : x.copies[i]? = some c) : w.rangeAt b (o + i * 12) (vcQ x w b o i) := by
  obtain ⟨b', o', e, _, _, hc⟩ := n3.at h
  cases e
  obtain ⟨la, lc, hr⟩ := rngCpy hc
  have h7 : w.cell? ⟨b, o + i * 12 + 7, none⟩ = some (.slice la c.likes.length lc) := hr 7 _ rfl
  have hk : lkQ w b o i = (la, lc) := by unfold lkQ; rw [h7]
  rw [vcQ_at h, hk]
  exact hr

/-- many of them in a row -/
def rvQ (x : Flt) (w : World) (b o : Nat) (l : List Nat) : List Value := l.flatMap (vcQ x w b o)
theorem rvQ_len (x : Flt) (w : World) (b o : Nat) : ∀ l : List Nat, (rvQ x w b o l).length = l.length * 12
  | [] => rfl
  | a :: r => by
    show (vcQ x w b o a ++ rvQ x w b o r).length = _
    rw [List.length_append, vcQ_len, rvQ_len x w b o r, List.length_cons]
    omega
theorem rvQ_app (x : Flt) (w : World) (b o : Nat) (l r : List Nat) : rvQ x w b o (l ++ r) = rvQ x w b o l ++ rvQ x w b o r := by simp [rvQ]
theorem rvQ_get (x : Flt) (w : World) (b o : Nat) : ∀ (l : List Nat) (j i t : Nat), l[j]? = some i → t < 12 → (rvQ x w b o l)[j * 12 + t]? = (vcQ x w b o i)[t]?
  | [], j, i, t, h, _ => by simp at h
  | a :: r, 0, i, t, h, ht => by
    simp at h
    subst h
    show (vcQ x w b o a ++ rvQ x w b o r)[0 * 12 + t]? = _
    rw [List.getElem?_append_left (by rw [vcQ_len]; omega)]
    simp
  | a :: r, j + 1, i, t, h, ht => by
    show (vcQ x w b o a ++ rvQ x w b o r)[(j + 1) * 12 + t]? = _
    rw [List.getElem?_append_right (by rw [vcQ_len]; omega), vcQ_len, show (j + 1) * 12 + t - 12 = j * 12 + t by omega]
    exact rvQ_get x w b o r j i t (by simpa using h) ht
theorem rvQ_one (x : Flt) (w : World) (b o : Nat) (l : List Nat) : ∀ u ∈ rvQ x w b o l, u.oneCell' = true := by
  intro u hu
  obtain ⟨i, _, h⟩ := List.mem_flatMap.1 hu
  exact vcQ_one x w b o i u h

theorem rvQ_drop (x : Flt) (w : World) (b o : Nat) (l : List Nat) (j : Nat) : rvQ x w b o (l.drop j) = (rvQ x w b o l).drop (j * 12) := by
  by_cases h : j ≤ l.length
  · have e : rvQ x w b o l = rvQ x w b o (l.take j) ++ rvQ x w b o (l.drop j) := by rw [← rvQ_app, List.take_append_drop]
    have hl : (rvQ x w b o (l.take j)).length = j * 12 := by rw [rvQ_len, List.length_take, Nat.min_eq_left h]
    rw [e, List.drop_left' hl]
  · rw [List.drop_eq_nil_of_le (by omega), List.drop_eq_nil_of_le (by rw [rvQ_len]; omega)]
    rfl
theorem rvQ_take (x : Flt) (w : World) (b o : Nat) (l : List Nat) (j : Nat) : rvQ x w b o (l.take j) = (rvQ x w b o l).take (j * 12) := by
  by_cases h : j ≤ l.length
  · have e : rvQ x w b o l = rvQ x w b o (l.take j) ++ rvQ x w b o (l.drop j) := by rw [← rvQ_app, List.take_append_drop]
    have hl : (rvQ x w b o (l.take j)).length = j * 12 := by rw [rvQ_len, List.length_take, Nat.min_eq_left h]
    rw [e, List.take_left' hl]
  · rw [List.take_of_length_le (by omega), List.take_of_length_le (by rw [rvQ_len]; omega)]

theorem rowQ_cell {base g q n : Nat} {w wy : World} {x : Flt} {b o : Nat} {l : List Nat} (h : wy.ownsRow base 65 12 (.slice (some ⟨g, 0, none⟩) n q) n (rvQ x w b o l)) (hn : n = l.length) {j : Nat} {u : Value} (hj : (rvQ x w b o l)[j]? = some u) : wy.cell? ⟨g, j, none⟩ = some u := by
  subst hn
  have hjl := lt_of_some hj
  rw [rvQ_len] at hjl
  have := h.cellAt j (by first | omega | (rw [rvQ_len]; omega))
  rw [this, hj]
theorem rowQ_rng {base g q n : Nat} {w wy : World} {x : Flt} {b o : Nat} {l : List Nat} (h : wy.ownsRow base 65 12 (.slice (some ⟨g, 0, none⟩) n q) n (rvQ x w b o l)) (hn : n = l.length) {j i : Nat} (hj : l[j]? = some i) : wy.rangeAt g (j * 12) (vcQ x w b o i) := by
  intro t u ht
  have htl : t < 12 := by have := lt_of_some ht; rw [vcQ_len] at this; exact this
  exact rowQ_cell h hn ((rvQ_get x w b o l j i t hj htl).trans ht)
theorem rowQ_le {base g q n : Nat} {w : World} {is : List Value} (h : w.ownsRow base 65 12 (.slice (some ⟨g, 0, none⟩) n q) n is) : n ≤ q := by
  rcases h.2 with ⟨h1, _⟩ | ⟨g', cap, cur, h1, _, _, h4⟩
  · cases h1
  · cases h1
    exact h4.1

end Go.Proofs.YtggbhggnemlpnaaGreat
