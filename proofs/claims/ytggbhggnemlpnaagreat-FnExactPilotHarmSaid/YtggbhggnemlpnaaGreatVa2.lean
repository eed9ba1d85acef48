/-
  Walks: a copy looked at alone by the program (made by mkv2.py).
-/
import Derived.Test.YtggbhggnemlpnaaGreatJ20
import Derived.Test.YtggbhggnemlpnaaGreatFlt
namespace Go.Proofs.YtggbhggnemlpnaaGreat
open Go.RowKit

/-- what can be asked of a copy alone -/
def copyOk (x : Cpy) : Bool :=
  inR x.rank 0 100 && inR x.born 0 1000000 && inR x.room 0 1000 && inR x.hold 0 1000 && decide (codeOf x.select = 0) && likesOk x.likes && inR x.apart 0 2 && nameOrNone x.near && nameOrNone x.fixed

theorem range_belowV {w w' : World} {g o B : Nat} {l : List Value} (h : w.rangeAt g o l) (hb : Below B w w') (hB : g < B) : w'.rangeAt g o l := by
  intro j v hj
  rw [hb.cell (p := ⟨g, _, none⟩) hB]
  exact h j v hj

set_option maxHeartbeats 1000000 in
set_option maxRecDepth 100000 in
theorem copyOk_any (x : Cpy) (a7 : Option Addr) (c7 lo : Nat) (w : World) (z6 : x.select.size ≤ maxLen) (hin : SliceC LikC 2 lo w a7 x.likes) (z9 : x.near.size ≤ maxLen) (z10 : x.fixed.size ≤ maxLen) :
    Calls Tryz.prog 110 #[.agg #[.string x.name, .string x.service, .int .i64 x.rank, .int .i64 x.born, .int .i64 x.room, .int .i64 x.hold, .string x.select, .slice a7 x.likes.length c7, .int .i64 x.apart, .string x.near, .string x.fixed, .string x.at_]] w fun e w' => e = .returned (.bool (copyOk x)) ∧ Below w.heap.size w w' := by
  have HI : Hid (SliceC LikC 2 lo w a7 x.likes) := hin
  have Z6 : Hid (x.select.size ≤ maxLen) := z6
  have Z9 : Hid (x.near.size ≤ maxLen) := z9
  have Z10 : Hid (x.fixed.size ≤ maxLen) := z10
  have hlen := hin.1
  unfold maxLen at hlen
  clear hin z6 z9 z10
  go_enter Tryz.func110, Tryz.ntmps110
  go_wp2_with fail
  have HR : Hid ((w.alloc (Obj.cells #[.string x.name, .string x.service, .int .i64 x.rank, .int .i64 x.born, .int .i64 x.room, .int .i64 x.hold, .string x.select, .slice a7 x.likes.length c7, .int .i64 x.apart, .string x.near, .string x.fixed, .string x.at_] 65)).rangeAt w.heap.size 0 [.string x.name, .string x.service, .int .i64 x.rank, .int .i64 x.born, .int .i64 x.room, .int .i64 x.hold, .string x.select, .slice a7 x.likes.length c7, .int .i64 x.apart, .string x.near, .string x.fixed, .string x.at_]) := range_cons (by simp) (range_cons (by simp) (range_cons (by simp) (range_cons (by simp) (range_cons (by simp) (range_cons (by simp) (range_cons (by simp) (range_cons (by simp) (range_cons (by simp) (range_cons (by simp) (range_cons (by simp) (range_cons (by simp) (range_nil _ _ _))))))))))))
  have HB : Hid (Below w.heap.size w (w.alloc (Obj.cells #[.string x.name, .string x.service, .int .i64 x.rank, .int .i64 x.born, .int .i64 x.room, .int .i64 x.hold, .string x.select, .slice a7 x.likes.length c7, .int .i64 x.apart, .string x.near, .string x.fixed, .string x.at_] 65))) := (Below.refl _ _).alloc (Nat.le_refl _) _
  have HS : Hid (w.heap.size < (w.alloc (Obj.cells #[.string x.name, .string x.service, .int .i64 x.rank, .int .i64 x.born, .int .i64 x.room, .int .i64 x.hold, .string x.select, .slice a7 x.likes.length c7, .int .i64 x.apart, .string x.near, .string x.fixed, .string x.at_] 65)).heap.size) := by show _ < _; simp
  generalize w.alloc (Obj.cells #[.string x.name, .string x.service, .int .i64 x.rank, .int .i64 x.born, .int .i64 x.room, .int .i64 x.hold, .string x.select, .slice a7 x.likes.length c7, .int .i64 x.apart, .string x.near, .string x.fixed, .string x.at_] 65) = w0 at *
  refine (isIn_any _ _ _ _).mono ?_
  rintro e w1 ⟨rfl, hb⟩
  have HR1 : Hid (w1.rangeAt w.heap.size 0 [.string x.name, .string x.service, .int .i64 x.rank, .int .i64 x.born, .int .i64 x.room, .int .i64 x.hold, .string x.select, .slice a7 x.likes.length c7, .int .i64 x.apart, .string x.near, .string x.fixed, .string x.at_]) := range_belowV HR.out hb HS.out
  have HB1 : Hid (Below w.heap.size w w1) := HB.out.trans (hb.mono HB.out.size)
  have HS1 : Hid (w.heap.size < w1.heap.size) := Nat.lt_of_lt_of_le HS.out hb.size
  clear HR HB HS hb
  have HR := HR1
  have HB := HB1
  have HS := HS1
  clear HR1 HB1 HS1
  cases h : inR x.rank 0 100
  · have HC : Hid (copyOk x = false) := by show _ = _; simp only [copyOk, h, Bool.false_and]
    clear h
    go_wp2_with fail
    go_ret
    exact ⟨ret_bool HC.out.symm, HB.out⟩
  have H1 : Hid ((inR x.rank 0 100) = true) := h
  clear h
  have e0 : w1.cell? ⟨w.heap.size, 3, none⟩ = some (.int .i64 x.born) := HR.out 3 _ rfl
  go_wp2_with fail
  clear e0
  refine (isIn_any _ _ _ _).mono ?_
  rintro e w2 ⟨rfl, hb⟩
  have HR2 : Hid (w2.rangeAt w.heap.size 0 [.string x.name, .string x.service, .int .i64 x.rank, .int .i64 x.born, .int .i64 x.room, .int .i64 x.hold, .string x.select, .slice a7 x.likes.length c7, .int .i64 x.apart, .string x.near, .string x.fixed, .string x.at_]) := range_belowV HR.out hb HS.out
  have HB2 : Hid (Below w.heap.size w w2) := HB.out.trans (hb.mono HB.out.size)
  have HS2 : Hid (w.heap.size < w2.heap.size) := Nat.lt_of_lt_of_le HS.out hb.size
  clear HR HB HS hb
  have HR := HR2
  have HB := HB2
  have HS := HS2
  clear HR2 HB2 HS2
  cases h : inR x.born 0 1000000
  · have HC : Hid (copyOk x = false) := by show _ = _; simp only [copyOk, h, Bool.and_false, Bool.false_and]
    clear h
    go_wp2_with fail
    go_ret
    exact ⟨ret_bool HC.out.symm, HB.out⟩
  have H2 : Hid ((inR x.born 0 1000000) = true) := h
  clear h
  have e0 : w2.cell? ⟨w.heap.size, 4, none⟩ = some (.int .i64 x.room) := HR.out 4 _ rfl
  go_wp2_with fail
  clear e0
  refine (isSize_any _ _).mono ?_
  rintro e w3 ⟨rfl, hb⟩
  have HR3 : Hid (w3.rangeAt w.heap.size 0 [.string x.name, .string x.service, .int .i64 x.rank, .int .i64 x.born, .int .i64 x.room, .int .i64 x.hold, .string x.select, .slice a7 x.likes.length c7, .int .i64 x.apart, .string x.near, .string x.fixed, .string x.at_]) := range_belowV HR.out hb HS.out
  have HB3 : Hid (Below w.heap.size w w3) := HB.out.trans (hb.mono HB.out.size)
  have HS3 : Hid (w.heap.size < w3.heap.size) := Nat.lt_of_lt_of_le HS.out hb.size
  clear HR HB HS hb
  have HR := HR3
  have HB := HB3
  have HS := HS3
  clear HR3 HB3 HS3
  cases h : inR x.room 0 1000
  · have HC : Hid (copyOk x = false) := by show _ = _; simp only [copyOk, h, Bool.and_false, Bool.false_and]
    clear h
    go_wp2_with fail
    go_ret
    exact ⟨ret_bool HC.out.symm, HB.out⟩
  have H3 : Hid ((inR x.room 0 1000) = true) := h
  clear h
  have e0 : w3.cell? ⟨w.heap.size, 5, none⟩ = some (.int .i64 x.hold) := HR.out 5 _ rfl
  go_wp2_with fail
  clear e0
  refine (isSize_any _ _).mono ?_
  rintro e w4 ⟨rfl, hb⟩
  have HR4 : Hid (w4.rangeAt w.heap.size 0 [.string x.name, .string x.service, .int .i64 x.rank, .int .i64 x.born, .int .i64 x.room, .int .i64 x.hold, .string x.select, .slice a7 x.likes.length c7, .int .i64 x.apart, .string x.near, .string x.fixed, .string x.at_]) := range_belowV HR.out hb HS.out
  have HB4 : Hid (Below w.heap.size w w4) := HB.out.trans (hb.mono HB.out.size)
  have HS4 : Hid (w.heap.size < w4.heap.size) := Nat.lt_of_lt_of_le HS.out hb.size
  clear HR HB HS hb
  have HR := HR4
  have HB := HB4
  have HS := HS4
  clear HR4 HB4 HS4
  cases h : inR x.hold 0 1000
  · have HC : Hid (copyOk x = false) := by show _ = _; simp only [copyOk, h, Bool.and_false, Bool.false_and]
    clear h
    go_wp2_with fail
    go_ret
    exact ⟨ret_bool HC.out.symm, HB.out⟩
  have H4 : Hid ((inR x.hold 0 1000) = true) := h
  clear h
  have e0 : w4.cell? ⟨w.heap.size, 6, none⟩ = some (.string x.select) := HR.out 6 _ rfl
  go_wp2_with fail
  clear e0
  refine (isRead_any _ _ Z6.out).mono ?_
  rintro e w5 ⟨rfl, hb⟩
  have HR5 : Hid (w5.rangeAt w.heap.size 0 [.string x.name, .string x.service, .int .i64 x.rank, .int .i64 x.born, .int .i64 x.room, .int .i64 x.hold, .string x.select, .slice a7 x.likes.length c7, .int .i64 x.apart, .string x.near, .string x.fixed, .string x.at_]) := range_belowV HR.out hb HS.out
  have HB5 : Hid (Below w.heap.size w w5) := HB.out.trans (hb.mono HB.out.size)
  have HS5 : Hid (w.heap.size < w5.heap.size) := Nat.lt_of_lt_of_le HS.out hb.size
  clear HR HB HS hb
  have HR := HR5
  have HB := HB5
  have HS := HS5
  clear HR5 HB5 HS5
  cases h : decide (codeOf x.select = 0)
  · have HC : Hid (copyOk x = false) := by show _ = _; simp only [copyOk, h, Bool.and_false, Bool.false_and]
    clear h
    go_wp2_with fail
    go_ret
    exact ⟨ret_bool HC.out.symm, HB.out⟩
  have H5 : Hid ((decide (codeOf x.select = 0)) = true) := h
  clear h
  have e0 : w5.cell? ⟨w.heap.size, 7, none⟩ = some (.slice a7 x.likes.length c7) := HR.out 7 _ rfl
  go_wp2_with fail
  clear e0
  refine (likesOk_any x.likes a7 c7 lo _ (HI.out.below LikC.holds HB.out (Nat.le_refl _))).mono ?_
  rintro e w6 ⟨rfl, hb⟩
  have HR6 : Hid (w6.rangeAt w.heap.size 0 [.string x.name, .string x.service, .int .i64 x.rank, .int .i64 x.born, .int .i64 x.room, .int .i64 x.hold, .string x.select, .slice a7 x.likes.length c7, .int .i64 x.apart, .string x.near, .string x.fixed, .string x.at_]) := range_belowV HR.out hb HS.out
  have HB6 : Hid (Below w.heap.size w w6) := HB.out.trans (hb.mono HB.out.size)
  have HS6 : Hid (w.heap.size < w6.heap.size) := Nat.lt_of_lt_of_le HS.out hb.size
  clear HR HB HS hb
  have HR := HR6
  have HB := HB6
  have HS := HS6
  clear HR6 HB6 HS6
  cases h : likesOk x.likes
  · have HC : Hid (copyOk x = false) := by show _ = _; simp only [copyOk, h, Bool.and_false, Bool.false_and]
    clear h
    go_wp2_with fail
    go_ret
    exact ⟨ret_bool HC.out.symm, HB.out⟩
  have H6 : Hid ((likesOk x.likes) = true) := h
  clear h
  have e0 : w6.cell? ⟨w.heap.size, 8, none⟩ = some (.int .i64 x.apart) := HR.out 8 _ rfl
  go_wp2_with fail
  clear e0
  refine (isIn_any _ _ _ _).mono ?_
  rintro e w7 ⟨rfl, hb⟩
  have HR7 : Hid (w7.rangeAt w.heap.size 0 [.string x.name, .string x.service, .int .i64 x.rank, .int .i64 x.born, .int .i64 x.room, .int .i64 x.hold, .string x.select, .slice a7 x.likes.length c7, .int .i64 x.apart, .string x.near, .string x.fixed, .string x.at_]) := range_belowV HR.out hb HS.out
  have HB7 : Hid (Below w.heap.size w w7) := HB.out.trans (hb.mono HB.out.size)
  have HS7 : Hid (w.heap.size < w7.heap.size) := Nat.lt_of_lt_of_le HS.out hb.size
  clear HR HB HS hb
  have HR := HR7
  have HB := HB7
  have HS := HS7
  clear HR7 HB7 HS7
  cases h : inR x.apart 0 2
  · have HC : Hid (copyOk x = false) := by show _ = _; simp only [copyOk, h, Bool.and_false, Bool.false_and]
    clear h
    go_wp2_with fail
    go_ret
    exact ⟨ret_bool HC.out.symm, HB.out⟩
  have H7 : Hid ((inR x.apart 0 2) = true) := h
  clear h
  have e0 : w7.cell? ⟨w.heap.size, 9, none⟩ = some (.string x.near) := HR.out 9 _ rfl
  go_wp2_with fail
  clear e0
  refine (isNameOrNone_any _ _ Z9.out).mono ?_
  rintro e w8 ⟨rfl, hb⟩
  have HR8 : Hid (w8.rangeAt w.heap.size 0 [.string x.name, .string x.service, .int .i64 x.rank, .int .i64 x.born, .int .i64 x.room, .int .i64 x.hold, .string x.select, .slice a7 x.likes.length c7, .int .i64 x.apart, .string x.near, .string x.fixed, .string x.at_]) := range_belowV HR.out hb HS.out
  have HB8 : Hid (Below w.heap.size w w8) := HB.out.trans (hb.mono HB.out.size)
  have HS8 : Hid (w.heap.size < w8.heap.size) := Nat.lt_of_lt_of_le HS.out hb.size
  clear HR HB HS hb
  have HR := HR8
  have HB := HB8
  have HS := HS8
  clear HR8 HB8 HS8
  cases h : nameOrNone x.near
  · have HC : Hid (copyOk x = false) := by show _ = _; simp only [copyOk, h, Bool.and_false, Bool.false_and]
    clear h
    go_wp2_with fail
    go_ret
    exact ⟨ret_bool HC.out.symm, HB.out⟩
  have H8 : Hid ((nameOrNone x.near) = true) := h
  clear h
  have e0 : w8.cell? ⟨w.heap.size, 10, none⟩ = some (.string x.fixed) := HR.out 10 _ rfl
  go_wp2_with fail
  clear e0
  refine (isNameOrNone_any _ _ Z10.out).mono ?_
  rintro e w9 ⟨rfl, hb⟩
  have HR9 : Hid (w9.rangeAt w.heap.size 0 [.string x.name, .string x.service, .int .i64 x.rank, .int .i64 x.born, .int .i64 x.room, .int .i64 x.hold, .string x.select, .slice a7 x.likes.length c7, .int .i64 x.apart, .string x.near, .string x.fixed, .string x.at_]) := range_belowV HR.out hb HS.out
  have HB9 : Hid (Below w.heap.size w w9) := HB.out.trans (hb.mono HB.out.size)
  have HS9 : Hid (w.heap.size < w9.heap.size) := Nat.lt_of_lt_of_le HS.out hb.size
  clear HR HB HS hb
  have HR := HR9
  have HB := HB9
  have HS := HS9
  clear HR9 HB9 HS9
  cases h : nameOrNone x.fixed
  · have HC : Hid (copyOk x = false) := by show _ = _; simp only [copyOk, h, Bool.and_false]
    clear h
    go_wp2_with fail
    go_ret
    exact ⟨ret_bool HC.out.symm, HB.out⟩
  have H9 : Hid ((nameOrNone x.fixed) = true) := h
  clear h
  have HC : Hid (copyOk x = true) := by show _ = _; simp only [copyOk, H1.out, H2.out, H3.out, H4.out, H5.out, H6.out, H7.out, H8.out, H9.out, Bool.and_self]
  go_wp2_with fail
  go_ret
  exact ⟨ret_bool HC.out.symm, HB.out⟩

end Go.Proofs.YtggbhggnemlpnaaGreat
